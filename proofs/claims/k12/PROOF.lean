import PyProof.Rows.All
import Wide.All
import OpenK.AllK
import Wide.FinOn
import Lean
import PyProof.EqAt
import PyProof.EqKinds
import PyProof.TupleCall
import PySem.Challenge.RW_minders_k12_whole_work_at_its_turn
set_option Elab.async false
set_option linter.all false
set_option maxRecDepth 100000
set_option maxHeartbeats 4000000
abbrev gy:=@List.getElem?_eq_getElem
abbrev er:=@if_neg
abbrev eE:=@if_pos
abbrev gm:=@List.length_map
abbrev f7:=@decide_eq_true
abbrev fC:=@Nat.le_refl
abbrev hI:=@of_decide_eq_true
abbrev jl:=@List.getElem?_map
abbrev js:=@List.length_append
abbrev iH:=@Option.some.inj
abbrev ki:=@List.size_toArray
abbrev j0:=@decide_eq_false
abbrev l6:=@Bool.false_ne_true
abbrev ry:=@List.getD_eq_getElem?_getD
abbrev q4:=@PySem.Heap.get?_push_of_some
abbrev ov:=@List.mem_cons_self
abbrev ni:=@List.map_append
abbrev ri:=@List.mem_cons_of_mem
abbrev uy:=@List.getElem?_eq_some_iff
abbrev qj:=@decide_eq_true_iff
abbrev ix:=@congrArg
abbrev mf:=@Nat.le_trans
abbrev oT:=@Bool.and_eq_true
abbrev ko:=@PySem.wpAny_bind
abbrev ro:=@List.mem_singleton
abbrev nr:=@PySem.Heap.lt_size
abbrev nz:=@Nat.ne_of_lt
abbrev Bn:=@PySem.F.plainAttrs_list
abbrev tG:=@List.length_range
abbrev wh:=@Nat.lt_of_lt_of_le
abbrev ql:=@PySem.W.mg_of
abbrev xo:=@PySem.Heap.get?_push_size
abbrev su:=@List.append_nil
abbrev ae1:=@List.getElem?_append_left
abbrev ae2:=@List.getElem?_append_right
abbrev ae3:=@PySem.F.slot_list_append
abbrev ae4:=@PySem.F.type_list_append
abbrev F6:=@Nat.lt_of_le_of_lt
abbrev xl:=@List.length_cons
abbrev ae7:=@List.mem_append_right
abbrev zd:=@Option.bind_some
abbrev wH:=@List.mem_append
abbrev ti:=@List.mem_cons
abbrev YP:=@List.filter_append
abbrev xc:=@List.mem_range
abbrev T1:=@List.append_assoc
abbrev rr:=@PySem.wpAny_pure
abbrev XP:=@List.length_take
abbrev M5:=@List.getElem_mem
abbrev afh:=@List.filter_cons
abbrev L1:=@Bool.eq_iff_iff
abbrev NC:=@List.nil_append
abbrev afk:=@of_decide_eq_false
abbrev vr:=@Nat.zero_le
abbrev afm:=@Nat.not_lt_zero
abbrev afn:=@Nat.lt_succ_self
abbrev M0:=@List.map_cons
abbrev C0:=@List.mem_map
abbrev afq:=@List.replicate_succ
abbrev afr:=@List.all_eq_true
abbrev afs:=@Nat.mod_two_eq_zero_or_one
abbrev aft:=@List.take_add_one
abbrev afu:=@PySem.W.mg_none_of
abbrev afv:=@PySem.PassesOwn.never
abbrev afw:=@List.lookup_cons
abbrev afx:=@List.take_length
abbrev xm:=@PySem.wpAny_mono
abbrev afz:=@List.getElem?_range
abbrev afA:=@List.length_replicate
abbrev afB:=@Bool.true_and
abbrev afC:=@Nat.le_of_lt
abbrev afD:=@PySem.W.kia_one
abbrev afE:=@Nat.testBit_and
abbrev afF:=@PySem.wpAny_truthy_bool
abbrev afG:=@List.length_filter_le
abbrev afH:=@List.length_eq_zero_iff
abbrev S4:=@beq_iff_eq
abbrev afJ:=@List.mem_of_getElem?
abbrev afK:=@Nat.lt_irrefl
abbrev afL:=@Nat.sub_self
abbrev afM:=@Bool.false_and
abbrev afN:=@PySem.F.plainAttrs_str
abbrev afO:=@Int.toNat_natCast
abbrev afP:=@List.mem_filter
abbrev afQ:=@Bool.or_eq_true
abbrev afR:=@List.range_succ
abbrev afS:=@Int.le_refl
abbrev afT:=@Int.eq_ofNat_of_zero_le
abbrev afU:=@Bool.not_eq_true'
abbrev afV:=@PyProof.Rows.callWith_type1
abbrev afW:=@PySem.mem_of_lookup
abbrev afX:=@Nat.mul_le_mul_left
abbrev afY:=@List.cons_ne_nil
abbrev afZ:=@List.cons_append
abbrev af0:=@List.mem_replicate
abbrev af1:=@Nat.eq_of_testBit_eq
abbrev af2:=@Nat.testBit_xor
abbrev af3:=@List.filter_nil
abbrev af4:=@beq_eq_false_iff_ne
abbrev af5:=@List.length_pos_iff
abbrev af6:=@List.foldlM_cons
abbrev af7:=@PySem.sizeLine_eq
abbrev af8:=@Nat.le_succ
abbrev af9:=@List.filter_eq_nil_iff
abbrev aga:=@Nat.lt_trans
abbrev agb:=@Int.add_zero
abbrev agc:=@PySem.wpAny_passesOwn
abbrev agd:=@List.getElem?_eq_none
abbrev age:=@PySem.Calls.Name_function_global
abbrev agf:=@Array.getElem?_eq_some_iff
abbrev agg:=@Bool.or_false
abbrev agh:=@PySem.wpAny_pyIter_list
abbrev agi:=@PySem.Heap.get?_none_of_le
abbrev agj:=@List.mem_append_left
abbrev agk:=@List.drop_eq_getElem_cons
abbrev agl:=@List.range'_append_1
abbrev agm:=@List.length_drop
abbrev agn:=@Nat.zero_testBit
abbrev ago:=@PySem.AutoSeq1.wpAny_loadPart'
abbrev agp:=@Nat.le_add_right
abbrev agq:=@List.replicate_zero
abbrev agr:=@Nat.add_sub_cancel_left
abbrev ags:=@PySem.wpAny_Call_Name_kw
abbrev agt:=@List.find?_cons
abbrev agu:=@PySem.Heap.get?_update_other
abbrev agv:=@List.range_succ_eq_map
abbrev agw:=@List.take_of_length_le
abbrev agx:=@Nat.add_mul
abbrev agy:=@PySem.wpAny_loadPart_at
abbrev agz:=@List.foldl_append
abbrev agA:=@List.mem_range'_1
abbrev agB:=@PySem.Heap.size_push
abbrev agC:=@List.map_nil
abbrev agD:=@Bool.and_false
abbrev agE:=@List.contains_iff_mem
abbrev agF:=@List.map_map
abbrev agG:=@PySem.W.looks_findIn
abbrev agH:=@List.range'_succ
abbrev agI:=@List.mem_iff_getElem
abbrev agJ:=@List.any_cons
abbrev agK:=@Nat.one_mul
abbrev agL:=@List.map_congr_left
abbrev agM:=@List.length_nil
abbrev agN:=@Nat.ne_of_gt
abbrev agO:=@PySem.codeAny_mono
abbrev agP:=@PySem.W.callWith_K
abbrev agQ:=@PySem.Obj.data_mapFields
abbrev agR:=@Int.natCast_nonneg
abbrev agS:=@Int.emod_lt_of_pos
abbrev agT:=@Int.le_of_eq
abbrev agU:=@PySem.typeIs_str
abbrev agV:=@PySem.call_meets
abbrev agW:=@PySem.Calls.loadGlobal_global
abbrev agX:=@PySem.Str.length_append
abbrev agY:=@List.getElem?_set_self
abbrev agZ:=@Nat.mul_add
abbrev ag0:=@PySem.wpAny_holding
abbrev ag1:=@List.cons.inj
abbrev ag2:=@beq_self_eq_true
abbrev ag3:=@List.getElem_map
abbrev ag4:=@Array.getElem?_toList
abbrev ag5:=@PySem.W.methodCall_KW
abbrev ag6:=@List.singleton_append
abbrev ag7:=@List.take_append_drop
abbrev ag8:=@List.getElem?_set_ne
abbrev ag9:=@PySem.wpAny_execs_nil
abbrev aha:=@List.nodup_cons
abbrev ahb:=@PySem.codeAny_call_builtin
abbrev ahc:=@List.getElem_toArray
abbrev ahd:=@List.foldl_cons
abbrev ahe:=@List.sum_append
abbrev ahf:=@Nat.pow_le_pow_right
abbrev ahg:=@Nat.succ_pos
abbrev ahh:=@Nat.zero_mul
abbrev ahi:=@Nat.mul_le_mul_right
abbrev ahj:=@List.filterMap_cons
abbrev ahk:=@Array.length_toList
abbrev ahl:=@PySem.W.plainGet_of
abbrev ahm:=@Nat.testBit_two_pow
abbrev ahn:=@PySem.wpAny_field
abbrev aho:=@PySem.tupleKind_room_in1
abbrev ahp:=@PySem.F.args_str_split_2
abbrev ahq:=@List.find?_eq_none
abbrev ahr:=@PySem.wpAny_standAt
abbrev ahs:=@List.all_cons
abbrev aht:=@Bool.false_or
abbrev ahu:=@List.map_take
abbrev ahv:=@List.sum_cons
abbrev ahw:=@Bool.eq_false_iff
abbrev ahx:=@PySem.F.entry_str_split
abbrev ahy:=@List.flatten_cons
abbrev ahz:=@Nat.succ_le_succ
abbrev ahA:=@Bool.true_or
abbrev ahB:=@PySem.F.slot_str_split
abbrev ahC:=@List.not_mem_nil
abbrev ahD:=@Nat.and_le_right
abbrev ahE:=@Nat.zero_add
abbrev ahF:=@List.of_mem_zip
abbrev ahG:=@PySem.SeqAt.EqAt.same
abbrev ahH:=@Nat.two_pow_pos
abbrev ahI:=@Int.emod_nonneg
abbrev ahJ:=@Nat.testBit_or
abbrev ahK:=@PySem.Value.type.inj
abbrev ahL:=@Nat.le_of_eq
abbrev ahM:=@Nat.mul_zero
abbrev ahN:=@Sum.inr.inj
abbrev ahO:=@Nat.mul_one
abbrev ahP:=@Nat.log2_lt
section
set_option compiler.extract_closed false
set_option bootstrap.genMatcherCode false

theorem d2{a b G:Prop}(h:a/\b)(k:a->b->G):G:=k h.1 h.2
theorem d3{a b c G:Prop}(h:a/\b/\c)(k:a->b->c->G):G:=k h.1 h.2.1 h.2.2
theorem d4{a b c d G:Prop}(h:a/\b/\c/\d)(k:a->b->c->d->G):G:=k h.1 h.2.1 h.2.2.1 h.2.2.2
theorem d5{a b c d e G:Prop}(h:a/\b/\c/\d/\e)(k:a->b->c->d->e->G):G:=k h.1 h.2.1 h.2.2.1 h.2.2.2.1 h.2.2.2.2
theorem d6{a b c d e f G:Prop}(h:a/\b/\c/\d/\e/\f)(k:a->b->c->d->e->f->G):G:=k h.1 h.2.1 h.2.2.1 h.2.2.2.1 h.2.2.2.2.1 h.2.2.2.2.2
theorem d7{a b c d e f g G:Prop}(h:a/\b/\c/\d/\e/\f/\g)(k:a->b->c->d->e->f->g->G):G:=k h.1 h.2.1 h.2.2.1 h.2.2.2.1 h.2.2.2.2.1 h.2.2.2.2.2.1 h.2.2.2.2.2.2
theorem d8{a b c d e f g i G:Prop}(h:a/\b/\c/\d/\e/\f/\g/\i)(k:a->b->c->d->e->f->g->i->G):G:=k h.1 h.2.1 h.2.2.1 h.2.2.2.1 h.2.2.2.2.1 h.2.2.2.2.2.1 h.2.2.2.2.2.2.1 h.2.2.2.2.2.2.2
theorem d9{a b c d e f g i j G:Prop}(h:a/\b/\c/\d/\e/\f/\g/\i/\j)(k:a->b->c->d->e->f->g->i->j->G):G:=k h.1 h.2.1 h.2.2.1 h.2.2.2.1 h.2.2.2.2.1 h.2.2.2.2.2.1 h.2.2.2.2.2.2.1 h.2.2.2.2.2.2.2.1 h.2.2.2.2.2.2.2.2
theorem d10{a b c d e f g i j l G:Prop}(h:a/\b/\c/\d/\e/\f/\g/\i/\j/\l)(k:a->b->c->d->e->f->g->i->j->l->G):G:=k h.1 h.2.1 h.2.2.1 h.2.2.2.1 h.2.2.2.2.1 h.2.2.2.2.2.1 h.2.2.2.2.2.2.1 h.2.2.2.2.2.2.2.1 h.2.2.2.2.2.2.2.2.1 h.2.2.2.2.2.2.2.2.2
theorem d11{a b c d e f g i j l m G:Prop}(h:a/\b/\c/\d/\e/\f/\g/\i/\j/\l/\m)(k:a->b->c->d->e->f->g->i->j->l->m->G):G:=k h.1 h.2.1 h.2.2.1 h.2.2.2.1 h.2.2.2.2.1 h.2.2.2.2.2.1 h.2.2.2.2.2.2.1 h.2.2.2.2.2.2.2.1 h.2.2.2.2.2.2.2.2.1 h.2.2.2.2.2.2.2.2.2.1 h.2.2.2.2.2.2.2.2.2.2
theorem d12{a b c d e f g i j l m n G:Prop}(h:a/\b/\c/\d/\e/\f/\g/\i/\j/\l/\m/\n)(k:a->b->c->d->e->f->g->i->j->l->m->n->G):G:=k h.1 h.2.1 h.2.2.1 h.2.2.2.1 h.2.2.2.2.1 h.2.2.2.2.2.1 h.2.2.2.2.2.2.1 h.2.2.2.2.2.2.2.1 h.2.2.2.2.2.2.2.2.1 h.2.2.2.2.2.2.2.2.2.1 h.2.2.2.2.2.2.2.2.2.2.1 h.2.2.2.2.2.2.2.2.2.2.2
theorem d13{a b c d e f g i j l m n o G:Prop}(h:a/\b/\c/\d/\e/\f/\g/\i/\j/\l/\m/\n/\o)(k:a->b->c->d->e->f->g->i->j->l->m->n->o->G):G:=k h.1 h.2.1 h.2.2.1 h.2.2.2.1 h.2.2.2.2.1 h.2.2.2.2.2.1 h.2.2.2.2.2.2.1 h.2.2.2.2.2.2.2.1 h.2.2.2.2.2.2.2.2.1 h.2.2.2.2.2.2.2.2.2.1 h.2.2.2.2.2.2.2.2.2.2.1 h.2.2.2.2.2.2.2.2.2.2.2.1 h.2.2.2.2.2.2.2.2.2.2.2.2
theorem e1{R:A'->Prop}{G:Prop}(h:∃a,R a)(k:∀a,R a->G):G:=h.elim k
theorem e2{R:A'->B'->Prop}{G:Prop}(h:∃a b,R a b)(k:∀a b,R a b->G):G:=h.elim λa h=>e1 h (k a)
theorem e3{R:A'->B'->C'->Prop}{G:Prop}(h:∃a b c,R a b c)(k:∀a b c,R a b c->G):G:=h.elim λa h=>e2 h (k a)
theorem e4{R:A'->B'->C'->D'->Prop}{G:Prop}(h:∃a b c d,R a b c d)(k:∀a b c d,R a b c d->G):G:=h.elim λa h=>e3 h (k a)
theorem e5{R:A'->B'->C'->D'->E'->Prop}{G:Prop}(h:∃a b c d e,R a b c d e)(k:∀a b c d e,R a b c d e->G):G:=h.elim λa h=>e4 h (k a)
theorem e6{R:A'->B'->C'->D'->E'->F'->Prop}{G:Prop}(h:∃a b c d e f,R a b c d e f)(k:∀a b c d e f,R a b c d e f->G):G:=h.elim λa h=>e5 h (k a)
theorem e7{R:A'->B'->C'->D'->E'->F'->G'->Prop}{G:Prop}(h:∃a b c d e f g,R a b c d e f g)(k:∀a b c d e f g,R a b c d e f g->G):G:=h.elim λa h=>e6 h (k a)
theorem e8{R:A'->B'->C'->D'->E'->F'->G'->I'->Prop}{G:Prop}(h:∃a b c d e f g i,R a b c d e f g i)(k:∀a b c d e f g i,R a b c d e f g i->G):G:=h.elim λa h=>e7 h (k a)
theorem e9{R:A'->B'->C'->D'->E'->F'->G'->I'->J'->Prop}{G:Prop}(h:∃a b c d e f g i j,R a b c d e f g i j)(k:∀a b c d e f g i j,R a b c d e f g i j->G):G:=h.elim λa h=>e8 h (k a)
theorem e10{R:A'->B'->C'->D'->E'->F'->G'->I'->J'->L'->Prop}{G:Prop}(h:∃a b c d e f g i j l,R a b c d e f g i j l)(k:∀a b c d e f g i j l,R a b c d e f g i j l->G):G:=h.elim λa h=>e9 h (k a)
theorem e11{R:A'->B'->C'->D'->E'->F'->G'->I'->J'->L'->M'->Prop}{G:Prop}(h:∃a b c d e f g i j l m,R a b c d e f g i j l m)(k:∀a b c d e f g i j l m,R a b c d e f g i j l m->G):G:=h.elim λa h=>e10 h (k a)
theorem e12{R:A'->B'->C'->D'->E'->F'->G'->I'->J'->L'->M'->N'->Prop}{G:Prop}(h:∃a b c d e f g i j l m n,R a b c d e f g i j l m n)(k:∀a b c d e f g i j l m n,R a b c d e f g i j l m n->G):G:=h.elim λa h=>e11 h (k a)
theorem e13{R:A'->B'->C'->D'->E'->F'->G'->I'->J'->L'->M'->N'->O'->Prop}{G:Prop}(h:∃a b c d e f g i j l m n o,R a b c d e f g i j l m n o)(k:∀a b c d e f g i j l m n o,R a b c d e f g i j l m n o->G):G:=h.elim λa h=>e12 h (k a)
local macro_rules | `(tactic|obtain ⟨$ps,*⟩:=$h) => `(tactic|rcases $h:term with ⟨$ps,*⟩)
local macro_rules | `(tactic|rcases $h:term with ⟨$ps,*⟩) => do
  let n := ps.getElems.size
  let mut xs := #[]
  let mut ts := #[]
  let z := Lean.mkIdent (← Lean.Macro.addMacroScope `z)
  for p in ps.getElems do
    match p with
    | `(Lean.Parser.Tactic.rcasesPatLo| $x:ident) =>
      if x.getId != `rfl then
        xs := xs.push x
        continue
    | _ => pure ()
    let y := Lean.mkIdent (z.getId.appendIndexAfter xs.size)
    xs := xs.push y
    ts := ts.push (← `(tactic|rcases $y:ident with $p:rcasesPatLo))
  let st c i (h : Lean.Term) (ys : Array Lean.Ident) := `(tactic|(refine $(Lean.mkIdent (`_root_ ++ .mkSimple s!"{c}{i}")) $h ?_; (try clear $(⟨h.raw⟩):ident); intro $ys*))
  let mut r ← `(tactic|rcases $h:term with (⟨$ps,*⟩))
  for k in [1:n+1] do
    let k := n - k
    let mut t ← if k = 0 then st "d" n h xs else st "e" k h (xs[:k].toArray.push (if k + 1 = n then xs[k]! else z))
    if k > 0 && k + 1 < n then t ← `(tactic|$t <;> $(← st "d" (n - k) z xs[k:]))
    for s in ts do t ← `(tactic|$t <;> $s)
    r ← `(tactic|first|$t:tactic|$r:tactic)
  return r
local macro_rules|`(())=>`(by lia)|`(∅)=>`(by decide)
local macro_rules|`(def $n:declId $s:optDeclSig:=by $x)=>`(theorem $n:declId $(⟨.node .none ``Lean.Parser.Command.declSig #[s.raw[0],s.raw[1][0]]⟩):declSig:=by $x)
namespace L2
open PySem PySem.Spec PyProof.Rows
abbrev Key:=Sum Int Str
def JK:Key->Value->Bool
 |.inl k,v=>Value.isInt k v
 |.inr x,v=>Value.isStrOf x v
def aer(w:World):Key->Int
 |.inl k=>hashInt k
 |.inr x=>hashStr w x
theorem dO:∀{k:Key} {v:Value},JK k v=true->(∃i t,k=Sum.inl i/\v=Value.int i t)\/(∃x t,k=Sum.inr x/\v=Value.str x t)
 |.inl i,v,h=>by
  obtain⟨t,e⟩:=Value.isInt_shape (k:=i) (v:=v) h;exact .inl ⟨i,t,rfl,e⟩
 |.inr x,v,h=>by
  obtain⟨t,e⟩:=Value.isStrOf_shape (x:=x) (v:=v) h;exact .inr ⟨x,t,rfl,e⟩
def UN(i:Int)(t:Tok):JK (.inl i) (.int i t)=true:=by simp[JK,Value.isInt]
def U0(x:Str)(t:Tok):JK (.inr x) (.str x t)=true:=by simp[JK,Value.isStrOf]
def abK(a b:Int):decide ((Sum.inl a:Key)=Sum.inl b)=(a==b):=by
 by_cases e:a=b
 .subst e;simp
 .have h:¬(Sum.inl a:Key)=Sum.inl b:=λq=>e (Sum.inl.inj q);rw[j0 h];exact(af4.mpr e).symm
def acA(a b:Str):decide ((Sum.inr a:Key)=Sum.inr b)=decide (a=b):=by
 by_cases e:a=b
 .subst e;simp
 .have h:¬(Sum.inr a:Key)=Sum.inr b:=λq=>e (ahN q);rw[j0 h,j0 e]
theorem abA(a:Int)(b:Str):decide ((Sum.inl a:Key)=Sum.inr b)=false:=j0 (λq=>nomatch q)
theorem aa6(a:Str)(b:Int):decide ((Sum.inr a:Key)=Sum.inl b)=false:=j0 (λq=>nomatch q)
def eX(prog:Program)(w:World):PySem.KeyKind prog w Key where
 is:=JK
 hash:=aer w
 inj:=λv a b g f=>by
  rcases dO g with⟨i,t,rfl,rfl⟩|⟨x,t,rfl,rfl⟩
  .rcases dO f with⟨j,u,rfl,e⟩|⟨y,u,rfl,e⟩
   .injection e with e1 _;rw[e1]
   .exact nomatch e
  .rcases dO f with⟨j,u,rfl,e⟩|⟨y,u,rfl,e⟩
   .exact nomatch e
   .injection e with e1 _;rw[e1]
 byValue:=λk v h=>by
  rcases dO h with⟨i,t,rfl,rfl⟩|⟨x,t,rfl,rfl⟩<;>rfl
 pyHash:=λc h=>by
  rcases dO c with⟨i,t,rfl,rfl⟩|⟨x,t,rfl,rfl⟩
  .exact wpAny_pyHash_int h
  .exact wpAny_pyHash_str h
 eqBool:=λl c h=>by
  rcases dO l with⟨i,t,rfl,rfl⟩|⟨x,t,rfl,rfl⟩
  .rcases dO c with⟨j,u,rfl,rfl⟩|⟨y,u,rfl,rfl⟩
   .rw[abK] at h;exact wpAny_eqBool_int h
   .rw[abA] at h;exact SeqAt.EqAt.int_str i t y u _ _ _ _ h
  .rcases dO c with⟨j,u,rfl,rfl⟩|⟨y,u,rfl,rfl⟩
   .rw[aa6] at h;exact SeqAt.EqAt.str_int x t j u _ _ _ _ h
   .rw[acA] at h;exact wpAny_eqBool_str h
 «strs»:=λk x t v h=>by
  rcases dO h with⟨i,u,rfl,e⟩|⟨y,u,rfl,e⟩
  .exact nomatch e
  .injection e with e1 _;subst e1;cases v<;>rfl
theorem Of(prog:Program)(w:World)(i:Int)(t:Tok):(eX prog w).is (.inl i) (.int i t)=true:=UN i t
theorem OM(prog:Program)(w:World)(x:Str)(t:Tok):(eX prog w).is (.inr x) (.str x t)=true:=U0 x t
inductive V where
 |non|bl (b:Bool)|int (i:Int)|str (x:Str)|byt (b:Array UInt8)|flt (b:UInt64)|ref (a:Addr)|ty (n:String)
 deriving DecidableEq
def RelV:V->Value->Prop
 |.non,u=>u=Value.none
 |.bl b,u=>u=Value.bool b
 |.int i,u=>∃t,u=Value.int i t
 |.str x,u=>∃t,u=Value.str x t
 |.byt b,u=>∃t,u=Value.bytes b t
 |.flt b,u=>∃t,u=Value.float b t
 |.ref a,u=>u=Value.ref a
 |.ty n,u=>u=Value.type n
abbrev Vals:List V->List Value->Prop:=Paired RelV
theorem Vals.length{xs:List V}{us:List Value}(r:Vals xs us):xs.length=us.length:=Paired.length r
theorem Vals.get:∀{xs:List V} {us:List Value} {i:Nat} {x:V},Vals xs us->xs[i]? =some x->∃u,us[i]? =some u/\RelV x u
 |_,_,_,_,.nil,e=>by simp at e
 |_,_,0,_,.cons r _,e=>by simp at e;subst e;exact⟨_,rfl,r⟩
 |_,_,i+1,x,.cons _ t,e=>by
  obtain⟨u,a,b⟩:=Vals.get (i:=i) (x:=x) t (by simpa using e);exact⟨u,by simpa using a,b⟩
theorem Vals.set{x:V}{u:Value}(r:RelV x u):∀{xs:List V} {us:List Value} (i:Nat),Vals xs us->Vals (xs.set i x) (us.set i u)
 |_,_,_,.nil=>.nil
 |_,_,0,.cons _ t=>.cons r t
 |_,_,i+1,.cons q t=>.cons q (Vals.set r i t)
theorem Vals.append:∀{xs ys:List V} {us a:List Value},Vals xs us->Vals ys a->Vals (xs++ys) (us++a)
 |_,_,_,_,.nil,s=>s
 |_,_,_,_,.cons r t,s=>.cons r (Vals.append t s)
theorem Vals.take:∀{xs:List V} {us:List Value} (n:Nat),Vals xs us->Vals (xs.take n) (us.take n)
 |_,_,0,_=>.nil
 |_,_,_+1,.nil=>.nil
 |_,_,n+1,.cons r t=>.cons r (Vals.take n t)
theorem Vals.drop:∀{xs:List V} {us:List Value} (n:Nat),Vals xs us->Vals (xs.drop n) (us.drop n)
 |_,_,0,r=>r
 |_,_,_+1,.nil=>.nil
 |_,_,n+1,.cons _ t=>Vals.drop n t
def yT:Option V->Option Value->Prop
 |some v,some u=>RelV v u
 |none,none=>True
 |_,_=>False
def KV{a:Type}:List (a×V)->List (a×Value)->Prop:=Paired λ(p:a×V) (q:a×Value)=>p.1=q.1/\RelV p.2 q.2
def kV:Key->V
 |.inl i=>.int i
 |.inr x=>.str x
inductive HO where
 |lst (xs:List V)
 |tup (xs:List V)
 |dK (fy:List (Key×V))|dT (fy:List (List Key×V))
 |set (S:Int->Bool) (n:Nat)
 |ins (C dx:Addr) (fs:List (Str×V))
 |own (x:Addr)
 |xd (fs:List (Str×V))
 |met (f x:Addr)
 |rng (lo hi:Int)
 |frz (o:Obj) (u:HO)
 |tbl (ps:Array Value)
 |ext (φ:Heap->Prop)
abbrev Hp:=Addr->Option HO
def upd(H:Hp)(a:Addr)(o:HO):Hp:=λb=>if b=a then some o else H b
def ae{H:Hp}{a:Addr}{o:HO}:upd H a o a=some o:=by unfold upd;rw[eE rfl]
def ai{H:Hp}{a b:Addr}{o:HO}(h:b≠a):upd H a o b=H b:=by unfold upd;rw[er h]
def aU{H:Hp}{a:Addr}{o u:HO}:upd (upd H a o) a u=upd H a u:=by
 funext b;unfold upd;split<;>rfl
def Hg{H:Hp}{a b:Addr}{o u:HO}(h:H a=some o)(h':H b=some u)(d:o≠u):a≠b:=by
 intro e;subst e;rw[h] at h';exact d (iH h')
def aq{H:Hp}{a b:Addr}{o:HO}(h:H a=some o)(h':H b=none):a≠b:=by
 intro e;subst e;rw[h] at h';cases h'
section
variable(P:Program)(w:World)
def dZ(H:Hp)(h:Heap)(a:Addr):HO->Prop
 |.lst xs=>xs.length<=sizeLine/\∃(its:List Value) (n:Nat),Vals xs its/\h.get? a=some {cls:= .type "list",data:= .seq its.toArray n}
 |.tup xs=>xs.length<=sizeLine/\∃its:List Value,Vals xs its/\IsTup h a its.toArray
 |.dK fy=>fy.length<=sizeLine/\(a==sysModules)=false/\∃vs,KV fy vs/\h.DictOf (eX P w) a vs
 |.dT fy=>fy.length<=sizeLine/\(a==sysModules)=false/\∃xs:List (List Key×Addr×Value),
   Paired (λ(p:List Key×V) (q:List Key×Addr×Value)=>p.1=q.1/\H q.2.1=some (.tup (p.1.map kV))/\RelV p.2 q.2.2) fy xs∧
   ∃o es l,h.get? a=some o/\o.ExactDict/\o.data=.dict es l/\es.toList=xs.map (entryOfKey (tupleKind (eX P w)))/\(xs.map (·.1)).Nodup
 |.set S n=>h.SetOf (intKind P w) a S n
 |.ins C c fs=>H c=some (.own a)/\fs.length<=1000/\c≠a/\h.get? a=some (PySem.W.instObj C c)∧
   ∃b,h.Ns1 c b/\(∀f,yT (fs.lookup f) (b f))/\PySem.Within b (fs.map (·.1))
 |.own _=>∃o,h.get? a=some o
 |.xd fs=>∃b,h.Ns1 a b/\∀f,yT (fs.lookup f) (b f)
 |.rng lo j=>∃t u v,h.get? a=some {cls:= .type "range",data:= .fields #[.int lo t,.int j u,.int 1 v]}
 |.frz o u=>h.get? a=some o/\dZ H h a u
 |.tbl ps=>h.get? a=some {cls:= .none,data:= .fields ps}
 |.met f x=>h.get? a=some (PySem.W.methodObj (.ref f) (.ref x))
 |.ext e=>e h/\(∃o,h.get? a=some o)/\∀i g:Heap,e i->(∀o,i.get? a=some o->g.get? a=some o)->e g
def pD(H:Hp)(h:Heap):Prop:=∀a o,H a=some o->dZ P w H h a o
end
section
variable{P:Program}{w:World}{H H':Hp}{h h':Heap}{a:Addr}{o:HO}
def dZ.lt(x:dZ P w H h a o):a<h.objs.size:=by
 cases o with
 |lst xs=>obtain⟨_,_,_,_,e⟩:=x;exact nr e
 |tup xs=>obtain⟨_,_,_,p⟩:=x;exact p.lt
 |dK fy=>obtain⟨_,_,_,_,o,_,_,e,_⟩:=x;exact nr e
 |dT fy=>obtain⟨_,_,_,_,o,_,_,e,_⟩:=x;exact nr e
 |set S n=>obtain⟨o,_,_,_,e,_⟩:=x;exact nr e
 |ins C b fs=>obtain⟨_,_,_,e,_⟩:=x;exact nr e
 |own y=>obtain⟨_,e⟩:=x;exact nr e
 |xd fs=>obtain⟨_,⟨_,_,_,e,_⟩,_⟩:=x;exact nr e
 |rng lo g=>obtain⟨_,_,_,e⟩:=x;exact nr e
 |frz i u=>obtain⟨e,_⟩:=x;exact nr e
 |tbl ps=>exact nr (show h.get? a=some _ from x)
 |met f y=>exact nr (show h.get? a=some _ from x)
 |ext c=>obtain⟨_,⟨_,e⟩,_⟩:=x;exact nr e
theorem Paired.abL{i g:Type}{F G:i->g->Prop}:∀{c:List i} {e:List g},Paired F c e->(∀a b,F a b->G a b)->Paired G c e
 |_,_,.nil,_=>.nil
 |_,_,.cons r t,f=>.cons (f _ _ r) (Paired.abL t f)
def dZ.AG(x:dZ P w H h a o)(k:∀b u,(b=a\/H b=some (.own a))->h.get? b=some u->h'.get? b=some u)
  (s:∀b,H b=some (.own a)->H' b=some (.own a)) (m:∀b xs,H b=some (.tup xs)->H' b=some (.tup xs)):dZ P w H' h' a o:=by
 induction o with
 |lst xs=>obtain⟨z,its,n,r,e⟩:=x;exact⟨z,its,n,r,k _ _ (.inl rfl) e⟩
 |tup xs=>obtain⟨z,its,r,g,e,c⟩:=x;exact⟨z,its,r,g,k _ _ (.inl rfl) e,c⟩
 |dK fy=>obtain⟨z,y,vs,r,g,es,i,e,c⟩:=x;exact⟨z,y,vs,r,g,es,i,k _ _ (.inl rfl) e,c⟩
 |dT fy=>
  obtain⟨z,y,xs,r,g,es,i,e,c⟩:=x;exact⟨z,y,xs,Paired.abL r λp q z=>⟨z.1,m _ _ z.2.1,z.2.2⟩,g,es,i,k _ _ (.inl rfl) e,c⟩
 |set S n=>obtain⟨g,es,i,t,e,c⟩:=x;exact⟨g,es,i,t,k _ _ (.inl rfl) e,c⟩
 |ins C D fs=>
  obtain⟨d,z,ne,e,l,⟨j,es,i,e2,c⟩,r⟩:=x;exact⟨s _ d,z,ne,k _ _ (.inl rfl) e,l,⟨j,es,i,k _ _ (.inr d) e2,c⟩,r⟩
 |own y=>obtain⟨g,e⟩:=x;exact⟨g,k _ _ (.inl rfl) e⟩
 |xd fs=>obtain⟨l,⟨j,es,i,e,c⟩,r⟩:=x;exact⟨l,⟨j,es,i,k _ _ (.inl rfl) e,c⟩,r⟩
 |rng lo B=>obtain⟨t,u,v,e⟩:=x;exact⟨t,u,v,k _ _ (.inl rfl) e⟩
 |frz g u A=>obtain⟨e,q⟩:=x;exact⟨k _ _ (.inl rfl) e,A q⟩
 |tbl ps=>
  have e:h.get? a=some {cls:= .none,data:= .fields ps}:=x;show h'.get? a=some {cls:= .none,data:= .fields ps};exact k a _ (.inl rfl) e
 |met f y=>
  have e:h.get? a=some (PySem.W.methodObj (.ref f) (.ref y)):=x;show h'.get? a=some (PySem.W.methodObj (.ref f) (.ref y));exact k a _ (.inl rfl) e
 |ext E=>obtain⟨p,⟨o,e⟩,st⟩:=x;exact⟨st _ _ p λo q=>k _ _ (.inl rfl) q,⟨o,k _ _ (.inl rfl) e⟩,st⟩
theorem pD.lt(x:pD P w H h)(e:H a=some o):a<h.objs.size:=(x a o e).lt
def pD.fresh(x:pD P w H h)(e:h.objs.size<=a):H a=none:=by
 cases q:H a with
 |none=>rfl
 |some u=>exact absurd (wh (x.lt q) e) (afK _)
theorem pD.kept(x:pD P w H h)(k:∀b u,h.get? b=some u->h'.get? b=some u):pD P w H h':=λa o e=>
 (x a o e).AG (λb u _ q=>k b u q) (λ_ q=>q) λ_ _ q=>q
theorem pD.laid(x:pD P w H h)(k:∀b u,h.get? b=some u->h'.get? b=some u)(i:h.objs.size<=a)(new:dZ P w (upd H a o) h' a o):pD P w (upd H a o) h':=λb u e=>by
 have g:=x.fresh i;by_cases f:b=a
 .subst f;rw[ae] at e;cases e;exact new
 .rw[ai f] at e;exact(x b u e).AG (λc v _ q=>k c v q) (λc q=>by rwa[ai (aq q g)]) λc xs q=>by rwa[ai (aq q g)]
end
def Rd(H:Hp)(a:Addr)(u:HO):Prop:=H a=some u\/∃o,H a=some (.frz o u)
def Rd.ok{P:Program}{w:World}{H:Hp}{h:Heap}{a:Addr}{u:HO}(r:Rd H a u)(x:pD P w H h):dZ P w H h a u:=by
 rcases r with r|⟨o,r⟩
 .exact x a u r
 .obtain ⟨_,q⟩:=x a _ r;exact q
def Mut:Option HO->Prop
 |some (.lst _)=>True
 |some (.dK _)=>True
 |some (.dT _)=>True
 |some (.set _ _)=>True
 |some (.ins _ _ _)=>True
 |some (.ext _)=>True
 |_=>False
section
variable{P:Program}{w:World}{H:Hp}{h h':Heap}{x e:Addr}{o':HO}
theorem pD.write(ok:pD P w H h)(l:Mut (H x))(n:e=x\/H e=some (.own x))(k:∀b u,b≠e->h.get? b=some u->h'.get? b=some u)(m:∃u,h'.get? e=some u)
  (new:dZ P w (upd H x o') h' x o'):pD P w (upd H x o') h':=λb u q=>by
 have f:∀c y,H c=some (.own y)->c≠x:=λc y r z=>by subst z;rw[r] at l;exact l
 have g:∀c xs,H c=some (.tup xs)->c≠x:=λc xs r z=>by subst z;rw[r] at l;exact l
 by_cases i:b=x
 .subst i;rw[ae] at q;cases q;exact new
 .rw[ai i] at q;by_cases a:b=e
  .have q':H b=some (.own x):=by
    rcases n with z|z
    .exact absurd (a.trans z) i
    .rwa[a]
   rw[q] at q';cases q';obtain⟨v,o⟩:=m;exact⟨v,by rwa[a]⟩
  .refine (ok b u q).AG (λc v j r=>k c v ?_ r) (λc r=>by rwa[ai (f c b r)]) λc xs r=>by rwa[ai (g c xs r)]
   rcases j with rfl|j
   .exact a
   .rintro rfl;rcases n with z|z
    .exact f c b j z
    .rw[j] at z;cases z;exact i rfl
end
structure Un(fs ex:List Addr)(H H':Hp)(h h':Heap):Prop where
 keep:∀b o,h.get? b=some o->H b=none->b∉fs->b∉ex->h'.get? b=some o
 slot:∀b o,h.get? b=some o->H b=none->b∈fs->b∉ex->∃sl,h'.get? b=some {o with slots:=sl}
 free:∀b o,h.get? b=some o->H b=none->b∉ex->H' b=none
 there:∀b o,h.get? b=some o->b∉ex->∃o',h'.get? b=some o'
 JF:∀b xs,H b=some (.tup xs)->H' b=some (.tup xs)
 HA:∀b o u,H b=some (.frz o u)->H' b=some (.frz o u)
 Ji:∀b ps,H b=some (.tbl ps)->∃more,H' b=some (.tbl (ps++more))
section
variable{fs fs' ex ex':List Addr}{H H1 H2:Hp}{h h1 h2 h':Heap}{a x e:Addr}{o:HO}
def Un.any(u:Un fs ex H H1 h h1){b:Addr}{c:Obj}(q:h.get? b=some c)(n:H b=none)(f:b∉ex):∃i,h1.get? b=some {c with slots:=i}:=by
 by_cases g:b∈fs
 .exact u.slot b c q n g f
 .exact ⟨c.slots,u.keep b c q n g f⟩
theorem Un.kept(k:∀b u,h.get? b=some u->h'.get? b=some u):Un fs ex H H h h':=
 ⟨λb c q _ _ _=>k b c q,λb c q _ _ _=>⟨c.slots,k b c q⟩,λ_ _ _ n _=>n,λb c q _=>⟨c,k b c q⟩,λ_ _ q=>q,λ_ _ _ q=>q,λ_ ps q=>⟨#[],by rw[q];simp⟩⟩
theorem Un.refl:Un fs ex H H h h:=Un.kept λ_ _ q=>q
theorem Un.laid(k:∀b u,h.get? b=some u->h'.get? b=some u)(f:h.objs.size<=a)(c:H a=none):Un fs ex H (upd H a o) h h' where
 keep:=λb u q _ _ _=>k b u q
 slot:=λb u q _ _ _=>⟨u.slots,k b u q⟩
 free:=λb u q n _=>by rwa[ai (nz (wh (nr q) f))]
 there:=λb u q _=>⟨u,k b u q⟩
 JF:=λb xs q=>by rwa[ai (aq q c)]
 HA:=λb u xs q=>by rwa[ai (aq q c)]
 Ji:=λb ps q=>⟨#[],by rw[ai (aq q c),q];simp⟩
def Un.write(f:Mut (H x))(m:e=x\/H e=some (.own x))(k:∀b u,b≠e->h.get? b=some u->h'.get? b=some u)(i:∃u,h'.get? e=some u):Un fs ex H (upd H x o) h h':=by
 have j:∀b,H b=none->b≠x:=λb n z=>by subst z;rw[n] at f;exact f
 have l:∀b,H b=none->b≠e:=λb n z=>by
  subst z;rcases m with r|r
  .exact j b n r
  .rw[n] at r;cases r
 have g:∀b u,H b=some u->¬Mut (some u)->b≠x:=λb u q nm z=>by subst z;rw[q] at f;exact nm f
 refine⟨λb u q n _ _=>k b u (l b n) q,λb u q n _ _=>⟨u.slots,k b u (l b n) q⟩,λb u q n _=>by rwa[ai (j b n)],λb u q _=>?_,
  λb xs q=>by rwa[ai (g b _ q λz=>z)],λb u xs q=>by rwa[ai (g b _ q λz=>z)],λb ps q=>⟨#[],by rw[ai (g b _ q λz=>z),q];simp⟩⟩
 by_cases c:b=e
 .subst c;exact i
 .exact ⟨u,k b u c q⟩
end
def trk(h:Heap)(H:Hp):List Addr:=(List.range h.objs.size).filter λa=>(H a).isSome
def L5(h:Heap)(H:Hp):Heap:=PySem.W.hideAll h (trk h H)
theorem SF(h:Heap)(H:Hp):(L5 h H).objs.size=h.objs.size:=PySem.W.hideAll_size _ _
theorem V8{h:Heap}{H:Hp}{b:Addr}{o:Obj}(e:h.get? b=some o)(n:H b=none):(L5 h H).get? b=some o:=
 PySem.W.hideAll_get _ e λa=>by
  have q:(H b).isSome=true:=(afP.mp a).2;rw[n] at q;simp at q
def aah{h:Heap}{H:Hp}{b:Addr}{o:Obj}(e:(L5 h H).get? b=some o):h.get? b=some o/\H b=none:=by
 have a:h.get? b=some o:=PySem.W.of_hideAll (trk h H) e;refine⟨a,?_⟩;cases q:H b with
 |none=>rfl
 |some x=>
  have c:b∈trk h H:=afP.mpr ⟨xc.mpr (nr a),by simp[q]⟩;have z:(L5 h H).get? b=none:=PySem.W.hideAll_none (trk h H) c;rw[z] at e;cases e
structure Mod(K:PySem.W.Frag)(mg:Str->Option Value)(dH:Heap):Prop where
 kin:K.In dH
 glob:dH.Ns mainGlobals mg
 blt:∃mb,dH.Ns builtinsNs mb/\∀x:Str,x≠"__name__"->mb x=bootBuiltins x
 nolimit:dH.NoLimit
structure Cx where
 prog:Program
 w:World
 K:PySem.W.Frag
 mg:Str->Option Value
 dH:Heap
 A:Around
 N:List Str
 s₀:Shared
 H₀:Hp
 env:Env
 dN:List Env
 stack:List Env
 ex:List Addr
 fn:Str->Bool
 calm:Bool
 pn:List (Addr×Obj)
 xe:Value->Shared->Prop
def F1(l:List Env):List Addr:=l.filterMap (·.frame)
abbrev Cx.fs(X:Cx):List Addr:=F1 X.dN
def Vis(a:Scope)(x:Str):Prop:=a.names.lookup x=some .local\/a.names.lookup x=some .cell\/a.names.lookup x=some .free
def Loc(a:Scope)(x:Str):Prop:=a.names.lookup x=some .local\/a.names.lookup x=some .cell
def Look(env:Env)(h:Heap)(m:Str->Option Value)(x:Str)(u:Value):Prop:=
 (env.kindOf x=some .local/\m x=some u)\/((env.kindOf x=some .cell\/env.kindOf x=some .free)/\∃c,env.cells.lookup x=some c/\h.IsCell c (some u))
structure Cx.Ok(X:Cx):Prop where
 mod:Mod X.K X.mg X.dH
 kind:X.env.scope.kind=.function
 glob:X.env.globals=mainGlobals
 blt:X.env.builtins=builtinsNs
 above:X.s₀.heap.objs.size<=X.env.locals
 inj:∀x y c,X.env.cells.lookup x=some c->X.env.cells.lookup y=some c->x=y
 has:∀x,(X.env.kindOf x=some .cell\/X.env.kindOf x=some .free)->∃c,X.env.cells.lookup x=some c
 cab:∀x c,X.fn x=true->X.env.cells.lookup x=some c->X.s₀.heap.objs.size<=c
 hd:X.calm=true->X.A.handled=none
 frames:X.A.frames=some X.stack
 stk:X.stack=X.dN\/(X.stack=X.env::X.dN/\X.env.frame=some X.env.locals)
 exf:∀b∈X.ex,b≠X.env.locals/\∀x c,X.env.cells.lookup x=some c->c≠b
 bs:∀b o,X.dH.get? b=some o->X.s₀.heap.get? b=some o/\X.H₀ b=none
 bsz:X.dH.objs.size<=X.s₀.heap.objs.size
 Le:∀b o,X.dH.get? b=some o->b∉X.ex
 LB:∀b∈X.ex,b∉X.fs
 xf:X.s₀.heap.FunFrames X.dH X.dN
 frf:∀b∈X.fs,X.H₀ b=none
structure Inv(X:Cx)(dI:List (Addr×Obj))(σ:List (Option V))(H:Hp)(s:Shared):Prop where
 ok:X.Ok
 os:s.os=X.s₀.os
 bare:AllBare s.gens
 dH:Un X.fs X.ex X.H₀ H X.s₀.heap s.heap
 loc:∃m,s.heap.Ns X.env.locals m/\∀(i:Nat) (x:Str) (v:V),X.N[i]? =some x->σ[i]? =some (some v)->Vis X.env.scope x->∃u,RelV v u/\Look X.env s.heap m x u
 cell:∀x c,X.env.cells.lookup x=some c->∃v,s.heap.IsCell c v
 free:H X.env.locals=none
 kY:∀x c,X.env.cells.lookup x=some c->H c=none
 pin:∀p∈X.pn++dI,s.heap.get? p.1=some p.2/\H p.1=none/\p.1≠X.env.locals/\p.1∉X.fs/\∀v,p.2.data≠ .cell v
 hok:pD X.prog X.w H s.heap
 len:σ.length=X.N.length
section
variable{X:Cx}{dI:List (Addr×Obj)}{σ:List (Option V)}{H H':Hp}{s:Shared}{h':Heap}
theorem Cx.Ok.aes(ok:X.Ok){b:Addr}{o:Obj}(e:X.dH.get? b=some o):b∉X.fs:=λa=>by
 have:=(ok.xf.mem a).1;rw[e] at this;cases this
theorem Inv.bs(I:Inv X dI σ H s):∀b o,X.dH.get? b=some o->s.heap.get? b=some o/\H b=none:=λb o e=>
 ⟨I.dH.keep b o (I.ok.bs b o e).1 (I.ok.bs b o e).2 (I.ok.aes e) (I.ok.Le b o e),I.dH.free b o (I.ok.bs b o e).1 (I.ok.bs b o e).2 (I.ok.Le b o e)⟩
theorem Inv.bk(I:Inv X dI σ H s):∀b o,X.dH.get? b=some o->s.heap.get? b=some o:=λb o e=>(I.bs b o e).1
theorem Inv.mod(I:Inv X dI σ H s):Mod X.K X.mg X.dH:=I.ok.mod
theorem Inv.oS(I:Inv X dI σ H s):X.K.In s.heap:=I.ok.mod.kin.keeps I.bk
theorem Inv.lt(I:Inv X dI σ H s):X.env.locals<s.heap.objs.size:=let ⟨_,hn,_⟩:=I.loc;hn.lt
theorem Inv.sz(I:Inv X dI σ H s):X.s₀.heap.objs.size<=s.heap.objs.size:=mf I.ok.above (afC I.lt)
theorem Inv.ad1(I:Inv X dI σ H s){a:Addr}(h:s.heap.objs.size<=a):a∉X.fs:=λb=>by
 obtain⟨_,o,c,_⟩:=I.ok.xf.mem b;exact absurd (wh (nr c) (mf I.sz h)) (afK _)
theorem Inv.cne(I:Inv X dI σ H s):∀x c,X.env.cells.lookup x=some c->c≠X.env.locals:=λx c e z=>by
 obtain⟨v,o,f,hd⟩:=I.cell x c e;obtain⟨m,⟨g,es,h,a,b,_⟩,_⟩:=I.loc;rw[z,a] at f;cases f;rw[b] at hd;cases hd
def Inv.xf(I:Inv X dI σ H s):s.heap.FunFrames X.dH X.dN:=by
 have all:∀(l:List Env),(∀b∈F1 l,b∈X.fs)->X.s₀.heap.FunFrames X.dH l->s.heap.FunFrames X.dH l:=by
  intro l
  induction l with
  |nil=>intro _ _;trivial
  |cons env r j=>
   intro hs i;obtain⟨m,⟨L,o,a,n,g,hd⟩,h⟩:=i;have c:L∈X.fs:=hs L (by unfold F1;rw[ahj,a];exact ov);obtain⟨p,e⟩:=I.dH.slot L o g (I.ok.frf L c) c λz=>I.ok.LB L z c;exact⟨m,⟨L,_,a,n,e,hd⟩,j (λb f=>hs b (by unfold F1;rw[ahj,a];exact ri _ f)) h⟩
 exact all X.dN (λ_ f=>f) I.ok.xf
def Inv.stack(I:Inv X dI σ H s):s.heap.FunFrames X.dH X.stack:=by
 rcases I.ok.stk with e|⟨e,a⟩
 .rw[e];exact I.xf
 .rw[e];obtain⟨m,b,_⟩:=I.loc;refine .cons (by rw[I.ok.kind];decide) a b ?_ I.xf;exact agi (mf I.ok.bsz I.ok.above)
theorem Inv.Pf(I:Inv X dI σ H s):∀b∈F1 X.stack,b∈X.env.locals::X.fs:=λb a=>by
 rcases I.ok.stk with e|⟨e,c⟩
 .rw[e] at a;exact ri _ a
 .rw[e] at a;unfold F1 at a;rw[ahj,c] at a;exact a
theorem Inv.KN(I:Inv X dI σ H s):∀b∈F1 X.stack,H b=none:=λb a=>by
 rcases ti.mp (I.Pf b a) with e|a
 .rw[e];exact I.free
 .obtain ⟨_,o,ho,_⟩:=I.ok.xf.mem a;exact I.dH.free b o ho (I.ok.frf b a) λz=>I.ok.LB b z a
def Inv.step{g':Array GenState}{t':Nat}{d':Drawn}{ch:List Addr}(I:Inv X dI σ H s)
  (g:∀b∈ch,(b∈X.ex\/X.s₀.heap.get? b=none)/\b≠X.env.locals/\(∀x c,X.env.cells.lookup x=some c->c≠b)/\∀p∈X.pn++dI,p.1≠b)
  (keep:∀b o,b≠X.env.locals->b∉X.fs->b∉ch->s.heap.get? b=some o->H b=none->h'.get? b=some o)
  (slot:∀b o,b≠X.env.locals->b∈X.fs->b∉ch->s.heap.get? b=some o->H b=none->∃C,h'.get? b=some {o with slots:=C}) (free:∀b o,b∉ch->s.heap.get? b=some o->H b=none->H' b=none)
  (there:∀b o,b∉ch->s.heap.get? b=some o->∃A,h'.get? b=some A)
  (JF:∀b xs,H b=some (.tup xs)->H' b=some (.tup xs)) (HA:∀b o u,H b=some (.frz o u)->H' b=some (.frz o u)) (Ji:∀b ps,H b=some (.tbl ps)->∃more,H' b=some (.tbl (ps++more)))
  (G:∀m,s.heap.Ns X.env.locals m->h'.Ns X.env.locals m) (hok:pD X.prog X.w H' h') (K:AllBare g'):
  Inv X dI σ H' {s with heap:=h',gens:=g',drawn:=d',toks:=t'}:=by
 have B:∀b o,X.s₀.heap.get? b=some o->b≠X.env.locals:=λb o e=>nz (wh (nr e) I.ok.above)
 have j:∀b o,X.s₀.heap.get? b=some o->b∉X.ex->b∉ch:=λb o e a t=>by
  rcases(g b t).1 with z|z
  .exact a z
  .rw[z] at e;cases e
 have h:∀x c,X.env.cells.lookup x=some c->∀v,s.heap.IsCell c v->h'.IsCell c v:=λx c e v ⟨o,y,hd⟩=>by
  have f:c∉ch:=λz=>(g c z).2.2.1 x c e rfl;by_cases E:c∈X.fs
  .obtain ⟨C,q⟩:=slot c o (I.cne x c e) E f y (I.kY x c e);exact⟨_,q,hd⟩
  .exact ⟨o,keep c o (I.cne x c e) E f y (I.kY x c e),hd⟩
 refine⟨I.ok,I.os,K,⟨λb o e n t a=>?_,λb o e n t a=>?_,λb o e n a=>?_,λb o e a=>?_,λb xs e=>JF b xs (I.dH.JF b xs e),λb o xs e=>HA b o xs (I.dH.HA b o xs e),λb ps e=>?_⟩,?_,λx c e=>?_,?_,λx c e=>?_,λp F=>?_,hok,I.len⟩
 .exact keep b o (B b o e) t (j b o e a) (I.dH.keep b o e n t a) (I.dH.free b o e n a)
 .obtain ⟨C,e1⟩:=I.dH.slot b o e n t a;obtain⟨D,e2⟩:=slot b _ (B b o e) t (j b o e a) e1 (I.dH.free b o e n a);exact⟨D,e2⟩
 .obtain ⟨A,e1⟩:=I.dH.there b o e a;exact free b A (j b o e a) e1 (I.dH.free b o e n a)
 .obtain ⟨A,e1⟩:=I.dH.there b o e a;exact there b A (j b o e a) e1
 .obtain ⟨m1,e1⟩:=I.dH.Ji b ps e;obtain⟨J,e2⟩:=Ji b _ e1;exact⟨m1++J,by rw[e2,Array.append_assoc]⟩
 .obtain ⟨m,hn,hl⟩:=I.loc;refine⟨m,G m hn,λi x v e1 e2 e3=>?_⟩;obtain⟨u,r,l⟩:=hl i x v e1 e2 e3;refine⟨u,r,?_⟩;rcases l with l|⟨k,c,e,z⟩
  .exact .inl l
  .exact .inr ⟨k,c,e,h x c e _ z⟩
 .obtain ⟨v,z⟩:=I.cell x c e;exact⟨v,h x c e v z⟩
 .obtain ⟨m,⟨o,_,_,y,_⟩,_⟩:=I.loc;exact free _ o (λz=>(g _ z).2.1 rfl) y I.free
 .obtain ⟨v,o,y,hd⟩:=I.cell x c e;exact free c o (λz=>(g c z).2.2.1 x c e rfl) y (I.kY x c e)
 .obtain ⟨e,n,ne,nf,d⟩:=I.pin p F;have f:p.1∉ch:=λz=>(g p.1 z).2.2.2 p F rfl;exact⟨keep p.1 p.2 ne nf f e n,free p.1 p.2 f e n,ne,nf,d⟩
def Inv.un{t':Nat}(I:Inv X dI σ H s)(u:Un X.fs [] H H' s.heap h')(hok:pD X.prog X.w H' h'):Inv X dI σ H' {s with heap:=h',toks:=t'}:=by
 obtain⟨m,⟨o,es,v,h,r⟩,_⟩:=id I.loc;obtain⟨t,j⟩:=u.any h I.free (by simp)
 exact I.step (g':=s.gens) (d':=s.drawn) (ch:=[]) (λ_ z=>nomatch z) (λb o _ c _ e n=>u.keep b o e n c (by simp)) (λb o _ c _ e n=>u.slot b o e n c (by simp)) (λb o _ e n=>u.free b o e n (by simp)) (λb o _ e=>u.there b o e (by simp)) u.JF u.HA u.Ji (λq l=>by
  obtain⟨p,g,f,a,i⟩:=l;rw[h] at a;cases a;exact⟨_,g,f,j,i⟩) hok I.bare
def Inv.call{g':Array GenState}{t':Nat}{d':Drawn}{ch:List Addr}(I:Inv X dI σ H s)(u:Un (F1 X.stack) ch H H' s.heap h')(hok:pD X.prog X.w H' h')(y:AllBare g')
  (g:∀b∈ch,(b∈X.ex\/X.s₀.heap.get? b=none)/\b≠X.env.locals/\(∀x c,X.env.cells.lookup x=some c->c≠b)/\∀p∈X.pn++dI,p.1≠b):
  Inv X dI σ H' {s with heap:=h',gens:=g',drawn:=d',toks:=t'}:=by
 obtain⟨m,⟨o,es,D,l,r⟩,_⟩:=id I.loc;obtain⟨C,h⟩:=u.any l I.free λz=>(g _ z).2.1 rfl
 exact I.step (ch:=ch) g (λb o h t a e n=>u.keep b o e n (λz=>(ti.mp (I.Pf b z)).elim h t) a) (λb o _ _ a e n=>u.any e n a) (λb o a e n=>u.free b o e n a) (λb o a e=>u.there b o e a) u.JF u.HA u.Ji (λB v=>by
  obtain⟨A,j,i,f,q⟩:=v;rw[l] at f;cases f;exact⟨_,j,i,h,q⟩) hok y
def Inv.turned{t':Nat}{it:Addr}(I:Inv X dI σ H s)(k:∀b o,b≠it->s.heap.get? b=some o->h'.get? b=some o)(l:H it=none)(g:it≠X.env.locals)
  (w:it∈X.ex\/X.s₀.heap.get? it=none) (h:∀x c,X.env.cells.lookup x=some c->c≠it) (t:∀p∈X.pn++dI,p.1≠it):Inv X dI σ H {s with heap:=h',toks:=t'}:=by
 have f:∀b u,H b=some u->b≠it:=λb u e z=>by rw[z,l] at e;cases e
 refine I.step (g':=s.gens) (d':=s.drawn) (ch:=[it]) (λb i=>?_) (λb o _ _ a e _=>k b o (λz=>a (by simp[z])) e) (λb o _ _ a e _=>⟨o.slots,k b o (λz=>a (by simp[z])) e⟩) (λ_ _ _ _ n=>n)
  (λb o a e=>⟨o,k b o (λz=>a (by simp[z])) e⟩) (λ_ _ e=>e) (λ_ _ _ e=>e) (λb ps e=>⟨#[],by rw[e];simp⟩) (λm j=>?_) (λb u e=>?_) I.bare
 .have e:b=it:=by simpa using i
  subst e;exact⟨w,g,h,t⟩
 .obtain ⟨o,es,ep,ho,r⟩:=j;exact⟨o,es,ep,k _ o (Ne.symm g) ho,r⟩
 .refine (I.hok b u e).AG (λc v a q=>k c v ?_ q) (λ_ q=>q) λ_ _ q=>q;rcases a with z|z
  .rw[z];exact f b u e
  .exact f c _ z
theorem Inv.tok(I:Inv X dI σ H s)(t:Nat):Inv X dI σ H {s with toks:=t}:=I.un (h':=s.heap) (t':=t) Un.refl I.hok
theorem Inv.kept{t':Nat}(I:Inv X dI σ H s)(k:∀b u,s.heap.get? b=some u->h'.get? b=some u):Inv X dI σ H {s with heap:=h',toks:=t'}:=I.un (Un.kept k) (I.hok.kept k)
theorem Inv.laid{a:Addr}{o:HO}{t':Nat}(I:Inv X dI σ H s)(k:∀b u,s.heap.get? b=some u->h'.get? b=some u)(c:s.heap.objs.size<=a)(new:dZ X.prog X.w (upd H a o) h' a o):
  Inv X dI σ (upd H a o) {s with heap:=h',toks:=t'}:=I.un (Un.laid k c (I.hok.fresh c)) (I.hok.laid k c new)
theorem Inv.write{x e:Addr}{o:HO}{t':Nat}(I:Inv X dI σ H s)(c:Mut (H x))(f:e=x\/H e=some (.own x))(k:∀b u,b≠e->s.heap.get? b=some u->h'.get? b=some u)(a:∃u,h'.get? e=some u)
  (new:dZ X.prog X.w (upd H x o) h' x o):Inv X dI σ (upd H x o) {s with heap:=h',toks:=t'}:=I.un (Un.write c f k a) (I.hok.write c f k a new)
theorem Inv.Fw{a:List (Addr×Obj)}(I:Inv X dI σ H s)(h:∀p∈a,s.heap.get? p.1=some p.2/\H p.1=none/\p.1≠X.env.locals/\p.1∉X.fs/\∀v,p.2.data≠ .cell v):Inv X a σ H s:=
 ⟨I.ok,I.os,I.bare,I.dH,I.loc,I.cell,I.free,I.kY,λp b=>(wH.mp b).elim (λz=>I.pin p (agj _ z)) (h p),I.hok,I.len⟩
def F0{N:List Str}(c:N.Nodup){i j:Nat}{x:Str}(a:N[i]? =some x)(b:N[j]? =some x):i=j:=by
 obtain⟨f,e1⟩:=uy.mp a;obtain⟨e,e2⟩:=uy.mp b;exact(List.getElem_inj c).mp (e1.trans e2.symm)
def JL{M:Model}{A:Around}{E:Value->Shared->Prop}{i:Nat}{x:Str}{v:V}{u:Value}{Q:Unit->Shared->Prop}(I:Inv X dI σ H s)(hN:X.N.Nodup)(F:X.N[i]? =some x)(l:Loc X.env.scope x)(r:RelV v u)
  (h:∀U,Inv X dI (σ.set i (some v)) H U->(∃a,Heap.SameBut a s.heap U.heap/\(a=X.env.locals\/X.env.cells.lookup x=some a))->Q .unit U) (hf:X.fn x=true\/X.env.scope.names.lookup x=some .local:=by first|exact .inl rfl|exact .inr rfl|assumption):wpAny M A (storeName X.env x u) Q E s:=by
 obtain⟨m,Z,hl⟩:=id I.loc;have G:(X.env.scope.kind== .class||(X.env.scope.kind== .module&&X.env.locals != X.env.globals))=false:=by rw[I.ok.kind];rfl
 have B:i<σ.length:=by rw[I.len];exact(uy.mp F).1
 have cne:=I.cne
 have f:∀{a:Addr} {h':Heap},(∃o,s.heap.get? a=some o/\H a=none)->Heap.SameBut a s.heap h'->pD X.prog X.w H h':=λ{a h'} ha hs b ob e=>by
  obtain⟨_,_,t⟩:=ha;refine(I.hok b ob e).AG (λc P g q=>(hs.2 c ?_).trans q) (λ_ q=>q) λ_ _ q=>q;rintro rfl;rcases g with rfl|g
  .rw[t] at e;cases e
  .rw[t] at g;cases g
 rcases l with C|C
 .refine wpAny_storeName_local C Z (λh' S hs=>?_) G;obtain⟨oL,_,_,T,_⟩:=id Z;refine h _ ⟨I.ok,I.os,I.bare,⟨λb o e n D l=>?_,λb o e n D l=>?_,I.dH.free,λb o e l=>?_,I.dH.JF,I.dH.HA,I.dH.Ji⟩,⟨_,S,λj y Y e1 e2 e3=>?_⟩,λy c e=>?_,I.free,I.kY,λp W=>?_,f ⟨oL,T,I.free⟩ hs,by simpa using I.len⟩ ⟨_,hs,.inl rfl⟩
  .exact (hs.2 b (nz (wh (nr e) I.ok.above))).trans (I.dH.keep b o e n D l)
  .obtain ⟨sl,e1⟩:=I.dH.slot b o e n D l;exact⟨sl,(hs.2 b (nz (wh (nr e) I.ok.above))).trans e1⟩
  .obtain ⟨o',e1⟩:=I.dH.there b o e l;exact⟨o',(hs.2 b (nz (wh (nr e) I.ok.above))).trans e1⟩
  .by_cases hj:j=i
   .subst hj;rw[F] at e1;cases e1;rw[agY B] at e2;cases e2;exact⟨u,r,.inl ⟨C,by simp⟩⟩
   .rw[ag8 (Ne.symm hj)] at e2;obtain⟨u',R,q⟩:=hl j y Y e1 e2 e3;refine⟨u',R,?_⟩;rcases q with⟨k,e⟩|⟨k,c,e,z⟩
    .refine .inl ⟨k,?_⟩;have:y≠x:=λe=>hj (F0 hN e1 (e ▸ F));simp[this,e]
    .exact .inr ⟨k,c,e,z.sameBut hs (cne y c e)⟩
  .obtain ⟨P,z⟩:=I.cell y c e;exact⟨P,z.sameBut hs (cne y c e)⟩
  .obtain ⟨e,n,ne,nf,d⟩:=I.pin p W;exact⟨(hs.2 p.1 ne).trans e,n,ne,nf,d⟩
 .have hfn:X.fn x=true:=by
   rcases hf with z|z
   .exact z
   .rw[z] at C;cases C
  obtain⟨c,g⟩:=I.ok.has x (.inl C);obtain⟨P,z⟩:=I.cell x c g;refine wpAny_storeName_cell I.ok.kind C g z (λh' L hs=>?_);obtain⟨oc,J,K⟩:=id z;refine h {s with heap:=h'} ⟨I.ok,I.os,I.bare,⟨λb o e n D l=>?_,λb o e n D l=>?_,I.dH.free,λb o e l=>?_,I.dH.JF,I.dH.HA,I.dH.Ji⟩,⟨m,Z.sameBut hs (Ne.symm (cne x c g)),λj y Y e1 e2 e3=>?_⟩,λy O e=>?_,I.free,I.kY,λp W=>?_,f ⟨oc,J,I.kY x c g⟩ hs,by simpa using I.len⟩ ⟨c,hs,.inr g⟩
  .exact (hs.2 b (nz (wh (nr e) (I.ok.cab x c hfn g)))).trans (I.dH.keep b o e n D l)
  .obtain ⟨sl,e1⟩:=I.dH.slot b o e n D l;exact⟨sl,(hs.2 b (nz (wh (nr e) (I.ok.cab x c hfn g)))).trans e1⟩
  .obtain ⟨o',e1⟩:=I.dH.there b o e l;exact⟨o',(hs.2 b (nz (wh (nr e) (I.ok.cab x c hfn g)))).trans e1⟩
  .by_cases hj:j=i
   .subst hj;rw[F] at e1;cases e1;rw[agY B] at e2;cases e2;exact⟨u,r,.inr ⟨.inl C,c,g,L⟩⟩
   .rw[ag8 (Ne.symm hj)] at e2;obtain⟨u',R,q⟩:=hl j y Y e1 e2 e3;refine⟨u',R,?_⟩;rcases q with q|⟨k,O,e,z'⟩
    .exact .inl q
    .refine .inr ⟨k,O,e,z'.sameBut hs ?_⟩;rintro rfl;exact hj (F0 hN e1 (I.ok.inj _ _ _ e g ▸ F))
  .by_cases hcc:O=c
   .subst hcc;exact⟨_,L⟩
   .obtain ⟨w2,z2⟩:=I.cell y O e;exact⟨w2,z2.sameBut hs hcc⟩
  .obtain ⟨e,n,ne,nf,d⟩:=I.pin p W;refine⟨(hs.2 p.1 ?_).trans e,n,ne,nf,d⟩;intro q;rw[q,J] at e;have q':oc=p.2:=iH e;exact d P (by rwa[<- q'])
theorem GQ{M:Model}{A:Around}{E:Value->Shared->Prop}{i:Nat}{x:Str}{v:V}{u:Value}{Q:Unit->Shared->Prop}(I:Inv X dI σ H s)(e:X.N.Nodup)(f:X.N[i]? =some x)(b:Loc X.env.scope x)(r:RelV v u)
  (h:∀a,Inv X dI (σ.set i (some v)) H a->Q .unit a) (c:X.fn x=true\/X.env.scope.names.lookup x=some .local:=by first|exact .inl rfl|exact .inr rfl|assumption):wpAny M A (storeName X.env x u) Q E s:=
 JL I e f b r (λa g _=>h a g) c
def Inv.aaG{a:Shared}{ch:List Addr}(I:Inv X dI σ H s)(h:a.os=s.os)(u:Un (F1 X.stack) ch H H' s.heap a.heap)(hok:pD X.prog X.w H' a.heap)(i:AllBare a.gens)
  (f:∀b∈ch,(b∈X.ex\/X.s₀.heap.get? b=none)/\b≠X.env.locals/\(∀x c,X.env.cells.lookup x=some c->c≠b)/\∀p∈X.pn++dI,p.1≠b):Inv X dI σ H' a:=by
 obtain⟨h',g',d',t',g⟩:=a;have e:g=s.os:=h;subst e;exact I.call (g':=g') (t':=t') (d':=d') u hok i f
end
abbrev XK:=Value->Option Addr->Hp->Prop
abbrev St:=List (Option V)
abbrev VK:=V->Hp->Prop
abbrev TE:=St->Hp->VK->Prop
abbrev TT:=St->Hp->(Bool->Hp->Prop)->Prop
abbrev TA:=St->Hp->(List V->Hp->Prop)->Prop
structure Ends where
 nx:St->Hp->Prop
 rt:VK
 bk:St->Hp->Prop:=λ_ _=>False
 ct:St->Hp->Prop:=λ_ _=>False
abbrev TS:=Ends->St->Hp->Prop
def EP(X:Cx)(a:List (Addr×Obj))(b:St)(Q:VK)(u:Value)(c:Shared):Prop:=∃v H',Inv X a b H' c/\RelV v u/\Q v H'
def TP(X:Cx)(a:List (Addr×Obj))(c:St)(Q:Bool->Hp->Prop)(b:Bool)(e:Shared):Prop:=∃H',Inv X a c H' e/\Q b H'
def AP(X:Cx)(a:List (Addr×Obj))(b:St)(Q:List V->Hp->Prop)(us:List Value)(c:Shared):Prop:=∃vs H',Inv X a b H' c/\Vals vs us/\Q vs H'
def SP(X:Cx)(b:List (Addr×Obj))(D:Ends)(f:Flow)(c:Shared):Prop:=
 match f with
 |.next=>∃a H',Inv X b a H' c/\D.nx a H'
 |.brk=>∃a H',Inv X b a H' c/\D.bk a H'
 |.cont=>∃a H',Inv X b a H' c/\D.ct a H'
 |.ret u=>∃v a H',Inv X b a H' c/\RelV v u/\D.rt v H'
def PE(X:Cx)(e:Expr)(t:TE):Prop:=
 ∀(a:List (Addr×Obj)) (s:Shared) (b:St) (H:Hp) (Q:VK),Inv X a b H s->t b H Q->wpAny (model X.prog X.w) X.A (eval e X.env) (EP X a b Q) X.xe s
def PT(X:Cx)(e:Expr)(t:TT):Prop:=
 ∀(a:List (Addr×Obj)) (s:Shared) (b:St) (H:Hp) (Q:Bool->Hp->Prop),Inv X a b H s->t b H Q->wpAny (model X.prog X.w) X.A (isTrue e X.env (eval e X.env)) (TP X a b Q) X.xe s
def PW(X:Cx)(e:Expr)(t:TT):Prop:=
 ∀(b:Sem Value) (a:List (Addr×Obj)) (s:Shared) (c:St) (H:Hp) (Q:Bool->Hp->Prop),Inv X a c H s->t c H Q->wpAny (model X.prog X.w) X.A (isTrue e X.env b) (TP X a c Q) X.xe s
theorem PW.pt{X:Cx}{e:Expr}{t:TT}(h:PW X e t):PT X e t:=h _
def PA(X:Cx)(es:List Expr)(t:TA):Prop:=
 ∀(c:Pos) (a:List (Addr×Obj)) (s:Shared) (b:St) (H:Hp) (Q:List V->Hp->Prop),Inv X a b H s->t b H Q->wpAny (model X.prog X.w) X.A (spliced (backTo c (starEach es X.env))) (AP X a b Q) X.xe s
def PS(X:Cx)(st:Stmt)(t:TS):Prop:=
 ∀(a:List (Addr×Obj)) (s:Shared) (b:St) (H:Hp) (D:Ends),Inv X a b H s->t D b H->wpAny (model X.prog X.w) X.A (exec st X.env) (SP X a D) X.xe s
def qx(X:Cx)(st:List Stmt)(t:TS):Prop:=
 ∀(a:List (Addr×Obj)) (s:Shared) (b:St) (H:Hp) (D:Ends),Inv X a b H s->t D b H->wpAny (model X.prog X.w) X.A (execs st X.env) (SP X a D) X.xe s
theorem nh{c:Type}{t:Sem c}{Q b:c->Shared->Prop}{M:Model}{A:Around}{E:Value->Shared->Prop}{s:Shared}(h:wpAny M A t Q E s)(e:∀a s,Q a s->b a s):wpAny M A t b E s:=xm h e λ_ _ x=>x
variable{X:Cx}{dI:List (Addr×Obj)}{σ:St}{H:Hp}{s:Shared}
theorem thE{Q:VK}{t:Sem Value}{b:Value->Shared->Prop}{M:Model}{A:Around}{E:Value->Shared->Prop}(h:wpAny M A t (EP X dI σ Q) E s)(k:∀u a v H',Inv X dI σ H' a->RelV v u->Q v H'->b u a):wpAny M A t b E s:=nh h λu a h=>e2 h λv H' h=>d3 h (k u a v H')
theorem thA{Q:List V->Hp->Prop}{t:Sem (List Value)}{b:List Value->Shared->Prop}{M:Model}{A:Around}{E:Value->Shared->Prop}(h:wpAny M A t (AP X dI σ Q) E s)(k:∀u a v H',Inv X dI σ H' a->Vals v u->Q v H'->b u a):wpAny M A t b E s:=nh h λu a h=>e2 h λv H' h=>d3 h (k u a v H')
theorem thT{Q:Bool->Hp->Prop}{t:Sem Bool}{b:Bool->Shared->Prop}{M:Model}{A:Around}{E:Value->Shared->Prop}(h:wpAny M A t (TP X dI σ Q) E s)(k:∀u a H',Inv X dI σ H' a->Q u H'->b u a):wpAny M A t b E s:=nh h λu a h=>e1 h λH' h=>d2 h (k u a H')
theorem PE.th{e:Expr}{t:TE}{Q:VK}{b:Value->Shared->Prop}(h:PE X e t)(I:Inv X dI σ H s)(w:t σ H Q)(k:∀u a v H',Inv X dI σ H' a->RelV v u->Q v H'->b u a):wpAny (model X.prog X.w) X.A (eval e X.env) b X.xe s:=thE (h dI s σ H Q I w) k
theorem PA.th{e:List Expr}{t:TA}{a:Pos}{Q:List V->Hp->Prop}{b:List Value->Shared->Prop}(h:PA X e t)(I:Inv X dI σ H s)(w:t σ H Q)(k:∀u c v H',Inv X dI σ H' c->Vals v u->Q v H'->b u c):wpAny (model X.prog X.w) X.A (spliced (backTo a (starEach e X.env))) b X.xe s:=thA (h a dI s σ H Q I w) k
theorem PT.th{e:Expr}{t:TT}{Q:Bool->Hp->Prop}{b:Bool->Shared->Prop}(h:PT X e t)(I:Inv X dI σ H s)(w:t σ H Q)(k:∀u a H',Inv X dI σ H' a->Q u H'->b u a):wpAny (model X.prog X.w) X.A (isTrue e X.env (eval e X.env)) b X.xe s:=thT (h dI s σ H Q I w) k
section
variable{X:Cx}
def adV(i:Nat):TE:=λσ H Q=>∃v,σ[i]? =some (some v)/\Q v H
def tC(v:V):TE:=λ_ H Q=>Q v H
def ab3{i:Nat}{x:Str}{j:Pos}(o:X.N[i]? =some x)(t:Vis X.env.scope x)(hd:(x==("__debug__":Str))=false:=by decide)(g:(x==("__classdict__":Str))=false:=by decide):PE X (.Name x j) (adV i):=by
 intro dI s σ H Q I h;obtain⟨v,e,h⟩:=h;obtain⟨m,w,p⟩:=I.loc;obtain⟨u,r,l⟩:=p i x v o e t;have b:EP X dI σ Q u s:=⟨v,H,I,r,h⟩;rcases l with⟨f,q⟩|⟨f,c,n,a⟩
 .exact wpAny_Name (wpAny_loadName_local I.ok.kind f w q b) hd
 .rcases f with f|f
  .exact wpAny_Name (wpAny_loadName_cell I.ok.kind f n a b) hd
  .exact wpAny_Name (wpAny_loadName_free I.ok.kind f n a b g) hd
theorem ah{i j a}:PE X (.Constant (.int i) j a) (tC (.int i)):=λ_ _ _ H _ I h=>wpAny_Constant_int ⟨.int i,H,I.tok _,⟨_,rfl⟩,h⟩
theorem eo{b j a}:PE X (.Constant (.bool b) j a) (tC (.bl b)):=λ_ _ _ H _ I h=>Constant_bool ⟨.bl b,H,I,rfl,h⟩
theorem ff{j a}:PE X (.Constant .none j a) (tC .non):=λ_ _ _ H _ I h=>Constant_none ⟨.non,H,I,rfl,h⟩
theorem ar{x j a}:PE X (.Constant (.str x) j a) (tC (.str x)):=λ_ _ _ H _ I h=>Calls.Constant_str ⟨.str x,H,I.tok _,⟨_,rfl⟩,h⟩
def Gl(X:Cx)(x:Str):Prop:=X.env.kindOf x=some .globalImplicit
theorem yk{E:Value->Shared->Prop}{dI:List (Addr×Obj)}{s:Shared}{σ:St}{H:Hp}{x:Str}{u:Value}{a:Pos}{Q:Value->Shared->Prop}(I:Inv X dI σ H s)(b:Gl X x)(c:X.mg x=some u)(h:Q u s)
  (hd:(x==("__debug__":Str))=false:=by decide):wpAny (model X.prog X.w) X.A (eval (.Name x a) X.env) Q E s:=
 age I.ok.kind b (agW (by rw[I.ok.glob];exact I.mod.glob.keeps I.bk) c h) hd
def xV{E:Value->Shared->Prop}{dI:List (Addr×Obj)}{s:Shared}{σ:St}{H:Hp}{x:Str}{u:Value}{a:Pos}{Q:Value->Shared->Prop}(I:Inv X dI σ H s)(g:Gl X x)(c:X.mg x=none)(e:bootBuiltins x=some u)(h:Q u s)
  (f:x≠"__name__":=by decide) (hd:(x==("__debug__":Str))=false:=by decide):wpAny (model X.prog X.w) X.A (eval (.Name x a) X.env) Q E s:=by
 obtain⟨j,i,b⟩:=I.mod.blt;exact age I.ok.kind g (Calls.loadGlobal_builtin (by rw[I.ok.glob];exact I.mod.glob.keeps I.bk) c (by rw[I.ok.blt];exact i.keeps I.bk) ((b x f).trans e) h) hd
theorem MQ{x:Str}{v:V}{u:Value}{a:Pos}(c:Gl X x)(b:X.mg x=some u)(r:RelV v u)(hd:(x==("__debug__":Str))=false:=by decide):PE X (.Name x a) (tC v):=
 λ_ _ _ H _ I h=>yk I c b ⟨v,H,I,r,h⟩ hd
theorem ZT{x:Str}{v:V}{u:Value}{a:Pos}(e:Gl X x)(f:X.mg x=none)(b:bootBuiltins x=some u)(r:RelV v u)(c:x≠"__name__":=by decide)(hd:(x==("__debug__":Str))=false:=by decide):PE X (.Name x a) (tC v):=
 λ_ _ _ H _ I h=>xV I e f b ⟨v,H,I,r,h⟩ c hd
variable{a b:Expr}{ta tb:TE}{pos:Pos}
def PC(X:Cx)(f:CmpOp)(a b:Expr)(t:TE):Prop:=
 ∀(dI:List (Addr×Obj)) (s:Shared) (σ:St) (H:Hp) (Q:VK),Inv X dI σ H s->t σ H Q→
  wpAny (model X.prog X.w) X.A (eval a X.env) (λv c=>wpAny (model X.prog X.w) X.A (eval b X.env) (λu e=>wpAny (model X.prog X.w) X.A (compareOp f v u) (EP X dI σ Q) X.xe e) X.xe c) X.xe s
def tB(t:TE):TT:=λσ H Q=>t σ H λx e=>∃c,x=.bl c/\Q c e
theorem acj{c:CmpOp}{t:TE}(h:PC X c a b t)(f:behindInMarks c b=false:=by first|exact nobehind _ ∅ ∅|rfl):PE X (.Compare a [c] [b] pos) t:=λdI s σ H Q I e=>wpAny_Compare1 (h dI s σ H Q I e) f
def abw{e:CmpOp}{t:TE}(h:PC X e a b t)(f:behindInMarks e b=false:=by first|exact nobehind _ ∅ ∅|rfl):PT X (.Compare a [e] [b] pos) (tB t):=by
 intro dI s σ H Q I l;refine wpAny_isTrue_Compare1 (nh (h dI s σ H _ I l) λv r f=>nh f λu w j=>nh j λc p o=>?_) f;obtain⟨x,g,n,m,i⟩:=o;obtain⟨d,rfl,q⟩:=i;cases m;exact afF ⟨g,n,q⟩
def bM{e:Expr}{t:TE}(h:PE X e t)(i:∀c,isTrue e X.env c=(do let v<-c;standAt e.pos;holding [v] (truthy v)):=by intro _;rfl):PT X e (tB t):=by
 intro dI s σ H Q I j;refine isTrue_plain (h.th I j λv n x f m l g=>?_) (i _);obtain⟨d,rfl,q⟩:=g;cases l;exact afF ⟨f,m,q⟩
variable{tA tB':TT}{rest:List Expr}
def aeh(t u:TT):TT:=λσ H Q=>t σ H λc e=>if c=true then u σ e Q else Q false e
def tOr(t u:TT):TT:=λσ H Q=>t σ H λc e=>if c=true then Q true e else u σ e Q
def aeo(t:TT):TT:=λσ H Q=>t σ H λc e=>Q (!c) e
def iy(f:PT X a tA):PW X (.BoolOp .And [a] pos) tA:=by
 intro g dI s σ H Q I h;refine isTrue_and (nh (f dI s σ H Q I h) λc i e=>?_);cases c with
 |true=>exact isTrue_and_nil e
 |false=>exact e
def xJ(f:PT X a tA):PW X (.BoolOp .Or [a] pos) tA:=by
 intro g dI s σ H Q I h;refine isTrue_or (nh (f dI s σ H Q I h) λc i e=>?_);cases c with
 |false=>exact isTrue_or_nil e
 |true=>exact e
def iD(j:PT X a tA)(i:PW X (.BoolOp .And (b::rest) pos) tB'):PW X (.BoolOp .And (a::b::rest) pos) (aeh tA tB'):=by
 intro l dI s σ H Q I h;refine isTrue_and (j.th I h λc m e g f=>?_);cases c with
 |true=>exact i l dI m σ e Q g f
 |false=>exact⟨e,g,f⟩
def ze(j:PT X a tA)(i:PW X (.BoolOp .Or (b::rest) pos) tB'):PW X (.BoolOp .Or (a::b::rest) pos) (tOr tA tB'):=by
 intro l dI s σ H Q I h;refine isTrue_or (j.th I h λc m e g f=>?_);cases c with
 |true=>exact⟨e,g,f⟩
 |false=>exact i l dI m σ e Q g f
def fD(e:PT X a tA):PT X (.UnaryOp .Not a pos) (aeo tA):=by
 intro dI s σ H Q I h;exact isTrue_not (e dI s σ H (λc f=>Q (!c) f) I h)
def adF(ta tb:TE):TE:=λσ H Q=>ta σ H λx e=>∃c,x=.bl c/\if c=true then tb σ e Q else Q (.bl false) e
def aem(ta tb:TE):TE:=λσ H Q=>ta σ H λx e=>∃c,x=.bl c/\if c=true then Q (.bl true) e else tb σ e Q
def ada(ta:TE):TE:=λσ H Q=>ta σ H λx e=>∃c,x=.bl c/\Q (.bl (!c)) e
theorem lM{e}{t:TE}(h:PE X a t):PE X (.BoolOp e [a] pos) t:=λdI s σ H Q I c=>BoolOp_one (h dI s σ H Q I c)
def qk(j:PE X a ta)(i:PE X (.BoolOp .And (b::rest) pos) tb):PE X (.BoolOp .And (a::b::rest) pos) (adF ta tb):=by
 intro dI s σ H Q I h;refine BoolOp_and (j.th I h λv m x f g l e=>?_);obtain⟨c,rfl,e⟩:=e;cases l;refine afF ?_;cases c with
 |true=>exact i dI m σ f Q g e
 |false=>exact⟨.bl false,f,g,rfl,e⟩
def VL(j:PE X a ta)(i:PE X (.BoolOp .Or (b::rest) pos) tb):PE X (.BoolOp .Or (a::b::rest) pos) (aem ta tb):=by
 intro dI s σ H Q I h;refine BoolOp_or (j.th I h λv m x f g l e=>?_);obtain⟨c,rfl,e⟩:=e;cases l;refine afF ?_;cases c with
 |false=>exact i dI m σ f Q g e
 |true=>exact⟨.bl true,f,g,rfl,e⟩
def QP(f:PE X a ta):PE X (.UnaryOp .Not a pos) (ada ta):=by
 intro dI s σ H Q I h;refine UnaryOp_ (f.th I h λv l x i j g e=>?_);obtain⟨c,rfl,e⟩:=e;cases g;exact not_of (afF ⟨.bl (!c),i,j,rfl,e⟩)
def tIf(t:TT)(ta tb:TE):TE:=λσ H Q=>t σ H λc e=>if c=true then ta σ e Q else tb σ e Q
def nO{c:Expr}(m:PT X c tA)(l:PE X a ta)(j:PE X b tb):PE X (.IfExp c a b pos) (tIf tA ta tb):=by
 intro dI s σ H Q I h;refine wpAny_IfExp (m.th I h λd g e i f=>?_);cases d with
 |true=>exact l dI g σ e Q i f
 |false=>exact j dI g σ e Q i f
end
def fk(K:PySem.W.Frag)(H:Hp)(a:Addr)(xs:List V):Prop:=
 Rd H a (.lst xs)∨
  ∃(o:Obj) (its:Array Value) (n:Nat),K.lookup a=some o/\o.cls=.type "list"/\o.dict=none/\o.data=.seq its n/\its.size<=sizeLine/\Vals xs its.toList
def l5(K:PySem.W.Frag)(H:Hp)(a:Addr)(xs:List V):Prop:=
 Rd H a (.tup xs)∨
  ∃(o:Obj) (its:Array Value) (n:Nat),K.lookup a=some o/\o.cls=.type "tuple"/\o.data=.seq its n/\its.size<=sizeLine/\Vals xs its.toList
def aeb:Value->Option V
 |.none=>some .non
 |.bool b=>some (.bl b)
 |.int i _=>some (.int i)
 |.str x _=>some (.str x)
 |.bytes b _=>some (.byt b)
 |.float b _=>some (.flt b)
 |.ref a=>some (.ref a)
 |.type n=>some (.ty n)
 |_=>none
def RelV.abs{x:V}{u:Value}(r:RelV x u):aeb u=some x:=by
 cases x with
 |non=>cases r;rfl
 |bl _=>cases r;rfl
 |int _=>obtain⟨t,rfl⟩:=r;rfl
 |str _=>obtain⟨t,rfl⟩:=r;rfl
 |byt _=>obtain⟨t,rfl⟩:=r;rfl
 |flt _=>obtain⟨t,rfl⟩:=r;rfl
 |ref _=>cases r;rfl
 |ty _=>cases r;rfl
theorem RelV.inj{x y:V}{u:Value}(r:RelV x u)(q:RelV y u):x=y:=iH (r.abs.symm.trans q.abs)
theorem Vals.inj:∀{xs ys:List V} {us:List Value},Vals xs us->Vals ys us->xs=ys
 |_,_,_,.nil,.nil=>rfl
 |_,_,_,.cons r t,.cons r' t'=>by rw[r.inj r',Vals.inj t t']
section
variable{X:Cx}{dI:List (Addr×Obj)}{σ:St}{H:Hp}{s:Shared}{a:Addr}{xs ys:List V}
theorem fk.of{K:PySem.W.Frag}(h:H a=some (.lst xs)):fk K H a xs:= .inl (.inl h)
theorem l5.of{K:PySem.W.Frag}(h:H a=some (.tup xs)):l5 K H a xs:= .inl (.inl h)
def Inv.list(I:Inv X dI σ H s)(h:fk X.K H a xs):∃its:List Value,Vals xs its/\PlainL s.heap a its.toArray/\xs.length<=sizeLine:=by
 rcases h with h|⟨o,its,n,c,b,hd,hs,f,r⟩
 .obtain ⟨z,its,n,r,e⟩:=h.ok I.hok;exact⟨its,r,⟨_,n,e,rfl,rfl,rfl⟩,z⟩
 .refine ⟨its.toList,r,⟨o,n,I.oS a o c,b,hd,by simpa using hs⟩,?_⟩;have e:=r.length;simp only[ahk] at e
  lia
def Inv.tuple(I:Inv X dI σ H s)(h:l5 X.K H a xs):∃its:List Value,Vals xs its/\IsTup s.heap a its.toArray/\xs.length<=sizeLine:=by
 rcases h with h|⟨o,its,n,c,b,hs,f,r⟩
 .obtain ⟨z,its,r,p⟩:=h.ok I.hok;exact⟨its,r,p,z⟩
 .refine ⟨its.toList,r,⟨o,I.oS a o c,b,n,by simpa using hs⟩,?_⟩;have e:=r.length;simp only[ahk] at e
  lia
def Inv.BY(I:Inv X dI σ H s)(h:fk X.K H a xs)(h':fk X.K H a ys):xs=ys:=by
 obtain⟨its,r,⟨o,n,e,_,_,d⟩,_⟩:=I.list h;obtain⟨its',c,⟨g,i,b,_,_,d'⟩,_⟩:=I.list h';rw[e] at b;cases b;rw[d] at d';injection d' with f _;have:its=its':=by simpa using ix Array.toList f
 subst this;exact r.inj c
def Inv.UP(I:Inv X dI σ H s)(h:l5 X.K H a xs)(h':l5 X.K H a ys):xs=ys:=by
 obtain⟨its,r,⟨o,e,_,n,d⟩,_⟩:=I.tuple h;obtain⟨its',c,⟨g,b,_,i,d'⟩,_⟩:=I.tuple h';rw[e] at b;cases b;rw[d] at d';injection d' with f _;have:its=its':=by simpa using ix Array.toList f
 subst this;exact r.inj c
end
abbrev Cx.Jm(X:Cx)(E:Value->Shared->Prop):Cx:={X with xe:=E}
abbrev Cx.i1(X:Cx):Cx:=X.Jm λ_ _=>False
theorem Cx.Ok.Jm{X:Cx}(ok:X.Ok)(E:Value->Shared->Prop):(X.Jm E).Ok:=
 ⟨ok.mod,ok.kind,ok.glob,ok.blt,ok.above,ok.inj,ok.has,ok.cab,ok.hd,ok.frames,ok.stk,ok.exf,ok.bs,ok.bsz,ok.Le,ok.LB,ok.xf,ok.frf⟩
theorem Cx.Ok.xT{X:Cx}{E:Value->Shared->Prop}(ok:(X.Jm E).Ok):X.Ok:=
 ⟨ok.mod,ok.kind,ok.glob,ok.blt,ok.above,ok.inj,ok.has,ok.cab,ok.hd,ok.frames,ok.stk,ok.exf,ok.bs,ok.bsz,ok.Le,ok.LB,ok.xf,ok.frf⟩
section
variable{X:Cx}{dI:List (Addr×Obj)}{σ:St}{H:Hp}{s:Shared}{E:Value->Shared->Prop}
theorem Inv.Jm(I:Inv X dI σ H s)(E:Value->Shared->Prop):Inv (X.Jm E) dI σ H s:=⟨I.ok.Jm E,I.os,I.bare,I.dH,I.loc,I.cell,I.free,I.kY,I.pin,I.hok,I.len⟩
theorem Inv.xT(I:Inv (X.Jm E) dI σ H s):Inv X dI σ H s:=⟨I.ok.xT,I.os,I.bare,I.dH,I.loc,I.cell,I.free,I.kY,I.pin,I.hok,I.len⟩
def SP.xT{D:Ends}{f:Flow}{b:Shared}(h:SP (X.Jm E) dI D f b):SP X dI D f b:=by
 cases f with
 |next=>obtain⟨a,H',I,q⟩:=h;exact⟨a,H',I.xT,q⟩
 |brk=>obtain⟨a,H',I,q⟩:=h;exact⟨a,H',I.xT,q⟩
 |cont=>obtain⟨a,H',I,q⟩:=h;exact⟨a,H',I.xT,q⟩
 |ret u=>obtain⟨v,a,H',I,r,q⟩:=h;exact⟨v,a,H',I.xT,r,q⟩
theorem qx.i1{st:List Stmt}{t:TS}(h:qx X.i1 st t):qx X st t:=λdI s σ H D I a=>
 xm (h dI s σ H D (I.Jm _) a) (λ_ _ q=>q.xT) λ_ _ z=>False.elim z
end
section
variable{X:Cx}{st:Stmt}{rest:List Stmt}{t u:TS}{e:Expr}{te:TE}{pos:Pos}
def adA:TS:=λD σ H=>D.nx σ H
def jf(t u:TS):TS:=λD σ H=>t {D with nx:=u D} σ H
theorem ay:qx X [] adA:=λ_ _ σ H _ I h=>ag9 ⟨σ,H,I,h⟩
def aa(b:PS X st t)(i:qx X rest u):qx X (st::rest) (jf t u):=by
 intro dI s σ H D I h;refine wpAny_execs_cons (nh (b dI s σ H {D with nx:=u D} I h) λf c q=>?_);cases f with
 |next=>
  obtain⟨a,H',g,q⟩:=q;exact i dI c a H' D g q
 |ret v=>exact q
 |brk=>exact q
 |cont=>exact q
def af(a:PS X st t):qx X [st] t:=by
 intro dI s σ H D I h;refine wpAny_execs_cons (nh (a dI s σ H D I h) λf b q=>?_);cases f with
 |next=>exact ag9 q
 |ret v=>exact q
 |brk=>exact q
 |cont=>exact q
def Inv.quiet{dI:List (Addr×Obj)}{σ:St}{H:Hp}{s:Shared}(I:Inv X dI σ H s):interactive X.env=false:=by simp[interactive,I.ok.kind]
def adJ(te:TE):TS:=λD σ H=>te σ H λ_ a=>D.nx σ a
def aB(f:PE X e te)(hs:swapsWith e none pos.line X.env=pure false:=by rfl):PS X (.Expr e pos) (adJ te):=by
 intro dI s σ H D I h;exact wpAny_Expr_any (f.th I h λv i x a c g b=>⟨σ,a,c,b⟩) I.quiet hs
def ad8(te:TE):TS:=λD σ H=>te σ H D.rt
def av(g:PE X e te):PS X (.Return (some e) pos) (ad8 te):=by
 intro dI s σ H D I h;exact wpAny_Return_some (g.th I h λv i x b f a c=>⟨x,σ,b,f,a,c⟩)
def adK:TS:=λD _ H=>D.rt .non H
theorem Sw:PS X (.Return none pos) adK:=λ_ _ σ H _ I h=>wpAny_Return_none ⟨.non,σ,H,I,rfl,h⟩
def adQ(c:TT)(t u:TS):TS:=λD σ H=>c σ H λb a=>if b=true then t D σ a else u D σ a
def aL{c:Expr}{a b:List Stmt}{f:TT}(o:PT X c f)(n:qx X a t)(m:qx X b u):PS X (.If c a b pos) (adQ f t u):=by
 intro dI s σ H D I h;refine wpAny_If (o.th I h λd i g l j=>?_);cases d with
 |true=>exact n dI i σ g D l j
 |false=>exact m dI i σ g D l j
def aa1:TS:=λ_ _ _=>False
theorem vX:PS X st aa1:=λ_ _ _ _ _ _ h=>h.elim
end
abbrev TG:=V->St->Hp->(St->Hp->Prop)->Prop
abbrev TGs:=List V->St->Hp->(St->Hp->Prop)->Prop
def PG(X:Cx)(a:Expr)(t:TG):Prop:=
 ∀(dI:List (Addr×Obj)) (s:Shared) (σ:St) (H:Hp) (v:V) (u:Value) (Q:St->Hp->Prop),Inv X dI σ H s->RelV v u->t v σ H Q→
  wpAny (model X.prog X.w) X.A (assign a X.env u) (λ_ c=>∃b H',Inv X dI b H' c/\Q b H') X.xe s
def PGs(X:Cx)(ts:List Expr)(t:TGs):Prop:=
 ∀(dI:List (Addr×Obj)) (s:Shared) (σ:St) (H:Hp) (vs:List V) (us:List Value) (Q:St->Hp->Prop),Inv X dI σ H s->Vals vs us->t vs σ H Q→
  wpAny (model X.prog X.w) X.A (assignInOrder ((assignEach ts X.env).map (·.2)) us) (λ_ b=>∃a H',Inv X dI a H' b/\Q a H') X.xe s
abbrev acs:=V->V->V->Hp->(Hp->Prop)->Prop
def acp(X:Cx)(t:acs):Prop:=
 ∀(dI:List (Addr×Obj)) (s:Shared) (σ:St) (H:Hp) (o i v:V) (a b u:Value) (Q:Hp->Prop),Inv X dI σ H s->RelV o a->RelV i b->RelV v u->t o i v H Q→
  wpAny (model X.prog X.w) X.A (setItem a b u) (λ_ c=>∃H',Inv X dI σ H' c/\Q H') X.xe s
abbrev TIp:=V->V->Hp->VK->Prop
def PIp(X:Cx)(a:Operator)(t:TIp):Prop:=
 ∀(dI:List (Addr×Obj)) (s:Shared) (σ:St) (H:Hp) (x y:V) (v u:Value) (Q:VK),Inv X dI σ H s->RelV x v->RelV y u->t x y H Q→
  wpAny (model X.prog X.w) X.A (inplaceOp a v u) (EP X dI σ Q) X.xe s
section
variable{X:Cx}{pos:Pos}
def Ii(i:Nat):TG:=λv σ H Q=>Q (σ.set i (some v)) H
def c9{i:Nat}{x:Str}(a:X.N.Nodup)(f:X.N[i]? =some x)(c:Loc X.env.scope x)(e:X.fn x=true\/X.env.scope.names.lookup x=some .local:=by first|exact .inl rfl|exact .inr rfl|assumption):PG X (.Name x pos) (Ii i):=by
 intro dI s σ H v u Q I r h;exact wpAny_assign_Name (GQ I a f c r (λg b=>⟨_,H,b,h⟩) e)
def aej:TGs:=λvs σ H Q=>vs=[]/\Q σ H
def ads(t:TG)(u:TGs):TGs:=λvs σ H Q=>∃v r,vs=v::r/\t v σ H λa H'=>u r a H' Q
def Mm:PGs X [] aej:=by
 intro dI s σ H vs us Q I r h;obtain⟨e,h⟩:=h;subst e;cases r;exact assignInOrder_nil ⟨σ,H,I,h⟩
def k7{e:Expr}{es:List Expr}{t:TG}{u:TGs}(l:PG X e t)(j:PGs X es u)
  (hs:(assignEach (e::es) X.env).map (·.2)=assign e X.env::(assignEach es X.env).map (·.2):=by rfl):PGs X (e::es) (ads t u):=by
 intro dI s σ H vs us Q I r h;obtain⟨v,n,e1,h⟩:=h;subst e1;cases r with
 |cons r i=>
  rw[hs];refine assignInOrder_cons (nh (l dI s σ H _ _ _ I r h) λ_ f b=>?_);obtain⟨a,c,m,g⟩:=b;exact j dI f a c _ _ Q m i g
def adX(K:PySem.W.Frag)(n:Nat)(t:TGs):TG:=λv σ H Q=>∃a xs,v=.ref a/\l5 K H a xs/\xs.length=n/\t xs σ H Q
def PL{es:List Expr}{k:Nat}{t:TGs}{n:Nat}(l:X.calm=true)(h:PGs X es t)
  (p:(assignEach es X.env).length=n:=by rfl) (c:(assignEach es X.env).findIdx? (·.1)=none:=by rfl):PG X (.Tuple es k pos) (adX X.K n t):=by
 intro dI s σ H v u Q I r f;obtain⟨a,xs,e1,q,i,f⟩:=f;subst e1;cases r;obtain⟨its,g,j,x⟩:=I.tuple q;refine assign_Tuple_tuple (I.ok.hd l) j (by simp[p,<-i,g.length]) c λh' m=>?_;have w:Inv X dI σ H {s with heap:=h'}:=I.kept (t':=s.toks) λb o e=>m b o (nz (nr e)) e;exact h dI _ σ H xs _ Q w (by simpa using g) f
def ad2(b a:TE)(t:acs):TG:=λv σ H Q=>b σ H λo c=>a σ c λi e=>t o i v e λf=>Q σ f
def CM{o i:Expr}{c e:TE}{t:acs}(l:PE X o c)(j:PE X i e)(hs:acp X t)
  (w:∀v,assign (.Subscript o i pos) X.env v=(do
   let a<-holding [v] (eval o X.env)
   let b<-holding [v,a] (eval i X.env)
   standAt pos
   holding [v,a,b] (setItem a b v)
   release [v,a,b] []):=by intro _;rfl):PG X (.Subscript o i pos) (ad2 c e t):=by
 intro dI s σ H v u Q I r h;rw[w];refine ko (ag0 (l.th I h λa J x F p m f=>?_));refine ko (ag0 (j.th p f λb C y n D A g=>?_));refine ko (ahr (ko (ag0 (nh (hs dI C σ n x y v a b u _ D m A r g) λ_ G q=>?_))));obtain⟨E,z,B⟩:=q;exact wpAny_release ⟨σ,E,z,B⟩
def aao(a:TE)(g:TG):TS:=λD σ H=>a σ H λx b=>g x σ b D.nx
def AE{a e:Expr}{b:TE}{g:TG}(i:PE X e b)(o:PG X a g)(hs:swapsWithSole [a] e pos.line X.env=pure false:=by rfl)(j:swappedStores [a] e X.env=pure none:=by rfl)
  (p:(assignEach [a] X.env).map (·.2)=[assign a X.env]:=by rfl):PS X (.Assign [a] e pos) (aao b g):=by
 intro dI s σ H D I h;refine wpAny_Assign_stores (i.th I h λv n x c m l f=>?_) hs j;rw[p];exact nh (o dI n σ c x v _ m l f) λ_ r q=>q
def acw{i:Nat}{x:Str}{e:Expr}{b:TE}{a:Pos}(c:X.N.Nodup)(n:X.N[i]? =some x)(l:Loc X.env.scope x)(j:PE X e b)(hs:swapsWith e (some (.Name x a)) pos.line X.env=pure false:=by rfl)(m:X.fn x=true\/X.env.scope.names.lookup x=some .local:=by first|exact .inl rfl|exact .inr rfl|assumption):
  PS X (.Assign [.Name x a] e pos) (aao b (Ii i)):=by
 intro dI s σ H D I h;refine wpAny_Assign_Name (j.th I h λv r y f p o g=>?_) hs;exact GQ p c n l o (λt q=>⟨_,f,q,g⟩) m
end
section
variable{X:Cx}{pos:Pos}
def abN(c:TT)(g:TS):TS:=λD σ H=>∃W:Nat->St->Hp->Prop,(∃m,W m σ H)/\∀m σ H,W m σ H→
 c σ H λb f=>if b=true then ∃N:St->Hp->Prop,(∀a H',N a H'->∃e,e<m/\W e a H')/\g {D with nx:=N,ct:=N,bk:=D.nx} σ f else D.nx σ f
def N9{c:Expr}{g:List Stmt}{u:TT}{z:TS}(B:PassesOwn (model X.prog X.w) X.A X.env X.xe)(J:PT X c u)(M:qx X g z):PS X (.While c g [] pos) (abN u z):=by
 intro dI s σ H D I h;obtain⟨W,⟨G,K⟩,turn⟩:=h;refine wpAny_While (codeAny_whileLoop (λn P=>∃i H',Inv X dI i H' P/\W n i H') ?_ G ⟨σ,H,I,K⟩);rintro n O ⟨e,x,F,L⟩;refine agc B (thT (J dI O e x _ F (turn n e x L)) λb Q y C l=>?_);cases b with
 |true=>
  obtain⟨N,E,l⟩:=l;rw[eE rfl];refine agc B (nh (M dI Q e y _ C l) λf R m=>?_);cases f with
  |next=>
   obtain⟨a,j,o,t⟩:=m;obtain⟨q,p,r⟩:=E a j t;exact⟨q,p,a,j,o,r⟩
  |cont=>
   obtain⟨a,j,o,t⟩:=m;obtain⟨q,p,r⟩:=E a j t;exact⟨q,p,a,j,o,r⟩
  |brk=>exact m
  |ret v=>exact m
 |false=>
  rw[er l6];exact ag9 ⟨e,y,C,l⟩
end
structure It where
 go:Nat->Hp->Prop
 yld:Nat->Hp->V->Hp->Prop
 stop:Nat->Hp->Prop
def jX(X:Cx)(dI:List (Addr×Obj))(H:Hp)(b:Addr):Prop:=
 H b=none/\b≠X.env.locals/\b∉X.fs/\(b∈X.ex\/X.s₀.heap.get? b=none)/\(∀x c,X.env.cells.lookup x=some c->c≠b)/\∀p∈X.pn++dI,p.1≠b
def Inv.PX{X:Cx}{dI:List (Addr×Obj)}{σ:St}{H H':Hp}{s:Shared}{b:Addr}(I:Inv X dI σ H s)(a:s.heap.objs.size<=b)(g:H' b=none):jX X dI H' b:=by
 refine⟨g,agN (wh I.lt a),I.ad1 a,.inr (agi (mf I.sz a)),λx c e z=>?_,λp f z=>?_⟩
 .obtain ⟨v,q⟩:=I.cell x c e;exact absurd (wh q.lt (by rwa[z])) (afK _)
 .exact absurd (wh (nr (I.pin p f).1) (by rwa[z])) (afK _)
structure Turn(P:Program)(w:World)(K:PySem.W.Frag)(tg:Expr)(J:It)(fp:List Addr)(it:Addr)(tn:Nat->Heap->Prop):Prop where
 mem:it∈fp
 obj:∀i h,tn i h->∀b∈fp,∃o,h.get? b=some o/\∀v,o.data≠ .cell v
 keep:∀i h h',tn i h->(∀b∈fp,∀o,h.get? b=some o->h'.get? b=some o)->tn i h'
 item:∀(X:Cx),X.prog=P->X.w=w->X.K=K->X.calm=true->∀(i:Nat) (dI:List (Addr×Obj)) (s:Shared) (σ:St) (H:Hp) (E:Value->Shared->Prop),Inv X dI σ H s->(∀b∈fp,jX X dI H b)->tn i s.heap->J.go i H→
  wpAny (model P w) X.A (pyNext (.ref it)) (λr s1=>∃u,r=some u∧
   wpAny (model P w) X.A (letOwnedTupleGo tg (.ref it) u) (λ_ s2=>∃x H',Inv X dI σ H' s2/\RelV x u/\J.yld i H x H'/\tn (i+1) s2.heap/\∀b∈fp,H' b=none) E s1) E s
 done:∀(X:Cx),X.prog=P->X.w=w->X.K=K->X.calm=true->∀(i:Nat) (dI:List (Addr×Obj)) (s:Shared) (σ:St) (H:Hp) (E:Value->Shared->Prop),Inv X dI σ H s->(∀b∈fp,jX X dI H b)->tn i s.heap->J.stop i H→
  wpAny (model P w) X.A (pyNext (.ref it)) (λr s1=>r=none/\Inv X dI σ H s1) E s
 self:∀(A:Around) (i:Nat) (s:Shared) (Q:Value->Shared->Prop) (E:Value->Shared->Prop),tn i s.heap->Q (.ref it) s->wpAny (model P w) A (pyIter (.ref it)) Q E s
abbrev TI:=St->Hp->(It->Hp->Prop)->Prop
def PIE(X:Cx)(dI:List (Addr×Obj))(σ:St)(g:Expr)(R:It->Hp->Prop)(a:Value)(f:Shared):Prop:=
 ∃(it:Addr) (c:List Addr) (e:Nat->Heap->Prop) (J:It) (H':Hp),a=.ref it/\Inv X dI σ H' f/\Turn X.prog X.w X.K g J c it e/\e 0 f.heap/\(∀b∈c,jX X dI H' b)/\R J H'
def PI(X:Cx)(e a:Expr)(b:TI):Prop:=
 ∀(dI:List (Addr×Obj)) (s:Shared) (σ:St) (H:Hp) (R:It->Hp->Prop),Inv X dI σ H s->b σ H R→
  wpAny (model X.prog X.w) X.A (eval a X.env) (λv c=>wpAny (model X.prog X.w) X.A (pyIter v) (PIE X dI σ e R) X.xe c) X.xe s
def XT{M:Model}{A:Around}{E:Value->Shared->Prop}{s:Shared}{b:Expr}{it:Addr}{u:Value}{o:Obj}{n:String}{vs:Array Value}{Q:Unit->Shared->Prop}(c:s.heap.get? it=some o)(f:o.cls=.type n)(hd:o.data=.fields vs)
    (e:["enumerate","zip","dict_itemiterator","dict_reverseitemiterator","odict_iterator","itertools.zip_longest","itertools.pairwise"].contains n=false) (a:Q .unit s):wpAny M A (letOwnedTupleGo b (.ref it) u) Q E s:=by
  unfold letOwnedTupleGo
  cases b<;>first
    |exact rr a
    | (cases u<;>first
        |exact rr a
        | (refine ko (wpAny_load c ?_)
           rw[f,hd];show wpAny M A (if (["enumerate","zip","dict_itemiterator","dict_reverseitemiterator","odict_iterator","itertools.zip_longest","itertools.pairwise"].contains n&&vs[0]? ==some (rawInt _))=true then _ else _) Q E s;rw[er (by intro h;rw[e,afM] at h;cases h)];exact rr a))
def Itl(K:PySem.W.Frag)(a:Addr):It:=
 ⟨λi H=>∃xs x,fk K H a xs/\xs[i]? =some x,λi H x H'=>H'=H/\∀xs,fk K H a xs->xs[i]? =some x,λi H=>∃xs,fk K H a xs/\xs.length<=i⟩
def Itr(lo:Int)(n:Nat):It:=⟨λi _=>i<n,λi H x H'=>H'=H/\x=.int (lo+i),λi _=>n<=i⟩
def Uy{P:Program}{w:World}{K:PySem.W.Frag}{N:Expr}(a it:Addr):Turn P w K N (Itl K a) [it] it (λi h=>h.IsListIter it a i) where
 mem:=by simp
 obj:=λi h st b f=>by
  have e:b=it:=by simpa using f
  subst e;obtain⟨o,e,c,d⟩:=st;exact⟨o,e,λv z=>by rw[d] at z;cases z⟩
 keep:=λi h h' st k=>st.at λo e=>k it (by simp) o e
 item:=by
  intro X D A q G i dI s σ H E I l st n;subst D A q;obtain⟨xs,x,j,B⟩:=n;obtain⟨its,C,p,O⟩:=I.list j;obtain⟨u,J,L⟩:=C.get B;obtain⟨r,m,R,F,t,y⟩:=l it (by simp);refine wpAny_pyNext_list_item st p.isList (x:=u) (by simpa using J) λh' g T=>?_;have M:Inv X dI σ H {s with heap:=h'}:=I.turned (t':=s.toks) (λb o f e=>(T.2 b f).trans e) r m F t y;obtain⟨o,e,c,d⟩:=id g;exact⟨u,rfl,XT (s:={s with heap:=h'}) e c d ∅ ⟨x,H,M,L,⟨rfl,λys S=>by rwa[I.BY S j]⟩,g,λb f=>(l b f).1⟩⟩
 done:=by
  intro X D A q G i dI s σ H E I l st n;subst D A q;obtain⟨xs,j,B⟩:=n;obtain⟨its,C,p,O⟩:=I.list j;obtain⟨r,m,R,F,t,y⟩:=l it (by simp);have U:=C.length;exact wpAny_pyNext_list_end (I.ok.hd G) st p.isList (by simp;lia) λh' Q=>⟨rfl,I.turned (t':=s.toks) (λb o f e=>Q b o f e) r m F t y⟩
 self:=λ_ _ _ _ _ st h=>wpAny_pyIter_listiter st h
def PY{P:Program}{w:World}{K:PySem.W.Frag}{B:Expr}(it:Addr)(lo:Int)(n:Nat):Turn P w K B (Itr lo n) [it] it (λi h=>IsRangeIter h it (lo+(i:Nat)*1) ((n:Int)-(i:Nat)) 1) where
 mem:=by simp
 obj:=λi h st b a=>by
  have e:b=it:=by simpa using a
  subst e
  exact⟨_,st,λv z=>by
   have C:Data.fields _=Data.cell v:=z;cases C⟩
 keep:=λi h h' st k=>k it (by simp) _ st
 item:=by
  intro X x u m g i dI s σ H E I f st l;subst x u m;obtain⟨p,j,F,y,q,r⟩:=f it (by simp);have W:=Walks.range (prog:=X.prog) (w:=X.w) (I.ok.hd g) it lo 1 n;refine W.item i s _ _ l st λv h' tk G c kk=>?_;obtain⟨t,rfl⟩:=G;have A:Inv X dI σ H {s with heap:=h',toks:=tk}:=I.turned (λb o a e=>kk b o (by simpa using a) e) p j y q r;refine⟨_,rfl,XT (s:={s with heap:=h',toks:=tk}) (n:="range_iterator") c rfl rfl ∅ ⟨.int (lo+i),H,A,⟨t,?_⟩,⟨rfl,rfl⟩,c,λb a=>(f b a).1⟩⟩;rw[Int.mul_one]
 done:=by
  intro X x u m g i dI s σ H E I f st l;subst x u m;obtain⟨p,j,F,y,q,r⟩:=f it (by simp);exact wpAny_pyNext_range_end (I.ok.hd g) st (by have:n<=i:=l;lia) λh' D=>⟨rfl,I.turned (t':=s.toks) (λb o a e=>D b o a e) p j y q r⟩
 self:=λ_ _ _ _ _ st h=>wpAny_pyIter_rangeiter st h
section
variable{X:Cx}{tg:Expr}
def adR(K:PySem.W.Frag)(c:TE):TI:=λσ H R=>c σ H λx b=>∃a,x=.ref a/\(∃xs,fk K b a xs)/\R (Itl K a) b
def kP{l:Expr}{g:TE}(t:PE X l g):PI X tg l (adR X.K g):=by
 intro dI s σ H R I h;refine nh (t dI s σ H _ I h) λv f n=>?_;obtain⟨x,i,c,m,j⟩:=n;obtain⟨a,e,⟨xs,u⟩,q⟩:=j;subst e;cases m;obtain⟨its,w,p,y⟩:=c.list u;refine agh p.isList ?_;refine⟨f.heap.objs.size,[f.heap.objs.size],_,_,i,rfl,c.kept (t':=f.toks) λb o e=>q4 _ e,Uy a _,⟨_,xo _ rfl,rfl,rfl⟩,λb r=>?_,q⟩;have e:b=f.heap.objs.size:=by simpa using r
 subst e;exact c.PX (fC _) (c.hok.fresh (fC _))
def N7{dI:List (Addr×Obj)}{σ:St}{H:Hp}{s:Shared}{R:It->Hp->Prop}{E:Value->Shared->Prop}{lo a:Int}{t u v:Tok}{tk:Nat}(I:Inv X dI σ H s)(g: -(2^62)<=lo)(f:lo<2^62)(i: -(2^62)<=a)(j:a<2^62)
  (q:R (Itr lo (a-lo).toNat) H):wpAny (model X.prog X.w) X.A (pyIter (.ref s.heap.objs.size)) (PIE X dI σ tg R) E {s with heap:=s.heap.push {cls:= .type "range",data:= .fields #[.int lo t,.int a u,.int 1 v]},toks:=tk}:=by
 refine wpAny_pyIter_range (IsRange.new ..) (small_one g f i j) ?_;have c:Inv X dI σ H {s with heap:=s.heap.push {cls:= .type "range",data:= .fields #[.int lo t,.int a u,.int 1 v]},toks:=tk}:=I.kept λb o e=>q4 _ e
 refine⟨(s.heap.push {cls:= .type "range",data:= .fields #[.int lo t,.int a u,.int 1 v]}).objs.size,[(s.heap.push {cls:= .type "range",data:= .fields #[.int lo t,.int a u,.int 1 v]}).objs.size],_,_,H,rfl,
  c.kept (t':=tk) λb o e=>q4 _ e,PY _ lo (a-lo).toNat,?_,λb h=>?_,q⟩
 .have e1:lo+((0:Nat):Int)*1=lo:=by simp
  have e2:(((a-lo).toNat:Nat):Int)-((0:Nat):Int)=Builtin.Range.rangeSize lo a 1:=by rw[rangeSize_one];split<;>lia
  show IsRangeIter _ _ (lo+((0:Nat):Int)*1) ((((a-lo).toNat:Nat):Int)-((0:Nat):Int)) 1;rw[e1,e2];exact xo _ rfl
 .have e:b=(s.heap.push {cls:= .type "range",data:= .fields #[.int lo t,.int a u,.int 1 v]}).objs.size:=by simpa using h
  subst e;exact c.PX (fC _) (c.hok.fresh (fC _))
def ac1(b:TA):TI:=λσ H R=>b σ H λvs a=>∃j:Int,vs=[.int j]/\ -(2^62)<=j/\j<2^62/\R (Itr 0 j.toNat) a
def adW(b:TA):TI:=λσ H R=>b σ H λvs a=>∃i j:Int,vs=[.int i,.int j]/\(-(2^62)<=i/\i<2^62/\ -(2^62)<=j/\j<2^62)/\R (Itr i (j-i).toNat) a
def kx{a:Expr}{f:TA}{p c:Pos}(o:Gl X "range")(i:X.mg "range"=none)(g:PA X [a] f)(hs:starEach [a] X.env=[(false,eval a X.env)]:=by rfl):PI X tg (.Call (.Name "range" p) [a] [] c) (ac1 f):=by
 intro dI s σ H R I h;refine Call_ (xV I o i boot_range (afV (g.th I h λus w vs v u n b=>?_) hs rfl));obtain⟨j,e,b,m,q⟩:=b;subst e;cases n with
 |cons r l=>
  cases l;obtain⟨t,rfl⟩:=r;exact call_range_1 (N7 u () () b m (by simpa using q))
def TU{a b:Expr}{m:TA}{p l:Pos}(A:Gl X "range")(z:X.mg "range"=none)(x:PA X [a,b] m)(hs:starEach [a,b] X.env=[(false,eval a X.env),(false,eval b X.env)]:=by rfl)(c:starEach [b] X.env=[(false,eval b X.env)]:=by rfl):
  PI X tg (.Call (.Name "range" p) [a,b] [] l) (adW m):=by
 intro dI s σ H R I h;refine Call_ (xV I A z boot_range (afV (x.th I h λus C vs B w v f=>?_) (by rw[hs,c]) (by rw[c];rfl)));obtain⟨i,j,e,⟨f,o,y,u⟩,q⟩:=f;subst e;cases v with
 |cons r g=>
  cases g with
  |cons n g=>
   cases g;obtain⟨t,rfl⟩:=r;obtain⟨t',rfl⟩:=n;exact call_range_2 (N7 w f o y u q)
def aen(f:TI)(g:TG)(e:TS):TS:=λD σ H=>f σ H λJ h=>∃W:Nat->Nat->St->Hp->Prop,(∃m,W 0 m σ h)/\∀i m σ H,W i m σ H→
 (J.stop i H/\D.nx σ H)\/(J.go i H/\∃N:St->Hp->Prop,(∀a H',N a H'->∃c,c<m/\W (i+1) c a H')/\∀x H',J.yld i H x H'->g x σ H' λb j=>e {D with nx:=N,ct:=N,bk:=D.nx} b j)
def tX(a:List Addr)(h:Heap):List (Addr×Obj):=a.filterMap λb=>(h.get? b).map λo=>(b,o)
theorem uE{a:List Addr}{h:Heap}{b:Addr}{o:Obj}(c:b∈a)(e:h.get? b=some o):(b,o)∈tX a h:=List.mem_filterMap.mpr ⟨b,c,by rw[e];rfl⟩
def JP{a:List Addr}{h:Heap}{p:Addr×Obj}(c:p∈tX a h):p.1∈a/\h.get? p.1=some p.2:=by
 obtain⟨b,f,e⟩:=List.mem_filterMap.mp c;cases q:h.get? b with
 |none=>rw[q] at e;cases e
 |some o=>
  rw[q] at e;have g:(b,o)=p:=iH e;subst g;exact⟨f,q⟩
theorem Inv.pinned{dI:List (Addr×Obj)}{σ:St}{H:Hp}{s:Shared}{a:List Addr}(I:Inv X dI σ H s)(j:∀b∈a,jX X dI H b)(m:∀b∈a,∃o,s.heap.get? b=some o/\∀v,o.data≠ .cell v):Inv X (dI++tX a s.heap) σ H s:=
 I.Fw λp i=>(wH.mp i).elim (λz=>I.pin p (ae7 _ z)) λz=>by
  obtain⟨c,e⟩:=JP z;obtain⟨g,l,h,_⟩:=j p.1 c;obtain⟨o,f,d⟩:=m p.1 c;rw[e] at f;cases f;exact⟨e,g,l,h,d⟩
theorem Inv.BM{dI pl:List (Addr×Obj)}{σ:St}{H:Hp}{s:Shared}(I:Inv X (dI++pl) σ H s):Inv X dI σ H s:=I.Fw λp a=>I.pin p (ae7 _ (agj _ a))
def oH{y:Expr}{B:List Stmt}{wi:TI}{g:TG}{tb:TS}{Z:Pos}(M:PassesOwn (model X.prog X.w) X.A X.env X.xe)(hc:X.calm=true)(hi:PI X tg y wi)(hg:PG X tg g)(z:qx X B tb)
  (hs:∀x,foldedSetIterable y X.env x=pure x:=by intro _;rfl):PS X (.For tg y B [] Z) (aen wi g tb):=by
 intro dI s σ H D I h;refine wpAny_For (nh (hi dI s σ H _ I h) λv s1 h1=>nh h1 λac s2 h2=>?_) hs;obtain⟨it,K,tn,J,H2,e,I2,T,ab,f2,W,⟨m0,w0⟩,turn⟩:=h2;subst e;have c:∀{H':Hp},(∀b∈K,H' b=none)->∀b∈K,jX X dI H' b:=λhn b z=>⟨hn b z,(f2 b z).2⟩;refine codeAny_forLoop_any (λn s'=>∃i p H',Inv X dI p H' s'/\tn i s'.heap/\(∀b∈K,H' b=none)/\W i n p H') ?_ m0 ⟨0,σ,H2,I2,ab,λb z=>(f2 b z).1,w0⟩;rintro n s3 ⟨i,j,P,I3,L,O,w3⟩;rcases turn i n j P w3 with⟨stop,qn⟩|⟨go,N,hN,step⟩
 .refine agc M (nh (T.done X rfl rfl rfl hc i dI s3 j P X.xe I3 (c O) L stop) λr s4 F=>?_);obtain⟨R,I4⟩:=F;subst R;exact ag9 ⟨j,P,I4,qn⟩
 .refine agc M (nh (T.item X rfl rfl rfl hc i dI s3 j P X.xe I3 (c O) L go) λr s4 F=>?_);obtain⟨u,R,h4⟩:=F;subst R;refine agc M (nh h4 λ_ s5 F=>?_);obtain⟨x,H5,I5,r5,y5,E,Q⟩:=F;have U:=I5.pinned (c Q) (T.obj _ _ E);refine agc M (nh (hg _ s5 j H5 x u _ U r5 (step x H5 y5)) λ_ s6 F=>?_);obtain⟨S,H6,I6,q6⟩:=F;refine agc M (nh (z _ s6 S H6 _ I6 q6) λf Y C=>?_)
  have l:∀{a:St} {t:Hp},Inv X (dI++tX K s5.heap) a t Y->N a t->∃m,m<n/\∃i p H',Inv X dI p H' Y/\tn i Y.heap/\(∀b∈K,H' b=none)/\W i m p H':=λ{a t} q G=>by
   obtain⟨m',hm,w7⟩:=hN a t G;refine⟨m',hm,i+1,a,t,q.BM,T.keep _ _ _ E λb z o e=>(q.pin (b,o) (ae7 _ (ae7 _ (uE z e)))).1,λb z=>?_,w7⟩;obtain⟨o,e,d⟩:=T.obj _ _ E b z;exact(q.pin (b,o) (ae7 _ (ae7 _ (uE z e)))).2.1
  cases f with
  |next=>obtain⟨a,t,q,G⟩:=C;exact l q G
  |cont=>obtain⟨a,t,q,G⟩:=C;exact l q G
  |brk=>obtain⟨a,t,q,C⟩:=C;exact⟨a,t,q.BM,C⟩
  |ret v=>obtain⟨x7,a,t,q,r7,C⟩:=C;exact⟨x7,a,t,q.BM,r7,C⟩
end
def yq{lo:Int}{n:Nat}{g:TG}{l:TS}{D:Ends}{σ:St}{H:Hp}(f:Nat->St->Hp->Prop)(q:f 0 σ H)
  (hs:∀i σ H,i<n->f i σ H->g (.int (lo+i)) σ H λa h=>l {D with nx:=f (i+1),ct:=f (i+1),bk:=D.nx} a h) (hd:∀σ H,f n σ H->D.nx σ H):
  ∃W:Nat->Nat->St->Hp->Prop,(∃m,W 0 m σ H)/\∀i m σ H,W i m σ H→
   ((Itr lo n).stop i H/\D.nx σ H)\/((Itr lo n).go i H/\∃N:St->Hp->Prop,(∀c H',N c H'->∃j,j<m/\W (i+1) j c H')/\∀x H',(Itr lo n).yld i H x H'->g x σ H' λa h=>l {D with nx:=N,ct:=N,bk:=D.nx} a h):=by
 refine⟨λi m σ H=>m=n-i/\i<=n/\f i σ H,⟨n,by simp,vr _,q⟩,?_⟩;rintro i m σ H ⟨rfl,r,p⟩;by_cases b:i<n
 .refine .inr ⟨b,f (i+1),λc H' o=>⟨n-(i+1),(),rfl,b,o⟩,λx H' y=>?_⟩;obtain⟨e,y⟩:=y;subst e y;exact hs i σ _ b p
 .have e:i=n:=by lia
  subst e;exact .inl ⟨fC _,hd σ H p⟩
abbrev R2:=V->V->Hp->VK->Prop
def nN(X:Cx)(f:Value->Value->Sem Value)(r:R2):Prop:=
 ∀(dI:List (Addr×Obj)) (s:Shared) (σ:St) (H:Hp) (x y:V) (v u:Value) (Q:VK),Inv X dI σ H s->RelV x v->RelV y u->r x y H Q→
  wpAny (model X.prog X.w) X.A (f v u) (EP X dI σ Q) X.xe s
def UnR(X:Cx)(f:Value->Sem Value)(r:V->Hp->VK->Prop):Prop:=
 ∀(dI:List (Addr×Obj)) (s:Shared) (σ:St) (H:Hp) (x:V) (v:Value) (Q:VK),Inv X dI σ H s->RelV x v->r x H Q→
  wpAny (model X.prog X.w) X.A (f v) (EP X dI σ Q) X.xe s
def sY(X:Cx)(f:Value)(r:List V->Hp->VK->Prop):Prop:=
 ∀(dI:List (Addr×Obj)) (s:Shared) (σ:St) (H:Hp) (xs:List V) (us:List Value) (Q:VK),Inv X dI σ H s->Vals xs us->r xs H Q→
  wpAny (model X.prog X.w) X.A (call f us) (EP X dI σ Q) X.xe s
def tOp(r:R2)(e a:TE):TE:=λσ H Q=>e σ H λx b=>a σ b λy c=>r x y c Q
def tUn(r:V->Hp->VK->Prop)(b:TE):TE:=λσ H Q=>b σ H λx a=>r x a Q
def rI(C:Int->Int->Prop)(g:Int->Int->V):R2:=λx y H Q=>∃i j,x=.int i/\y=.int j/\C i j/\Q (g i j) H
def rI0(g:Int->Int->V):R2:=λx y H Q=>∃i j,x=.int i/\y=.int j/\Q (g i j) H
def rU(g:Int->V):V->Hp->VK->Prop:=λx H Q=>∃i,x=.int i/\Q (g i) H
section
variable{X:Cx}{a b c:Expr}{ta tb tc:TE}{pos:Pos}
def YV(t:PE X a ta)(r:PE X b tb){dI:List (Addr×Obj)}{s:Shared}{σ:St}{H:Hp}{R:V->V->Hp->Prop}(I:Inv X dI σ H s)
  (h:ta σ H λx l=>tb σ l λy e=>R x y e) {Q:Value->Shared->Prop} {f:Value->Value->Sem Value}
  (o:∀v u j x y e,Inv X dI σ e j->RelV x v->RelV y u->R x y e->wpAny (model X.prog X.w) X.A (f v u) Q X.xe j):
  wpAny (model X.prog X.w) X.A (eval a X.env) (λv g=>wpAny (model X.prog X.w) X.A (eval b X.env) (λu i=>wpAny (model X.prog X.w) X.A (f v u) Q X.xe i) X.xe g) X.xe s:=by
 refine t.th I h λv C x l q p m=>?_;refine r.th q m λu j y e B z n=>?_;exact o v u j x y e B p z n
def aA{e:Operator}{r:R2}(l:nN X (binaryOp e) r)(g:PE X a ta)(f:PE X b tb):PE X (.BinOp a e b pos) (tOp r ta tb):=by
 intro dI s σ H Q I h;exact wpAny_BinOp (YV g f I h λv u i x y n j m o q=>l dI i σ n x y v u Q j m o q)
def oF{e:UnaryOp}{r:V->Hp->VK->Prop}(g:UnR X (unaryOp e) r)(f:PE X a ta):PE X (.UnaryOp e a pos) (tUn r ta):=by
 intro dI s σ H Q I h;exact UnaryOp_ (f.th I h λv m x j n i l=>g dI m σ j x v Q n i l)
def opI{f:Value->Value->Sem Value}{C:Int->Int->Prop}{g:Int->Int->Int}
  (e:∀(i j:Int) (t u:Tok) (s:Shared) (Q:Value->Shared->Prop) (E:Value->Shared->Prop),C i j->Q (.int (g i j) s.toks) {s with toks:=s.toks+1}->wpAny (model X.prog X.w) X.A (f (.int i t) (.int j u)) Q E s):
  nN X f (rI C λi j=>.int (g i j)):=by
 intro dI s σ H x y v u Q I l m h;obtain⟨i,j,rfl,rfl,n,q⟩:=h;obtain⟨t,rfl⟩:=l;obtain⟨t',rfl⟩:=m;exact e i j t t' s _ _ n ⟨.int (g i j),H,I.tok _,⟨_,rfl⟩,q⟩
def YO{f:Value->Value->Sem Value}{g:Int->Int->Int}
  (e:∀(i j:Int) (t u:Tok) (s:Shared) (Q:Value->Shared->Prop) (E:Value->Shared->Prop),Q (.int (g i j) s.toks) {s with toks:=s.toks+1}->wpAny (model X.prog X.w) X.A (f (.int i t) (.int j u)) Q E s):
  nN X f (rI0 λi j=>.int (g i j)):=by
 intro dI s σ H x y v u Q I l m h;obtain⟨i,j,rfl,rfl,q⟩:=h;obtain⟨t,rfl⟩:=l;obtain⟨t',rfl⟩:=m;exact e i j t t' s _ _ ⟨.int (g i j),H,I.tok _,⟨_,rfl⟩,q⟩
def ZM{f:Value->Value->Sem Value}{g:Int->Int->Bool}
  (e:∀(i j:Int) (t u:Tok) (s:Shared) (Q:Value->Shared->Prop) (E:Value->Shared->Prop),Q (.bool (g i j)) s->wpAny (model X.prog X.w) X.A (f (.int i t) (.int j u)) Q E s):
  nN X f (rI0 λi j=>.bl (g i j)):=by
 intro dI s σ H x y v u Q I l m h;obtain⟨i,j,rfl,rfl,q⟩:=h;obtain⟨t,rfl⟩:=l;obtain⟨t',rfl⟩:=m;exact e i j t t' s _ _ ⟨.bl (g i j),H,I,rfl,q⟩
def adN(i j:Int):Prop:=0<j/\j<1073741824
def adZ(i j:Int):Prop:=0<=j/\j<=1000000/\i.natAbs<2^64
def abW(i j:Int):Prop:=(-(2^64)<i/\i<2^64)\/(-(2^64)<j/\j<2^64)
def abW.ok{i j:Int}(h:abW i j):IntMulOk i j:=by
 rcases h with⟨e,f⟩|⟨e,f⟩
 .exact .of_left (intBits_le_64 e f)
 .exact .of_right (intBits_le_64 e f)
theorem di:nN X (binaryOp .Add) (rI0 λi j=>.int (i+j)):=YO λ_ _ _ _ _ _ _ q=>add_int q
theorem CI:nN X (binaryOp .Sub) (rI0 λi j=>.int (i-j)):=YO λ_ _ _ _ _ _ _ q=>sub_int q
theorem abR:nN X (binaryOp .Mult) (rI abW λi j=>.int (i*j)):=opI λ_ _ _ _ _ _ _ e q=>mul_int q e.ok
theorem cj:nN X (binaryOp .FloorDiv) (rI adN λi j=>.int (i/j)):=opI λi j _ _ _ _ _ e q=>by
 have g:(0:Int)<j:=e.1;have f:j<1073741824:=e.2;exact floordiv_int () (by rwa[Int.fdiv_eq_ediv_of_nonneg i ()]) (.inl (PyProof.noPylong_small ()))
theorem bj:nN X (binaryOp .Mod) (rI (λ_ j=>0<j) λi j=>.int (i%j)):=opI λi j _ _ _ _ _ e q=>by
 have f:(0:Int)<j:=e;exact mod_int' () (by rwa[Int.fmod_eq_emod_of_nonneg i ()])
theorem VX:nN X (binaryOp .LShift) (rI adZ λi j=>.int (i*2^j.toNat)):=opI λ_ _ _ _ _ _ _ e q=>lshift_int_small e.1 e.2.1 e.2.2 q
theorem Gh:nN X (binaryOp .BitAnd) (rI0 λi j=>.int (Builtin.bitAnd i j)):=YO λ_ _ _ _ _ _ _ q=>and_int q
theorem ac4:nN X (binaryOp .BitOr) (rI0 λi j=>.int (Builtin.bitOr i j)):=YO λ_ _ _ _ _ _ _ q=>or_int q
def unI{f:Value->Sem Value}{g:Int->Int}
  (e:∀(i:Int) (t:Tok) (s:Shared) (Q:Value->Shared->Prop) (E:Value->Shared->Prop),Q (.int (g i) s.toks) {s with toks:=s.toks+1}->wpAny (model X.prog X.w) X.A (f (.int i t)) Q E s):
  UnR X f (rU λi=>.int (g i)):=by
 intro dI s σ H x v Q I j h;obtain⟨i,rfl,q⟩:=h;obtain⟨t,rfl⟩:=j;exact e i t s _ _ ⟨.int (g i),H,I.tok _,⟨_,rfl⟩,q⟩
theorem jM:UnR X (unaryOp .USub) (rU λi=>.int (-i)):=unI λ_ _ _ _ _ q=>neg_int q
theorem ab2:UnR X (unaryOp .Invert) (rU λi=>.int (Builtin.bitNot i)):=unI λ_ _ _ _ _ q=>invert_int q
end
def adl:V->V->Bool
 |.non,.non=>true| .non,.int _=>true| .int _,.non=>true| .non,.bl _=>true| .bl _,.non=>true| .non,.str _=>true| .str _,.non=>true
 |.int _,.int _=>true| .bl _,.bl _=>true| .str _,.str _=>true| .byt _,.byt _=>true
 |.int _,.str _=>true| .str _,.int _=>true| .bl _,.str _=>true| .str _,.bl _=>true
 |_,_=>false
def rEq:R2:=λx y H Q=>adl x y=true/\Q (.bl (decide (x=y))) H
def rNe:R2:=λx y H Q=>adl x y=true/\Q (.bl (!decide (x=y))) H
def Sf{i j:Int}:decide (V.int i=V.int j)=(i==j):=by
 rw[L1];simp
def W9{i j:Bool}:decide (V.bl i=V.bl j)=(i==j):=by
 rw[L1];simp
def R8{i j:Str}:decide (V.str i=V.str j)=(i==j):=by
 rw[L1];simp
def R0{i j:Array UInt8}:decide (V.byt i=V.byt j)=(i.toList==j.toList):=by
 rw[L1];cases i;cases j;simp
section
variable{X:Cx}{a b c:Expr}{ta tb tc:TE}{pos:Pos}
def bO{dI:List (Addr×Obj)}{σ:St}{H:Hp}{s:Shared}{Q:VK}{k f:Bool}(I:Inv X dI σ H s)(q:Q (.bl k) H)(e:k=f):EP X dI σ Q (.bool f) s:=by
 subst e;exact⟨.bl k,H,I,rfl,q⟩
def bQ:nN X (compareOp .Eq) rEq:=by
 intro dI s σ H x y v u Q I f e h;obtain⟨hs,q⟩:=h;cases x with
 |non=>
  cases f;cases y with
  |non=>cases e;exact PySem.EqNone.eq_none_none (bO I q (by simp))
  |bl j=>cases e;exact PySem.EqNone.eq_none_bool (bO I q (by simp))
  |int j=>obtain⟨t',rfl⟩:=e;exact PySem.EqNone.eq_none_int (bO I q (by simp))
  |str j=>obtain⟨t',rfl⟩:=e;exact PySem.EqNone.eq_none_str (bO I q (by simp))
  |_=>exact absurd (show false=true from hs) l6
 |bl i=>
  cases f;cases y with
  |non=>cases e;exact PySem.EqNone.eq_bool_none (bO I q (by simp))
  |bl j=>cases e;exact eq_bool (bO I q W9)
  |str j=>obtain⟨t',rfl⟩:=e;exact PySem.EqMixed.eq_bool_str (bO I q (by simp))
  |_=>exact absurd (show false=true from hs) l6
 |int i=>
  obtain⟨t,rfl⟩:=f;cases y with
  |non=>cases e;exact PySem.EqNone.eq_int_none (bO I q (by simp))
  |int j=>obtain⟨t',rfl⟩:=e;exact eq_int (bO I q Sf)
  |str j=>obtain⟨t',rfl⟩:=e;exact PySem.EqMixed.eq_int_str (bO I q (by simp))
  |_=>exact absurd (show false=true from hs) l6
 |str i=>
  obtain⟨t,rfl⟩:=f;cases y with
  |non=>cases e;exact PySem.EqNone.eq_str_none (bO I q (by simp))
  |bl j=>cases e;exact PySem.EqMixed.eq_str_bool (bO I q (by simp))
  |int j=>obtain⟨t',rfl⟩:=e;exact PySem.EqMixed.eq_str_int (bO I q (by simp))
  |str j=>obtain⟨t',rfl⟩:=e;exact eq_str (bO I q R8)
  |_=>exact absurd (show false=true from hs) l6
 |byt i=>
  obtain⟨t,rfl⟩:=f;cases y with
  |byt j=>obtain⟨t',rfl⟩:=e;exact PySem.W.eq_bytes (bO I q R0)
  |_=>exact absurd (show false=true from hs) l6
 |_=>cases y<;>exact absurd (show false=true from hs) l6
def wu:nN X (compareOp .NotEq) rNe:=by
 intro dI s σ H x y v u Q I f e h;obtain⟨hs,q⟩:=h;cases x with
 |non=>
  cases f;cases y with
  |non=>cases e;exact PySem.EqNone.ne_none_none (bO I q (by simp))
  |bl j=>cases e;exact PySem.EqNone.ne_none_bool (bO I q (by simp))
  |int j=>obtain⟨t',rfl⟩:=e;exact PySem.EqNone.ne_none_int (bO I q (by simp))
  |str j=>obtain⟨t',rfl⟩:=e;exact PySem.EqNone.ne_none_str (bO I q (by simp))
  |_=>exact absurd (show false=true from hs) l6
 |bl i=>
  cases f;cases y with
  |non=>cases e;exact PySem.EqNone.ne_bool_none (bO I q (by simp))
  |bl j=>cases e;exact ne_bool (bO I q (ix not W9))
  |str j=>obtain⟨t',rfl⟩:=e;exact PySem.EqMixed.ne_bool_str (bO I q (by simp))
  |_=>exact absurd (show false=true from hs) l6
 |int i=>
  obtain⟨t,rfl⟩:=f;cases y with
  |non=>cases e;exact PySem.EqNone.ne_int_none (bO I q (by simp))
  |int j=>obtain⟨t',rfl⟩:=e;exact ne_int (bO I q (ix not Sf))
  |str j=>obtain⟨t',rfl⟩:=e;exact PySem.EqMixed.ne_int_str (bO I q (by simp))
  |_=>exact absurd (show false=true from hs) l6
 |str i=>
  obtain⟨t,rfl⟩:=f;cases y with
  |non=>cases e;exact PySem.EqNone.ne_str_none (bO I q (by simp))
  |bl j=>cases e;exact PySem.EqMixed.ne_str_bool (bO I q (by simp))
  |int j=>obtain⟨t',rfl⟩:=e;exact PySem.EqMixed.ne_str_int (bO I q (by simp))
  |str j=>obtain⟨t',rfl⟩:=e;exact ne_str (bO I q (ix not R8))
  |_=>exact absurd (show false=true from hs) l6
 |byt i=>
  obtain⟨t,rfl⟩:=f;cases y with
  |byt j=>obtain⟨t',rfl⟩:=e;exact PySem.W.ne_bytes (bO I q (ix not R0))
  |_=>exact absurd (show false=true from hs) l6
 |_=>cases y<;>exact absurd (show false=true from hs) l6
theorem oW:nN X (compareOp .Lt) (rI0 λi j=>.bl (decide (i<j))):=ZM λ_ _ _ _ _ _ _ q=>lt_int q
theorem NU:nN X (compareOp .LtE) (rI0 λi j=>.bl (decide (i<=j))):=ZM λ_ _ _ _ _ _ _ q=>le_int q
theorem OK:nN X (compareOp .Gt) (rI0 λi j=>.bl (decide (j<i))):=ZM λ_ _ _ _ _ _ _ q=>gt_int q
theorem XX:nN X (compareOp .GtE) (rI0 λi j=>.bl (decide (j<=i))):=ZM λ_ _ _ _ _ _ _ q=>ge_int q
def Us:nN X (compareOp .In) (λx y H Q=>∃i j,x=.str i/\y=.str j/\Q (.bl (!(Builtin.Str.occurrences j i 0 j.length 1).isEmpty)) H):=by
 intro dI s σ H x y v u Q I e f h;obtain⟨i,j,rfl,rfl,q⟩:=h;obtain⟨t,rfl⟩:=e;obtain⟨t',rfl⟩:=f;exact in_str (bO I q rfl)
def CY:nN X (compareOp .Is) (λx y H Q=>y=.non/\Q (.bl (decide (x=.non))) H):=by
 intro dI s σ H x y v u Q I e f h;obtain⟨rfl,q⟩:=h;cases f;refine is_none_gen (bO I q ?_)
 cases x<;>first
  |(cases e;rfl)
  |(obtain⟨t,rfl⟩:=e;rfl)
def R6:nN X (compareOp .IsNot) (λx y H Q=>y=.non/\Q (.bl (!decide (x=.non))) H):=by
 intro dI s σ H x y v u Q I e f h;obtain⟨rfl,q⟩:=h;cases f;refine isnot_none_gen (bO I q ?_)
 cases x<;>first
  |(cases e;rfl)
  |(obtain⟨t,rfl⟩:=e;rfl)
def FO(b:Expr){e:CmpOp}(h:e≠ .In:=by decide)(f:e≠ .NotIn:=by decide):behindInMarks e b=false:=by
 have e1:(e==CmpOp.In)=false:=by cases e<;>first|rfl|exact absurd rfl h
 have e2:(e==CmpOp.NotIn)=false:=by cases e<;>first|rfl|exact absurd rfl f
 cases b<;>simp[behindInMarks,e1,e2]
def Rc{e:CmpOp}{r:R2}(m:nN X (compareOp e) r)(g:PE X a ta)(f:PE X b tb)(i:behindInMarks e b=false):PE X (.Compare a [e] [b] pos) (tOp r ta tb):=by
 intro dI s σ H Q I h;exact wpAny_Compare1 (YV g f I h λv u j x y o l n p q=>m dI j σ o x y v u Q l n p q) i
def Yk(t:TE):TT:=λσ H Q=>t σ H λx H'=>∃k,x=.bl k/\Q k H'
def Fx{f:CmpOp}{r:R2}(B:nN X (compareOp f) r)(l:PE X a ta)(i:PE X b tb)(n:behindInMarks f b=false):PT X (.Compare a [f] [b] pos) (Yk (tOp r ta tb)):=by
 intro dI s σ H Q I h
 refine wpAny_isTrue_Compare1 (l.th I h λv J x G F C p=>i.th F p λu q y D A o w=>
  thE (B dI q σ D x y v u _ A C o w) λc K z E m j g=>?_) n
 obtain⟨k,e,t⟩:=g;subst e;cases j;exact afF ⟨E,m,t⟩
def WT(r f:R2)(ta tb tc:TE):TE:=λσ H Q=>ta σ H λx g=>tb σ g λy j=>r x y j λz e=>∃k,z=.bl k∧
 (if k=true then tc σ e λi h=>f y i h Q else Q (.bl false) e)
def V9{g f:CmpOp}{r j:R2}(w:nN X (compareOp g) r)(i:nN X (compareOp f) j)(L:PE X a ta)(K:PE X b tb)(P:PE X c tc)
  (N:lastMarks [g,f] [b,c]=false:=by with_unfolding_all rfl):PE X (.Compare a [g,f] [b,c] pos) (WT r j ta tb tc):=by
 intro dI s σ H Q I h
 refine Compare_chain (L.th I h λv Y x U F A p=>chain_link (K.th F p λu O y C R m q=>
  thE (w dI O σ C x y v u _ R A m q) λd W z T l o J=>?_)) N
 obtain⟨k,e,n⟩:=J;subst e;cases o;refine afF ?_;cases k with
 |false=>exact ite_ff ⟨.bl false,T,l,rfl,n⟩
 |true=>exact ite_tt (chain_last (P.th l n λB G M S E D t=>i dI G σ S y M u B Q E m D t))
def XM{g f:CmpOp}{r l:R2}(C:nN X (compareOp g) r)(i:nN X (compareOp f) l)(N:PE X a ta)(M:PE X b tb)(W:PE X c tc)
  (S:lastMarks [g,f] [b,c]=false:=by with_unfolding_all rfl):PT X (.Compare a [g,f] [b,c] pos) (Yk (WT r l ta tb tc)):=by
 intro dI s σ H Q I h
 refine isTrue_chain (N.th I h λv s1 x H1 K D t=>test_link (M.th K t λu U y F Y n w=>
  thE (C dI U σ F x y v u _ Y D n w) λd s3 z H3 m p j=>?_)) S
 obtain⟨k,e,o⟩:=j;subst e;cases p;refine afF ?_;cases k with
 |false=>
  obtain⟨k',B,q'⟩:=o;cases B;exact ite_ff ⟨H3,m,q'⟩
 |true=>
  refine ite_tt (test_last (W.th m o λE L R Z J G A=>thE (i dI L σ Z y R u E _ J n G A) λd' s5 z2 O P T j=>?_));obtain⟨k2,e2,q⟩:=j;subst e2;cases T;exact afF ⟨O,P,q⟩
def Ic:(sizeLine:Nat)<2^63:=by rw[af7];decide
def oB:nN X (binaryOp .Add) (λx y H Q=>∃i j,x=.str i/\y=.str j/\i.length+j.length<=sizeLine/\Q (.str (i++j)) H):=by
 intro dI s σ H x y v u Q I e f h;obtain⟨i,j,rfl,rfl,g,q⟩:=h;obtain⟨t,rfl⟩:=e;obtain⟨t',rfl⟩:=f;exact add_str (λt' tk=>⟨.str (i++j),H,I.tok _,⟨_,rfl⟩,q⟩) g
def Wu(b:Expr):Prop:=∀o i,subscripted b false o i=operate [o,i] (getItem o i)
def p9(o:PE X a ta)(n:PE X b tb)(hs:Wu b):
  PE X (.Subscript a b pos) (tOp (λx y H Q=>∃z i c,x=.str z/\y=.int i/\0<=i/\i<2^63/\i<z.length/\z.cps[i.toNat]? =some c/\Q (.str ⟨#[c]⟩) H) ta tb):=by
 intro dI s σ H Q I h;refine Subscript_ (YV o n I h λv u p x y j w g m q=>?_);obtain⟨z,i,c,rfl,rfl,l,f,A,r,q⟩:=q;obtain⟨t,rfl⟩:=g;obtain⟨t',rfl⟩:=m;have e:seqIndex? i z.length=some i.toNat:=PySem.StrLaws.seqIndex_nonneg l A
 exact tail_any (agU p z t) slot_str_getitem.lookup (getItem_str (c:=c) (by
  have e1:decide (i < -(2^63:Int))=false:=j0 ();have e2:decide (i>=2^63)=false:=j0 ();rw[e1,e2]<;>rfl) (by rwa[e]) ⟨.str ⟨#[c]⟩,j,w.tok _,⟨_,rfl⟩,q⟩) (hs _ _)
def vals1{x:V}{us:List Value}(r:Vals [x] us):∃u,us=[u]/\RelV x u:=by
 cases r with
 |cons f e=>cases e;exact⟨_,rfl,f⟩
def vals2{x y:V}{us:List Value}(r:Vals [x,y] us):∃u e,us=[u,e]/\RelV x u/\RelV y e:=by
 cases r with
 |cons g i=>
  cases i with
  |cons f h=>cases h;exact⟨_,_,rfl,g,f⟩
def CV(f:X.calm=true):sY X (.builtin "min") (λxs H Q=>∃i j,xs=[.int i,.int j]/\Q (.int (if j<i then j else i)) H):=by
 intro dI s σ H xs us Q I r h;obtain⟨i,j,rfl,q⟩:=h;obtain⟨u,g,rfl,⟨t,rfl⟩,⟨t',rfl⟩⟩:=vals2 r;refine min_two_ints (I.ok.hd f) λh' tk k=>⟨_,H,I.kept k,?_,q⟩;by_cases e:j<i
 .rw[eE e,eE e];exact⟨_,rfl⟩
 .rw[er e,er e];exact⟨_,rfl⟩
def bJ:sY X (.type "str") (λxs H Q=>∃i,xs=[.int i]/\i.natAbs.log2<1920/\Q (.str (toString i)) H):=by
 intro dI s σ H xs us Q I r h;obtain⟨i,rfl,e,q⟩:=h;obtain⟨u,rfl,t,rfl⟩:=vals1 r;exact PySem.P.str_of_int e ⟨.str _,H,I.tok _,⟨_,rfl⟩,q⟩
end
structure QV(h:Heap)(x dx C:Addr)(mA:Str->Option Value):Prop where
 obj:h.get? x=some (PySem.W.instObj C dx)
 ns:h.Ns1 dx mA
 ne:dx≠x
def S8{h:Heap}{f:Addr}{g:Str->Option Value}(n:h.Ns1 f g):∃c,h.get? f=some c/\∀name,PySem.W.lookIn name c=some (g name):=by
 obtain⟨o,es,r,j,hd,p,_,l⟩:=n;refine⟨o,j,λname=>?_⟩;have e:=l name;unfold nsFind findBy at e;rw[<- Array.find?_toList] at e;unfold PySem.W.lookIn;rw[hd];dsimp only
 split
 .rename_i y q
  rw[q] at e;exact ix some e
 .rename_i q
  rw[q] at e
  have a:es.toList.any (·.refKey)=false:=by
   rw[List.any_eq_false];intro y m;obtain⟨z,t,b⟩:=p y (Array.mem_toList_iff.mp m);simp[DictEntry.refKey,b]
  have i:¬es.toList.any (·.refKey)=true:=by rw[a];exact l6
  rw[er i];exact ix some e
theorem QV.look{h:Heap}{x c C:Addr}{b:Str->Option Value}(I:QV h x c C b):∃a,PySem.W.InstAt h x (PySem.W.instObj C c) C (some a)/\∀name,PySem.W.lookIn name a=some (b name):=
 let ⟨a,ho,hl⟩:=S8 I.ns
 ⟨a,⟨I.obj,rfl,rfl,ho⟩,hl⟩
section
variable{prog:Program}{w:World}{A:Around}{E:Value->Shared->Prop}{s:Shared}{K:PySem.W.Frag}{x dx C f:Addr}{mA:Str->Option Value}{name:Str}{v:Value}
def get_map{a:Bool}{Q:Value->Shared->Prop}(X:K.In s.heap)(I:QV s.heap x dx C mA)(j:PySem.W.plainGet K C name=true)(c:PySem.W.hasDictIn K C=true)
  (g:PySem.W.findIn K (.ref C) name=some none) (e:mA name=some v) (b:PySem.W.handedIn v=true) (h:Q v {s with toks:=s.toks+1}):
  wpAny (model prog w) A (getAttr (.ref x) name a) Q E s:=by
 obtain⟨l,J,i⟩:=I.look;exact PySem.W.get_value X J (ahl j).1 (PySem.W.findObj_own c g rfl (by rw[i,e])) b h
def Yf{pl:Sem Bool}{Q:Value×List Value->Shared->Prop}(X:K.In s.heap)(I:QV s.heap x dx C mA)(a:PySem.W.plainGet K C name=true)
  (c:PySem.W.findIn K (.ref C) name=some (some (.ref f))) (i:PySem.W.isFn K (.ref f)=true) (b:mA name=none) (h:Q (.ref f,[.ref x]) s):
  wpAny (model prog w) A (getMethod (.ref x) name pl) Q E s:=by
 obtain⟨e,J,g⟩:=I.look;exact PySem.W.method_fn X J (ahl a).1 (ahl a).2 c (S4.mp i) (by show(PySem.W.lookIn name e).map (·.isSome)=some false;rw[g,b];rfl) h
def Zw{m:List Str}{Q:Unit->Shared->Prop}(X:K.In s.heap)(I:QV s.heap x dx C mA)
  (hs:PySem.W.findIn K (.ref C) "__setattr__"=some (some (.builtin "object.__setattr__"))) (B:PySem.W.plainOver K C=true) (o:PySem.W.takerIn K C name=some none) (n:PySem.W.hasDictIn K C=true)
  (p:PySem.Within mA m) (hsz:m.length<=sizeLine)
  (h:∀h',QV h' x dx C (λy=>if y=name then some v else mA y)->Heap.SameBut dx s.heap h'->Q .unit {s with heap:=h',toks:=s.toks+2}):
  wpAny (model prog w) A (setAttr (.ref x) name v) Q E s:=by
 obtain⟨F,J,G⟩:=I.look;refine PySem.W.set_plain X J hs (PySem.W.osa_open (s:={s with toks:=s.toks+1}) (r:=none) X J B o λb=>?_);obtain⟨L,z,j⟩:=PySem.W.any_some n;have q:s.heap.get? x=some ⟨.ref C,some dx,.plain,#[]⟩:=I.obj;refine ko (rr (ko (ko (wpAny_loadPart q (ko (PySem.W.Looks.here (s:={s with toks:=s.toks+1}) (PySem.W.looks_clsIn X z) ?_))))));rw[j];refine rr (a:=some dx) (ko (rr (ko ?_)));refine wpAny_nsSet1 (s:={s with toks:=s.toks+1}) I.ns λh' e c=>?_;obtain⟨D,u,t,g,l,i⟩:=e.count (PySem.Within.cons name v p);refine ko (wpAny_lookBehind g (by rw[l];exact pastItsLine_dict (mf i (by rw[xl];lia))) ?_);exact rr (h _ ⟨(c.2 _ (Ne.symm I.ne)).trans I.obj,e,I.ne⟩ c)
def WS{R:Result->Shared->Prop}{vs:List Value}{kw:List (Str×Value)}(X:K.In s.heap)(a:PySem.W.makesIn K C=true)
  (c:PySem.W.findIn K (.ref C) "__init__"=some (some (.ref f))) (b:PySem.W.typeIn K (.ref f)=some (.type "function"))
  (h:codeAny (model prog w) (A.under (.builtin "type.__call__" ⟨.ref C::vs,kw⟩)) (.call (.ref f) ⟨.ref (s.heap.objs.size+1)::vs,kw⟩) (PySem.W.InitBack (s.heap.objs.size+1) R)
   {s with heap:=(s.heap.push PySem.W.emptyDict).push (PySem.W.instObj C s.heap.objs.size)}):
  codeAny (model prog w) A (.call (.ref C) ⟨vs,kw⟩) R s:=by
 obtain⟨e,g,d,t,os⟩:=s;exact PySem.W.make_core (PySem.W.makes_of X a) (agG X c) (λself=>PySem.W.bind_fn X self b) (.inl rfl) h
end
def ku(f:Str)(v:V):List (Str×V)->List (Str×V)
 |[]=>[(f,v)]
 |(g,x)::r=>if g=f then (g,v)::r else (g,x)::ku f v r
theorem Ej(f g:Str)(v:V):∀fs:List (Str×V),(ku f v fs).lookup g=if g=f then some v else fs.lookup g
 |[]=>by
  show List.lookup g [(f,v)]=_;by_cases h:g=f
  .have hb:(g==f)=true:=S4.mpr h;simp only[List.lookup,hb,eE h]
  .have hb:(g==f)=false:=af4.mpr h;simp only[List.lookup,hb,er h]
 |(k,x)::r=>by
  have b:=Ej f g v r;rw[show ku f v ((k,x)::r)=(if k=f then (k,v)::r else (k,x)::ku f v r) from rfl];by_cases a:k=f
  .rw[eE a];by_cases h:g=k
   .have hb:(g==k)=true:=S4.mpr h;simp only[List.lookup,hb,eE (h.trans a)]
   .have hb:(g==k)=false:=af4.mpr h;simp only[List.lookup,hb,er (λe:g=f=>h (e.trans a.symm))]
  .rw[er a];by_cases h:g=k
   .have hb:(g==k)=true:=S4.mpr h;simp only[List.lookup,hb,er (λe:g=f=>a (h.symm.trans e))]
   .have hb:(g==k)=false:=af4.mpr h;simp only[List.lookup,hb];exact b
theorem DM(f:Str)(v:V):∀fs:List (Str×V),f∈(ku f v fs).map (·.1)/\∀g,g∈fs.map (·.1)->g∈(ku f v fs).map (·.1)
 |[]=>⟨by simp[ku],λg h=>by simp at h⟩
 |(k,x)::r=>by
  obtain⟨c,b⟩:=DM f v r;rw[show ku f v ((k,x)::r)=(if k=f then (k,v)::r else (k,x)::ku f v r) from rfl];by_cases a:k=f
  .rw[eE a];subst a;exact⟨by simp,λg h=>by simpa using h⟩
  .rw[er a];refine⟨?_,λg h=>?_⟩
   .rw[M0];exact ri _ c
   .rw[M0] at h ⊢;rcases ti.mp h with e|e
    .exact ti.mpr (.inl e)
    .exact ri _ (b g e)
theorem DQ(f:Str)(v:V):∀fs:List (Str×V),(ku f v fs).length<=fs.length+1
 |[]=>by simp[ku]
 |(k,x)::r=>by
  have b:=DQ f v r;rw[show ku f v ((k,x)::r)=(if k=f then (k,v)::r else (k,x)::ku f v r) from rfl];by_cases a:k=f
  .rw[eE a,xl,xl];lia
  .rw[er a,xl,xl];lia
def yT.some_of{v:V}{o:Option Value}(r:yT (some v) o):∃u,o=some u/\RelV v u:=by
 cases o with
 |none=>exact(show False from r).elim
 |some u=>exact⟨u,rfl,r⟩
def yT.none_of{o:Option Value}(r:yT none o):o=none:=by
 cases o with
 |none=>rfl
 |some u=>exact(show False from r).elim
def Tn{v:V}{u:Value}(r:RelV v u):PySem.W.handedIn u=true:=by
 cases v with
 |non=>cases (show u=Value.none from r);rfl
 |bl b=>cases (show u=Value.bool b from r);rfl
 |int i=>obtain⟨t,e⟩:=(show ∃t,u=Value.int i t from r);cases e;rfl
 |str x=>obtain⟨t,e⟩:=(show ∃t,u=Value.str x t from r);cases e;rfl
 |byt b=>obtain⟨t,e⟩:=(show ∃t,u=Value.bytes b t from r);cases e;rfl
 |flt b=>obtain⟨t,e⟩:=(show ∃t,u=Value.float b t from r);cases e;rfl
 |ref a=>cases (show u=Value.ref a from r);rfl
 |ty n=>cases (show u=Value.type n from r);rfl
section
variable{P:Program}{w:World}{H H':Hp}{h h':Heap}{a C dx:Addr}{fs fs':List (Str×V)}
def Fe(hok:pD P w H h)(e:H a=some (.ins C dx fs)):∃b,QV h a dx C b/\(∀f,yT (fs.lookup f) (b f))/\PySem.Within b (fs.map (·.1))/\fs.length<=1000/\H dx=some (.own a):=by
 obtain⟨d,z,ne,c,b,n,r,q⟩:=(show dZ P w H h a (.ins C dx fs) from hok a _ e);exact⟨b,⟨c,n,ne⟩,r,q,z,d⟩
end
structure tW(K:PySem.W.Frag)(C:Addr):Prop where
 pg:PySem.W.plainGet K C Str.empty=true
 hd:PySem.W.hasDictIn K C=true
 po:PySem.W.plainOver K C=true
 sa:PySem.W.findIn K (.ref C) "__setattr__"=some (some (.builtin "object.__setattr__"))
theorem tW.get{K:PySem.W.Frag}{C:Addr}(c:tW K C)(f:Str):PySem.W.plainGet K C f=true:=c.pg
def aY(K:PySem.W.Frag)(C:Addr)(f:Str):Prop:=PySem.W.findIn K (.ref C) f=some none
def aY.ac6{K:PySem.W.Frag}{C:Addr}{f:Str}(n:aY K C f):PySem.W.takerIn K C f=some none:=by
 unfold PySem.W.takerIn;rw[show PySem.W.findIn K (.ref C) f=some none from n]
 rfl
structure Meth(K:PySem.W.Frag)(C:Addr)(m:Str)(f:Addr):Prop where
 at_:PySem.W.findIn K (.ref C) m=some (some (.ref f))
 fn:PySem.W.isFn K (.ref f)=true
 kp:PySem.W.keepIn K (.ref f)=true
section
variable{X:Cx}{dI:List (Addr×Obj)}{σ:St}{H:Hp}{s:Shared}{a C dx:Addr}{fs:List (Str×V)}{f:Str}{v:V}{A:Around}{E:Value->Shared->Prop}
def F7{b:Bool}{Q:Value->Shared->Prop}(I:Inv X dI σ H s)(e:H a=some (.ins C dx fs))(c:tW X.K C)(n:aY X.K C f)(l:fs.lookup f=some v)
  (h:∀u i,Inv X dI σ H i->RelV v u->Q u i):wpAny (model X.prog X.w) A (getAttr (.ref a) f b) Q E s:=by
 obtain⟨m,O,r,_,_,_⟩:=Fe I.hok e;obtain⟨u,j,g⟩:=yT.some_of (v:=v) (o:=m f) (by rw[<- l];exact r f);exact get_map I.oS O (c.get f) c.hd n j (Tn g) (h u _ (I.tok _) g)
def FR{m:Str}{g:Addr}{pl:Sem Bool}{Q:Value×List Value->Shared->Prop}(I:Inv X dI σ H s)(e:H a=some (.ins C dx fs))(c:tW X.K C)(k:Meth X.K C m g)(l:fs.lookup m=none)
  (h:Q (.ref g,[.ref a]) s):wpAny (model X.prog X.w) A (getMethod (.ref a) m pl) Q E s:=by
 obtain⟨b,O,r,_,_,_⟩:=Fe I.hok e;have i:b m=none:=yT.none_of (by rw[<- l];exact r m);exact Yf I.oS O (c.get m) k.at_ k.fn i h
def Hw{y:V}{u:Value}{Q:Unit->Shared->Prop}(I:Inv X dI σ H s)(e:H a=some (.ins C dx fs))(c:tW X.K C)(n:aY X.K C f)(J:fs.length<1000)(t:RelV y u)
  (h:∀m,Inv X dI σ (upd H a (.ins C dx (ku f y fs))) m->Q .unit m):wpAny (model X.prog X.w) A (setAttr (.ref a) f u) Q E s:=by
 obtain⟨p,O,r,j,_,l⟩:=Fe I.hok e;have D:(fs.map (·.1)).length<=sizeLine:=by rw[gm,af7];lia
 refine Zw I.oS O c.sa c.po n.ac6 c.hd j D λh' i F=>h _ ?_;have hd:∃o,h'.get? dx=some o:=let ⟨o,_,_,e',_⟩:=i.ns;⟨o,e'⟩;refine I.write (x:=a) (e:=dx) (by rw[e];exact True.intro) (.inr l) (λb q B z=>(F.2 b B).trans z) hd ?_;refine⟨by rwa[ai O.ne],?_,O.ne,i.obj,_,i.ns,λg=>?_,λg G=>?_⟩
 .have:=DQ f y fs;lia
 .show yT ((ku f y fs).lookup g) (if g=f then some u else p g);rw[Ej];by_cases q:g=f
  .rwa[eE q,eE q]
  .rw[er q,er q];exact r g
 .by_cases q:g=f
  .rw[q];exact(DM f y fs).1
  .refine (DM f y fs).2 g (j g λz=>G ?_);show(if g=f then some u else p g)=none;rwa[er q]
def Inv.made(I:Inv X dI σ H s):Inv X dI σ (upd (upd H s.heap.objs.size (.own (s.heap.objs.size+1))) (s.heap.objs.size+1) (.ins C s.heap.objs.size []))
  {s with heap:=(s.heap.push PySem.W.emptyDict).push (PySem.W.instObj C s.heap.objs.size)}:=by
 have e1:(s.heap.push PySem.W.emptyDict).get? s.heap.objs.size=some PySem.W.emptyDict:=xo s.heap rfl
 have e2:((s.heap.push PySem.W.emptyDict).push (PySem.W.instObj C s.heap.objs.size)).get? (s.heap.objs.size+1)=some (PySem.W.instObj C s.heap.objs.size):=by
  have:=xo (s.heap.push PySem.W.emptyDict) (o:=PySem.W.instObj C s.heap.objs.size) rfl;rwa [agB] at this
 have e3:(s.heap.push PySem.W.emptyDict).Ns s.heap.objs.size (λ_=>none):=⟨PySem.W.emptyDict,#[],_,e1,rfl,(λe h=>absurd h (by simp)),λ_=>rfl⟩;have g:=I.laid (a:=s.heap.objs.size) (o:= .own (s.heap.objs.size+1)) (h':=s.heap.push PySem.W.emptyDict) (t':=s.toks) (λb u q=>q4 _ q) (fC _) ⟨_,e1⟩;refine g.laid (a:=s.heap.objs.size+1) (o:= .ins C s.heap.objs.size []) (t':=s.toks) (λb u q=>q4 _ q) (ahL (agB _ _)) ?_;have ne:s.heap.objs.size≠s.heap.objs.size+1:=nz (afn _);refine⟨by rw[ai ne,ae],vr _,ne,e2,λ_=>none,(Heap.Ns1.of_empty e3).at λo q=>q4 _ q,λ_=>True.intro,λy c=>absurd rfl c⟩
theorem Zu{prog:Program}{w:World}{env:Env}{e:Expr}{f:Str}{c:Pos}{s:Shared}{Q:Value->Shared->Prop}(g:attributeBase e f env (eval e env)=eval e env)
  (h:wpAny (model prog w) A (eval e env) (λo b=>wpAny (model prog w) A (getAttr o f true) Q E b) E s):wpAny (model prog w) A (eval (.Attribute e f c) env) Q E s:=
 Attribute_any_ h (by rw[arm_eval_Attribute,g])
end
def acQ(K:PySem.W.Frag)(e:TE)(f:Str):TE:=λσ H Q=>e σ H λx b=>∃a C c fs v,x=.ref a/\b a=some (.ins C c fs)/\tW K C/\aY K C f/\fs.lookup f=some v/\Q v b
def adk(K:PySem.W.Frag)(g h:TE)(f:Str):TS:=λD σ H=>h σ H λy e=>g σ e λx c=>∃a C b fs,x=.ref a/\c a=some (.ins C b fs)/\tW K C/\aY K C f/\fs.length<1000∧
 D.nx σ (upd c a (.ins C b (ku f y fs)))
def acx(X:Cx)(a:Operator)(b:V->V->Hp->VK->Prop):Prop:=
 ∀(dI:List (Addr×Obj)) (s:Shared) (σ:St) (H:Hp) (x y:V) (u v:Value) (Q:VK),Inv X dI σ H s->RelV x u->RelV y v->b x y H Q->wpAny (model X.prog X.w) X.A (inplaceOp a u v) (EP X dI σ Q) X.xe s
def aai(K:PySem.W.Frag)(i j:TE)(m:V->V->Hp->VK->Prop)(f:Str):TS:=λD σ H=>i σ H λx e=>∃a C h fs v,x=.ref a/\e a=some (.ins C h fs)/\tW K C/\aY K C f/\fs.lookup f=some v∧
 j σ e λy l=>m v y l λz g=>∃c b,g a=some (.ins C c b)/\b.length<1000/\D.nx σ (upd g a (.ins C c (ku f z b)))
section
variable{X:Cx}{o e value:Expr}{f:Str}{pos pos' tpos:Pos}{ta tv:TE}
def aw(i:PE X e ta)(r:attributeBase e f X.env (eval e X.env)=eval e X.env):PE X (.Attribute e f pos) (acQ X.K ta f):=by
 intro dI s σ H Q I h;refine Zu r (i.th I h λu z x g m j p=>?_);obtain⟨a,C,y,fs,v,ex,t,c,n,l,q⟩:=p;subst ex;obtain rfl:u=Value.ref a:=j;exact F7 m t c n l λB A w b=>⟨v,g,w,b,q⟩
def aH(r:PE X o ta)(w:PE X value tv)(hs:swapsWith value (some (.Attribute o f pos')) pos.line X.env=pure false):PS X (.Assign [.Attribute o f pos'] value pos) (adk X.K ta tv f):=by
 intro dI s σ H D I h;refine plainObj_wpAny_Assign_Attribute (w.th I h λu G y A j m q=>r.th j q λg J x E z i p=>?_) hs;obtain⟨a,C,F,fs,ex,t,c,n,l,b⟩:=p;subst ex;obtain rfl:g=Value.ref a:=i;exact Hw z t c n l m λB v=>⟨σ,_,v,b⟩
def yi{m:Operator}{j:V->V->Hp->VK->Prop}(A:PE X o ta)(E:PE X value tv)(i:acx X m j):PS X (.AugAssign (.Attribute o f tpos) m value pos) (aai X.K ta tv j f):=by
 intro dI s σ H D I h;refine wpAny_AugAssign_AttributeAny (A.th I h λJ s1 x Y t M b=>?_);obtain⟨a,C,dx,fs,v,ex,Q,c,n,l,q⟩:=b;subst ex;obtain rfl:J=Value.ref a:=M;refine F7 t Q c n l λu s2 F p=>E.th F q λU G y r B O S=>thE (i dI G σ r v y u U _ B p O S) λw4 s4 z H3 N W b=>?_;obtain⟨T,R,g,w,L⟩:=b;exact Hw N g c n w W λZ P=>⟨σ,_,P,L⟩
def aeg:V->V->Hp->VK->Prop:=λx y H Q=>∃i j,x=.int i/\y=.int j/\Q (.int (i+j)) H
def aed:V->V->Hp->VK->Prop:=λx y H Q=>∃i j,x=.int i/\y=.int j/\Q (.int (i-j)) H
def WV:acx X .Add aeg:=by
 rintro dI s σ H x y u v Q I a b ⟨i,j,rfl,rfl,q⟩;obtain⟨t,rfl⟩:=(show ∃t,u=Value.int i t from a);obtain⟨t',rfl⟩:=(show ∃t',v=Value.int j t' from b);exact PyProof.Rows.iadd_int ⟨.int (i+j),H,I.tok _,⟨_,rfl⟩,q⟩
def Vh:acx X .Sub aed:=by
 rintro dI s σ H x y u v Q I a b ⟨i,j,rfl,rfl,q⟩;obtain⟨t,rfl⟩:=(show ∃t,u=Value.int i t from a);obtain⟨t',rfl⟩:=(show ∃t',v=Value.int j t' from b);exact PyProof.Rows.isub_int ⟨.int (i-j),H,I.tok _,⟨_,rfl⟩,q⟩
end
section
variable{X:Cx}{dI:List (Addr×Obj)}{σ:St}{H:Hp}{s:Shared}{A:Around}{E:Value->Shared->Prop}{Q:Value->Shared->Prop}{c:Value}{b:Bool}
inductive CB(K:PySem.W.Frag)(H:Hp):V->Value->Prop where
 |non:CB K H .non (.type "NoneType")
 |bl (x:Bool):CB K H (.bl x) (.type "bool")
 |int (i:Int):CB K H (.int i) (.type "int")
 |str (x:Str):CB K H (.str x) (.type "str")
 |flt (x:UInt64):CB K H (.flt x) (.type "float")
 |lst {a:Addr} {xs:List V} (e:H a=some (.lst xs)):CB K H (.ref a) (.type "list")
 |frz {a:Addr} {o:Obj} {xs:List V} (e:H a=some (.frz o (.lst xs))):CB K H (.ref a) (.type "list")
 |tup {a:Addr} {xs:List V} (e:H a=some (.tup xs)):CB K H (.ref a) (.type "tuple")
 |dK {a:Addr} {fy:List (Key×V)} (e:H a=some (.dK fy)):CB K H (.ref a) (.type "dict")
 |dT {a:Addr} {fy:List (List Key×V)} (e:H a=some (.dT fy)):CB K H (.ref a) (.type "dict")
 |ins {a C dx:Addr} {fs:List (Str×V)} (e:H a=some (.ins C dx fs)) (cl:tW K C) (ha:PySem.W.findIn K (.ref C) "__class__"=some (some (.builtin "object.__class__")))
   (hn:PySem.W.specialIn K (.builtin "object.__class__") "__get__"=some (some (.builtin "getset_descriptor.__get__"))) (htk:PySem.W.takesIn K (.builtin "object.__class__")=some true)
   (hm:PySem.W.mroIn K C (.type "object")=some true):CB K H (.ref a) (.ref C)
def Tc{x:V}{u t:Value}(I:Inv X dI σ H s)(f:RelV x u)(ty:CB X.K H x t)(e:PySem.W.kitOne X.K t c=some b)(h:∀tk,Q (.bool b) {s with toks:=tk}):
  wpAny (model X.prog X.w) A (call (.builtin "isinstance") [u,c]) Q E s:=by
 cases ty with
 |non=>cases (show u=Value.none from f);exact afD PySem.W.kitx_none I.oS True.intro e (λz=>nomatch z) h
 |bl y=>cases (show u=Value.bool y from f);exact afD PySem.W.kitx_bool I.oS True.intro e (λz=>nomatch z) h
 |int i=>obtain⟨t,q⟩:=(show ∃t,u=Value.int i t from f);cases q;exact afD PySem.W.kitx_int I.oS True.intro e (λz=>nomatch z) h
 |str y=>obtain⟨t,q⟩:=(show ∃t,u=Value.str y t from f);cases q;exact afD PySem.W.kitx_str I.oS True.intro e (λz=>nomatch z) h
 |flt y=>obtain⟨t,q⟩:=(show ∃t,u=Value.float y t from f);cases q;exact afD PySem.W.kitx_float I.oS True.intro e (λz=>nomatch z) h
 |@lst a xs ea=>
  cases (show u=Value.ref a from f);obtain⟨_,_,n,_,g⟩:=(show dZ X.prog X.w H s.heap a (.lst xs) from I.hok a _ ea);exact afD PySem.W.kitx_list I.oS ⟨_,g,rfl⟩ e (λz=>nomatch z) h
 |@frz a ob xs ea=>
  cases (show u=Value.ref a from f);obtain⟨_,_,_,n,_,g⟩:=(show dZ X.prog X.w H s.heap a (.frz ob (.lst xs)) from I.hok a _ ea);exact afD PySem.W.kitx_list I.oS ⟨_,g,rfl⟩ e (λz=>nomatch z) h
 |@tup a xs ea=>
  cases (show u=Value.ref a from f);obtain⟨_,_,_,p⟩:=(show dZ X.prog X.w H s.heap a (.tup xs) from I.hok a _ ea);obtain⟨o,g,j,_⟩:=p;exact afD PySem.W.kitx_tuple I.oS ⟨o,g,j⟩ e (λz=>nomatch z) h
 |@dK a fy ea=>
  cases (show u=Value.ref a from f);obtain⟨_,_,vs,_,p⟩:=(show dZ X.prog X.w H s.heap a (.dK fy) from I.hok a _ ea);obtain⟨o,es,l,g,j,_⟩:=p;exact afD PySem.W.kitx_dict I.oS ⟨o,g,j.1⟩ e (λz=>nomatch z) h
 |@dT a fy ea=>
  cases (show u=Value.ref a from f);obtain⟨_,_,xs,_,o,es,l,g,j,_⟩:=(show dZ X.prog X.w H s.heap a (.dT fy) from I.hok a _ ea);exact afD PySem.W.kitx_dict I.oS ⟨o,g,j.1⟩ e (λz=>nomatch z) h
 |@ins a C dx fs ea cl ha hn htk hm=>
  cases (show u=Value.ref a from f);obtain⟨m,O,_⟩:=Fe I.hok ea;obtain⟨r,J,_⟩:=O.look;exact afD (PySem.W.kitx_own (cl.get _) cl.hd ha hn htk hm) I.oS J e (λz=>nomatch z) h
end
structure eA(cm:Bool)(k:Nat)(A:Around):Prop where
 hd:cm=true->A.handled=none
 dp:A.depth+3*k+5<recursionLimit
 un:A.units+16*k+200<cLine
theorem eA.mono{j k:Nat}{A:Around}(r:eA cm k A)(h:j<=k):eA cm j A:=⟨r.hd,by have:=r.dp;lia,by have:=r.un;lia⟩
theorem eA.deeper{k:Nat}{A:Around}(r:eA cm (k+1) A)(env:Env):eA cm k (A.deeper env):=
 ⟨r.hd,by have:=r.dp;show A.depth+1+3*k+5<_;lia,by have:=r.un;show A.units+3+16*k+200<_;lia⟩
def PR{A:Around}{C:Addr}{us:List Value}{kw:List (Str×Value)}:(A.under (.builtin "type.__call__" ⟨.ref C::us,kw⟩)).depth=A.depth+1:=by
 first|rfl|simp[Around.under,Code.weight,Code.isCreation,Code.isGuard,Code.isCaller,Code.frames,Code.isFrame,guardIds]
def PB{A:Around}{C:Addr}{us:List Value}{kw:List (Str×Value)}:(A.under (.builtin "type.__call__" ⟨.ref C::us,kw⟩)).units=A.units+1:=by
 first|rfl|simp[Around.under,Code.cUnits,Code.frames,Code.isFrame]
theorem eA.make{k:Nat}{A:Around}(r:eA cm (k+1) A)(C:Addr)(us:List Value)(kw:List (Str×Value)):eA cm k (A.under (.builtin "type.__call__" ⟨.ref C::us,kw⟩)):=
 ⟨r.hd,by have:=r.dp;rw[PR];lia,by have:=r.un;rw[PB];lia⟩
def eA.depth{k:Nat}{A:Around}(r:eA cm k A):A.depth<recursionLimit:=by have:=r.dp;lia
def eA.units{k:Nat}{A:Around}(r:eA cm k A):A.units+64<cLine:=by have:=r.un;lia
def V7:TA:=λ_ H Q=>Q [] H
def aa0(e:TE)(a:TA):TA:=λσ H Q=>e σ H λx b=>a σ b λxs c=>Q (x::xs) c
section
variable{X:Cx}{e:Expr}{es:List Expr}{te:TE}{t:TA}{pos:Pos}
theorem ag:PA X [] V7:=λ_ _ _ _ H Q I h=>Calls.spliced_nil ⟨[],H,I,.nil,h⟩
def RT(l:PE X e te)(i:PA X es t)(hs:starEach (e::es) X.env=(false,eval e X.env)::starEach es X.env:=by rfl):PA X (e::es) (aa0 te t):=by
 intro pos dI s σ H Q I h;rw[hs];show wpAny _ _ (spliced ((false,eval e X.env)::backTo pos (starEach es X.env))) _ _ s;refine Calls.spliced_cons (l.th I h λu n x a j f b=>?_);exact thA (i pos dI n σ a _ j b) λus p xs g o m c=>⟨x::xs,g,o,.cons f m,c⟩
def ael(t:TA):TE:=λσ H Q=>t σ H λxs a=>xs.length<=sizeLine/\∀p,a p=none->Q (.ref p) (upd a p (.tup xs))
def aec(t:TA):TE:=λσ H Q=>t σ H λxs a=>xs.length<=sizeLine/\∀p,a p=none->Q (.ref p) (upd a p (.lst xs))
def lL{g}(h:PA X es t):PE X (.Tuple es g pos) (ael t):=by
 intro dI s σ H Q I j;refine wpAny_Tuple_spliced (h.th I j λus a xs c f r ⟨z,q⟩=>⟨by rwa[<- r.length],?_⟩);have i:c a.heap.objs.size=none:=f.hok.fresh (fC _);refine⟨.ref a.heap.objs.size,upd c a.heap.objs.size (.tup xs),f.laid (t':=a.toks) (λb u e=>q4 _ e) (fC _) ?_,rfl,q _ i⟩;exact⟨z,us,r,⟨_,xo _ rfl,rfl,_,rfl⟩⟩
def bw(h:PA X es t):PE X (.List es pos) (aec t):=by
 intro dI s σ H Q I i;refine wpAny_List_spliced (h.th I i λus a xs c f r ⟨z,q⟩=>⟨by rwa[<- r.length],?_⟩);have g:c a.heap.objs.size=none:=f.hok.fresh (fC _);refine⟨.ref a.heap.objs.size,upd c a.heap.objs.size (.lst xs),f.laid (t':=a.toks) (λb u e=>q4 _ e) (fC _) ?_,rfl,q _ g⟩;exact⟨z,us,0,r,xo _ rfl⟩
end
abbrev Sp:=List V->Hp->VK->XK->Prop
abbrev M4:=List Env->Hp->Shared->XK->Value->Shared->Prop
structure Qj(P:Program)(w:World)(K:PySem.W.Frag)(mg:Str->Option Value)(dH:Heap)(A:Around)(dN:List Env)(s:Shared)(H:Hp):Prop where
 frames:A.frames=some dN
 mod:Mod K mg dH
 bs:∀b o,dH.get? b=some o->s.heap.get? b=some o/\H b=none
 bsz:dH.objs.size<=s.heap.objs.size
 xf:s.heap.FunFrames dH dN
 frf:∀b∈F1 dN,H b=none
 hok:pD P w H s.heap
 bare:AllBare s.gens
def CE(dN:List Env)(P:Program)(w:World)(H:Hp)(s:Shared)(Q:VK)(u:Value)(a:Shared):Prop:=
 ∃v H',a.os=s.os/\AllBare a.gens/\Un (F1 dN) [] H H' s.heap a.heap/\pD P w H' a.heap/\RelV v u/\Q v H'
def CR(CX:M4)(dN:List Env)(P:Program)(w:World)(H:Hp)(s:Shared)(Q:VK)(E:XK)(r:Result)(a:Shared):Prop:=
 match r with
 |.ok (.ret u)=>CE dN P w H s Q u a
 |.ok _=>False
 |.error e=>CX dN H s E e a
structure aC(P:Program)(w:World)(K:PySem.W.Frag)(mg:Str->Option Value)(dH:Heap)(CX:M4)(cm:Bool)(k:Nat)(f:Addr)(fd:FuncData)(ps:List Str)(sp:Sp):Prop where
 len:∀vs H Q E,sp vs H Q E->vs.length=ps.length
 run:∀(A:Around) (dN:List Env) (s:Shared) (H:Hp) (args:Args) (us:List Value) (vs:List V) (Q:VK) (E:XK),eA cm k A->Qj P w K mg dH A dN s H->BindsTo s fd args (ps.zip us)->Vals vs us->sp vs H Q E→
  codeAny (model P w) A (.call (.ref f) args) (CR CX dN P w H s Q E) s
theorem aC.mono{P:Program}{w:World}{K:PySem.W.Frag}{mg:Str->Option Value}{dH:Heap}{CX:M4}{j k:Nat}{f:Addr}{fd:FuncData}{ps:List Str}{sp:Sp}(F:aC P w K mg dH CX cm j f fd ps sp)(h:j<=k):
  aC P w K mg dH CX cm k f fd ps sp:=⟨F.len,λA dN s H args us vs Q E a=>F.run A dN s H args us vs Q E (a.mono h)⟩
theorem aC.imp{P:Program}{w:World}{K:PySem.W.Frag}{mg:Str->Option Value}{dH:Heap}{CX:M4}{k:Nat}{f:Addr}{fd:FuncData}{ps:List Str}{sp a:Sp}(F:aC P w K mg dH CX cm k f fd ps sp)
  (h:∀vs H Q E,a vs H Q E->sp vs H Q E):aC P w K mg dH CX cm k f fd ps a:=
 ⟨λvs H Q E q=>F.len vs H Q E (h _ _ _ _ q),λA dN s H args us vs Q E c b e g hs=>F.run A dN s H args us vs Q E c b e g (h _ _ _ _ hs)⟩
theorem Qj.make{P:Program}{w:World}{K:PySem.W.Frag}{mg:Str->Option Value}{dH:Heap}{A:Around}{dN:List Env}{s:Shared}{H:Hp}(e:Qj P w K mg dH A dN s H)(C:Addr)(us:List Value)(kw:List (Str×Value)):
  Qj P w K mg dH (A.under (.builtin "type.__call__" ⟨.ref C::us,kw⟩)) dN s H:=⟨by first|exact e.frames|(simpa[Around.under,Code.envs,Code.isFrame,pushEnvs] using e.frames),e.mod,e.bs,e.bsz,e.xf,e.frf,e.hok,e.bare⟩
section
variable{X:Cx}{dI:List (Addr×Obj)}{σ:St}{H:Hp}{s s':Shared}
theorem Inv.acI(I:Inv X dI σ H s):Qj X.prog X.w X.K X.mg X.dH X.A X.stack s H:=
 ⟨I.ok.frames,I.ok.mod,I.bs,mf I.ok.bsz I.sz,I.stack,I.KN,I.hok,I.bare⟩
def Inv.after{Q:VK}{u:Value}(I:Inv X dI σ H s)(h:CE X.stack X.prog X.w H s Q u s'):EP X dI σ Q u s':=by
 obtain⟨v,H',os,bare,un,hok,r,q⟩:=h;obtain⟨c,g,d,t,a⟩:=s';obtain rfl:a=s.os:=os;exact⟨v,H',I.call (h':=c) (g':=g) (d':=d) (t':=t) (ch:=[]) un hok bare (λb z=>absurd z (by simp)),r,q⟩
end
def NR(sp:Sp)(a:List V)(E:St->XK)(t:TA):TE:=λσ H Q=>t σ H λvs b=>sp (vs++a) b Q (E σ)
def RK(C:Addr)(sp:Sp)(c:List V)(E:St->XK)(t:TA):TE:=λσ H Q=>t σ H λvs b=>∀x a,b x=none->b a=none->a≠x→
 sp (.ref x::(vs++c)) (upd (upd b a (.own x)) x (.ins C a [])) (λv e=>v=.non/\Q (.ref x) e) (E σ)
def Binds(K:PySem.W.Frag)(fd:FuncData)(ps:List Str)(ds:List Value):Prop:=
 ∀(s:Shared) (us:List Value),K.In s.heap->(us++ds).length=ps.length->BindsTo s fd ⟨us,[]⟩ (ps.zip (us++ds))
theorem Binds.all{K:PySem.W.Frag}{fd:FuncData}{ps:List Str}(h:∀us:List Value,us.length=ps.length->bindArgs fd ⟨us,[]⟩=pure (ps.zip us)):Binds K fd ps []:=λs us _ a=>by
 rw[su] at a ⊢;exact .of_eq (h us a)
def Passes(CX:M4)(X:Cx)(E:St->XK):Prop:=∀(dI:List (Addr×Obj)) (σ:St) (H:Hp) (s:Shared) (e:Value) (a:Shared),Inv X dI σ H s->CX X.stack H s (E σ) e a->X.xe e a
section
variable{X:Cx}{CX:M4}{k:Nat}{f C:Addr}{fd:FuncData}{ps:List Str}{sp:Sp}{oi:List V}{ds:List Value}{E:St->XK}{x m:Str}{p pos apos:Pos}{e o:Expr}{es:List Expr}{ta:TE}{t:TA}
def KI{dI:List (Addr×Obj)}{σ:St}{H:Hp}{s:Shared}{Q:VK}{us:List Value}{vs:List V}(F:aC X.prog X.w X.K X.mg X.dH CX cm k f fd ps sp)(i:eA cm k X.A)(j:Binds X.K fd ps ds)(hd:Vals oi ds)(g:Passes CX X E)
  (I:Inv X dI σ H s) (r:Vals vs us) (h:sp (vs++oi) H Q (E σ)):wpAny (model X.prog X.w) X.A (call (.ref f) us) (EP X dI σ Q) X.xe s:=by
 have b:Vals (vs++oi) (us++ds):=r.append hd;have l:(us++ds).length=ps.length:=by rw[<- b.length];exact F.len _ _ _ _ h
 refine wpAny_call (agO (F.run X.A X.stack s H ⟨us,[]⟩ (us++ds) (vs++oi) Q (E σ) i I.acI (j s us I.oS l) b h) λr n a=>?_);cases r with
 |error e=>exact g dI σ H s e n I a
 |ok c=>
  cases c with
  |ret u=>exact I.after a
  |next=>exact False.elim a
  |brk=>exact False.elim a
  |cont=>exact False.elim a
def ZN(F:aC X.prog X.w X.K X.mg X.dH CX cm k f fd ps sp)(j:eA cm k X.A)(y:Gl X x)(u:X.mg x=some (.ref f))(v:PySem.W.keepIn X.K (.ref f)=true)(l:Binds X.K fd ps ds)(hd:Vals oi ds)(i:Passes CX X E)
  (n:PA X (e::es) t) (b:(x==("__debug__":Str))=false:=by decide) (g:starEach (e::es) X.env=(false,eval e X.env)::starEach es X.env:=by rfl) (a:(backTo pos (starEach es X.env)).any (·.1)=false:=by rfl):
  PE X (.Call (.Name x p) (e::es) [] pos) (NR sp oi E t):=by
 intro dI s σ H Q I h;refine ags (yk I y u ?_ b);refine agP (h₀:=X.dH) I.ok.mod.kin v (n.th I h λus B vs z c r q=>⟨c.oS,?_⟩) g a;exact KI F j l hd i c r q
structure Mk(K:PySem.W.Frag)(C f:Addr):Prop where
 makes:PySem.W.makesIn K C=true
 init:PySem.W.findIn K (.ref C) "__init__"=some (some (.ref f))
 fn:PySem.W.isFn K (.ref f)=true
 kp:PySem.W.keepIn K (.ref C)=true
def O0{dI:List (Addr×Obj)}{σ:St}{H:Hp}{s:Shared}{Q:VK}{us:List Value}{vs:List V}(M:Mk X.K C f)(F:aC X.prog X.w X.K X.mg X.dH CX cm k f fd ps sp)(z:eA cm (k+1) X.A)(B:Binds X.K fd ps ds)(hd:Vals oi ds)
  (n:Passes CX X E) (I:Inv X dI σ H s) (r:Vals vs us)
  (h:∀x b,H x=none->H b=none->b≠x->sp (.ref x::(vs++oi)) (upd (upd H b (.own x)) x (.ins C b [])) (λv q=>v=.non/\Q (.ref x) q) (E σ)):
  wpAny (model X.prog X.w) X.A (call (.ref C) us) (EP X dI σ Q) X.xe s:=by
 have i:=h (s.heap.objs.size+1) s.heap.objs.size (I.hok.fresh (af8 _)) (I.hok.fresh (fC _)) (nz (afn _));have c:=Inv.made (C:=C) I;have g:Vals (V.ref (s.heap.objs.size+1)::(vs++oi)) (Value.ref (s.heap.objs.size+1)::(us++ds)):= .cons rfl (r.append hd)
 have G:(Value.ref (s.heap.objs.size+1)::us++ds).length=ps.length:=by
  have e:=g.length;rw[F.len _ _ _ _ i] at e;exact e.symm
 refine wpAny_call (WS (f:=f) I.oS M.makes M.init (S4.mp M.fn) (agO (F.run _ X.stack _ _ ⟨Value.ref (s.heap.objs.size+1)::us,[]⟩ (Value.ref (s.heap.objs.size+1)::(us++ds)) _ _ (E σ) (z.make C us [])
  (c.acI.make C us []) (B _ (Value.ref (s.heap.objs.size+1)::us) c.oS G) g i) λr L a=>?_))
 cases r with
 |error e=>exact n dI σ _ _ e L c a
 |ok l=>
  cases l with
  |ret u=>
   obtain⟨v,H',D,y,j,J⟩:=c.after a;subst j;exact⟨y,⟨V.ref (s.heap.objs.size+1),H',D,rfl,J⟩⟩
  |next=>exact False.elim a
  |brk=>exact False.elim a
  |cont=>exact False.elim a
def Z5(M:Mk X.K C f)(F:aC X.prog X.w X.K X.mg X.dH CX cm k f fd ps sp)(j:eA cm (k+1) X.A)(v:Gl X x)(u:X.mg x=some (.ref C))(l:Binds X.K fd ps ds)(hd:Vals oi ds)(i:Passes CX X E)
  (n:PA X (e::es) t) (b:(x==("__debug__":Str))=false:=by decide) (g:starEach (e::es) X.env=(false,eval e X.env)::starEach es X.env:=by rfl) (a:(backTo pos (starEach es X.env)).any (·.1)=false:=by rfl):
  PE X (.Call (.Name x p) (e::es) [] pos) (RK C sp oi E t):=by
 intro dI s σ H Q I h;refine ags (yk I v u ?_ b);refine agP (h₀:=X.dH) I.ok.mod.kin M.kp (n.th I h λus z vs y c r q=>⟨c.oS,?_⟩) g a;exact O0 M F j l hd i c r q
def Ws(M:Mk X.K C f)(F:aC X.prog X.w X.K X.mg X.dH CX cm k f fd ps sp)(i:eA cm (k+1) X.A)(g:Gl X x)(j:X.mg x=some (.ref C))(c:Binds X.K fd ps ds)(hd:Vals oi ds)(b:Passes CX X E)
  (a:(x==("__debug__":Str))=false:=by decide):PE X (.Call (.Name x p) [] [] pos) (RK C sp oi E V7):=by
 intro dI s σ H Q I h;refine ags (yk I g j ?_ a);exact PySem.W.callWith_K0 I.oS M.kp (O0 (us:=[]) M F i c hd b I .nil h)
end
section
variable{X:Cx}{CX:M4}{k:Nat}{f C:Addr}{fd:FuncData}{ps ks:List Str}{sp:Sp}{E:St->XK}{x m:Str}{p pos apos kpos:Pos}{e o:Expr}{es:List Expr}{kws:List Keyword}{te ta:TE}{t tk:TA}{nm:Option Str}
variable{g:List Value->List Value->List Value}{gV:List V->List V->List V}
end
structure ao(N P:List Str)(sc:Scope):Prop where
 kind:sc.kind=.function
 co:sc.isCoroutine=false
 gen:sc.isGenerator=false
 nd:N.Nodup
 pre:N.take P.length=P
 par:∀x∈P,sc.names.lookup x=some .local\/sc.names.lookup x=some .cell
 acz:∀y∈sc.names,y.2≠ .free
def JZ{a:Str->Option NameKind}{x:Str}:∀{binds:List (Str×Value)} {m:Str->Option Value},(∀v,(x,v)∉binds)->bindL a binds m x=m x
 |[],_,_=>rfl
 |(n,v)::r,m,h=>by
  unfold bindL;rw[JZ λw b=>h w (ri _ b)]
  split
  .have:x≠n:=by rintro rfl;exact h v ov
   simp[this]
  .rfl
def JR{a:Str->Option NameKind}{x:Str}:∀{binds:List (Str×Value)} {m:Str->Option Value},(∀v,(x,v)∉binds)->bindC a binds m x=m x
 |[],_,_=>rfl
 |(n,v)::r,m,h=>by
  unfold bindC;rw[JR λw b=>h w (ri _ b)]
  split
  .rfl
  .have:x≠n:=by rintro rfl;exact h v ov
   simp[this]
theorem Kq{a:Str->Option NameKind}{x:Str}{v:Value}:∀{P:List Str} {vs:List Value} {i:Nat} {m:Str->Option Value},P.Nodup->P[i]? =some x->vs[i]? =some v->a x=some .local→
  bindL a (P.zip vs) m x=some v
 |[],_,_,_,_,h,_,_=>by simp at h
 |_::_,[],_,_,_,_,h,_=>by simp at h
 |p::P,w::vs,0,m,nd,h1,h2,hk=>by
  simp at h1 h2;subst h1;subst h2;show bindL a ((p,w)::P.zip vs) m p=_;unfold bindL;rw[JZ λv b=>(aha.mp nd).1 (ahF b).1,eE hk];simp
 |p::P,w::vs,i+1,m,nd,h1,h2,hk=>by
  show bindL a ((p,w)::P.zip vs) m x=_;unfold bindL;exact Kq (i:=i) (aha.mp nd).2 (by simpa using h1) (by simpa using h2) hk
theorem Kv{a:Str->Option NameKind}{x:Str}{v:Value}:∀{P:List Str} {vs:List Value} {i:Nat} {m:Str->Option Value},P.Nodup->P[i]? =some x->vs[i]? =some v->a x≠some .local→
  bindC a (P.zip vs) m x=some v
 |[],_,_,_,_,h,_,_=>by simp at h
 |_::_,[],_,_,_,_,h,_=>by simp at h
 |p::P,w::vs,0,m,nd,h1,h2,hk=>by
  simp at h1 h2;subst h1;subst h2;show bindC a ((p,w)::P.zip vs) m p=_;unfold bindC;rw[JR λv b=>(aha.mp nd).1 (ahF b).1,er hk];simp
 |p::P,w::vs,i+1,m,nd,h1,h2,hk=>by
  show bindC a ((p,w)::P.zip vs) m x=_;unfold bindC;exact Kv (i:=i) (aha.mp nd).2 (by simpa using h1) (by simpa using h2) hk
def start(N:List Str)(vs:List V):St:=vs.map some++List.replicate (N.length-vs.length) none
def vi(cm:Bool)(CX:M4)(P:Program)(w:World)(K:PySem.W.Frag)(mg:Str->Option Value)(dH:Heap)(N:List Str)(a:Str)(scope:Scope)(f:Addr)(c:Value)(A:Around)(dN:List Env)(s:Shared)(H:Hp)(E:XK):Cx where
 prog:=P
 w:=w
 K:=K
 mg:=mg
 dH:=dH
 A:=A.deeper (envOfC a scope s.heap.objs.size f c)
 N:=N
 s₀:=s
 H₀:=H
 env:=envOfC a scope s.heap.objs.size f c
 dN:=dN
 stack:=envOfC a scope s.heap.objs.size f c::dN
 ex:=[]
 calm:=cm
 fn:=λ_=>true
 pn:=[]
 xe:=λe h=>wpAny (model P w) (A.deeper (envOfC a scope s.heap.objs.size f c)) (leaving (envOfC a scope s.heap.objs.size f c) e) (λ_ b=>CX dN H s E e b) (λg b=>CX dN H s E g b) h
def Ni{a:Scope}{n:Nat}{x:Str}(h:a.names.lookup x=some .cell):∃c,(cellsFrom n a.names []).lookup x=some c:=by
 have q:=PySem.W.cellsFrom_some a.names n [] (.inl h);exact Option.isSome_iff_exists.mp q
def TN{CX:M4}{P:Program}{w:World}{K:PySem.W.Frag}{mg:Str->Option Value}{dH:Heap}{N ps:List Str}{g:Str}{scope:Scope}{f:Addr}{C:Value}{A:Around}{dN:List Env}{s I:Shared}{H:Hp}{E:XK}{us:List Value}{vs:List V}
  (S:ao N ps scope) (hd:cm=true->A.handled=none) (l:Qj P w K mg dH A dN s H) (R:vs.length=ps.length) (r:Vals vs us)
  (x:InCallC s s.heap.objs.size (bindL (envOfC g scope s.heap.objs.size f C).kindOf (ps.zip us) λ_=>none) (cellsFrom (s.heap.objs.size+1) scope.names []) (bindC (envOfC g scope s.heap.objs.size f C).kindOf (ps.zip us) λ_=>none) I):
  Inv (vi cm CX P w K mg dH N g scope f C A dN s H E) [] (start N vs) H I:=by
 have L:ps.length<=N.length:=by have:=ix List.length S.pre;rw[XP] at this;lia
 obtain⟨D,tk,rfl,J⟩:=x.done;have m:∀b:Addr,b∉(vi cm CX P w K mg dH N g scope f C A dN s H E).ex:=λb z=>absurd (show b∈([]:List Addr) from z) (by simp)
 refine⟨⟨l.mod,S.kind,rfl,rfl,fC _,λy z c D j=>?_,λy o=>?_,λy c _ h=>?_,hd,Around.frames_deeper l.frames,.inr ⟨rfl,rfl⟩,λb z=>absurd z (m b),l.bs,l.bsz,λb _ _=>m b,λb z=>absurd z (m b),l.xf,l.frf⟩,
  rfl,l.bare,Un.kept J,⟨_,x.toInCall.ns,λi y v D j Q=>?_⟩,λy c h=>⟨_,x.cell y c h⟩,l.hok.fresh (fC _),λy c h=>?_,λp B=>absurd (show p∈([]:List (Addr×Obj)) from B) (by simp),l.hok.kept J,?_⟩
 .exact name_of_addr x.apart (afW D) (afW j)
 .have o:scope.names.lookup y=some .cell\/scope.names.lookup y=some .free:=o;rcases o with o|o
  .exact Ni o
  .exact absurd rfl (S.acz _ (afW o))
 .exact afC (x.above y c (afW h))
 .have F:i<vs.length:=by
   unfold start at j;by_cases F:i<vs.length
   .exact F
   .rw[ae2 (by simpa using F)] at j;rw[List.getElem?_replicate] at j
    split at j<;>cases j
  have M:vs[i]? =some v:=by
   unfold start at j;rw[ae1 (by simpa using F),jl] at j;cases e:vs[i]? with
   |none=>rw[e] at j;cases j
   |some a=>rw[e] at j;cases j;rfl
  obtain⟨u,G,O⟩:=r.get M
  have B:ps[i]? =some y:=by
   rwa[<- S.pre,List.getElem?_take_of_lt ()]
  have t:ps.Nodup:=by rw[<- S.pre];exact S.nd.sublist (List.take_sublist _ _)
  refine⟨u,O,?_⟩;rcases S.par y (afJ B) with k|k
  .exact .inl ⟨k,Kq t B G k⟩
  .obtain ⟨c,e⟩:=Ni (n:=s.heap.objs.size+1) k;refine .inr ⟨.inl k,c,e,?_⟩;have q:=x.cell y c e;rw[Kv t B G (by show scope.names.lookup y≠_;rw[k];decide)] at q;exact q
 .exact l.hok.fresh (afC (x.above y c (afW h)))
 .unfold start;show _=N.length;rw[js,gm,afA]
  lia
def adb{CX:M4}{P:Program}{w:World}{K:PySem.W.Frag}{mg:Str->Option Value}{dH:Heap}{k:Nat}{f:Addr}{name a:Str}{g:Arguments}{h:List Stmt}{scope:Scope}{T kV z R c ct oc:Value}{O Z:Option Addr}
  {D:Array (Option Value)} {N ps:List Str} {sp:Sp} (lk:K.lookup f=some ⟨oc,Z,.func (PySem.W.fnOf name a g h scope T kV z R O c ct),D⟩) (L:PySem.W.codeIn K c a=true) (S:ao N ps scope)
  (len:∀vs H Q E,sp vs H Q E->vs.length=ps.length)
  (l:∀(A:Around) (dN:List Env) (s:Shared) (H:Hp) (vs:List V) (Q:VK) (E:XK),eA cm k (A.deeper (envOfC a scope s.heap.objs.size f c))->sp vs H Q E→
   ∃t,qx (vi cm CX P w K mg dH N a scope f c A dN s H E) h t/\t {nx:=λ_ H'=>Q .non H',rt:=Q} (start N vs) H):
  aC P w K mg dH CX cm (k+1) f (PySem.W.fnOf name a g h scope T kV z R O c ct) ps sp:=by
 refine⟨len,λA dN s H args us vs Q E G p hb r m=>?_⟩;have hl:=len _ _ _ _ m;have U:K.In s.heap:=p.mod.kin.keeps λb o e=>(p.bs b o e).1;have C:s.heap.NoLimit:=p.mod.nolimit.keeps λb o e=>(p.bs b o e).1
 have j:∀y∈ps.zip us,scope.names.lookup y.1=some .local\/(scope.names.lookup y.1=some .cell/\((cellsFrom (s.heap.objs.size+1) scope.names []).lookup y.1).isSome=true):=λ⟨n,v⟩ hy=>by
  rcases S.par n (ahF hy).1 with q|q
  .exact .inl q
  .exact .inr ⟨q,PySem.W.cellsFrom_some _ _ _ (.inl q)⟩
 refine codeAny_call_function G.depth (U _ _ lk) rfl S.co S.gen rfl (PySem.W.codeRec_of U L) (hb _ _ _ _ ?_);refine wpAny_newFunctionEnv_cells S.kind j λenv he Y x=>?_;subst he;refine⟨C.keeps x.toInCall.keep,codeAny_func ?_⟩;obtain⟨t,ht,hq⟩:=l A dN s H vs Q E (G.deeper _) m;have I:Inv (vi cm CX P w K mg dH N a scope f c A dN s H E) [] (start N vs) H Y:=TN S G.hd p hl r x;refine xm (ht [] Y (start N vs) H _ I hq) (λfl M hs=>?_) λe M hs=>hs
 have B:∀{i:St} {H':Hp} {v:V} {u:Value},Inv (vi cm CX P w K mg dH N a scope f c A dN s H E) [] i H' M->RelV v u->Q v H'->CE dN P w H s Q u M:=
  λ{i H' v u} J F q=>⟨v,H',J.os,J.bare,J.dH,J.hok,F,q⟩
 cases fl with
 |ret u=>
  obtain⟨v,i,H',J,F,q⟩:=hs;exact B J F q
 |next=>
  obtain⟨i,H',J,q⟩:=hs;exact B (v:=V.non) (u:=Value.none) J rfl q
 |brk=>
  obtain⟨_,_,_,q⟩:=hs;exact False.elim q
 |cont=>
  obtain⟨_,_,_,q⟩:=hs;exact False.elim q
section
variable{X:Cx}{x:Str}{p pos:Pos}{e:Expr}{es:List Expr}{t:TA}{id T:String}{r:List V->Hp->VK->Prop}
def tCB(r:List V->Hp->VK->Prop)(t:TA):TE:=λσ H Q=>t σ H λvs a=>r vs a Q
def aQ(o:sY X (.builtin id) r)(v:Gl X x)(n:X.mg x=none)(q:bootBuiltins x=some (.builtin id))(l:PA X (e::es) t)(u:x≠"__name__":=by decide)(b:(x==("__debug__":Str))=false:=by decide)
  (g:starEach (e::es) X.env=(false,eval e X.env)::starEach es X.env:=by rfl) (a:(backTo pos (starEach es X.env)).any (·.1)=false:=by rfl):PE X (.Call (.Name x p) (e::es) [] pos) (tCB r t):=by
 intro dI s σ H Q I h;refine ags (xV I v n q ?_ u b);exact PyProof.Rows.callWith_builtin1 (l.th I h λus m vs c j i f=>o dI m σ c vs us Q j i f) g a
def bK(o:sY X (.type T) r)(v:Gl X x)(n:X.mg x=none)(q:bootBuiltins x=some (.type T))(l:PA X (e::es) t)(u:x≠"__name__":=by decide)(b:(x==("__debug__":Str))=false:=by decide)
  (g:starEach (e::es) X.env=(false,eval e X.env)::starEach es X.env:=by rfl) (a:(backTo pos (starEach es X.env)).any (·.1)=false:=by rfl):PE X (.Call (.Name x p) (e::es) [] pos) (tCB r t):=by
 intro dI s σ H Q I h;refine ags (xV I v n q ?_ u b);exact afV (l.th I h λus m vs c j i f=>o dI m σ c vs us Q j i f) g a
end
end L2
namespace HT
open PySem PyProof.Rows
section
open PySem.SeqAt
open PySem.AutoSeq1 (wpAny_loadPart')
open PySem.MeetsSeq PySem.MeetsSeq2 PySem.MeetsSeq3
end
section
variable{prog:Program}{w:World}{A:Around}{E:Value->Shared->Prop}{s:Shared}
def tL(n d:Nat):Option Int->Nat
 |none=>d
 |some v=>if v<0 then (v+(n:Int)).toNat else min v.toNat n
def Rn(n d k:Nat):tL n d (some (k:Int))=min k n:=by
 show(if (k:Int)<0 then ((k:Int)+(n:Int)).toNat else min (k:Int).toNat n)=min k n;rw[er (),afO]
end
end HT
namespace L2
open PySem PySem.Spec PyProof.Rows
abbrev TO:=St->Hp->(Option Int->Hp->Prop)->Prop
def PO(X:Cx)(e:Option Expr)(t:TO):Prop:=
 ∀(a:List (Addr×Obj)) (s:Shared) (b:St) (H:Hp) (Q:Option Int->Hp->Prop),Inv X a b H s->t b H Q→
  wpAny (model X.prog X.w) X.A (evalPart e X.env) (λu c=>∃o H',Inv X a b H' c/\IsPart u o/\Q o H') X.xe s
def aad:TO:=λ_ H Q=>Q none H
def adq(t:TE):TO:=λb H Q=>t b H λx a=>∃i,x=.int i/\Q (some i) a
section
variable{X:Cx}{e:Expr}{te:TE}{lo hi:Option Expr}{tl th:TO}{pos p2:Pos}
def Sa:PO X none aad:=by
 intro a s b H Q I h;rw[evalPart_none];exact rr ⟨none,H,I,.none,h⟩
def yj(h:PE X e te):PO X (some e) (adq te):=by
 intro a s m H Q I b;rw[evalPart_some];refine h.th I b λu l x f j c g=>?_;obtain⟨i,rfl,q⟩:=g;obtain⟨t,rfl⟩:=c;exact⟨some i,f,j,.int i t,q⟩
def SlR(X:Cx)(r:V->Option Int->Option Int->Hp->VK->Prop):Prop:=
 ∀(a:List (Addr×Obj)) (s:Shared) (f:St) (H:Hp) (x:V) (v vl b:Value) (lo hi:Option Int) (c:Addr) (Q:VK),Inv X a f H s->RelV x v->s.heap.IsSliceOf c vl b .none->IsPart vl lo->IsPart b hi->r x lo hi H Q→
  ∃T id,typeLookup (.type T) "__getitem__"=pure (some (.builtin id))/\s.TypeIs v T/\wpAny (model X.prog X.w) X.A (getItem v (.ref c)) (EP X a f Q) X.xe s
def tSl(r:V->Option Int->Option Int->Hp->VK->Prop)(te:TE)(tl th:TO):TE:=λa H Q=>te a H λx b=>tl a b λl c=>th a c λu f=>r x l u f Q
def B5{r:V->Option Int->Option Int->Hp->VK->Prop}(J:SlR X r)(G:PE X e te)(M:PO X lo tl)(j:PO X hi th):PE X (.Subscript e (.Slice lo hi none p2) pos) (tSl r te tl th):=by
 intro a s f H Q I h;refine Subscript_ (G.th I h λv N x m y p n=>?_);refine wpAny_Slice (nh (M a N f m _ y n) λvl P ⟨l,t,C,pl,o⟩=>nh (j a P f t _ C o) λg c z=>?_);obtain⟨u,i,B,L,O⟩:=z;rw[evalPart_none];refine rr ?_;have K:Inv X a f i {c with heap:=c.heap.push {cls:= .type "slice",data:= .fields #[vl,g,.none]}}:=B.kept (t':=c.toks) λb R q=>q4 _ q;obtain⟨T,id,F,E,D⟩:=J a {c with heap:=c.heap.push {cls:= .type "slice",data:= .fields #[vl,g,.none]}} f i x v vl g l u c.heap.objs.size Q K p (Heap.IsSliceOf.new ..) pl L O;show wpAny (model X.prog X.w) X.A (subscriptTail e (.Slice lo hi none p2) v (.ref c.heap.objs.size)) (EP X a f Q) X.xe {c with heap:=c.heap.push {cls:= .type "slice",data:= .fields #[vl,g,.none]}};exact tail_any (ops:=[.ref c.heap.objs.size,v]) E F D (by with_unfolding_all rfl)
def HM(xs:List V)(lo hi:Option Int):List V:=(xs.drop (HT.tL xs.length 0 lo)).take (HT.tL xs.length xs.length hi-HT.tL xs.length 0 lo)
def O6(xs:List V)(lo hi:Option Int):(HM xs lo hi).length<=xs.length:=by
 unfold HM;rw[XP,agm]
 lia
end
def ixN(n:Nat)(i:Int):Option Nat:=if 0<=i then (if i<n then some i.toNat else none) else if -(n:Int)<=i then some (i+n).toNat else none
def sq{a:Type}(xs:List a)(i:Int):Option a:=(ixN xs.length i).bind λj=>xs[j]?
def RN{n:Nat}{i:Int}{j:Nat}(h:ixN n i=some j):seqIndex? i n=some j/\j<n/\ -(n:Int)<=i/\i<n:=by
 unfold ixN at h;by_cases b:0<=i
 .rw[eE b] at h;by_cases a:i<n
  .rw[eE a] at h;have e:i.toNat=j:=iH h;exact⟨by rw[seqIndex_of b a,e],(),(),a⟩
  .rw[er a] at h;cases h
 .rw[er b] at h;by_cases a: -(n:Int)<=i
  .rw[eE a] at h;have e:(i+n).toNat=j:=iH h;exact⟨by rw[seqIndex_neg () a,e],(),a,()⟩
  .rw[er a] at h;cases h
def RD{a:Type}{xs:List a}{i:Int}{v:a}(h:sq xs i=some v):∃j,seqIndex? i xs.length=some j/\xs[j]? =some v/\j<xs.length/\ -(xs.length:Int)<=i/\i<xs.length:=by
 unfold sq at h;cases e:ixN xs.length i with
 |none=>rw[e] at h;cases h
 |some j=>
  rw[e] at h;obtain⟨g,f,c,b⟩:=RN e;exact⟨j,g,h,f,c,b⟩
def bX{a:Type}{xs:List a}{j:Nat}{v:a}(h:xs[j]? =some v):sq xs (j:Int)=some v:=by
 have b:j<xs.length:=(uy.mp h).1
 have e:ixN xs.length (j:Int)=some j:=by
  unfold ixN;rw[eE (),eE ()];simp
 unfold sq;rwa[e]
def Sd(b:Expr):Prop:=∀o i,subscripted b false o i=operate [o,i] (getItem o i)
def IxR(X:Cx)(r:R2):Prop:=
 ∀(c a:Expr) (b:List (Addr×Obj)) (s:Shared) (e:St) (H:Hp) (x y:V) (v u:Value) (Q:VK),Inv X b e H s->RelV x v->RelV y u->r x y H Q→
  subscripted a false v u=operate [v,u] (getItem v u)->wpAny (model X.prog X.w) X.A (subscriptTail c a v u) (EP X b e Q) X.xe s
def MtR(X:Cx)(id:String)(r:V->List V->Hp->VK->Prop):Prop:=
 ∀(a:List (Addr×Obj)) (s:Shared) (b:St) (H:Hp) (x:V) (xs:List V) (v:Value) (us:List Value) (Q:VK),Inv X a b H s->RelV x v->Vals xs us->r x xs H Q→
  wpAny (model X.prog X.w) X.A (call (.builtin id) (v::us)) (EP X a b Q) X.xe s
section
variable{X:Cx}{a b:Expr}{ta tb:TE}{pos:Pos}
def ac3{r:R2}(n:IxR X r)(f:PE X a ta)(e:PE X b tb)(hs:Sd b):PE X (.Subscript a b pos) (tOp r ta tb):=by
 intro c s g H Q I h;exact Subscript_ (YV f e I h λv u i x y m j l o q=>n a b c i g m x y v u Q j l o q (hs _ _))
def adT(K:PySem.W.Frag):R2:=λx y H Q=>∃p xs i v,x=.ref p/\y=.int i/\fk K H p xs/\sq xs i=some v/\Q v H
def ad4(K:PySem.W.Frag):R2:=λx y H Q=>∃p xs i v,x=.ref p/\y=.int i/\l5 K H p xs/\sq xs i=some v/\Q v H
def aD:IxR X (adT X.K):=by
 intro l m c s n H x y v u Q I E F h hs;obtain⟨p,xs,i,z,rfl,rfl,M,C,q⟩:=h;cases E;obtain⟨t,rfl⟩:=F;obtain⟨its,r,pl,N⟩:=I.list M;obtain⟨j,f,D,O,B,G⟩:=RD C;obtain⟨w,A,g⟩:=r.get D;have J:=r.length;have P:=Ic;have e:EP X c n Q w s:=⟨z,H,I,g,q⟩;by_cases o:0<=i
 .have hj:i.toNat=j:=by
   rw[seqIndex_of o G] at f;exact iH f
  exact item_listR pl.isList o () (by rw[hj];simpa using A) e hs
 .have hj:(i+(its.toArray.size:Int)).toNat=j:=by
   rw[seqIndex_neg () B] at f;rw[ki,<-J];exact iH f
  exact subscriptTail_builtinR (x:=w) pl.isList.typeIs slot_list_getitem.lookup
   (wpAny_getItem_list_neg (Q:=λr L=>r=w/\EP X c n Q r L) pl.isList () (by rw[ki]<;>lia) () (by rw[hj];simpa using A) ⟨rfl,e⟩) hs
def b7:IxR X (ad4 X.K):=by
 intro g l c s m H x y v u Q I A B h hs;obtain⟨p,xs,i,z,rfl,rfl,F,n,q⟩:=h;cases A;obtain⟨t,rfl⟩:=B;obtain⟨its,r,pl,M⟩:=I.tuple F;obtain⟨j,G,o,N,J,L⟩:=RD n;obtain⟨w,E,e⟩:=r.get o;have C:=r.length;have O:=Ic;have f:EP X c m Q w s:=⟨z,H,I,e,q⟩
 exact subscriptTail_builtinR (x:=w) pl.typeIs slot_tuple_getitem.lookup
  (getItem_tuple (j:=j) (Q:=λr D=>r=w/\EP X c m Q r D) pl () () (by rwa[ki,<-C]) (by simpa using E) ⟨rfl,f⟩) hs
def Qz(its:List Value)(n j:Nat)(u:Value):Obj.mapSeq (·.setIfInBounds j u) {cls:= .type "list",data:= .seq its.toArray n}={cls:= .type "list",data:= .seq (its.set j u).toArray n}:=by
 simp[Obj.mapSeq]
def Inv.lst{c:List (Addr×Obj)}{f:St}{H:Hp}{s:Shared}{p:Addr}{xs:List V}(I:Inv X c f H s)(h:H p=some (.lst xs)):
  ∃(its:List Value) (n:Nat),Vals xs its/\s.heap.get? p=some {cls:= .type "list",data:= .seq its.toArray n}/\xs.length<=sizeLine:=by
 obtain⟨z,its,n,r,e⟩:=I.hok p _ h;exact⟨its,n,r,e,z⟩
def Inv.acD{c:List (Addr×Obj)}{i:St}{H:Hp}{s:Shared}{p:Addr}{xs ys:List V}{its its':List Value}{n g:Nat}{f:Obj->Obj}(I:Inv X c i H s)(h:H p=some (.lst xs))
  (o:s.heap.get? p=some {cls:= .type "list",data:= .seq its.toArray n}) (j:f {cls:= .type "list",data:= .seq its.toArray n}={cls:= .type "list",data:= .seq its'.toArray g}) (r:Vals ys its') (m:ys.length<=sizeLine) (t:Nat):
  Inv X c i (upd H p (.lst ys)) {s with heap:=s.heap.update p f,toks:=t}:=by
 have e:(s.heap.update p f).get? p=some {cls:= .type "list",data:= .seq its'.toArray g}:=by
  rw[Heap.get?_update_self f o (by rw[j]<;>rfl),j]
 refine I.write (x:=p) (e:=p) (by rw[h];trivial) (.inl rfl) (λb u l q=>(agu _ _ (Ne.symm l)).trans q) ⟨_,e⟩ ?_;exact⟨m,its',g,r,e⟩
def ac5:V->V->V->Hp->(Hp->Prop)->Prop:=λo i v H Q=>∃p xs k j,o=.ref p/\i=.int k/\H p=some (.lst xs)/\ixN xs.length k=some j/\Q (upd H p (.lst (xs.set j v)))
def set_list:acp X ac5:=by
 intro c s B H o i v G J u Q I A E C h;obtain⟨p,xs,k,j,rfl,rfl,x,z,q⟩:=h;cases A;obtain⟨t,rfl⟩:=E;obtain⟨its,n,r,f,D⟩:=I.lst x;obtain⟨e,F,y,l⟩:=RN z;have g:=r.length;have K:=Ic
 have m:Inv X c B (upd H p (.lst (xs.set j v))) {s with heap:=s.heap.update p (Obj.mapSeq (·.setIfInBounds j u))}:=
  I.acD x f (Qz its n j u) (r.set C j) (by rwa[List.length_set]) s.toks
 by_cases w:0<=k
 .have hk:k.toNat=j:=by
   rw[seqIndex_of w l] at e;exact iH e
  exact PySem.W.ki_setAt f w () (by rwa[ki,<-g]) (by rw[hk];exact⟨_,m,q⟩)
 .have hk:(k+(its.toArray.size:Int)).toNat=j:=by
   rw[seqIndex_neg () y] at e;rw[ki,<-g];exact iH e
  exact PySem.W.ki_setBack f () (by rwa[ki,<-g]) () (by rw[hk];exact⟨_,m,q⟩)
def LK(lo c:Option Int)(n:Nat):(sliceBounds lo c none n).1=((HT.tL n 0 lo:Nat):Int)/\(sliceBounds lo c none n).2.1=((HT.tL n n c:Nat):Int)/\(sliceBounds lo c none n).2.2=1:=by
 refine⟨?_,?_,rfl⟩
 .cases lo with
  |none=>simp[sliceBounds,HT.tL]
  |some i=>
   simp only[sliceBounds,HT.tL,Option.getD_none,show(1:Int) > 0 by decide,if_true];by_cases h:i<0
   .simp only[h,if_true]<;>lia
   .simp only[h,if_false]<;>lia
 .cases c with
  |none=>simp[sliceBounds,HT.tL]
  |some i=>
   simp only[sliceBounds,HT.tL,Option.getD_none,show(1:Int) > 0 by decide,if_true];by_cases h:i<0
   .simp only[h,if_true]<;>lia
   .simp only[h,if_false]<;>lia
def Jx(its:List Value)(lo c:Option Int):slicePick its.toArray lo c none=((its.drop (HT.tL its.length 0 lo)).take (HT.tL its.length its.length c-HT.tL its.length 0 lo)).toArray:=by
 obtain⟨f,g,e⟩:=LK lo c its.toArray.size;unfold slicePick;rw[f,g,e];simp only[sliceRange_one,pick_run,ki]<;>rfl
def aek(K:PySem.W.Frag):V->Option Int->Option Int->Hp->VK->Prop:=λx lo c H Q=>∃a xs,x=.ref a/\fk K H a xs/\∀p,H p=none->Q (.ref p) (upd H p (.lst (HM xs lo c)))
def Fu:SlR X (aek X.K):=by
 intro g s p H x v vl n lo e u Q I j hs pl l h;obtain⟨a,xs,rfl,i,q⟩:=h;cases j;obtain⟨its,r,f,m⟩:=I.list i;have c:=r.length;refine⟨"list",_,slot_list_getitem.lookup,f.isList.typeIs,?_⟩;refine wpAny_getItem_list_slice f.isList hs pl l .none (by simp) ?_ (by rw[ki]<;>lia)
 rw[Jx,<-c];refine⟨.ref s.heap.objs.size,_,I.laid (t':=s.toks) (o:= .lst (HM xs lo e)) (λb t q=>q4 _ q) (fC _) ?_,rfl,q _ (I.hok.fresh (fC _))⟩;exact⟨mf (O6 xs lo e) m,_,0,(r.drop (HT.tL xs.length 0 lo)).take (HT.tL xs.length xs.length e-HT.tL xs.length 0 lo),xo _ rfl⟩
def gC:V->Bool
 |.non=>true
 |.bl _=>true
 |.int _=>true
 |.str _=>true
 |_=>false
def vc:V->V->Bool
 |.non,.non=>true
 |.bl a,.bl b=>a==b
 |.bl a,.int b=>(if a then 1 else 0)==b
 |.int a,.bl b=>a==(if b then 1 else 0)
 |.int a,.int b=>a==b
 |.str a,.str b=>a==b
 |_,_=>false
def Ls{A:Around}{s:Shared}{y x:V}{u v:Value}(f:RelV y u)(c:RelV x v)(g:gC y=true)(e:gC x=true):SeqAt.EqAt A s u v (vc y x):=by
 cases y with
 |non=>
  cases f;cases x with
  |non=>cases c;exact ahG _
  |bl b=>cases c;exact SeqAt.EqAt.none_bool b
  |int b=>obtain⟨t,rfl⟩:=c;exact SeqAt.EqAt.none_int b t
  |str b=>obtain⟨t,rfl⟩:=c;exact SeqAt.EqAt.none_str b t
  |_=>exact absurd (show false=true from e) l6
 |bl a=>
  cases f;cases x with
  |non=>cases c;exact SeqAt.EqAt.bool_none a
  |bl b=>cases c;exact SeqAt.EqAt.bool_bool a b
  |int b=>obtain⟨t,rfl⟩:=c;exact SeqAt.EqAt.bool_int a b t
  |str b=>obtain⟨t,rfl⟩:=c;exact SeqAt.EqAt.bool_str a b t
  |_=>exact absurd (show false=true from e) l6
 |int a=>
  obtain⟨t',rfl⟩:=f;cases x with
  |non=>cases c;exact SeqAt.EqAt.int_none a t'
  |bl b=>cases c;exact SeqAt.EqAt.int_bool a t' b
  |int b=>obtain⟨t,rfl⟩:=c;exact SeqAt.EqAt.int_int a t' b t
  |str b=>obtain⟨t,rfl⟩:=c;exact SeqAt.EqAt.int_str a t' b t
  |_=>exact absurd (show false=true from e) l6
 |str a=>
  obtain⟨t',rfl⟩:=f;cases x with
  |non=>cases c;exact SeqAt.EqAt.str_none a t'
  |bl b=>cases c;exact SeqAt.EqAt.str_bool a t' b
  |int b=>obtain⟨t,rfl⟩:=c;exact SeqAt.EqAt.str_int a t' b t
  |str b=>obtain⟨t,rfl⟩:=c;exact SeqAt.EqAt.str_str a t' b t
  |_=>exact absurd (show false=true from e) l6
 |_=>exact absurd (show false=true from g) l6
def F2(x:V)(u:Value):Bool:=match u with
 |.none=>vc .non x
 |.bool b=>vc (.bl b) x
 |.int i _=>vc (.int i) x
 |.str z _=>vc (.str z) x
 |_=>false
def X6{x y:V}{u:Value}(r:RelV y u)(f:gC y=true):F2 x u=vc y x:=by
 cases y with
 |non=>cases r;rfl
 |bl b=>cases r;rfl
 |int i=>obtain⟨t,rfl⟩:=r;rfl
 |str z=>obtain⟨t,rfl⟩:=r;rfl
 |_=>exact absurd (show false=true from f) l6
theorem Be{x:V}:∀{xs:List V} {us:List Value},Vals xs us->xs.all gC=true->us.any (F2 x)=xs.any λy=>vc y x
 |_,_,.nil,_=>rfl
 |y::xs,u::us,.cons r t,f=>by
  rw[ahs,oT] at f;rw[agJ,agJ,X6 r f.1,Be t f.2]
theorem sF{A:Around}{s:Shared}{x:V}{v:Value}(g:RelV x v)(e:gC x=true):∀{xs:List V} {us:List Value},Vals xs us->xs.all gC=true->∀u∈us,SeqAt.EqAt A s u v (F2 x u)
 |_,_,.nil,_=>λu c=>by cases c
 |y::xs,u::us,.cons r t,f=>λh c=>by
  rw[ahs,oT] at f;rcases ti.mp c with rfl|c
  .rw[X6 r f.1];exact Ls r g f.1 e
  .exact sF g e t f.2 h c
def inV(x:V)(xs:List V):Bool:=xs.any λy=>vc y x
def rIn(K:PySem.W.Frag)(c:Bool):R2:=λx y H Q=>∃p xs,y=.ref p/\(fk K H p xs\/l5 K H p xs)/\gC x=true/\xs.all gC=true/\Q (.bl (if c then !inV x xs else inV x xs)) H
def kE:nN X (compareOp .In) (rIn X.K false):=by
 intro g s l H x y v u Q I f j h;obtain⟨p,xs,rfl,c,i,fs,q⟩:=h;cases j;rcases c with c|c
 .obtain ⟨its,r,pl,hz⟩:=I.list c;refine SeqAt.in_listAt (F2 x) pl.isList (λw e=>sF f i r fs w (by simpa using e)) ⟨.bl _,H,I,rfl,?_⟩;rwa[show its.toArray.any (F2 x)=its.any (F2 x) by simp,Be r fs]
 .obtain ⟨its,r,pl,hz⟩:=I.tuple c;refine SeqAt.in_tupleAt (F2 x) pl (λw e=>sF f i r fs w (by simpa using e)) ⟨.bl _,H,I,rfl,?_⟩;rwa[show its.toArray.any (F2 x)=its.any (F2 x) by simp,Be r fs]
def K2:nN X (compareOp .NotIn) (rIn X.K true):=by
 intro g s l H x y v u Q I f j h;obtain⟨p,xs,rfl,c,i,fs,q⟩:=h;cases j;rcases c with c|c
 .obtain ⟨its,r,pl,hz⟩:=I.list c;refine SeqAt.notIn_listAt (F2 x) pl.isList (λw e=>sF f i r fs w (by simpa using e)) ⟨.bl _,H,I,rfl,?_⟩;rwa[show its.toArray.any (F2 x)=its.any (F2 x) by simp,Be r fs]
 .obtain ⟨its,r,pl,hz⟩:=I.tuple c;refine SeqAt.notIn_tupleAt (F2 x) pl (λw e=>sF f i r fs w (by simpa using e)) ⟨.bl _,H,I,rfl,?_⟩;rwa[show its.toArray.any (F2 x)=its.any (F2 x) by simp,Be r fs]
def aP:sY X (.builtin "len") (λxs H Q=>∃p ys,xs=[.ref p]/\(fk X.K H p ys\/l5 X.K H p ys)/\Q (.int ys.length) H):=by
 intro f s j H xs us Q I r h;obtain⟨p,ys,rfl,e,q⟩:=h;obtain⟨u,rfl,g⟩:=vals1 r;cases g;have i:=Ic;rcases e with e|e
 .obtain ⟨its,r',pl,hz⟩:=I.list e;have c:=r'.length;exact Calls.call_len_list pl.isList (by simp only[ki]<;>lia) ⟨.int ys.length,H,I.tok _,⟨s.toks+1,by rw[ki,c]⟩,q⟩
 .obtain ⟨its,r',pl,hz⟩:=I.tuple e;have c:=r'.length;exact len_tuple pl (by simp only[ki]<;>lia) ⟨.int ys.length,H,I.tok _,⟨s.toks+1,by rw[ki,c]⟩,q⟩
def nE:sY X (.builtin "len") (λxs H Q=>∃z,xs=[.str z]/\z.length<=sizeLine/\Q (.int z.length) H):=by
 intro c s g H xs us Q I r h;obtain⟨z,rfl,f,q⟩:=h;obtain⟨u,rfl,t,rfl⟩:=vals1 r;have e:=Ic;exact len_str () ⟨.int z.length,H,I.tok _,⟨_,rfl⟩,q⟩
def LF:sY X (.type "list") (λxs H Q=>∃p ys,xs=[.ref p]/\(fk X.K H p ys\/l5 X.K H p ys)/\∀l,H l=none->Q (.ref l) (upd H l (.lst ys))):=by
 intro v s A H xs us Q I r h;obtain⟨p,ys,rfl,t,q⟩:=h;obtain⟨u,rfl,B⟩:=vals1 r;cases B
 have i:∀(its:List Value),Vals ys its->ys.length<=sizeLine->∀(h':Heap) (f:Nat),(∀b z,s.heap.get? b=some z->h'.get? b=some z)→
   h'.get? s.heap.objs.size=some {cls:= .type "list",dict:=none,data:= .seq its.toArray f,slots:=#[]}->EP X v A Q (.ref s.heap.objs.size) {s with heap:=h'}:=λits c j h' f m e=>
  ⟨.ref s.heap.objs.size,_,I.laid (t':=s.toks) m (fC _) (show dZ X.prog X.w _ h' _ (.lst ys) from⟨j,its,f,c,e⟩),rfl,q _ (I.hok.fresh (fC _))⟩
 rcases t with t|t
 .obtain ⟨its,c,pl,j⟩:=I.list t;have g:=c.length;obtain⟨o,y,x,n,hd⟩:=pl.isList;exact call_list_seq p (.inl rfl) y x hd (λh' f m e=>i its c j h' f m e) (by simp only[ki]<;>lia)
 .obtain ⟨its,c,pl,j⟩:=I.tuple t;have g:=c.length;obtain⟨o,y,x,n,hd⟩:=pl;exact call_list_seq p (.inr rfl) y x hd (λh' f m e=>i its c j h' f m e) (by simp only[ki]<;>lia)
def tyV(K:PySem.W.Frag)(T:String)(x:V)(H:Hp):Prop:=match x with
 |.str _=>T="str"
 |.int _=>T="int"
 |.ref p=>(T="list"/\∃xs,fk K H p xs)\/(T="tuple"/\∃o,K.lookup p=some o/\o.cls=.type "tuple"/\o.dict=none)∨
   (T="dict"/\((∃fy,H p=some (.dK fy))\/∃fy,H p=some (.dT fy)))\/(T="set"/\∃S n,H p=some (.set S n))
 |_=>False
def Xn{g:List (Addr×Obj)}{j:St}{H:Hp}{s:Shared}{T:String}{x:V}{v:Value}(I:Inv X g j H s)(r:RelV x v)(ty:tyV X.K T x H):
  s.TypeIs v T/\∀a,v=.ref a->∃h,s.heap.get? a=some h/\h.dict=none:=by
 cases x with
 |str z=>
  obtain⟨t,rfl⟩:=r;cases (show T="str" from ty);exact⟨agU s z t,λ_ e=>nomatch e⟩
 |int i=>
  obtain⟨t,rfl⟩:=r;cases (show T="int" from ty);exact⟨typeIs_int s i t,λ_ e=>nomatch e⟩
 |ref p=>
  cases r;rcases ty with⟨rfl,xs,m⟩|⟨rfl,o,f,l,hd⟩|⟨rfl,f⟩|⟨rfl,S,n,f⟩
  .obtain ⟨its,_,pl,_⟩:=I.list m;refine⟨pl.isList.typeIs,λa e=>?_⟩;cases e;obtain⟨o,n,e,c,hd,_⟩:=pl;exact⟨o,e,hd⟩
  .refine ⟨⟨o,I.oS p o f,l⟩,λa e=>?_⟩;cases e;exact⟨o,I.oS _ o f,hd⟩
  .have z:∃o,s.heap.get? p=some o/\o.ExactDict:=by
    rcases f with⟨fy,f⟩|⟨fy,f⟩
    .obtain ⟨_,_,_,_,o,_,_,e,ex,_⟩:=I.hok p _ f;exact⟨o,e,ex⟩
    .obtain ⟨_,_,_,_,o,_,_,e,ex,_⟩:=I.hok p _ f;exact⟨o,e,ex⟩
   obtain⟨o,e,ex⟩:=z;refine⟨⟨o,e,ex.1⟩,λa e2=>?_⟩;cases e2;exact⟨o,e,ex.2.1⟩
  .obtain ⟨o,_,_,_,e,ex,_⟩:=I.hok p _ f;refine⟨⟨o,e,ex.1⟩,λa e2=>?_⟩;cases e2;exact⟨o,e,ex.2.1⟩
 |_=>exact False.elim ty
def ad6(K:PySem.W.Frag)(T:String)(r:V->List V->Hp->VK->Prop)(e:TE):TE:=λf H Q=>e f H λx c=>tyV K T x c/\r x [] c Q
def tBM(K:PySem.W.Frag)(T:String)(r:V->List V->Hp->VK->Prop)(f:TE)(t:TA):TE:=λe H Q=>f e H λx c=>tyV K T x c/\t e c λxs g=>r x xs g Q
variable{o e:Expr}{es:List Expr}{to:TE}{t:TA}{name:Str}{apos cpos:Pos}{T id:String}{r:V->List V->Hp->VK->Prop}
def abP(n:PlainAttrs T)(slot:Slot T name id)(i:typeOf (.builtin id)=pure (.type "method_descriptor"))(u:MtR X id r)(A:PE X o to)
  (f:attributeBase o name X.env (eval o X.env)=eval o X.env:=by rfl) (c:(apos.endLine==cpos.line)=true:=by rfl):PE X (.Call (.Attribute o name apos) [] [] cpos) (ad6 X.K T r to):=by
 intro g s w H Q I h;refine wpAny_Call_method0_late f c (A.th I h λv q x p l j m=>?_);obtain⟨ty,y⟩:=m;obtain⟨B,z⟩:=Xn l j ty;exact⟨T,id,n,slot,i,B,z,Calls.callWith_builtin rfl (PySem.evalArgs_none (u g q w p x [] v [] Q l j .nil y))⟩
def fg(w:PlainAttrs T)(slot:Slot T name id)(l:typeOf (.builtin id)=pure (.type "method_descriptor"))(J:MtR X id r)(C:PE X o to)(E:PA X (e::es) t)
  (i:attributeBase o name X.env (eval o X.env)=eval o X.env:=by rfl)
  (j:((backTo cpos (starEach (e::es) X.env)).all (λx=> !x.1)&&(backToKw cpos (keywordEach [] X.env)).all (λx=>x.1.isSome)
   && decide ((e::es).length+([]:List Keyword).length+(if ([]:List Keyword).isEmpty then 0 else 1)<30))=true:=by rfl)
  (g:(apos.endLine==cpos.line)=true:=by rfl) (hs:starEach (e::es) X.env=(false,eval e X.env)::starEach es X.env:=by rfl) (c:(backTo cpos (starEach es X.env)).any (·.1)=false:=by rfl):
  PE X (.Call (.Attribute o name apos) (e::es) [] cpos) (tBM X.K T r to t):=by
 intro f s n H Q I h;refine wpAny_Call_method_late i j g rfl (C.th I h λv G x y q p m=>?_);obtain⟨ty,z⟩:=m;obtain⟨N,A⟩:=Xn q p ty;refine⟨T,id,w,slot,l,N,A,?_⟩;have u:=E cpos f G n y _ q z;rw[hs] at u ⊢;refine Calls.callWith_builtin (by show(false||(backTo cpos (starEach es X.env)).any (·.1))=false;rw[c]<;>rfl) (Calls.evalArgs_plain ?_)
 exact nh u λus L m=>by obtain⟨vs,D,M,F,B⟩:=m;exact J f L n D x vs v us Q M p F B
end
def MtM(X:Cx)(id:String)(r:V->List V->Hp->VK->Prop):Prop:=
 ∀(a:List (Addr×Obj)) (s:Shared) (b:St) (H:Hp) (x:V) (xs:List V) (v:Value) (us:List Value) (Q:VK),Inv X a b H s->RelV x v->Vals xs us->r x xs H Q→
  wpAny (model X.prog X.w) X.A (call (.builtin id) (v::us)) (EP X a b Q) X.xe s
theorem Vals.one:∀{x:V} {us:List Value},Vals [x] us->∃u,us=[u]/\RelV x u
 |_,_,.cons r .nil=>⟨_,rfl,r⟩
theorem Vals.eraseIdx:∀{xs:List V} {us:List Value} (i:Nat),Vals xs us->Vals (xs.eraseIdx i) (us.eraseIdx i)
 |_,_,_,.nil=>.nil
 |_,_,0,.cons _ t=>t
 |_,_,i+1,.cons r t=>.cons r (Vals.eraseIdx i t)
theorem Kk{a:Type}:∀(l:List a) (i:Nat),(l.eraseIdx i).length<=l.length
 |[],_=>fC _
 |_::_,0=>af8 _
 |_::r,i+1=>ahz (Kk r i)
section
variable{X:Cx}{dI:List (Addr×Obj)}{σ:St}{H:Hp}{s:Shared}{l b:Addr}{xs ys zs:List V}
def Inv.adL{its its':List Value}{n:Nat}{f:Array Value->Array Value}{t':Nat}(I:Inv X dI σ H s)(a:H l=some (.lst xs))
  (e:s.heap.get? l=some {cls:= .type "list",data:= .seq its.toArray n}) (h:f its.toArray=its'.toArray) (g:Vals ys its') (j:ys.length<=sizeLine):
  Inv X dI σ (upd H l (.lst ys)) {s with heap:=s.heap.update l (Obj.mapSeq f),toks:=t'}:=by
 have q:=PySem.IsL.update e f;rw[h] at q;refine I.write (x:=l) (e:=l) (by rw[a];exact trivial) (.inl rfl) (λm u c i=>(agu s.heap (Obj.mapSeq f) (Ne.symm c)).trans i) ⟨_,q⟩ ?_;exact⟨j,its',_,g,q⟩
theorem Inv.abG{its:List Value}{t':Nat}(I:Inv X dI σ H s)(c:Vals ys its)(a:ys.length<=sizeLine):
  Inv X dI σ (upd H s.heap.objs.size (.lst ys)) {s with heap:=s.heap.push {cls:= .type "list",data:= .seq its.toArray},toks:=t'}:=
 I.laid (λ_ _ q=>q4 _ q) (fC _) ⟨a,its,0,c,xo _ rfl⟩
theorem Inv.fresh(I:Inv X dI σ H s):H s.heap.objs.size=none:=I.hok.fresh (fC _)
def Inv.Y0(I:Inv X dI σ H s)(a:H l=some (.lst xs)):xs.length<=sizeLine/\∃(its:List Value) (n:Nat),Vals xs its/\xs.length=its.length/\s.heap.get? l=some {cls:= .type "list",data:= .seq its.toArray n}:=by
 obtain⟨z,its,n,r,e⟩:=I.hok l _ a;exact⟨z,its,n,r,r.length,e⟩
end
section
variable{X:Cx}
def Zo:V->List V->Hp->VK->Prop:=λx vs H Q=>∃l xs y,x=.ref l/\vs=[y]/\H l=some (.lst xs)/\xs.length<sizeLine/\Q .non (upd H l (.lst (xs++[y])))
def cD:MtM X "list.append" Zo:=by
 intro b s i H x vs v us Q I f g h;obtain⟨l,xs,y,rfl,rfl,a,j,q⟩:=h;cases f;obtain⟨u,rfl,c⟩:=g.one;obtain⟨z,its,n,r,m,e⟩:=I.Y0 a;refine agV F.slot_list_append ⟨_,e,rfl⟩ F.entry_list_append (F.args_list_append_2 _ _) (PySem.list_append l its.toArray n u (by rw[ki];lia)) ⟨e,?_⟩;refine⟨.non,_,I.adL (its':=its++[u]) a e (by simp) (r.append (.cons c .nil)) ?_,rfl,q⟩;rw[js,List.length_singleton]
 lia
def abh:V->List V->Hp->VK->Prop:=λx vs H Q=>∃l xs i k y,x=.ref l/\vs=[.int i]/\H l=some (.lst xs)/\ -(2^63)<=i/\i<2^63/\seqIndex? i xs.length=some k/\xs[k]? =some y/\Q y (upd H l (.lst (xs.eraseIdx k)))
def OR:MtM X "list.pop" abh:=by
 intro c s D H x vs v us Q I m o h;obtain⟨l,xs,i,k,y,rfl,rfl,b,C,g,B,A,q⟩:=h;cases m;obtain⟨u,rfl,f⟩:=o.one;obtain⟨t,rfl⟩:=f;obtain⟨z,its,n,r,p,e⟩:=I.Y0 b;obtain⟨w,j,a⟩:=r.get A
 refine agV F.slot_list_pop ⟨_,e,rfl⟩ F.entry_list_pop (F.args_list_pop_2 _ _)
  (MeetsSeq.list_pop_at l its.toArray n i t k w (fitsIndex_both C g) (by rwa[ki,<-p]) (by rwa[<- ag4]) (by rw[ki];lia)) ⟨e,?_⟩
 refine⟨y,_,I.adL (its':=its.eraseIdx k) b e ?_ (r.eraseIdx k) ?_,a,q⟩
 .show its.toArray.eraseIdxIfInBounds k=(its.eraseIdx k).toArray;rw[List.eraseIdxIfInBounds_toArray]
 .have:=Kk xs k
  lia
def aef:R2:=λx y H Q=>∃l b xs a,x=.ref l/\y=.ref b/\H l=some (.lst xs)/\H b=some (.lst a)/\xs.length+a.length<=sizeLine/\∀p,H p=none->Q (.ref p) (upd H p (.lst (xs++a)))
def P2:nN X (binaryOp .Add) aef:=by
 intro c s w H x y v u Q I g i h;obtain⟨l,b,xs,A,rfl,rfl,f,o,B,q⟩:=h;cases g;cases i;obtain⟨z,its,n,r,C,e⟩:=I.Y0 f;obtain⟨D,a,t,m,p,e2⟩:=I.Y0 o;refine PySem.P.add_list e e2 ?_ (by rw[ki,ki];lia);have j:its.toArray++a.toArray=(its++a).toArray:=by simp
 rw[j];exact⟨.ref _,_,I.abG (t':=s.toks) (r.append m) (by rw[js];lia),rfl,q _ I.fresh⟩
end
section
variable{prog:Program}{w:World}{A:Around}{E:Value->Shared->Prop}{s:Shared}
end
section
variable{X:Cx}
end
section
variable{κ:Type}[DecidableEq κ]
def xB(fy:List (κ×V))(k:κ):Option V:=(fy.find? λa=>decide (a.1=k)).map (·.2)
def putK(fy:List (κ×V))(k:κ)(v:V):List (κ×V):=
 if (fy.any λa=>decide (a.1=k))=true then fy.map (λa=>if a.1=k then (a.1,v) else a) else fy++[(k,v)]
def GL{p:κ×V}{r:List (κ×V)}{k:κ}(e:p.1=k):xB (p::r) k=some p.2:=by simp[xB,agt,e]
def Iv{p:κ×V}{r:List (κ×V)}{k:κ}(e:¬p.1=k):xB (p::r) k=xB r k:=by simp[xB,agt,e]
theorem Ot(k:κ):∀fy:List (κ×V),(fy.any λa=>decide (a.1=k))=(xB fy k).isSome
 |[]=>rfl
 |p::r=>by
  rw[agJ];by_cases e:p.1=k
  .simp only[GL e,f7 e,ahA,Option.isSome_some]
  .rw[Iv e,j0 e,aht];exact Ot k r
def xS(fy:List (κ×V))(k:κ)(v:V):(putK fy k v).length<=fy.length+1:=by
 unfold putK
 split
 .rw[gm];lia
 .rw[js,xl,agM];lia
def yT.Cj{o:Option V}{u:Option Value}(r:yT o u):o.isSome=u.isSome:=by
 cases o with
 |none=>cases u with
  |none=>rfl
  |some _=>exact(show False from r).elim
 |some _=>cases u with
  |none=>exact(show False from r).elim
  |some _=>rfl
def KV.val{fy:List (κ×V)}{vs:List (κ×Value)}(r:KV fy vs)(k:κ):yT (xB fy k) (valueAt vs k):=by
 unfold KV at r
 induction r with
 |nil=>exact True.intro
 |@cons p q ps qs h t ih=>
  obtain⟨a,c⟩:=h;by_cases e:p.1=k
  .have e':q.1=k:=a.symm.trans e;have b:valueAt (q::qs) k=some q.2:=by simp[valueAt,agt,e']
   rwa[GL e,b]
  .have e':¬q.1=k:=λz=>e (a.trans z);have b:valueAt (q::qs) k=valueAt qs k:=by simp[valueAt,agt,e']
   rwa[Iv e,b]
def KV.any{fy:List (κ×V)}{vs:List (κ×Value)}(r:KV fy vs)(k:κ):(fy.any λa=>decide (a.1=k))=vs.any λa=>decide (a.1=k):=by
 unfold KV at r
 induction r with
 |nil=>rfl
 |cons h t b=>rw[agJ,agJ,b,h.1]
def KV.abY{fy:List (κ×V)}{vs:List (κ×Value)}(r:KV fy vs)(k:κ){y:V}{u:Value}(f:RelV y u):
  KV (fy.map λa=>if a.1=k then (a.1,y) else a) (vs.map λa=>if a.1=k then (a.1,u) else a):=by
 unfold KV at r ⊢
 induction r with
 |nil=>exact .nil
 |@cons p q ps qs h t ih=>
  rw[M0,M0];refine .cons ?_ ih;obtain⟨b,c⟩:=h;by_cases e:p.1=k
  .rw[eE e,eE (b.symm.trans e)];exact⟨b,f⟩
  .rw[er e,er (λz=>e (b.trans z))];exact⟨b,c⟩
def KV.put{fy:List (κ×V)}{vs:List (κ×Value)}(r:KV fy vs)(k:κ){y:V}{u:Value}(a:RelV y u):KV (putK fy k y) (stored vs k u):=by
 unfold putK stored;rw[r.any k];by_cases e:(vs.any λb=>decide (b.1=k))=true
 .rw[eE e,eE e];exact r.abY k a
 .rw[er e,er e];exact Paired.snoc r ⟨rfl,a⟩
theorem KV.length{fy:List (κ×V)}{vs:List (κ×Value)}(r:KV fy vs):fy.length=vs.length:=Paired.length r
end
def NS{P:Program}{w:World}{k:Key}{u:Value}(r:RelV (kV k) u):(eX P w).is k u=true:=by
 cases k with
 |inl i=>obtain⟨t,e⟩:=(show ∃t,u=Value.int i t from r);subst e;exact Of P w i t
 |inr x=>obtain⟨t,e⟩:=(show ∃t,u=Value.str x t from r);subst e;exact OM P w x t
theorem Kd{P:Program}{w:World}:∀{a:List Key} {us:List Value},Vals (a.map kV) us->ItemsAre (eX P w) a us
 |[],_,r=>by rw[agC] at r;cases r;exact .nil
 |k::a,_,r=>by
  rw[M0] at r;cases r with
  |cons h t=>exact .cons (NS h) (Kd t)
abbrev KT(H:Hp):List (List Key×V)->List (List Key×Addr×Value)->Prop:=Paired λp q=>p.1=q.1/\H q.2.1=some (.tup (p.1.map kV))/\RelV p.2 q.2.2
def KT.val{H:Hp}{fy:List (List Key×V)}{xs:List (List Key×Addr×Value)}(r:KT H fy xs)(k:List Key):yT (xB fy k) ((atKey xs k).map (·.2)):=by
 induction r with
 |nil=>exact True.intro
 |@cons p q ps qs h t ih=>
  obtain⟨a,_,c⟩:=h;by_cases e:p.1=k
  .have e':q.1=k:=a.symm.trans e;have b:atKey (q::qs) k=some q.2:=by simp[atKey,agt,e']
   rwa[GL e,b]
  .have e':¬q.1=k:=λz=>e (a.trans z);have b:atKey (q::qs) k=atKey qs k:=by simp[atKey,agt,e']
   rwa[Iv e,b]
def KT.abY{H:Hp}{fy:List (List Key×V)}{xs:List (List Key×Addr×Value)}(r:KT H fy xs)(k:List Key){y:V}{u:Value}(g:RelV y u):
  KT H (fy.map λb=>if b.1=k then (b.1,y) else b) (xs.map (putAt k u)):=by
 induction r with
 |nil=>exact .nil
 |@cons p q ps qs h t ih=>
  rw[M0,M0];refine .cons ?_ ih;obtain⟨a,c,f⟩:=h;unfold putAt;by_cases e:p.1=k
  .rw[eE e,eE (a.symm.trans e)];exact⟨a,c,g⟩
  .rw[er e,er (λz=>e (a.trans z))];exact⟨a,c,f⟩
def KT.put{H:Hp}{fy:List (List Key×V)}{xs:List (List Key×Addr×Value)}(r:KT H fy xs)(k:List Key){b:Addr}{y:V}{u:Value}(c:H b=some (.tup (k.map kV)))(a:RelV y u):
  KT H (putK fy k y) (storedH xs k b u):=by
 have e:(fy.any λf=>decide (f.1=k))=(atKey xs k).isSome:=by
  rw[Ot,(r.val k).Cj,Option.isSome_map]
 unfold putK storedH;rw[e];by_cases q:(atKey xs k).isSome=true
 .rw[eE q,eE q];exact r.abY k a
 .rw[er q,er q];exact Paired.snoc r ⟨rfl,c,a⟩
theorem KT.keeps{H H':Hp}{fy:List (List Key×V)}{xs:List (List Key×Addr×Value)}(r:KT H fy xs)(a:∀b ys,H b=some (.tup ys)->H' b=some (.tup ys)):KT H' fy xs:=
 Paired.abL r λ_ _ z=>⟨z.1,a _ _ z.2.1,z.2.2⟩
section
variable{P:Program}{w:World}{H:Hp}{h:Heap}{a:Addr}
theorem aaK{u:HO}(ok:pD P w H h)(e:Rd H a u):dZ P w H h a u:=e.ok ok
theorem R9{fy:List (Key×V)}(ok:pD P w H h)(e:Rd H a (.dK fy)):fy.length<=sizeLine/\(a==sysModules)=false/\∃vs,KV fy vs/\h.DictOf (eX P w) a vs:=
 show dZ P w H h a (.dK fy) from aaK ok e
theorem aaZ{fy:List (Key×V)}(ok:pD P w H h)(e:H a=some (.dK fy)):fy.length<=sizeLine/\(a==sysModules)=false/\∃vs,KV fy vs/\h.DictOf (eX P w) a vs:=R9 ok (.inl e)
def LQ{b:List Key}(ok:pD P w H h)(e:H a=some (.tup (b.map kV))):(tupleKind (eX P w)).is h b a:=by
 obtain⟨_,its,r,o,g,c,n,f⟩:=(show dZ P w H h a (.tup (b.map kV)) from ok a _ e);exact⟨o,its.toArray,n,g,c,f,by simpa using Kd r⟩
def Rt{fy:List (List Key×V)}(ok:pD P w H h)(e:Rd H a (.dT fy)):fy.length<=sizeLine/\(a==sysModules)=false∧
  ∃xs,KT H fy xs/\h.DictOfH (tupleKind (eX P w)) a xs:=by
 obtain⟨z,y,xs,r,o,es,g,i,f,j,n,c⟩:=(show dZ P w H h a (.dT fy) from aaK ok e);refine⟨z,y,xs,r,o,es,g,i,f,j,n,λx b=>?_,c⟩
 have all:∀{l:List (List Key×V)} {m:List (List Key×Addr×Value)},KT H l m->∀x∈m,(tupleKind (eX P w)).is h x.1 x.2.1:=by
  intro l m q
  induction q with
  |nil=>intro x b;exact nomatch b
  |@cons p q ps qs hq t ih=>
   intro x b;rcases ti.mp b with e|b
   .subst e;exact LQ ok (by rw[<- hq.1];exact hq.2.1)
   .exact ih x b
 exact all r x b
theorem acT{fy:List (List Key×V)}(ok:pD P w H h)(e:H a=some (.dT fy)):fy.length<=sizeLine/\(a==sysModules)=false∧
  ∃xs,KT H fy xs/\h.DictOfH (tupleKind (eX P w)) a xs:=Rt ok (.inl e)
end
def qE(H:Hp)(a:Addr)(y:V)(r:Option V):Prop:=
 (∃fy k,Rd H a (.dK fy)/\y=kV k/\r=xB fy k)\/∃fy k b,Rd H a (.dT fy)/\y=.ref b/\H b=some (.tup (k.map kV))/\r=xB fy k
def TH(H:Hp)(a:Addr)(y v:V)(H':Hp):Prop:=
 (∃fy k,H a=some (.dK fy)/\y=kV k/\fy.length<sizeLine/\H'=upd H a (.dK (putK fy k v)))∨
 ∃fy k b,H a=some (.dT fy)/\y=.ref b/\H b=some (.tup (k.map kV))/\fy.length<sizeLine/\H'=upd H a (.dT (putK fy k v))
theorem qE.k{H:Hp}{a:Addr}{fy:List (Key×V)}{k:Key}(e:H a=some (.dK fy)):qE H a (kV k) (xB fy k):= .inl ⟨fy,k,.inl e,rfl,rfl⟩
theorem TH.k{H:Hp}{a:Addr}{fy:List (Key×V)}{k:Key}{v:V}(e:H a=some (.dK fy))(b:fy.length<sizeLine):TH H a (kV k) v (upd H a (.dK (putK fy k v))):= .inl ⟨fy,k,e,rfl,b,rfl⟩
section
variable{X:Cx}{dI:List (Addr×Obj)}{σ:St}{H:Hp}{s:Shared}{a:Addr}{y v:V}{u r:Value}{o:Option V}{A:Around}{E:Value->Shared->Prop}
def Inv.big(I:Inv X dI σ H s):sysModules<s.heap.objs.size:=by
 have h:mainGlobals<s.heap.objs.size:=(I.mod.glob.keeps I.bk).lt;exact aga ∅ h
def SS{Q:Value->Shared->Prop}(x:A.units+1<cLine)(I:Inv X dI σ H s)(g:qE H a y (some v))(t:RelV y u)(h:∀i q,Inv X dI σ H q->RelV v i->Q i q):
  wpAny (model X.prog X.w) A (getItem (.ref a) u) Q E s:=by
 rcases g with⟨fy,k,e,m,l⟩|⟨fy,k,b,e,m,B,l⟩
 .subst m;obtain⟨z,hd,vs,f,dd⟩:=R9 I.hok e;obtain⟨i,n,c⟩:=yT.some_of (v:=v) (o:=valueAt vs k) (by rw[l];exact f.val k);exact wpAny_getItem_of (NS t) dd.mapOf n (h i _ (I.tok _) c)
 .subst m;cases (show u=Value.ref b from t);obtain⟨z,hd,xs,f,dd⟩:=Rt I.hok e;obtain⟨i,n,c⟩:=yT.some_of (v:=v) (o:=(atKey xs k).map (·.2)) (by rw[l];exact f.val k);obtain⟨p,C,j⟩:=Option.map_eq_some_iff.mp n;refine wpAny_getItem_heap (aho x) (LQ I.hok B) dd C ?_;rw[j];exact h i _ (I.tok _) c
def Z2{Q:Value->Shared->Prop}(m:A.units+1<cLine)(I:Inv X dI σ H s)(g:qE H a y o)(j:RelV y u)(h:∀i,Inv X dI σ H i->Q (.bool (!o.isSome)) i):
  wpAny (model X.prog X.w) A (compareOp .NotIn u (.ref a)) Q E s:=by
 rcases g with⟨fy,k,e,f,l⟩|⟨fy,k,b,e,f,n,l⟩
 .subst f;obtain⟨z,hd,vs,c,dd⟩:=R9 I.hok e;refine wpAny_notIn_of (NS j) hd dd.mapOf ?_;rw[<- (c.val k).Cj,<-l];exact h _ (I.tok _)
 .subst f;cases (show u=Value.ref b from j);obtain⟨z,hd,xs,c,dd⟩:=Rt I.hok e;refine wpAny_notIn_heap (aho m) (LQ I.hok n) hd dd ?_;have q:=(c.val k).Cj;rw[Option.isSome_map] at q;rw[<- q,<-l];exact h _ (I.tok _)
theorem iz{h':Heap}{t':Nat}{c:HO}(I:Inv X dI σ H s)(h:Mut (H a))(hs:Heap.SameBut a s.heap h')(g:∃q,h'.get? a=some q)(new:dZ X.prog X.w (upd H a c) h' a c):
  Inv X dI σ (upd H a c) {s with heap:=h',toks:=t'}:=
 I.write (x:=a) (e:=a) h (.inl rfl) (λb q f z=>(hs.2 b f).trans z) g new
theorem Yt{P:Program}{w:World}{H':Hp}{h':Heap}{fy:List (Key×V)}{vs:List (Key×Value)}(z:fy.length<=sizeLine)(hd:(a==sysModules)=false)(b:KV fy vs)(dd:h'.DictOf (eX P w) a vs):
  dZ P w H' h' a (.dK fy):=⟨z,hd,vs,b,dd⟩
def Td{H':Hp}{Q:Unit->Shared->Prop}(G:A.units+1<cLine)(I:Inv X dI σ H s)(g:TH H a y v H')(D:RelV y u)(B:RelV v r)(h:∀F,Inv X dI σ H' F->Q .unit F):
  wpAny (model X.prog X.w) A (setItem (.ref a) u r) Q E s:=by
 rcases g with⟨fy,k,e,n,l,t⟩|⟨fy,k,b,e,n,x,l,t⟩
 .subst n t;obtain⟨z,hd,vs,f,dd⟩:=aaZ I.hok e;have m:vs.length<=sizeLine:=by rwa[<- f.length]
  have p:(putK fy k v).length<=sizeLine:=by have:=xS fy k v;lia
  refine wpAny_setItem_pairs (hsz:=m) (NS D) dd λh' i hs=>h _ ?_;have O:∃q,h'.get? a=some q:=let ⟨q,_,_,j,_⟩:=i;⟨q,j⟩;exact iz I (by rw[e];exact True.intro) hs O (Yt p hd (f.put k B) i)
 .subst n t;cases (show u=Value.ref b from D);obtain⟨z,hd,xs,f,dd⟩:=acT I.hok e;have m:xs.length<=sizeLine:=by rwa[<- Paired.length f]
  have p:(putK fy k v).length<=sizeLine:=by have:=xS fy k v;lia
  refine wpAny_setItem_heap (hsz:=m) (aho G) (LQ I.hok x) dd λh' i hs=>h _ ?_;obtain⟨q,es,L,j,J,M,N,_,K⟩:=i;refine iz I (by rw[e];exact True.intro) hs ⟨q,j⟩ ⟨p,hd,_,(f.put k x B).keeps λc ys C=>?_,q,es,L,j,J,M,N,K⟩;rwa[ai (Hg C e (λz=>nomatch z))]
end
section
variable{X:Cx}{dI:List (Addr×Obj)}{σ:St}{H:Hp}{s:Shared}{a:Addr}{fy:List (Key×V)}{k:Key}{u:Value}{A:Around}{E:Value->Shared->Prop}
end
def abg(i:Expr):Prop:=∀a b,subscripted i false a b=operate [a,b] (getItem a b)
def ZS{prog:Program}{w:World}{A:Around}{E:Value->Shared->Prop}{s:Shared}{env:Env}{b a:Expr}{n:Pos}{T id:String}{Q:Value->Shared->Prop}
  (q:typeLookup (.type T) "__getitem__"=pure (some (.builtin id))) (hs:abg a)
  (h:wpAny (model prog w) A (eval b env) (λo f=>wpAny (model prog w) A (eval a env) (λi c=>c.TypeIs o T/\wpAny (model prog w) A (getItem o i) Q E c) E f) E s):
  wpAny (model prog w) A (eval (.Subscript b a n) env) Q E s:=by
 refine Subscript_ (xm h (λo f l=>xm l (λi c e=>?_) λ_ _ x=>x) λ_ _ x=>x);obtain⟨p,e⟩:=e;unfold subscriptTail;refine ko ?_;rw[getitemInPython_of_ne p.not_modules];refine ko (wpAny_specialOf p q ?_)
 have j:wpAny (model prog w) A (subscripted a false o i) (λr g=>wpAny (model prog w) A (letTemporaryGo b o r >>= λ_=>pure r) Q E g) E c:=by
  rw[hs o i];exact wpAny_operating (xm e (λr g m=>ko (wpAny_letTemporaryGo (rr m))) λ_ _ x=>x)
 first
  |exact rr (ko j)
  |exact ko (rr (ko j))
  |exact ko j
def M9{X:Cx}{c:List (Addr×Obj)}{f:St}{H:Hp}{s:Shared}{a:Addr}{y:V}{o:Option V}(I:Inv X c f H s)(g:qE H a y o):s.TypeIs (.ref a) "dict":=by
 rcases g with⟨fy,k,e,_,_⟩|⟨fy,k,b,e,_,_,_⟩
 .obtain ⟨_,_,vs,_,dd⟩:=R9 I.hok e;exact dd.typeIs
 .obtain ⟨_,_,xs,_,dd⟩:=Rt I.hok e;exact dd.typeIs
def aaX(e ty:TE):TE:=λc H Q=>e c H λx f=>ty c f λy b=>∃a v,x=.ref a/\qE b a y (some v)/\Q v b
def aap(ty e:TE):TE:=λc H Q=>ty c H λy f=>e c f λx b=>∃a o,x=.ref a/\qE b a y o/\Q (.bl (!o.isSome)) b
def acR(e ty i:TE):TS:=λD b H=>i b H λv f=>e b f λx g=>ty b g λy h=>∃a c,x=.ref a/\TH h a y v c/\D.nx b c
section
variable{X:Cx}{o i e value:Expr}{pos pos' tpos:Pos}{td ty tv:TE}
def Zg(j:X.A.units+1<cLine)(p:PE X o td)(n:PE X i ty)(hs:abg i):PE X (.Subscript o i pos) (aaX td ty):=by
 intro c s E H Q I h;refine ZS PySem.F.slot_dict_getitem.lookup hs (p.th I h λu J x C t q l=>n.th t l λL K y r f w z=>?_);obtain⟨a,v,ex,g,m⟩:=z;subst ex;obtain rfl:u=Value.ref a:=q;exact⟨M9 f g,SS j f g w λG D B b=>⟨v,r,B,b,m⟩⟩
def JX(c:X.A.units+1<cLine)(m:PE X i ty)(n:PE X o td):PC X .NotIn i o (aap ty td):=by
 intro b s D H Q I h;refine m.th I h λG E y B r t f=>n.th r f λu F x q z p v=>?_;obtain⟨a,l,ex,g,j⟩:=v;subst ex;obtain rfl:u=Value.ref a:=p;exact Z2 c z g t λC w=>⟨.bl (!l.isSome),q,w,rfl,j⟩
def R3(c:X.A.units+1<cLine)(z:PE X o td)(w:PE X i ty)(q:PE X value tv)(hs:swapsWith value (some (.Subscript o i pos')) pos.line X.env=pure false):
  PS X (.Assign [.Subscript o i pos'] value pos) (acR td ty tv):=by
 intro b s f H D I h;refine wpAny_Assign_Subscript (q.th I h λr O v K m C j=>z.th m j λu P x L t B l=>w.th t l λQ M y R p F n=>?_) hs;obtain⟨a,J,ex,g,G⟩:=n;subst ex;obtain rfl:u=Value.ref a:=B;exact Td c p g F C λN E=>⟨f,J,E,G⟩
end
theorem O7{P:Program}{w:World}{H:Hp}(h:Heap)(a:sysModules<h.objs.size):dZ P w H (h.push {cls:= .type "dict",data:= .dict #[]}) h.objs.size (.dK []):=
 ⟨vr _,af4.mpr (Ne.symm (nz a)),[],.nil,Heap.DictOf.new h⟩
def abp:TE:=λ_ H Q=>∀p,H p=none->Q (.ref p) (upd H p (.dK []))
section
variable{X:Cx}{pos:Pos}
theorem WA:PE X (.Dict [] [] pos) abp:=λb s c H Q I h=>
 wpAny_Dict_empty ⟨.ref s.heap.objs.size,_,I.laid (a:=s.heap.objs.size) (o:= .dK []) (t':=s.toks) (λ_ _ q=>q4 _ q) (fC _) (O7 s.heap I.big),rfl,h _ (I.hok.fresh (fC _))⟩
end
def Qg:List (TE×TE)->St->Hp->(List (V×V)->Hp->Prop)->Prop
 |[],_,H,Q=>Q [] H
 |(tk,tv)::r,σ,H,Q=>tk σ H λx a=>tv σ a λy b=>Qg r σ b λps c=>Q ((x,y)::ps) c
abbrev VV:List (V×V)->List (Value×Value)->Prop:=Paired λp q=>RelV p.1 q.1/\RelV p.2 q.2
def PPs(X:Cx)(g:Pos)(c:List (Option Expr))(a:List Expr)(e:List (TE×TE)):Prop:=
 ∀(b:List (Addr×Obj)) (s:Shared) (f:St) (H:Hp) (Q:List (V×V)->Hp->Prop),Inv X b f H s->Qg e f H Q→
  wpAny (model X.prog X.w) X.A (evalPairs (pairTrees c a X.env g)) (λvs h=>∃ps H',Inv X b f H' h/\VV ps vs/\Q ps H') X.xe s
theorem Rz{X:Cx}{a:Pos}:PPs X a [] [] []:=λb s c H Q I h=>pairTrees_nil_walk ⟨[],H,I,.nil,h⟩
theorem wK{X:Cx}{a:Pos}{k v:Expr}{f:List (Option Expr)}{vs:List Expr}{tk g:TE}{c:List (TE×TE)}(A:PE X k tk)(B:PE X v g)(o:PPs X a f vs c):
  PPs X a (some k::f) (v::vs) ((tk,g)::c):=λb s i H Q I h=>
 pairTrees_cons_walk (A.th I h λu J x E p m j=>B.th p j λK z y n C q l=>
  nh (o b z i n _ C l) λG F r=>by obtain⟨ps,D,t,e,w⟩:=r;exact⟨(x,y)::ps,D,t,.cons ⟨m,q⟩ e,w⟩)
def qY(fy more:List (Key×V)):List (Key×V):=more.foldl (λa b=>putK a b.1 b.2) fy
def KV.merge:∀{more:List (Key×V)} {a:List (Key×Value)} {fy:List (Key×V)} {vs:List (Key×Value)},KV more a->KV fy vs->KV (qY fy more) (merged vs a):=by
 intro more a fy vs r;unfold KV at r
 induction r generalizing fy vs with
 |nil=>intro q;exact q
 |@cons p q ps qs h t ih=>
  intro b
  have e:KV (putK fy p.1 p.2) (stored vs q.1 q.2):=by
   have:=b.put p.1 h.2;rwa[<- h.1]
  exact ih e
theorem zl:∀(more fy:List (Key×V)),(qY fy more).length<=fy.length+more.length
 |[],fy=>by show fy.length<=fy.length+0;lia
 |p::r,fy=>by
  have a:=zl r (putK fy p.1 p.2);have b:=xS fy p.1 p.2;show(qY (putK fy p.1 p.2) r).length<=_;rw[xl];lia
theorem GO{P:Program}{w:World}:∀{fy:List (Key×V)} {g:List (Value×Value)},VV (fy.map λf=>(kV f.1,f.2)) g->∃e,Carries (eX P w) g e/\KV fy e
 |[],_,r=>by rw[agC] at r;cases r;exact⟨[],True.intro,.nil⟩
 |p::fy,_,r=>by
  rw[M0] at r;cases r with
  |@cons a b as bs h t=>
   obtain⟨e,c,q⟩:=GO (P:=P) (w:=w) t;obtain⟨j,i⟩:=b;exact⟨(p.1,i)::e,⟨NS h.1,rfl,c⟩,.cons ⟨rfl,h.2⟩ q⟩
def acU(a:List (TE×TE)):TE:=λe H Q=>∀p,H p=none->Qg a e (upd H p (.dK [])) λps c=>c p=some (.dK [])/\∃fy:List (Key×V),ps=fy.map (λb=>(kV b.1,b.2))/\fy.length<=15/\Q (.ref p) (upd c p (.dK (qY [] fy)))
def RL{X:Cx}{g:Pos}{b:List (Option Expr)}{f:List Expr}{j:List (TE×TE)}(h:PPs X g b f j)(m:b.all (·.isSome)=true)(D:b.length=f.length)(y:b≠[])
  (n:b.length<=15):PE X (.Dict b f g) (acU j):=by
 intro i s u H Q I q;have K:=I.hok.fresh (fC s.heap.objs.size);have A:=I.laid (a:=s.heap.objs.size) (o:= .dK []) (h':=s.heap.push {cls:= .type "dict",data:= .dict #[]}) (t':=s.toks) (λ_ _ q=>q4 _ q) (fC _) (O7 s.heap I.big);refine wpAny_Dict_walk (knd:=eX X.prog X.w) m D y n (nh (h i _ u _ _ A (q _ K)) λN O B=>?_);obtain⟨ps,M,r,p,e,fy,G,lk,v⟩:=B;subst G;obtain⟨J,c,C⟩:=GO (P:=X.prog) (w:=X.w) p;obtain⟨z,hd,t,F,dd⟩:=aaZ r.hok e;cases F;refine⟨J,c,dd,λh' l hs=>⟨.ref s.heap.objs.size,_,?_,rfl,v⟩⟩
 have E:(qY [] fy).length<=sizeLine:=by
  have L:=zl fy [];rw[agM] at L;rw[af7];lia
 have x:∃q,h'.get? s.heap.objs.size=some q:=let ⟨q,_,_,hq,_⟩:=l;⟨q,hq⟩;exact iz r (by rw[e];exact True.intro) hs x (Yt E hd (C.merge .nil) l)
section
variable{X:Cx}{dI:List (Addr×Obj)}{σ:St}{H:Hp}{s:Shared}{a:Addr}{y d:V}{u r:Value}{o:Option V}{A:Around}{E:Value->Shared->Prop}
end
section
variable{X:Cx}{o e f:Expr}{apos cpos:Pos}{td ty tx:TE}
end
section
variable{X:Cx}{dI:List (Addr×Obj)}{σ:St}{H:Hp}{s:Shared}{a:Addr}{fy:List (Key×V)}{A:Around}{E:Value->Shared->Prop}
end
section
variable{X:Cx}{dI:List (Addr×Obj)}{σ:St}{H:Hp}{s:Shared}{a:Addr}{y:V}{u:Value}{A:Around}{E:Value->Shared->Prop}
end
end L2
namespace Att
open PySem PySem.W PySem.Calls PyProof.Rows
def Ew{P:Params}{h:Heap}:∀(c:List Int) (vs:List Value),WellAll P h vs (c.map WData.int)->IntsAre vs c:=by
 intro c
 induction c with
 |nil=>
  intro vs w;rw[agC] at w;cases w;exact .nil
 |cons n c e=>
  intro vs w;rw[M0] at w;cases w with
  |cons a b=>
   cases a;exact .cons _ _ (e _ b)
def SY{l:OpenLaw}{n:Nat}(x:l.most=some n){P:Params}{h:Heap}{args:List WData}{c:List Value}
  (e:l.row.toRowW.claim.pre args=true) (o:WellAll P h c args):
  ∃a vs b,c=[Value.ref a]/\args=[WData.list (b.map WData.int)]/\h.get? a=some {cls:= .type "list",data:= .seq vs.toArray}/\IntsAre vs b/\b.length<=n:=by
 have m:WShape.hasAll [] args [.list .int]=true:=(pre_splitW e).1;have p:l.pre.holds [] {args:=args}=true:=(pre_splitW e).2;obtain⟨d,r,rfl,z,s⟩:=hasAllW_cons m;obtain rfl:=hasAllW_nil s;obtain⟨xs,rfl,v⟩:=hasW_list z;obtain⟨b,rfl⟩:=items_int v
 have f:b.length<=n:=by
  unfold OpenLaw.pre at p
  have i:(WTm.not (.lt (.lit (.int (n:Int))) (.len (.arg 0)))).holds [] {args:=[.list (b.map .int)]}=true:=by
   have i:=(holds_andW p).1;rw[x] at i;exact i
  have j:=condW_of i (w_not (w_lt w_lit (w_len_list (w_arg rfl))));rw[gm] at j;refine Nat.le_of_not_lt λq=>?_;have y:(n:Int)<((b.length:Nat):Int):=by lia
  first
   |(rw[f7 y] at j;exact absurd j ∅)
   |(simp at j;lia)
 cases o with
 |cons u w=>
  cases w;cases u with
  |list t g=>exact⟨_,_,b,rfl,rfl,t,Ew b _ g,f⟩
theorem Te(l:OpenLaw)(args:List WData):l.row.toRowW.claim.post args (.bool true) args=true:=
 postW_of (r:=l.row.toRowW) (X:=(true==true))
  (show WShape.has [] (.bool true) .bool=true by first|rfl|decide|simp[WShape.has,WShape.arms,WShape.armsAll])
  (show(WTm.eq .res (.lit (.bool true))).value [] {args:=args,res:=some (.bool true),after:=args}=some (.bool (true==true)) from w_eq_bool (w_res rfl) w_lit) rfl
def M1{l:OpenLaw}{n:Nat}{q:Program}{c:List Str}{D:(Str->Option Value)->Heap->Prop}{C:World->Heap->Prop}{d:DefRec}
  (Q:l.most=some n) (u:d.params.defaults=[])
  (call:∀(w:World) (s₀ b:Shared) (mg y:Str->Option Value) (fa:Addr) (o:Obj) (v m e:Value) (a:Addr) (vs:List Value) (p:List Int),
   Ground q c [] D w s₀ mg y b.heap->C w b.heap→
   b.heap.get? fa=some o->o.data=.func (docDef d.name d.params d.body d.scope v m e)->b.heap.CodeRec m d.name->mg d.name=some (.ref fa)→
   b.heap.get? a=some {cls:= .type "list",data:= .seq vs.toArray}->IntsAre vs p->p.length<=n->b.gens=#[]→
   codeAny (model l.prog w) callerA (.call (.ref fa) ⟨[.ref a],[]⟩) (λr s=>r=.ok (.ret (.bool true))/\OldK b.heap s.heap/\s.os=b.os/\AllBare s.gens) b):
  WalkO q c D C l.row.toRowW d [] (λf vs=>PySem.call f vs):=by
 intro w s₀ b mg y G Y fa o v m e M kV N hd z E t J args B R h A P x O;obtain rfl:M=.none:=Dflts.none E u;obtain rfl:kV=.none:=Dflts.noKw E;obtain⟨a,vs,p,rfl,rfl,j,g,i⟩:=SY Q h x;refine enter_call (agO (call w s₀ b mg y fa o v m e a vs p G Y N (fd_plain hd) z t j g i J) λr s I=>?_);obtain⟨rfl,F,K,L⟩:=I;exact⟨.inl ⟨.bool true,.bool true,[],rfl,λ_=>rfl,.bool true,Te l _,λ_=>⟨List.Pairwise.nil,λ_ H=>(nomatch H)⟩⟩,F,K,L⟩
section
variable{prog:Program}{w:World}{A:Around}{E:Value->Shared->Prop}{s:Shared}{K:Frag}
end
end Att
namespace L2
open PySem PySem.Spec PyProof.Rows
theorem KA:∀{vs:List Value} {a:List Int},IntsAre vs a->Vals (a.map V.int) vs
 |_,_,.nil=>.nil
 |_,_,.cons n t h=>.cons ⟨t,rfl⟩ (KA h)
def abr(H:Hp):Prop:=∀b,H b=none\/∃o xs,H b=some (.frz o (.lst xs))
def XI{P:Program}{w:World}{K:PySem.W.Frag}{mg Q:Str->Option Value}{CX:M4}{k:Nat}{fa a:Addr}{fd:FuncData}{x:Str}{sp:Sp}{c:Shared}{vs:List Value}{D:List Int}
  (T:K.In c.heap) (A:c.heap.Ns mainGlobals mg) (g:c.heap.Ns builtinsNs Q) (N:∀x:Str,x≠"__name__"->Q x=bootBuiltins x) (C:c.heap.NoLimit) (hg:c.gens=#[])
  (I:c.heap.get? a=some {cls:= .type "list",data:= .seq vs.toArray}) (S:IntsAre vs D) (X:D.length<=sizeLine) (hr:eA cm k callerA)
  (F:∀dH:Heap,K.In dH->dH.Ns mainGlobals mg->aC P w K mg dH CX cm k fa fd [x] sp) (p:∀(s:Shared) (u:Value),BindsTo s fd ⟨[u],[]⟩ [(x,u)])
  (J:∀H:Hp,abr H->fk K H a (D.map V.int)->sp [.ref a] H (λv _=>v=.bl true) λ_ _ _=>False)
  (O:∀H e i,CX [] H c (λ_ _ _=>False) e i->False):
  codeAny (model P w) callerA (.call (.ref fa) ⟨[.ref a],[]⟩) (λr i=>r=.ok (.ret (.bool true))/\OldK c.heap i.heap/\i.os=c.os/\AllBare i.gens) c:=by
 have U:=KA S;have G:=S.length
 have l:∀H:Hp,abr H->fk K H a (D.map V.int)->pD P w H c.heap->(∀b,H b≠none->b=a)->(H a≠none->K.lookup a=none)→
   codeAny (model P w) callerA (.call (.ref fa) ⟨[.ref a],[]⟩) (λr i=>r=.ok (.ret (.bool true))/\OldK c.heap i.heap/\i.os=c.os/\AllBare i.gens) c:=by
  intro H Y hS hok R hK;have f:∀{b:Addr} {o:Obj},c.heap.get? b=some o->H b=none->(L5 c.heap H).get? b=some o:=λe n=>V8 e n
  have L:∀{b:Addr} {o:Obj} {es:Array DictEntry} {B:Nat},c.heap.get? b=some o->o.data=.dict es B->H b=none:=λ{b o es B} e d=>by
   cases q:H b with
   |none=>rfl
   |some u=>
    have M:b=a:=R b (by rw[q];simp);subst M;rw[I] at e;cases e;have d':Data.seq vs.toArray _=Data.dict es B:=d;cases d'
  have j:∀{b:Addr} {m:Str->Option Value},c.heap.Ns b m->(L5 c.heap H).Ns b m:=λ{b m} ⟨o,es,B,e,d,r⟩=>⟨o,es,B,f e (L e d),d,r⟩
  have E:K.In (L5 c.heap H):=λb o e=>f (T b o e) (by
   cases q:H b with
   |none=>rfl
   |some u=>
    have M:b=a:=R b (by rw[q];simp);subst M;rw[hK (by rw[q];simp)] at e;cases e)
  have hM:Mod K mg (L5 c.heap H):=⟨E,j A,⟨Q,j g,N⟩,let ⟨mc,h1,h2⟩:=C;⟨mc,j h1,h2⟩⟩;have e0:Qj P w K mg (L5 c.heap H) callerA [] c H:=⟨rfl,hM,λb o e=>aah e,ahL (SF _ _),trivial,λb g=>absurd (show b∈([]:List Addr) from g) (by simp),hok,.of_eq hg⟩;refine agO ((F _ E (j A)).run callerA [] c H ⟨[.ref a],[]⟩ [.ref a] [.ref a] _ _ hr e0 (p c (.ref a)) (.cons rfl .nil) (J H Y hS)) λr i h=>?_;cases r with
  |error e=>exact(O H e i h).elim
  |ok fl=>
   cases fl with
   |next=>exact False.elim h
   |brk=>exact False.elim h
   |cont=>exact False.elim h
   |ret u=>
    obtain⟨v,H',os,bare,un,t,r',q⟩:=h;have q':v=.bl true:=q;subst q';obtain rfl:u=Value.bool true:=r';refine⟨rfl,OldK.of_keep λb o e=>?_,os,bare⟩;cases q:H b with
    |none=>exact un.keep b o e q (by intro z;exact absurd (show b∈([]:List Addr) from z) (by simp)) (by simp)
    |some u=>
     rcases Y b with z|⟨Z,xs,z⟩
     .rw[q] at z;cases z
     .have z2:=un.HA b Z _ z;obtain⟨e1,_⟩:=hok b _ z;obtain⟨e2,_⟩:=t b _ z2;rw[e] at e1;cases e1;exact e2
 cases hk:K.lookup a with
 |some o=>
  have e:=T a o hk;rw[I] at e;cases e;refine l (λ_=>none) (λ_=>.inl rfl) (.inr ⟨_,vs.toArray,_,hk,rfl,rfl,rfl,by rwa[ki,G],by simpa using U⟩) (λb u z=>by have y:(none:Option HO)=some u:=z;cases y) (λb z=>absurd rfl z) λz=>absurd rfl z
 |none=>
  refine l (λb=>if b=a then some (.frz {cls:= .type "list",data:= .seq vs.toArray} (.lst (D.map V.int))) else none) (λb=>?_) (.inl (.inr ⟨{cls:= .type "list",data:= .seq vs.toArray},eE rfl⟩)) (λb u z=>?_) (λb z=>?_) λ_=>hk
  .by_cases g:b=a
   .exact .inr ⟨_,_,eE g⟩
   .exact .inl (er g)
  .by_cases g:b=a
   .have y:=(eE g).symm.trans z;cases y;subst g;exact⟨I,by rwa[gm],vs,_,U,I⟩
   .have y:=(er g).symm.trans z;cases y
  .by_cases g:b=a
   .exact g
   .exact absurd (er g) z
def uG{l:PySem.W.OpenLaw}{n k:Nat}{q:Program}{i:List Str}{L:(Str->Option Value)->Heap->Prop}{D:World->Heap->Prop}{d:DefRec}{K:Params->PySem.W.Frag}{CX:World->M4}{sp:World->Sp}{x:Str}
  (U:l.most=some n) (A:n<=sizeLine) (z:d.params.defaults=[]) (N:eA cm k callerA)
  (I:∀(w:World) (h:Heap),D w h->(K w.params).In h)
  (F:∀(w:World) (mg:Str->Option Value) (fa:Addr) (h:Heap),(K w.params).In h->h.Ns mainGlobals mg->mg d.name=some (.ref fa)→
   ∃fd:FuncData,(∀(s:Shared) (u:Value),BindsTo s fd ⟨[u],[]⟩ [(x,u)])∧
    ∀dH:Heap,(K w.params).In dH->dH.Ns mainGlobals mg->aC l.prog w (K w.params) mg dH (CX w) cm k fa fd [x] (sp w))
  (t:∀(w:World) (H:Hp) (a:Addr) (r:List Int),r.length<=n->abr H->fk (K w.params) H a (r.map V.int)->sp w [.ref a] H (λv _=>v=.bl true) λ_ _ _=>False)
  (B:∀(w:World) (H:Hp) (s:Shared) (e:Value) (C:Shared),CX w [] H s (λ_ _ _=>False) e C->False):
  PySem.W.WalkO q i L D l.row.toRowW d [] (λf vs=>PySem.call f vs):=by
 refine Att.M1 U z λw s₀ m mg mb fa o Z X O a vs r G Y ho hd Q y p j c J=>?_;have E:=I w _ Y;obtain⟨fd,P,M⟩:=F w mg fa _ E G.T.g y;exact XI E G.T.g G.T.b G.T.builtins G.T.nolimit J p j (mf c A) N M P (λH R S=>t w H a r c R S) λH e C=>B w H m e C
def nD(s:Stmt):Arguments:=match s with
 |.FunctionDef _ a _ _ _ _ _ _ _ _=>a
 |_=>{posonlyargs:=[],args:=[],vararg:=none,kwonlyargs:=[],kw_defaults:=[],kwarg:=none,defaults:=[]}
def cB(s:Stmt):List Stmt:=match s with
 |.FunctionDef _ _ b _ _ _ _ _ _ _=>b
 |_=>[]
def ak(s:Stmt):Scope:=match s with
 |.FunctionDef _ _ _ _ _ _ a _ _ _=>a
 |_=>{kind:= .function,names:=[],isGenerator:=false,isCoroutine:=false}
section
variable{P:Program}{w:World}{K:PySem.W.Frag}{mg:Str->Option Value}{dH:Heap}
end
theorem Ku{A:Around}{k:Nat}(a:eA cm k A):A.units+1<cLine:=F6 (Nat.add_le_add_left (by decide:1<=64) _) a.units
theorem aV{n:Nat}(h:n<=1000):n<sizeLine:=F6 h ∅
section
variable{X:Cx}
theorem pv(i:Nat){x:Str}{b:Pos}(e:X.N[i]? =some x:=by rfl)(c:Vis X.env.scope x:=by first|exact Or.inl rfl|exact Or.inr (Or.inl rfl)|exact Or.inr (Or.inr rfl))(hd:(x==("__debug__":Str))=false:=by decide)
  (a:(x==("__classdict__":Str))=false:=by decide):PE X (.Name x b) (adV i):=ab3 e c hd a
end
def adg{A B:Prop}(h:B):if false=true then A else B:=by
 rwa[er l6]
def adC{A B:Prop}(h:A):if true=true then A else B:=by
 rwa[eE rfl]
def bp{c A B:Prop}[Decidable c](a:c->A)(b:¬c->B):if c then A else B:=by
 by_cases h:c
 .rw[eE h];exact a h
 .rw[er h];exact b h
def aO(H H':Hp):Prop:=∀b o,H b=some o->H' b=some o
theorem aO.refl(H:Hp):aO H H:=λ_ _ h=>h
theorem aO.trans{H e f:Hp}(a:aO H e)(b:aO e f):aO H f:=λc o h=>b c o (a c o h)
def aO.free{H H':Hp}(e:aO H H'){l:Addr}(h:H' l=Option.none):H l=Option.none:=by
 cases q:H l with
 |none=>rfl
 |some o=>
  rw[e l o q] at h;cases h
def aO.seq{K:PySem.W.Frag}{H H':Hp}{a:Addr}{xs:List V}(e:aO H H')(h:fk K H a xs):fk K H' a xs:=by
 rcases h with(h|⟨o,h⟩)|h
 .exact .inl (.inl (e _ _ h))
 .exact .inl (.inr ⟨o,e _ _ h⟩)
 .exact .inr h
section
variable{κ:Type}[DecidableEq κ]
end
theorem jx{b:Sort _}{p r:b->Prop}{a:b}(e:p a)(h:r a):∃c,p c/\r c:=⟨a,e,h⟩
theorem iE{e:Sort _}{c:Sort _}{R:e->c->Prop}(a:e)(b:c)(f:R a b):∃a b,R a b:=⟨a,b,f⟩
theorem pw{g:Sort _}{f:Sort _}{e:Sort _}{R:g->f->e->Prop}(a:g)(b:f)(c:e)(h:R a b c):∃a b c,R a b c:=⟨a,b,c,h⟩
theorem hY{h:Sort _}{f:Sort _}{e:Sort _}{g:Sort _}{R:h->f->e->g->Prop}(a:h)(b:f)(c:e)(d:g)(i:R a b c d):∃a b c d,R a b c d:=⟨a,b,c,d,i⟩
theorem pq{j:Sort _}{g:Sort _}{f:Sort _}{h:Sort _}{i:Sort _}{R:j->g->f->h->i->Prop}(a:j)(b:g)(c:f)(d:h)(e:i)(l:R a b c d e):∃a b c d e,R a b c d e:=⟨a,b,c,d,e,l⟩
theorem kb{m:Sort _}{h:Sort _}{g:Sort _}{i:Sort _}{l:Sort _}{j:Sort _}{R:m->h->g->i->l->j->Prop}(a:m)(b:h)(c:g)(d:i)(e:l)(f:j)(n:R a b c d e f):∃a b c d e f,R a b c d e f:=⟨a,b,c,d,e,f,n⟩
theorem pf{o:Sort _}{i:Sort _}{h:Sort _}{j:Sort _}{n:Sort _}{l:Sort _}{m:Sort _}{R:o->i->h->j->n->l->m->Prop}(a:o)(b:i)(c:h)(d:j)(e:n)(f:l)(g:m)(p:R a b c d e f g):∃a b c d e f g,R a b c d e f g:=⟨a,b,c,d,e,f,g,p⟩
theorem ex8{q:Sort _}{j:Sort _}{i:Sort _}{l:Sort _}{o:Sort _}{m:Sort _}{n:Sort _}{p:Sort _}{R:q->j->i->l->o->m->n->p->Prop}(a:q)(b:j)(c:i)(d:l)(e:o)(f:m)(g:n)(h:p)(r:R a b c d e f g h):∃a b c d e f g h,R a b c d e f g h:=⟨a,b,c,d,e,f,g,h,r⟩
theorem Zl{s:Sort _}{m:Sort _}{l:Sort _}{n:Sort _}{q:Sort _}{u:Sort _}{o:Sort _}{r:Sort _}{t:Sort _}{p:Sort _}{R:s->m->l->n->q->u->o->r->t->p->Prop}(a:s)(b:m)(c:l)(d:n)(e:q)(f:u)(g:o)(h:r)(i:t)(j:p)(v:R a b c d e f g h i j):∃a b c d e f g h i j,R a b c d e f g h i j:=⟨a,b,c,d,e,f,g,h,i,j,v⟩
theorem UB{v:Sort _}{p:Sort _}{o:Sort _}{q:Sort _}{t:Sort _}{x:Sort _}{r:Sort _}{u:Sort _}{w:Sort _}{s:Sort _}{n:Sort _}{m:Sort _}{R:v->p->o->q->t->x->r->u->w->s->n->m->Prop}(a:v)(b:p)(c:o)(d:q)(e:t)(f:x)(g:r)(h:u)(i:w)(j:s)(k:n)(l:m)(y:R a b c d e f g h i j k l):∃a b c d e f g h i j k l,R a b c d e f g h i j k l:=⟨a,b,c,d,e,f,g,h,i,j,k,l,y⟩
theorem adY{x:Sort _}{r:Sort _}{q:Sort _}{s:Sort _}{v:Sort _}{z:Sort _}{t:Sort _}{w:Sort _}{y:Sort _}{u:Sort _}{p:Sort _}{o:Sort _}{n:Sort _}{R:x->r->q->s->v->z->t->w->y->u->p->o->n->Prop}(a:x)(b:r)(c:q)(d:s)(e:v)(f:z)(g:t)(h:w)(i:y)(j:u)(k:p)(l:o)(m:n)(A:R a b c d e f g h i j k l m):∃a b c d e f g h i j k l m,R a b c d e f g h i j k l m:=⟨a,b,c,d,e,f,g,h,i,j,k,l,m,A⟩
theorem mE{a b c:Prop}(f:a)(e:b)(g:c):a/\b/\c:=⟨f,e,g⟩
theorem mq{a b c d:Prop}(f:a)(e:b)(g:c)(hd:d):a/\b/\c/\d:=⟨f,e,g,hd⟩
theorem fT{a b c d e:Prop}(h:a)(g:b)(i:c)(hd:d)(f:e):a/\b/\c/\d/\e:=⟨h,g,i,hd,f⟩
theorem rz{a b c d e f:Prop}(i:a)(h:b)(l:c)(hd:d)(g:e)(j:f):a/\b/\c/\d/\e/\f:=⟨i,h,l,hd,g,j⟩
theorem l7{a b c d e f g:Prop}(j:a)(i:b)(n:c)(hd:d)(h:e)(l:f)(m:g):a/\b/\c/\d/\e/\f/\g:=⟨j,i,n,hd,h,l,m⟩
theorem an8{a b c d e f g h:Prop}(m:a)(j:b)(p:c)(hd:d)(i:e)(n:f)(o:g)(l:h):a/\b/\c/\d/\e/\f/\g/\h:=⟨m,j,p,hd,i,n,o,l⟩
theorem an9{a b c d e f g h i:Prop}(n:a)(l:b)(r:c)(hd:d)(j:e)(o:f)(q:g)(m:h)(p:i):a/\b/\c/\d/\e/\f/\g/\h/\i:=⟨n,l,r,hd,j,o,q,m,p⟩
theorem TX{a b c d e f g h i j:Prop}(o:a)(m:b)(q:c)(hd:d)(p:e)(r:f)(t:g)(l:h)(s:i)(n:j):a/\b/\c/\d/\e/\f/\g/\h/\i/\j:=⟨o,m,q,hd,p,r,t,l,s,n⟩
section
variable{K:PySem.W.Frag}{H:Hp}{f:Str}{a C dx:Addr}{fs:List (Str×V)}{v:V}
theorem aZ{R:Addr->Addr->V->Prop}(h:H a=some (.ins C dx fs))(c:tW K C)(n:aY K C f)(l:fs.lookup f=some v)(r:R a C v):∃b C dx fs v,V.ref a=.ref b/\H b=some (.ins C dx fs)/\tW K C/\aY K C f/\fs.lookup f=some v/\R b C v:=⟨a,C,dx,fs,v,rfl,h,c,n,l,r⟩
theorem bV{R:Addr->Addr->Addr->List (Str×V)->Prop}(h:H a=some (.ins C dx fs))(c:tW K C)(n:aY K C f)(l:fs.length<1000)(r:R a C dx fs):∃b C dx fs,V.ref a=.ref b/\H b=some (.ins C dx fs)/\tW K C/\aY K C f/\fs.length<1000/\R b C dx fs:=⟨a,C,dx,fs,rfl,h,c,n,l,r⟩
theorem dJ{Dt:Addr->Sp->List V->Prop}{sp:Sp}{b:List V}{R:Addr->Sp->List V->Prop}(h:H a=some (.ins C dx fs))(d:Dt C sp b)(l:fs.lookup f=none)(r:R a sp b):∃c C dx fs sp b,V.ref a=.ref c/\H c=some (.ins C dx fs)/\Dt C sp b/\fs.lookup f=none/\R c sp b:=⟨a,C,dx,fs,sp,b,rfl,h,d,l,r⟩
theorem rT{R:V->Prop}{p:Addr}{xs:List V}{i:Int}{v:V}(s:fk K H p xs)(e:sq xs i=some v)(r:R v):∃b xs c v,V.ref p=.ref b/\V.int i=.int c/\fk K H b xs/\sq xs c=some v/\R v:=⟨p,xs,i,v,rfl,rfl,s,e,r⟩
theorem kU{R:V->Prop}{p:Addr}{xs:List V}{i:Int}{v:V}(s:l5 K H p xs)(e:sq xs i=some v)(r:R v):∃b xs c v,V.ref p=.ref b/\V.int i=.int c/\l5 K H b xs/\sq xs c=some v/\R v:=⟨p,xs,i,v,rfl,rfl,s,e,r⟩
theorem dgI{R:V->Prop}{y v:V}(d:qE H a y (some v))(r:R v):∃b v,V.ref a=.ref b/\qE H b y (some v)/\R v:=⟨a,v,rfl,d,r⟩
theorem WZ{R:Addr->List V->Nat->Prop}{p:Addr}{xs:List V}{k:Int}{j:Nat}(h:H p=some (.lst xs))(e:ixN xs.length k=some j)(r:R p xs j):∃b xs c j,V.ref p=.ref b/\V.int k=.int c/\H b=some (.lst xs)/\ixN xs.length c=some j/\R b xs j:=⟨p,xs,k,j,rfl,rfl,h,e,r⟩
end
def Inv.aaW{X:Cx}{f:List (Addr×Obj)}{j:St}{H:Hp}{s:Shared}{a:Addr}{o:HO}(I:Inv X f j H s)(h:H a=none)(r:X.s₀.heap.get? a=none)(m:a≠X.env.locals)
  (t:∀x c,X.env.cells.lookup x=some c->c≠a) (v:∀p∈X.pn++f,p.1≠a) (new:dZ X.prog X.w (upd H a o) s.heap a o):Inv X f j (upd H a o) s:=by
 refine⟨I.ok,I.os,I.bare,⟨I.dH.keep,I.dH.slot,λb i q n l=>?_,I.dH.there,λb xs q=>?_,λb i u q=>?_,λb ps q=>?_⟩,I.loc,I.cell,?_,λx c e=>?_,λp g=>?_,λb u e=>?_,I.len⟩
 .rw[ai λz=>by rw[z,r] at q;cases q];exact I.dH.free b i q n l
 .have z:=I.dH.JF b xs q;rwa[ai (aq z h)]
 .have z:=I.dH.HA b i u q;rwa[ai (aq z h)]
 .obtain ⟨more,z⟩:=I.dH.Ji b ps q;exact⟨more,by rwa[ai (aq z h)]⟩
 .rw[ai (Ne.symm m)];exact I.free
 .rw[ai (t x c e)];exact I.kY x c e
 .obtain ⟨h1,h2,h3⟩:=I.pin p g;exact⟨h1,by rwa[ai (v p g)],h3⟩
 .by_cases hb:b=a
  .subst hb;rw[ae] at e;cases e;exact new
  .rw[ai hb] at e;exact(I.hok b u e).AG (λ_ _ _ q=>q) (λc q=>by rwa[ai (aq q h)]) λc xs q=>by rwa[ai (aq q h)]
section
variable{prog:Program}{w:World}{A:Around}{R:Result->Shared->Prop}{s:Shared}
def Mc{z a j:Expr}{y:List Expr}{scope:Scope}{D:Pos}{it t:Value}{env:Env}(I:Nat->Shared->Prop)
  (turn:∀n s,I n s->wpAny (model prog w) A (pyNext it) (λr e=>match r with
   |none=>R (.ok .next) e
   |some v=>wpAny (model prog w) A (letOwnedTupleGo a it v) (λ_ b=>wpAny (model prog w) A (assign a env v) (λ_ p=>
     wpAny (model prog w) A (forIn y true λc r=>if r=true then do let ok<-isTrue c env (eval c env);pure (ForInStep.yield ok) else pure (ForInStep.yield r)) (λok g=>
      if ok=true then wpAny (model prog w) A (eval z env) (λx q=>
       wpAny (model prog w) A (call (.builtin "list.append") [t,x]) (λ_ o=>∃m,m<n/\I m o) (λ_ _=>False) q) (λ_ _=>False) g
      else ∃m,m<n/\I m g) (λ_ _=>False) p) (λ_ _=>False) b) (λ_ _=>False) e) (λ_ _=>False) s)
  (n:Nat) (h:I n s):
  codeAny (model prog w) A (.compLoop (.ListComp z [⟨a,j,y,0⟩] scope D) 0 it t env) R s:=by
 refine codeAny_loop rfl I (λn s F=>?_) n h;show wpAny _ A ((compTurn (.ListComp z [⟨a,j,y,0⟩] scope D) 0 it t env).onRaise (λx=>do noteFrame x env;theTreesLotGoes x)) _ _ s;refine wpAny_noted ?_;rw[compTurn_list];refine ko (ahr (ko (xm (turn n s F) (λr e i=>?_) λ_ _ f=>f.elim)));cases r with
 |none=>exact rr i
 |some v=>
  refine ko (xm i (λ_ b u=>?_) λ_ _ f=>f.elim);refine ko (xm u (λ_ p B=>ko (xm B (λok g l=>?_) λ_ _ f=>f.elim)) λ_ _ f=>f.elim);cases ok with
  |false=>exact rr ⟨rfl,l⟩
  |true=>
   exact ko (ko (xm l (λx q E=>ko (xm E (λ_ o C=>rr (rr ⟨rfl,C⟩)) λ_ _ f=>f.elim)) λ_ _ f=>f.elim))
end
def PF(X:Cx)(e:List Expr)(t:TT):Prop:=
 ∀(a:List (Addr×Obj)) (s:Shared) (b:St) (H:Hp) (Q:Bool->Hp->Prop),Inv X a b H s->t b H Q→
  wpAny (model X.prog X.w) X.A (forIn e true λc r=>if r=true then do let ok<-isTrue c X.env (eval c X.env);pure (ForInStep.yield ok) else pure (ForInStep.yield r)) (TP X a b Q) X.xe s
def acY:TT:=λ_ H Q=>Q true H
theorem Aw{X:Cx}:PF X [] acY:=λ_ _ _ H _ I h=>wpAny_tests_nil ⟨H,I,h⟩
theorem Mu{X:Cx}{c:Expr}{t:TT}(h:PT X c t):PF X [c] t:=λa s b H Q I q=>wpAny_tests_one (h a s b H Q I q)
def Cx.comp(X:Cx)(c:List Str)(scope:Scope)(cl:List (Str×Addr))(C:Addr)(a:List Addr)(b:Shared)(e:Hp):Cx:=
 {X with N:=c,s₀:=b,H₀:=e,env:=compEnvC scope cl C X.env,dN:=X.stack,ex:=a,fn:=λ_=>false,pn:=[],xe:=λ_ _=>False}
def Py{b:Type}(P:b->Prop):List b->Prop
 |[]=>True
 |a::r=>P a/\Py P r
theorem Py.mem{b:Type}{P:b->Prop}:∀{l:List b},Py P l->∀a∈l,P a
 |_::_,⟨h,_⟩,_,.head _=>h
 |_::_,⟨_,t⟩,_,.tail _ m=>Py.mem t _ m
structure Af(X:Cx)(scope:Scope)(x:Str)(fr:List (Str×Nat))(cl:List (Str×Addr)):Prop where
 kind:scope.kind=.function
 ac7:closureFor scope X.env=pure cl
 Vb:∀y∈scope.names,y.2≠ .cell
 names:∀y∈scope.names,y.2=.local->scope.names.lookup y.1=some .local
 own:scope.names.lookup x=some .local
 nd:(x::fr.map (·.1)).Nodup
 cells:Py (λp:Str×Addr=>X.env.cells.lookup p.1=some p.2) cl
 has:Py (λy:Str×NameKind=>y.2=.free->∃c,cl.lookup y.1=some c) scope.names
 slot:Py (λp:Str×Nat=>X.N[p.2]? =some p.1/\(X.env.kindOf p.1=some .cell\/X.env.kindOf p.1=some .free)/\scope.names.lookup p.1=some .free/\cl.lookup p.1=X.env.cells.lookup p.1) fr
theorem Af.cell{X:Cx}{scope:Scope}{x:Str}{fr:List (Str×Nat)}{cl:List (Str×Addr)}(S:Af X scope x fr cl){y:Str}{c:Addr}(e:cl.lookup y=some c):X.env.cells.lookup y=some c:=
 S.cells.mem _ (afW e)
theorem BE{scope:Scope}{env:Env}{y:Str}:∀{l:List (Str×NameKind)} {k:NameKind},
  (l.map λ(n,k)=>if (k==NameKind.free&&env.scope.kind== .function&&env.kindOf n==some .cell) then (n,NameKind.cell) else (n,k)).lookup y=some k→
  ∃k0,l.lookup y=some k0/\(k=k0\/(k0=.free/\k=.cell))
 |[],_,h=>by simp at h
 |(n,k0)::r,k,h=>by
  have b:=@BE scope env y r k;have h:List.lookup y ((if (k0==NameKind.free&&env.scope.kind== .function&&env.kindOf n==some .cell)=true then (n,NameKind.cell) else (n,k0))::(r.map λ(n,k)=>if (k==NameKind.free&&env.scope.kind== .function&&env.kindOf n==some .cell) then (n,NameKind.cell) else (n,k)))=some k:=h;cases hx:y==n with
  |true=>
   refine⟨k0,by simp[afw,hx],?_⟩;by_cases a:(k0==NameKind.free&&env.scope.kind== .function&&env.kindOf n==some .cell)=true
   .rw[eE a] at h;simp only[afw,hx] at h;simp only[oT,S4] at a;exact .inr ⟨a.1.1,(iH h).symm⟩
   .rw[er a] at h;simp only[afw,hx] at h;exact .inl (iH h).symm
  |false=>
   have h':List.lookup y (r.map λ(n,k)=>if (k==NameKind.free&&env.scope.kind== .function&&env.kindOf n==some .cell) then (n,NameKind.cell) else (n,k))=some k:=by
    by_cases a:(k0==NameKind.free&&env.scope.kind== .function&&env.kindOf n==some .cell)=true
    .rw[eE a] at h;simpa only[afw,hx] using h
    .rw[er a] at h;simpa only[afw,hx] using h
   obtain⟨k1,e1,e2⟩:=b h';exact⟨k1,by simpa[afw,hx] using e1,e2⟩
theorem Bb{scope:Scope}{env:Env}{y:Str}:∀{l:List (Str×NameKind)},l.lookup y=some .free→
  (l.map λ(n,k)=>if (k==NameKind.free&&env.scope.kind== .function&&env.kindOf n==some .cell) then (n,NameKind.cell) else (n,k)).lookup y=some .free∨
  (l.map λ(n,k)=>if (k==NameKind.free&&env.scope.kind== .function&&env.kindOf n==some .cell) then (n,NameKind.cell) else (n,k)).lookup y=some .cell
 |[],h=>by simp at h
 |(n,k0)::r,h=>by
  have b:=@Bb scope env y r;show List.lookup y ((if (k0==NameKind.free&&env.scope.kind== .function&&env.kindOf n==some .cell)=true then (n,NameKind.cell) else (n,k0))::_)=_\/List.lookup y ((if (k0==NameKind.free&&env.scope.kind== .function&&env.kindOf n==some .cell)=true then (n,NameKind.cell) else (n,k0))::_)=_;cases hx:y==n with
  |true=>
   simp only[afw,hx] at h;cases h;by_cases a:(NameKind.free==NameKind.free&&env.scope.kind== .function&&env.kindOf n==some .cell)=true
   .rw[eE a];exact .inr (by simp[afw,hx])
   .rw[er a];exact .inl (by simp[afw,hx])
  |false=>
   simp only[afw,hx] at h;by_cases a:(k0==NameKind.free&&env.scope.kind== .function&&env.kindOf n==some .cell)=true
   .rw[eE a];simpa only[afw,hx] using b h
   .rw[er a];simpa only[afw,hx] using b h
def inner(a:St)(fr:List (Str×Nat))(v:Option V):St:=v::fr.map λp=>(a[p.2]?).join
section
variable{X:Cx}{dI:List (Addr×Obj)}{σ:St}{H2:Hp}{s2:Shared}{scope:Scope}{x:Str}{fr:List (Str×Nat)}{cl:List (Str×Addr)}{C:Addr}{fp:List Addr}
theorem Ro(S:Af X scope x fr cl)(I:Inv X dI σ H2 s2)(p:s2.heap.objs.size<=C)(i:∀b∈fp,jX X dI H2 b)(n:∀b∈fp,b<s2.heap.objs.size):
  (X.comp (x::fr.map (·.1)) scope cl C fp s2 H2).Ok where
 mod:=I.mod
 kind:=S.kind
 glob:=I.ok.glob
 blt:=I.ok.blt
 above:=p
 inj:=λy z c t r=>I.ok.inj y z c (S.cell t) (S.cell r)
 has:=λy j=>by
  have j:(relabel scope X.env).names.lookup y=some .cell\/(relabel scope X.env).names.lookup y=some .free:=j
  have f:∀k,(relabel scope X.env).names.lookup y=some k->(k=.cell\/k=.free)->∃c,cl.lookup y=some c:=λk s m=>by
   obtain⟨k0,e1,e2⟩:=BE (scope:=scope) s;have g:=afW e1
   have l:k0=.free:=by
    rcases e2 with e2|e2
    .subst e2;rcases m with z|z
     .exact absurd z (S.Vb _ g)
     .exact z
    .exact e2.1
   exact S.has.mem _ g l
  rcases j with z|z
  .exact f _ z (.inl rfl)
  .exact f _ z (.inr rfl)
 cab:=λy c h _=>absurd (show(false:Bool)=true from h) ∅
 hd:=I.ok.hd
 frames:=I.ok.frames
 stk:= .inl rfl
 exf:=λb a=>⟨nz (wh (n b a) p),λy c e=>(i b a).2.2.2.2.1 y c (S.cell e)⟩
 bs:=I.bs
 bsz:=mf I.ok.bsz I.sz
 Le:=λb o e a=>by
  rcases(i b a).2.2.2.1 with z|z
  .exact I.ok.Le b o e z
  .have q:=(I.ok.bs b o e).1;rw[z] at q;cases q
 LB:=λb a g=>by
  rcases ti.mp (I.Pf b g) with z|z
  .exact (i b a).2.1 z
  .exact (i b a).2.2.1 z
 xf:=I.stack
 frf:=I.KN
theorem Vk{j:Heap}{t1:Nat}(S:Af X scope x fr cl)(I:Inv X dI σ H2 s2)(E:s2.heap.objs.size<=C)(J:∀b∈fp,jX X dI H2 b)(s:∀b∈fp,b<s2.heap.objs.size)
  (a:∀b o,s2.heap.get? b=some o->j.get? b=some o) (P:j.Ns C λ_=>none) {D:Addr} {h:Obj} (M:j.get? D=some h) (f:s2.heap.objs.size<=D) (t:D≠C) (A:∀v,h.data≠ .cell v):
  Inv (X.comp (x::fr.map (·.1)) scope cl C fp s2 H2) [(D,h)] (inner σ fr none) H2 {s2 with heap:=j,toks:=t1} where
 ok:=Ro S I E J s
 os:=rfl
 bare:=I.bare
 dH:=Un.kept a
 loc:=by
  refine⟨_,P,λi y v e1 e2 e3=>?_⟩;obtain⟨m,F,N⟩:=I.loc;cases i with
  |zero=>simp[inner] at e2
  |succ i=>
   have e1:(fr.map (·.1))[i]? =some y:=e1;have e2:(fr.map λp=>(σ[p.2]?).join)[i]? =some (some v):=e2;rw[jl] at e1 e2;cases q:fr[i]? with
   |none=>rw[q] at e1;cases e1
   |some p=>
    rw[q] at e1 e2;have e1:p.1=y:=iH e1;have e2:(σ[p.2]?).join=some v:=iH e2;subst e1;obtain⟨K,B,Q,H⟩:=S.slot.mem p (afJ q)
    have l:σ[p.2]? =some (some v):=by
     cases r:σ[p.2]? with
     |none=>rw[r] at e2;cases e2
     |some O=>
      rw[r] at e2;cases O with
      |none=>cases e2
      |some L=>rw[show L=v from iH e2]
    have n:Vis X.env.scope p.1:=by
     rcases B with z|z
     .exact .inr (.inl z)
     .exact .inr (.inr z)
    obtain⟨u,G,lk⟩:=N p.2 p.1 v K l n;refine⟨u,G,.inr ⟨?_,?_⟩⟩
    .have:=Bb (scope:=scope) (env:=X.env) Q;rcases this with z|z
     .exact .inr z
     .exact .inl z
    .rcases lk with⟨k,_⟩|⟨_,c,ec,ic⟩
     .rcases B with z|z<;>(rw[z] at k;cases k)
     .refine ⟨c,H.trans ec,?_⟩;obtain⟨o,g,hd⟩:=ic;exact⟨o,a _ _ g,hd⟩
 cell:=λy c e=>by
  obtain⟨v,o,g,hd⟩:=I.cell y c (S.cell e);exact⟨v,o,a _ _ g,hd⟩
 free:=I.hok.fresh E
 kY:=λy c e=>I.kY y c (S.cell e)
 pin:=λp w=>by
  have w:p=(D,h):=by simpa[Cx.comp] using w
  subst w;refine⟨M,I.hok.fresh f,t,λF=>?_,A⟩;obtain⟨_,o,g,_⟩:=I.stack.mem (show D∈X.stack.filterMap (·.frame) from F);exact absurd (wh (nr g) f) (afK _)
 hok:=I.hok.kept a
 len:=by simp[inner,Cx.comp]
end
abbrev MF(its:List Value)(n:Nat):Obj:={cls:= .type "list",data:= .seq its.toArray n}
def O2(J:It)(b:St)(fr:List (Str×Nat))(n:TT)(j:TE)(h:Hp)(Q:VK):Prop:=∃W:Nat->Nat->List V->Hp->Prop,(∃m,W 0 m [] h)/\∀i m ys H',W i m ys H'→
 (J.stop i H'/\ys.length<=sizeLine/\∀p,H' p=none->Q (.ref p) (upd H' p (.lst ys)))∨
 (J.go i H'/\∃N:List V->Hp->Prop,(∀c a,N c a->∃g,g<m/\W (i+1) g c a)/\∀v e,J.yld i H' v e->n (inner b fr (some v)) e λok f=>
  if ok=true then j (inner b fr (some v)) f λy l=>ys.length<sizeLine/\N (ys++[y]) l else N ys f)
def aaV(e:TI)(fr:List (Str×Nat))(f:TT)(b:TE):TE:=λa H Q=>e a H λJ c=>O2 J a fr f b c Q
section
variable{X:Cx}{scope:Scope}{x:Str}{fr:List (Str×Nat)}{cl:List (Str×Addr)}{px pos:Pos}{iter elt:Expr}{ifs:List Expr}{wi:TI}{tf:TT}{te:TE}
def Ny(S:Af X scope x fr cl)(hc:X.calm=true)
  (hf:∀C t j L,PF (X.comp (x::fr.map (·.1)) scope cl C t j L) ifs tf) (he:∀C t j L,PE (X.comp (x::fr.map (·.1)) scope cl C t j L) elt te)
  {s:List (Addr×Obj)} {H:St} {j:Shared} {L:Hp} {it:Addr} {t:List Addr} {tn:Nat->Heap->Prop} {J:It} {Q:V->Hp->Prop} {E:Value->Shared->Prop} {RR:Value->Addr->Result->Shared->Prop}
  (I:Inv X s H L j) (T:Turn X.prog X.w X.K (.Name x px) J t it tn) (st:tn 0 j.heap) (fo:∀b∈t,jX X s L b)
  (h:O2 J H fr tf te L Q)
  (bd:∀D C m s' H',Inv X s H H' s'->s'.heap.Ns C m->jX X s H' C->Q (.ref D) H'->RR (.ref D) C (.ok .next) s'):
  wpAny (model X.prog X.w) X.A (newList []) (λa1 ap=>wpAny (model X.prog X.w) X.A (newFunctionEnv scope X.env.globals cl [] X.env.qual none .none (some X.env)) (λad aK=>
   codeAny (model X.prog X.w) X.A (.compStart (.ListComp elt [⟨.Name x px,iter,ifs,0⟩] scope pos) 0 (.ref it) a1 {ad with scope:=relabel scope X.env}) (RR a1 ad.locals) aK) E ap) E j:=by
 obtain⟨W,⟨m0,w0⟩,turn⟩:=h;refine wpAny_newObj_type (wpAny_newFunctionEnv S.Vb (by intro y hy;simp at hy) (λB g l=>?_) S.kind);dsimp only at g l ⊢;generalize hH2:j.heap.push {cls:= .type "list",dict:=none,data:= .seq ([]:List Value).toArray}=G2 at g l ⊢;have hC:G2.objs.size=j.heap.objs.size+1:=by rw[<- hH2,agB]
 have O:j.heap.objs.size≠G2.objs.size:=by rw[hC];exact nz (afn _)
 have G:j.heap.objs.size<=G2.objs.size:=by rw[hC];exact af8 _
 have below:∀b,b<j.heap.objs.size->b≠G2.objs.size:=λb f=>by rw[hC];exact nz (Nat.lt_succ_of_lt f)
 have aF:∀b o,j.heap.get? b=some o->B.get? b=some o:=λb o e=>l.extBut b o (below b (nr e)) (q4 _ (hH2 ▸ q4 _ e));have aG:B.get? j.heap.objs.size=some (MF [] 0):=l.extBut _ _ O (q4 _ (hH2 ▸ xo _ rfl))
 have R:∀b∈t,b<j.heap.objs.size:=λb f=>by
  obtain⟨o,e,_⟩:=T.obj _ _ st b f;exact nr e
 generalize hDD:j.heap.objs.size=D at *;generalize hCC:G2.objs.size=C at *;have bn:(λy:Str=>([]:List (Str×Value)).reverse.lookup y)=λ_=>none:=rfl;have g:B.Ns C λ_=>none:=g;have IY:=Vk (t1:=j.toks+([]:List (Str×Value)).length) S I (C:=C) (by rwa[hDD]) fo (λb f=>by rw[hDD];exact R b f) aF g aG (by rw[hDD];exact fC _) O (λv z=>by cases z);have P:tn 0 B:=T.keep _ _ _ st λb f o e=>aF b o e
 let Y:Cx:=X.comp (x::fr.map (·.1)) scope cl C t j L
 have am:∀{H':Hp} {oD:Obj},(∀b∈t,H' b=none)->∀b∈t,jX Y [(D,oD)] H' b:=λ{H' oD} hn b f=>
  ⟨hn b f,below b (R b f),λhm=>(Ro S I (C:=C) (by rwa[hDD]) fo (λb f=>by rw[hDD];exact R b f)).LB b f hm,.inl f,λy c e=>(fo b f).2.2.2.2.1 y c (S.cell e),λp hp=>by
   have hp:p=(D,oD):=by simpa[Y,Cx.comp] using hp
   subst hp;exact agN (R b f)⟩
 have bg:Y.N.Nodup:=S.nd;have pg:PG Y (.Name x px) (Ii 0):=c9 (i:=0) bg rfl (.inl (lookup_relabel_local S.own)) (.inr (lookup_relabel_local S.own))
 have ac:∀s3:Shared,s3={j with heap:=B,toks:=j.toks+([]:List (Str×Value)).length}→
   codeAny (model X.prog X.w) X.A (.compLoop (.ListComp elt [⟨.Name x px,iter,ifs,0⟩] scope pos) 0 (.ref it) (.ref D) (compEnvC scope cl C X.env)) (RR (.ref D) C) s3:=by
  rintro s3 rfl;refine Mc (λn s'=>∃i v H' ys its k,Inv Y [(D,MF its k)] (inner H fr v) H' s'/\tn i s'.heap/\(∀b∈t,H' b=none)/\Vals ys its/\W i n ys H') ?_ m0 ⟨0,none,L,[],[],0,IY,P,λb f=>(fo b f).1,.nil,w0⟩;rintro n s3 ⟨i,v0,H3,ys,its,k,I3,as,ax,ab,w3⟩;rcases turn i n ys H3 w3 with⟨stop,hz,qn⟩|⟨go,N,hN,step⟩
  .refine nh (T.done Y rfl rfl rfl hc i _ s3 _ H3 _ I3 (am ax) as stop) λr s4 Z=>?_;obtain⟨hr,I4⟩:=Z;subst hr;have M:=I4.pin (D,MF its k) (ae7 _ (ro.mpr rfl));obtain⟨mC,be,_⟩:=I4.loc;have nC:H3 C=none:=I4.free;have IX:Inv X s H H3 s4:=I.aaG I4.os I4.dH I4.hok I4.bare λb f=>⟨(fo b f).2.2.2.1,(fo b f).2.1,(fo b f).2.2.2.2.1,(fo b f).2.2.2.2.2⟩;have bo:∀{b:Addr},b<D->b<j.heap.objs.size:=λh=>by rwa[hDD]
   have nL:∀a,D<=a->a≠X.env.locals/\(∀y c,X.env.cells.lookup y=some c->c≠a)/\(∀p∈X.pn++s,p.1≠a)/\a∉X.fs:=λa ha=>by
    have a0:j.heap.objs.size<=a:=by rwa[hDD]
    have z:=I.PX (H':=L) a0 (I.hok.fresh a0);exact⟨z.2.1,z.2.2.2.2.1,z.2.2.2.2.2,z.2.2.1⟩
   have sz:∀a,D<=a->X.s₀.heap.get? a=none:=λa ha=>agi (mf I.sz (by rwa[hDD]));obtain⟨d1,d2,d3,d4⟩:=nL D (fC _);have IT:=IX.aaW (a:=D) (o:= .lst ys) M.2.1 (sz D (fC _)) d1 d2 d3 ⟨hz,its,k,ab,M.1⟩;obtain⟨c1,c2,c3,c4⟩:=nL C G;exact bd D C mC s4 _ IT be ⟨by rwa[ai (Ne.symm O)],c1,c4,.inr (sz C G),c2,c3⟩ (qn D M.2.1)
  .refine nh (T.item Y rfl rfl rfl hc i _ s3 _ H3 _ I3 (am ax) as go) λr s4 Z=>?_;obtain⟨u,hr,h4⟩:=Z;subst hr;refine nh h4 λ_ s5 Z=>?_;obtain⟨v,H5,I5,r5,y5,an,ba⟩:=Z;have a4:=I5.pinned (am ba) (T.obj _ _ an);have ev:(inner H fr v0).set 0 (some v)=inner H fr (some v):=rfl;refine nh (pg _ s5 _ H5 v u _ a4 r5 (show Ii 0 v (inner H fr v0) H5 (λaN H6=>aN=inner H fr (some v)/\H6=H5) from⟨ev,rfl⟩)) λ_ s6 Z=>?_;obtain⟨aN,H6,I6,e6,a7⟩:=Z;subst e6;subst a7;refine nh (hf C t j L _ s6 _ _ _ I6 (step v _ y5)) λok s7 Z=>?_;obtain⟨H7,I7,q7⟩:=Z
   have al:∀{vv:Option V} {H':Hp} {s':Shared} {its':List Value} {k':Nat},Inv Y ([(D,MF its' k')]++tX t s5.heap) (inner H fr vv) H' s'->Inv Y [(D,MF its' k')] (inner H fr vv) H' s'/\tn (i+1) s'.heap/\∀b∈t,H' b=none:=λ{vv H' s' its' k'} J'=>by
    refine⟨J'.BM,T.keep _ _ _ an λb f o e=>(J'.pin (b,o) (ae7 _ (ae7 _ (uE f e)))).1,λb f=>?_⟩;obtain⟨o,e,d⟩:=T.obj _ _ an b f;exact(J'.pin (b,o) (ae7 _ (ae7 _ (uE f e)))).2.1
   cases ok with
   |false=>
    obtain⟨m',hm,w7⟩:=hN _ _ q7;obtain⟨J1,J2,J3⟩:=al I7;exact⟨m',hm,i+1,some v,H7,ys,its,k,J1,J2,J3,ab,w7⟩
   |true=>
    refine nh (he C t j L _ s7 _ _ _ I7 q7) λU s8 Z=>?_;obtain⟨y,H8,I8,r8,q8⟩:=Z;obtain⟨hz,q8⟩:=q8;obtain⟨m',hm,w8⟩:=hN _ _ q8;have M:=I8.pin (D,MF its k) (ae7 _ (agj _ (ro.mpr rfl)));have bm:=ab.length;refine agV F.slot_list_append ⟨_,M.1,rfl⟩ F.entry_list_append (F.args_list_append_2 _ _) (PySem.list_append D its.toArray k U (by rw[ki];lia)) ⟨M.1,?_⟩;have q:=PySem.IsL.update M.1 (·.push U);have a6:its.toArray.push U=(its++[U]).toArray:=by simp
    rw[a6] at q;obtain⟨k',q⟩:∃k',(s8.heap.update D (Obj.mapSeq (·.push U))).get? D=some (MF (its++[U]) k'):=⟨_,q⟩;have a3:∀b o,b≠D->s8.heap.get? b=some o->(s8.heap.update D (Obj.mapSeq (·.push U))).get? b=some o:=λb o f e=>(agu s8.heap _ (Ne.symm f)).trans e;have a8:Inv Y (tX t s5.heap) (inner H fr (some v)) H8 s8:=I8.Fw λp hp=>I8.pin p (ae7 _ (ae7 _ hp))
    have bi:∀p∈Y.pn++tX t s5.heap,p.1≠D:=λp hp=>by
     have hp:p∈tX t s5.heap:=by simpa[Y,Cx.comp] using hp
     exact nz (R _ (JP hp).1)
    have a2:∀y c,Y.env.cells.lookup y=some c->c≠D:=λy c e z=>by
     obtain⟨vv,o,ho,hd⟩:=I8.cell y c e;rw[z,M.1] at ho;cases ho;cases hd
    have I9:=a8.turned (t':=s8.toks) (it:=D) a3 M.2.1 O (.inr (by show j.heap.get? D=none;exact agi (by rw[hDD];exact fC _))) a2 bi
    have a5:Inv Y ([(D,MF (its++[U]) k')]++tX t s5.heap) (inner H fr (some v)) H8 {s8 with heap:=s8.heap.update D (Obj.mapSeq (·.push U)),toks:=s8.toks}:=I9.Fw λp hp=>by
     rcases wH.mp hp with z|z
     .have z:p=(D,MF (its++[U]) k'):=ro.mp z;subst z;exact⟨q,M.2.1,O,M.2.2.2.1,λvv z=>by cases z⟩
     .exact I9.pin p (ae7 _ z)
    obtain⟨J1,J2,J3⟩:=al a5;exact⟨m',hm,i+1,some v,H8,ys++[y],its++[U],k',J1,J2,J3,ab.append (.cons r8 .nil),w8⟩
 exact codeAny_compStart_list (ac _ rfl) (T.self _ 0 _ _ _ P (ac _ rfl))
def m9(S:Af X scope x fr cl)(y:X.calm=true)(K:PI X (.Name x px) iter wi)
  (G:∀C g i f,PF (X.comp (x::fr.map (·.1)) scope cl C g i f) ifs tf) (F:∀C g i f,PE (X.comp (x::fr.map (·.1)) scope cl C g i f) elt te)
  (hs:∀v,foldedSetIterable iter X.env v=pure v:=by intro _;rfl):PE X (.ListComp elt [⟨.Name x px,iter,ifs,0⟩] scope pos) (aaV wi fr tf te):=by
 intro a s p H Q I h;rw[eval_ListComp];refine wpAny_comprehension_free (use:=none) rfl hs S.ac7 S.kind S.names (nh (K a s p H _ I h) λv P B=>nh B λr i l=>?_);obtain⟨it,g,O,J,f,e,z,T,n,t,l⟩:=l;subst e;refine Ny (Q:=Q) (RR:=λj C=>compPost (model X.prog X.w) X.A X.xe none (EP X a p Q) j C) S y G F z T n t l ?_;intro D C m M H' E u c q;refine⟨m,u,λh' N=>?_⟩;exact⟨.ref D,H',E.turned (t':=M.toks) (λb o L e=>(N.2 b L).trans e) c.1 c.2.1 c.2.2.2.1 c.2.2.2.2.1 c.2.2.2.2.2,rfl,q⟩
def Gr{y:Str}{i f:Pos}{j:Nat}(O:X.N.Nodup)(M:X.N[j]? =some y)(hy:Loc X.env.scope y)(S:Af X scope x fr cl)(hc:X.calm=true)(Z:PI X (.Name x px) iter wi)
  (Y:∀C p r n,PF (X.comp (x::fr.map (·.1)) scope cl C p r n) ifs tf) (U:∀C p r n,PE (X.comp (x::fr.map (·.1)) scope cl C p r n) elt te)
  (B:swapsWith (.ListComp elt [⟨.Name x px,iter,ifs,0⟩] scope pos) (some (.Name y i)) f.line X.env=pure true:=by rfl)
  (K:X.fn y=true\/X.env.scope.names.lookup y=some .local:=by first|exact .inl rfl|exact .inr rfl|assumption)
  (hs:∀v,foldedSetIterable iter X.env v=pure v:=by intro _;rfl):PS X (.Assign [.Name y i] (.ListComp elt [⟨.Name x px,iter,ifs,0⟩] scope pos) f) (aao (aaV wi fr tf te) (Ii j)):=by
 intro c s L H D I h;rw[exec_Assign_Name_used _ _ _ _ B];refine ko (ahr (ko ?_));show wpAny _ X.A (do let _<-comprehension (.ListComp elt [⟨.Name x px,iter,ifs,0⟩] scope pos) scope X.env _ (newList []) false (eval iter X.env) (some (assign (.Name y i) X.env))) _ _ s
 refine ko (xm (wpAny_comprehension_free (use:=some (assign (.Name y i) X.env)) (Q:=λ_ l=>SP X c D .next l) rfl hs S.ac7 S.kind S.names
  (nh (Z c s L H _ I h) λv s1 h1=>nh h1 λW r u=>?_)) (λ_ l hq=>rr (rr hq)) λ_ _ e=>e)
 obtain⟨it,p,tn,J,n,e,I2,T,F,f2,u⟩:=u;subst e;refine Ny (Q:=λv H'=>Ii j v L H' D.nx) (RR:=λt C=>compPost (model X.prog X.w) X.A X.xe (some (assign (.Name y i) X.env)) (λ_ l=>SP X c D .next l) t C) S hc Y U I2 T F f2 u ?_;intro D' C m l H' R hm g q;show wpAny _ X.A (assign (.Name y i) X.env (.ref D')) _ _ _;refine wpAny_assign_Name (JL R O M hy (show RelV (.ref D') (.ref D') from rfl) (λP I3 zz=>?_) K);obtain⟨a,sb,ha⟩:=zz
 have E:C≠a:=by
  rcases ha with z|z
  .rw[z];exact g.2.1
  .exact λw=>g.2.2.2.2.1 y a z w.symm
 refine⟨m,hm.sameBut sb E,λh' G=>?_⟩;exact⟨_,H',I3.turned (t':=P.toks) (λb o hb e=>(G.2 b hb).trans e) g.1 g.2.1 g.2.2.2.1 g.2.2.2.2.1 g.2.2.2.2.2,q⟩
end
def eZ{J:It}{n:Nat}{f:St}{fr:List (Str×Nat)}{r:TT}{l:TE}{H:Hp}{Q:VK}(a:Nat->List V->Hp->Prop)(t:a 0 [] H)(u:∀i ys H',i<n->a i ys H'->J.go i H')(stop:∀ys H',a n ys H'->J.stop n H')
  (step:∀i ys H' v b,i<n->a i ys H'->J.yld i H' v b->r (inner f fr (some v)) b λok h=>if ok=true then l (inner f fr (some v)) h λy z=>ys.length<sizeLine/\a (i+1) (ys++[y]) z else a (i+1) ys h)
  (g:∀ys H',a n ys H'->ys.length<=sizeLine/\∀p,H' p=none->Q (.ref p) (upd H' p (.lst ys))):
  O2 J f fr r l H Q:=by
 refine⟨λi m ys H'=>a i ys H'/\i<=n/\m=n-i,⟨n,t,vr _,rfl⟩,?_⟩;rintro i m ys H' ⟨c,s,rfl⟩;by_cases e:i=n
 .subst e;obtain⟨x,w⟩:=g ys H' c;exact .inl ⟨stop ys H' c,x,w⟩
 .have hlt:i<n:=Nat.lt_of_le_of_ne s e;exact .inr ⟨u i ys H' hlt c,λj o=>a (i+1) j o,λj o q=>⟨n-(i+1),by omega,q,hlt,rfl⟩,λv b y=>step i ys H' v b hlt c y⟩
def LV(h:Heap)(e:Addr)(cls:Value)(d:Option Addr):Option (Addr×Value)->Prop
 |none=>∃a vs,h.get? e=some a/\a.cls=cls/\a.dict=d/\a.data=.fields vs/\vs[1]? =some .none
 |some (T,fl)=>T≠e/\(∃a vs,h.get? e=some a/\a.cls=cls/\a.dict=d/\a.data=.fields vs/\vs[1]? =some (.ref T))/\∃b ts,h.get? T=some b/\b.data=.fields ts/\ts[3]? =some fl
structure Nt(fs ch:List Addr)(h h':Heap):Prop where
 keep:∀b o,b∉fs->b∉ch->h.get? b=some o->h'.get? b=some o
 slot:∀b o,b∉ch->h.get? b=some o->∃sl,h'.get? b=some {o with slots:=sl}
theorem Nt.refl(fs ch:List Addr)(h:Heap):Nt fs ch h h:=⟨λ_ _ _ _ e=>e,λ_ o _ e=>⟨o.slots,e⟩⟩
theorem Nt.trans{fs ch:List Addr}{h g f:Heap}(a:Nt fs ch h g)(b:Nt fs ch g f):Nt fs ch h f:=
 ⟨λc o g f e=>b.keep c o g f (a.keep c o g f e),λc o i e=>by
  obtain⟨_,e1⟩:=a.slot c o i e;obtain⟨j,e2⟩:=b.slot c _ i e1;exact⟨j,e2⟩⟩
theorem Nt.mono{fs ch f:List Addr}{h h':Heap}(a:Nt fs ch h h')(s:∀b∈ch,b∈f):Nt fs f h h':=
 ⟨λc o j g e=>a.keep c o j (λz=>g (s c z)) e,λc o i e=>a.slot c o (λz=>i (s c z)) e⟩
section
variable{M:Model}{A:Around}{E:Value->Shared->Prop}{s:Shared}{dH:Heap}{env:Env}{dN:List Env}{L e:Addr}
def Dj{T:Addr}{a:Obj}{ts:Array Value}{k:Nat}{v:Value}{Q:Unit->Shared->Prop}(c:s.heap.get? T=some a)(hd:a.data=.fields ts)(g:k<ts.size)
  (h:∀h',h'.get? T=some (a.mapFields (·.setIfInBounds k v))->(∀b,b≠T->h'.get? b=s.heap.get? b)->h'.objs.size=s.heap.objs.size->Q .unit {s with heap:=h'}):wpAny M A (setField (.ref T) k v) Q E s:=by
 refine wpAny_setField c hd g (h _ ?_ (λb f=>agu _ _ (Ne.symm f)) (Heap.size_after_update ..));exact Heap.get?_update_self _ c (Obj.isFreed_of_fields (agQ hd _))
def GX{i:Obj}{vs:Array Value}{g:Value}{l:Bool}{Q:Unit->Shared->Prop}(j:A.frames=some (env::dN))(v:s.heap.FunFrames dH (env::dN))(y:env.frame=some L)
  (t:s.heap.get? e=some i) (hd:i.data=.fields vs) (hsz:1<vs.size)
  (h:∀h' T w ts,Nt (F1 (env::dN)) [e] s.heap h'->s.heap.get? T=none->s.heap.objs.size<=T->h'.get? e=some (i.mapFields (·.setIfInBounds 1 (.ref T)))->h'.get? T=some w->w.data=.fields ts→
   ts[3]? =some (rawInt L)->Q .unit {s with heap:=h'}):
  wpAny M A (do let a<-frameOf env;let pl<-entryPlaceOf L l;let b<-EntryCells.newEntry g a .none (rawInt L) .none pl;setField (.ref e) 1 b) Q E s:=by
 have ne:e∉F1 (env::dN):=λF=>by
  obtain⟨_,o,u,C⟩:=v.mem F;rw[t] at u;cases u;exact C vs hd
 refine ko (wpAny_frameOf_fun j v y λr f=>ko (wpAny_entryPlaceOf λpl c=>?_));unfold EntryCells.newEntry newFields;refine ko (wpAny_newObj_type ?_ (c.sizeOk5 _ _ _ _ _));have e1:r.get? e=some i:=(f.2.1 e ne).trans t;have m:r.objs.size≠e:=agN (nr e1);refine Dj (q4 _ e1) hd hsz λx G n _=>?_;refine h x r.objs.size _ _ ⟨λb o B p q=>?_,λb o p q=>?_⟩ (agi (by rw[f.1];exact fC _)) (by rw[f.1];exact fC _) G ((n _ m).trans (xo _ rfl)) rfl ?_
 .have hb':b≠e:=λz=>p (by rw[z];exact ro.mpr rfl);rw[n b hb'];exact q4 _ ((f.2.1 b B).trans q)
 .have hb':b≠e:=λz=>p (by rw[z];exact ro.mpr rfl);obtain⟨D,z⟩:=f.2.2 b o q;exact⟨D,by rw[n b hb'];exact q4 _ z⟩
 .first|(simp;done)|(rcases c with rfl|⟨_,_,_,_,_,_,_,rfl⟩<;>simp)
def Vl(L:Addr):Option (Addr×Value)->Prop
 |none=>True
 |some (_,fl)=>fl=.none\/fl=rawInt L
def Tz:Option (Addr×Value)->List Addr
 |none=>[]
 |some (T,_)=>[T]
def XO{cls:Value}{d:Option Addr}{v:Option (Addr×Value)}{Q:Unit->Shared->Prop}(y:A.frames=some (env::dN))(U:s.heap.FunFrames dH (env::dN))(B:env.frame=some L)
  (x:LV s.heap e cls d v) (X:Vl L v)
  (h:∀h' i,Nt (F1 (env::dN)) (e::Tz v) s.heap h'->(i∈Tz v\/(s.heap.get? i=none/\s.heap.objs.size<=i))->LV h' e cls d (some (i,rawInt L))->Q .unit {s with heap:=h'}):
  wpAny M A (noteFrame (.ref e) env) Q E s:=by
 cases v with
 |none=>
  obtain⟨D,vs,f,C,g,hd,m⟩:=x;have hsz:1<vs.size:=(agf.mp m).1;unfold noteFrame;simp only[B];refine ko (ahn f hd m ?_);rw[er ∅];refine GX y U B f hd hsz λh' T N ts n a l R J r K=>h h' T n (.inr ⟨a,l⟩) ⟨?_,⟨_,_,R,?_,?_,agQ hd _,by simp[hsz]⟩,N,ts,J,r,K⟩
  .intro z;rw[z,f] at a;cases a
  .rwa[Obj.cls_mapFields]
  .obtain ⟨c,dd,dt,sl⟩:=D;cases dt<;>exact g
 |some p=>
  obtain⟨T,Y⟩:=p;obtain⟨j,⟨D,vs,f,C,g,hd,m⟩,N,ts,w,u,r⟩:=x;have hsz:1<vs.size:=(agf.mp m).1;have t:3<ts.size:=(agf.mp r).1;rcases X with rfl|rfl
  .unfold noteFrame;simp only[B];refine ko (ahn f hd m ?_);rw[eE (show(Value.ref T != Value.none)=true from by simp)];refine ko (ahn w u r ?_);rw[er (show ¬((Value.none==rawInt L)=true) from by simp[rawInt])];refine ko (Dj w u t λG k1 k2 k3=>?_);have O:Nt (F1 (env::dN)) [e,T] s.heap G:=⟨λb o _ I q=>by rw[k2 b λz=>I (by simp[z])];exact q,λb o I q=>⟨o.slots,by rw[k2 b λz=>I (by simp[z])];exact q⟩⟩;have S:G.FunFrames dH (env::dN):=U.of_keeps λb o q W=>⟨o,by rw[k2 b λz=>by rw[z,w] at q;cases q;exact W ts u];exact q,rfl⟩;refine GX (s:={s with heap:=G}) y S B ((k2 e (Ne.symm j)).trans f) hd hsz λh' i P F n a l R J H K=>h h' i (O.trans (n.mono (by simp))) (.inr ⟨?_,?_⟩) ⟨?_,⟨_,_,R,?_,?_,agQ hd _,by simp[hsz]⟩,P,F,J,H,K⟩
   .by_cases z:i=T
    .rw[z,k1] at a;cases a
    .rwa[<- k2 i z]
   .exact k3 ▸ l
   .intro z;rw[z,k2 e (Ne.symm j),f] at a;cases a
   .rwa[Obj.cls_mapFields]
   .obtain ⟨c,dd,dt,sl⟩:=D;cases dt<;>exact g
  .refine wpAny_noteFrame_inFlight B f hd m w u r ?_;exact h s.heap T (Nt.refl _ _ _) (.inl (by simp[Tz])) ⟨j,⟨D,vs,f,C,g,hd,m⟩,N,ts,w,u,r⟩
def DO{T:Addr}{cls m:Value}{d:Option Addr}{Q:Unit->Shared->Prop}(x:LV s.heap e cls d (some (T,m)))
  (h:∀h',Nt [] [T] s.heap h'->LV h' e cls d (some (T,.none))->Q .unit {s with heap:=h'}):wpAny M A (setFlight (.ref e) none) Q E s:=by
 obtain⟨c,⟨t,vs,j,r,g,hd,l⟩,u,ts,p,i,n⟩:=x;have a:3<ts.size:=(agf.mp n).1;unfold setFlight;refine ko (ahn j hd l ?_);rw[eE (show(Value.ref T != Value.none)=true from by simp)];refine Dj p i a λh' k1 k2 _=>h h' ⟨λb o _ f q=>by rw[k2 b λz=>f (by simp[z])];exact q,λb o f q=>⟨o.slots,by rw[k2 b λz=>f (by simp[z])];exact q⟩⟩ ?_;exact⟨c,⟨t,vs,(k2 e (Ne.symm c)).trans j,r,g,hd,l⟩,_,_,k1,agQ i _,by simp[a]⟩
end
theorem Nt.aaH{fs f ch:List Addr}{h h':Heap}(a:Nt fs ch h h')(s:∀b∈fs,b∈f):Nt f ch h h':=⟨λc o i g e=>a.keep c o (λz=>i (s c z)) g e,a.slot⟩
section
variable{X:Cx}{dI:List (Addr×Obj)}{σ:St}{H:Hp}{s:Shared}
def Inv.RO{h':Heap}{ch:List Addr}{t':Nat}(I:Inv X dI σ H s)(n:Nt (F1 X.stack) ch s.heap h')(a:∀b∈ch,jX X dI H b):Inv X dI σ H {s with heap:=h',toks:=t'}:=by
 refine I.call (g':=s.gens) (d':=s.drawn) (t':=t') (ch:=ch) ⟨λb o q _ f g=>n.keep b o f g q,λb o q _ _ g=>n.slot b o g q,λ_ _ _ z _=>z,λb o q g=>?_,λ_ _ z=>z,λ_ _ _ z=>z,λb ps z=>⟨#[],by rw[z];simp⟩⟩ ?_ I.bare
  λb f=>⟨(a b f).2.2.2.1,(a b f).2.1,(a b f).2.2.2.2.1,(a b f).2.2.2.2.2⟩
 .obtain ⟨sl,z⟩:=n.slot b o g q;exact⟨_,z⟩
 .intro b u e;refine(I.hok b u e).AG (λc v i q=>?_) (λ_ z=>z) λ_ _ z=>z
  have h:H c≠none:=by
   rcases i with z|z
   .rw[z,e];intro q;cases q
   .rw[z];intro q;cases q
  exact n.keep c v (λz=>h (I.KN c z)) (λz=>h (a c z).1) q
def Inv.SA{H':Hp}{b:Addr}(I:Inv X dI σ H s)(a:s.heap.get? b=none)(h:H' b=none):jX X dI H' b:=by
 have ne:∀c o,s.heap.get? c=some o->c≠b:=λc o e z=>by rw[z,a] at e;cases e
 refine⟨h,?_,λf=>?_,?_,λx c e=>?_,λp g=>?_⟩
 .obtain ⟨m,⟨o,_,_,ho,_⟩,_⟩:=I.loc;exact Ne.symm (ne _ o ho)
 .obtain ⟨_,o,ho,_⟩:=I.xf.mem f;exact ne _ o ho rfl
 .by_cases hx:b∈X.ex
  .exact .inl hx
  .refine .inr ?_;cases q:X.s₀.heap.get? b with
   |none=>rfl
   |some o=>
    obtain⟨i,z⟩:=I.dH.there b o q hx;rw[a] at z;cases z
 .obtain ⟨v,o,ho,_⟩:=I.cell x c e;exact ne _ o ho
 .exact ne _ _ (I.pin p g).1
def Inv.Kt{b:Addr}(I:Inv X dI σ H s)(c:s.heap.get? b=none):H b=none:=by
 cases q:H b with
 |none=>rfl
 |some o=>
  have z:=I.hok b o q
  have:∃a,s.heap.get? b=some a:=by
   cases o with
   |lst xs=>obtain⟨_,_,_,_,e⟩:=z;exact⟨_,e⟩
   |tup xs=>obtain⟨_,_,_,a,e,_⟩:=z;exact⟨_,e⟩
   |dK fy=>obtain⟨_,_,_,_,a,_,_,e,_⟩:=z;exact⟨_,e⟩
   |dT fy=>obtain⟨_,_,_,_,a,_,_,e,_⟩:=z;exact⟨_,e⟩
   |set S n=>obtain⟨a,_,_,_,e,_⟩:=z;exact⟨_,e⟩
   |ins C g fs=>obtain⟨_,_,_,e,_⟩:=z;exact⟨_,e⟩
   |own y=>obtain⟨_,e⟩:=z;exact⟨_,e⟩
   |xd fs=>obtain⟨_,⟨_,_,_,e,_⟩,_⟩:=z;exact⟨_,e⟩
   |rng lo i=>obtain⟨_,_,_,e⟩:=z;exact⟨_,e⟩
   |frz a u=>obtain⟨e,_⟩:=z;exact⟨_,e⟩
   |tbl ps=>exact⟨_,show s.heap.get? b=some _ from z⟩
   |met f y=>exact⟨_,show s.heap.get? b=some _ from z⟩
   |ext h=>obtain⟨_,⟨_,e⟩,_⟩:=z;exact⟨_,e⟩
  obtain⟨a,e⟩:=this;rw[c] at e;cases e
end
def fw(P:Program)(w:World):M4:=λdN H s E b a=>∃(e:Addr) (cls:Value) (d:Option Addr) (T:Addr) (H':Hp),b=.ref e/\a.os=s.os/\AllBare a.gens/\Un (F1 dN) [] H H' s.heap a.heap/\pD P w H' a.heap∧
 LV a.heap e cls d (some (T,.none))/\(H' e=none/\s.heap.get? e=none)/\(H' T=none/\s.heap.get? T=none)/\E cls d H'
structure Arr(X:Cx)(dI:List (Addr×Obj))(σ:St)(H:Hp)(s:Shared)(e:Addr)(cls:Value)(d:Option Addr):Prop where
 inv:Inv X dI σ H s
 tr:∃tr,LV s.heap e cls d tr/\Vl X.env.locals tr/\∀T∈Tz tr,jX X dI H T
 fp:jX X dI H e
def Throws(X:Cx)(E:St->XK):Prop:=∀(a:List (Addr×Obj)) (b:St) (H:Hp) (s:Shared) (e:Addr) (cls:Value) (d:Option Addr),Arr X a b H s e cls d->E b cls d H->X.xe (.ref e) s
def OT(X:Cx):Prop:=X.stack=X.env::X.dN/\X.env.frame=some X.env.locals/\X.ex=[]
section
variable{X:Cx}{dI:List (Addr×Obj)}{σ:St}{H:Hp}{s:Shared}{e:Addr}{cls:Value}{d:Option Addr}
def Arr.land{M:Model}{E:Value->Shared->Prop}{Q:Unit->Shared->Prop}(a:Arr X dI σ H s e cls d)(hd:OT X)
  (h:∀h' T,Inv X dI σ H {s with heap:=h'}->LV h' e cls d (some (T,.none))->jX X dI H T->Q .unit {s with heap:=h'}):
  wpAny M X.A (noteFrame (.ref e) X.env) (λ_ t=>wpAny M X.A (setFlight (.ref e) none) Q E t) E s:=by
 obtain⟨p,x,u,j⟩:=a.tr;refine XO (dH:=X.dH) (by rw[<- hd.1];exact a.inv.ok.frames) (by rw[<- hd.1];exact a.inv.stack) hd.2.1 x u λv f n q r=>?_
 have i:jX X dI H f:=by
  rcases q with z|⟨z,_⟩
  .exact j f z
  .exact a.inv.SA z (a.inv.Kt z)
 refine DO r λg o m=>h g f ?_ m i
 have l:Nt (F1 X.stack) (e::f::Tz p) s.heap g:=by
  rw[hd.1];refine(n.mono λb c=>?_).trans ((o.mono λb c=>?_).aaH λb c=>absurd c (by simp))
  .rcases ti.mp c with z|z
   .rw[z];exact ov
   .exact ri _ (ri _ z)
  .rw[ro.mp c];exact ri _ ov
 refine a.inv.RO (t':=s.toks) l λb c=>?_;rcases ti.mp c with z|z
 .rw[z];exact a.fp
 .rcases ti.mp z with z|z
  .rwa[z]
  .exact j b z
theorem passes{E:St->XK}(f:Throws X E):Passes (fw X.prog X.w) X E:=λdI σ H s o a I h=>by
 obtain⟨e,cls,d,T,H',rfl,os,bare,un,hok,x,⟨j,n⟩,⟨c,m⟩,q⟩:=h;have i:Inv X dI σ H' a:=I.aaG os un hok bare λb l=>absurd l (by simp);exact f dI σ H' a e cls d ⟨i,⟨_,x,.inl rfl,λp g=>by rw[ro.mp g];exact I.SA m c⟩,I.SA n j⟩ q
end
theorem cV{P:Program}{w:World}{K:PySem.W.Frag}{mg:Str->Option Value}{dH:Heap}{N:List Str}{b:Str}{scope:Scope}{f:Addr}{h:Value}{A:Around}{dN:List Env}{g:Shared}{l:Hp}{E:XK}{cm:Bool}:
  Throws (vi cm (fw P w) P w K mg dH N b scope f h A dN g l E) λ_=>E:=λj n H s e cls d a q=>by
 show wpAny (model P w) (A.deeper (envOfC b scope g.heap.objs.size f h)) (leaving (envOfC b scope g.heap.objs.size f h) (.ref e)) _ _ s;unfold leaving;refine ko (a.land ⟨rfl,rfl,rfl⟩ λh' T c m i=>⟨e,cls,d,T,H,rfl,c.os,c.bare,c.dH,c.hok,m,⟨a.fp.1,?_⟩,⟨i.1,?_⟩,q⟩)
 .rcases a.fp.2.2.2.1 with z|z
  .exact absurd (show e∈([]:List Addr) from z) (by simp)
  .exact z
 .rcases i.2.2.2.1 with z|z
  .exact absurd (show T∈([]:List Addr) from z) (by simp)
  .exact z
abbrev bmV:List Value:=[.type "ValueError",.type "Exception",.type "BaseException",.type "object"]
abbrev DK(K:PySem.W.Frag)(C:Addr):Prop:=PySem.W.excIn K C bmV "ValueError.__new__"=true
def DK.obj{K:PySem.W.Frag}{C:Addr}{h:Heap}(q:DK K C)(k:K.In h):∃bm N nm c bs hdct sn sub ab col dd k0 k1 k2 k3 k5 mN,
  h.get? C=some (excClassObj nm c C N bs bm hdct sn sub ab col dd k0 k1 k2 k3 k5 "ValueError.__new__")/\h.Ns N mN/\mN "__init__"=none/\OwnTail h bmV bm:=by
 unfold DK PySem.W.excIn at q
 split at q
 .rename_i dd cd sl ho
  split at q
  .rename_i C' bm k0 k1 k2 k3 n k5 hm hs
   simp only[oT,S4,afU] at q;obtain⟨⟨⟨⟨⟨rfl,rfl⟩,a⟩,e⟩,hok⟩,b⟩:=q;obtain⟨nm,bs,f,i,c,hd,sn,sub,ab,col,g⟩:=cd;dsimp only at hm a hok b;subst hm a;obtain⟨l⟩:=sl;dsimp only at hs;subst hs;exact⟨bm,i,nm,c,bs,hd,sn,sub,ab,col,dd,k0,k1,k2,k3,k5,_,k _ _ ho,.of_isNs (PySem.W.isNs_of_in k hok),PySem.W.nsMap_none_of_in k hok b,PySem.W.tail_of_in k e⟩
  .cases q
 .cases q
def ab4(C:Addr)(E:St->XK)(c:TA):TS:=λ_ a H=>c a H λvs b=>vs.length<=sizeLine/\E a (.ref C) none b
section
variable{X:Cx}{x:Str}{C:Addr}{np cpos pos:Pos}{a:Expr}{es:List Expr}{ta:TA}{E:St->XK}
def Po{b:List (Addr×Obj)}{c:St}{H:Hp}{s:Shared}{h':Heap}{e:Addr}{vs:List Value}(f:Throws X E)(I:Inv X b c H s)(m:Heap.MadeExcOf s.heap h' e (.ref C) vs)(q:E c (.ref C) none H):
  X.xe (.ref e) {s with heap:=h'}:=by
 obtain⟨t,g,_,_⟩:=m.there;exact f b c H _ e (.ref C) none ⟨I.kept (t':=s.toks) m.keeps,⟨none,⟨_,_,g,rfl,rfl,rfl,rfl⟩,trivial,λT h=>absurd h (by simp[Tz])⟩,I.SA m.new (I.Kt m.new)⟩ q
def Hd(B:X.calm=true)(l:Throws X E)(t:DK X.K C)(G:Gl X x)(A:X.mg x=some (.ref C))(r:PA X (a::es) ta)(hd:(x==("__debug__":Str))=false:=by decide)
  (i:starEach (a::es) X.env=(false,eval a X.env)::starEach es X.env:=by rfl) (f:(backTo cpos (starEach es X.env)).any (·.1)=false:=by rfl):
  PS X (.Raise (some (.Call (.Name x np) (a::es) [] cpos)) none pos) (ab4 C E ta):=by
 intro b s n H D I h;obtain⟨bm,N,nm,u,bs,hdct,sn,sub,ab,col,dd,k0,k1,k2,k3,k5,mN,p,j,g,T⟩:=t.obj I.mod.kin
 refine wpAny_Raise_call_subT (C:=C) (nm:=nm) (q:=u) (N:=N) (bs:=bs) (bm:=bm) (hdct:=hdct) (sn:=sn) (sub:=sub) (ab:=ab) (col:=col) (dd:=dd) (k0:=k0) (k1:=k1) (k2:=k2) (k3:=k3) (k5:=k5)
  PySem.F.excBase_ValueError (mN:=mN) (T.hasType PySem.F.excBase_ValueError.hasBase) (I.ok.hd B) (by rw[i];show(false||(backTo cpos (starEach es X.env)).any (·.1))=false;rw[f];rfl) g (yk I G A ⟨rfl,?_⟩ hd)
 have w:=r cpos b s n H _ I h;rw[i] at w ⊢;refine Calls.evalArgs_plain (xm w (λus L o=>?_) λ_ _ y=>y);obtain⟨vs,J,c,z,v,q⟩:=o;exact⟨rfl,by rwa[<- z.length],c.bk _ _ p,j.keeps c.bk,T.keeps c.bk,λh' e m=>Po l c m q⟩
end
end L2
namespace Cut
open PySem PySem.Builtin PySem.Builtin.Str
end Cut
namespace L2
open PySem PySem.Spec PyProof.Rows
section
variable{X:Cx}
def h7:sY X (.type "int") (λxs H Q=>∃z n,xs=[.str z]/\PySem.intText? z=some n/\z.length<=640/\Q (.int n) H):=by
 intro a s f H xs us Q I r h;obtain⟨z,n,rfl,c,e,q⟩:=h;obtain⟨u,rfl,b⟩:=vals1 r;obtain⟨t,rfl⟩:=(show ∃t,u=Value.str z t from b);exact PySem.W.KIN.call_text c e ⟨.int n,H,I.tok _,⟨_,rfl⟩,q⟩
def Its(z:Str):It:=⟨λi _=>i<z.cps.size,λi H x H'=>H'=H/\∃c,z.cps[i]? =some c/\x=.str ⟨#[c]⟩,λi _=>i=z.cps.size⟩
def Vo{P:Program}{w:World}{K:PySem.W.Frag}{x:Str}{N:Pos}{it:Addr}{ty:String}{z:Str}{t:Tok}(W:∀A:Around,A.handled=none->Walks P w A it [it] [it] z.cps.size (SignAt z) (λi h=>h.IsStrIter it ty z t i))
  (self:∀(A:Around) (i:Nat) (s:Shared) (Q:Value->Shared->Prop) (E:Value->Shared->Prop),s.heap.IsStrIter it ty z t i->Q (.ref it) s->wpAny (model P w) A (pyIter (.ref it)) Q E s):
  Turn P w K (.Name x N) (Its z) [it] it (λi h=>h.IsStrIter it ty z t i) where
 mem:=by simp
 obj:=λi h st b f=>by
  have e:b=it:=by simpa using f
  subst e;obtain⟨o,e,c,d⟩:=st;exact⟨o,e,λv q=>by rw[d] at q;cases q⟩
 keep:=λi h h' st k=>let ⟨o,ho,r⟩:=st;⟨o,k it (by simp) o ho,r⟩
 item:=by
  intro X B y C F i a s J H E I j st g;subst B y C;obtain⟨l,G,M,D,m,p⟩:=j it (by simp);refine(W X.A (I.ok.hd F)).item i s _ _ g st λv h' tk pv n k=>?_;obtain⟨c,u,e,rfl⟩:=pv;have L:Inv X a J H {s with heap:=h',toks:=tk}:=I.turned (t':=tk) (λb o f q=>k b o (by simpa using f) q) l G D m p;exact⟨_,rfl,rr ⟨.str ⟨#[c]⟩,H,L,⟨u,rfl⟩,⟨rfl,c,e,rfl⟩,n,λb f=>(j b f).1⟩⟩
 done:=by
  intro X B y C F i a s J H E I j st g;subst B y C;have g:i=z.cps.size:=g;subst g;obtain⟨l,G,M,D,m,p⟩:=j it (by simp);exact(W X.A (I.ok.hd F)).done s _ _ st λh' tk k=>⟨rfl,I.turned (t':=tk) (λb o f q=>k b o (by simpa using f) q) l G D m p⟩
 self:=self
def ad3(b:TE):TI:=λc H R=>b c H λx a=>∃z,x=.str z/\R (Its z) a
def aa4{l:Expr}{n:TE}{x:Str}{p:Pos}(F:PE X l n):PI X (.Name x p) l (ad3 n):=by
 intro c s m H R I h;refine nh (F c s m H _ I h) λv a C=>?_;obtain⟨y,r,g,B,u⟩:=C;obtain⟨z,rfl,q⟩:=u;obtain⟨t,rfl⟩:=(show ∃t,v=Value.str z t from B)
 have f:∀{ty:String} {o:Obj},(∀A:Around,A.handled=none->Walks X.prog X.w A a.heap.objs.size [a.heap.objs.size] [a.heap.objs.size] z.cps.size (SignAt z) (λi h=>h.IsStrIter a.heap.objs.size ty z t i))→
   (∀(A:Around) (i:Nat) (s:Shared) (Q:Value->Shared->Prop) (E:Value->Shared->Prop),s.heap.IsStrIter a.heap.objs.size ty z t i->Q (.ref a.heap.objs.size) s->wpAny (model X.prog X.w) A (pyIter (.ref a.heap.objs.size)) Q E s)→
   (a.heap.push o).IsStrIter a.heap.objs.size ty z t 0->PIE X c m (.Name x p) R (.ref a.heap.objs.size) {a with heap:=a.heap.push o}:=λ{ty o} W self st=>by
  refine⟨a.heap.objs.size,[a.heap.objs.size],_,_,r,rfl,g.kept (t':=a.toks) λb G e=>q4 _ e,Vo W self,st,λb D=>?_,q⟩;have e:b=a.heap.objs.size:=by simpa using D
  subst e;exact g.PX (fC _) (g.hok.fresh (fC _))
 cases ha:z.cps.all (·<128)
 .exact wpAny_pyIter_wide ha (f (λA j=>Walks.strWide j _ z t) (λ_ _ _ _ _ st q=>wpAny_pyIter_striter_wide st q) ⟨_,xo _ rfl,rfl,rfl⟩)
 .exact wpAny_pyIter_ascii ha (f (λA j=>Walks.strAscii j _ z t) (λ_ _ _ _ _ st q=>wpAny_pyIter_striter_ascii st q) ⟨_,xo _ rfl,rfl,rfl⟩)
theorem ac8{bs:List Bool}:∀{its:List Value} {i:Nat} {v:Value},Vals (bs.map V.bl) its->its[i]? =some v->∃b,bs[i]? =some b/\v=.bool b:=λ{its i v} r e=>by
 have h:=r.length
 have f:i<bs.length:=by
  have:=(uy.mp e).1;rw[gm] at h
  lia
 have c:bs[i]? =some bs[i]:=gy f;obtain⟨u,a,g⟩:=r.get (show(bs.map V.bl)[i]? =some (V.bl bs[i]) by rw[jl,c];rfl);rw[e] at a;cases a;exact⟨_,c,g⟩
def QA(bs:List Bool):((List.range bs.length).all λi=>(bs[i]?).getD true)=bs.all id:=by
 rw[L1,afr,afr]
 constructor
 .intro h b hb;obtain⟨i,a,e⟩:=List.getElem_of_mem hb;have:=h i (xc.mpr a);rw[gy a,e] at this;exact this
 .intro h i a;have a:=xc.mp a;rw[gy a];exact h _ (M5 a)
def Xo(t:X.calm=true):sY X (.builtin "all") (λxs H Q=>∃(p:Addr) (bs:List Bool),xs=[.ref p]/\fk X.K H p (bs.map V.bl)/\Q (.bl (bs.all id)) H):=by
 intro j s B H xs us Q I r h;obtain⟨p,bs,rfl,w,q⟩:=h;obtain⟨u,rfl,m⟩:=vals1 r;cases m;obtain⟨its,l,x,D⟩:=I.list w;have f:=x.isList;have c:p<s.heap.objs.size:=by obtain⟨_,e,_⟩:=f;exact nr e
 have a:its.length=bs.length:=by have:=l.length;rw[gm] at this;lia
 refine call_all_walk (agh f ?_)
 refine⟨s.heap.objs.size,[s.heap.objs.size,p],[s.heap.objs.size],its.toArray.size,_,_,λi=>(bs[i]?).getD true,rfl,Walks.list (A:=X.A.in1) (I.ok.hd t) _ p (nz c) its.toArray,
  ⟨⟨_,xo _ rfl,rfl,rfl⟩,f.push _⟩,λi v F C E y g=>?_,λh' tk z=>?_⟩
 .obtain ⟨b,e,rfl⟩:=ac8 l (by simpa using y);simp only[e,Option.getD_some] at g;exact afF g
 .rw[ki,a,QA];refine⟨.bl (bs.all id),H,I.kept (t':=tk) λb o e=>z b o (λn=>?_) (q4 _ e),rfl,q⟩;rw[ro.mp n] at e;exact afK _ (nr e)
def PJ(X:Cx)(es:List Expr)(t:St->Hp->Str->(Str->Hp->Prop)->Prop):Prop:=∀(a:List (Addr×Obj)) (s:Shared) (c:St) (H:Hp) (b:Str) (Q:Str->Hp->Prop),Inv X a c H s->t c H b Q→
 wpAny (model X.prog X.w) X.A (joinParts b (evalEach es X.env)) (EP X a c λx H'=>∃z,x=.str z/\Q z H') X.xe s
theorem X8:PJ X [] (λ_ H a Q=>a.length<=sizeLine/\Q a H):=λb s c H a Q I h=>joinParts_nil ⟨.str a,H,I.tok _,⟨_,rfl⟩,a,rfl,h.2⟩ h.1
def Fh{e:Expr}{es:List Expr}{g:TE}{t:St->Hp->Str->(Str->Hp->Prop)->Prop}(m:PE X e g)(o:PJ X es t)(hs:evalEach (e::es) X.env=eval e X.env::evalEach es X.env:=by rfl):
  PJ X (e::es) (λc H a Q=>g c H λx f=>∃y,x=.str y/\(a++y).length<=sizeLine/\t c f (a++y) Q):=by
 intro b s c H a Q I h;rw[hs];refine joinParts_cons (m.th I h λv j x f p n l=>?_);obtain⟨y,rfl,i,q⟩:=l;obtain⟨t,rfl⟩:=(show ∃t,v=Value.str y t from n);exact⟨i,o b j c f _ Q p q⟩
def RQ{f c:Expr}{a:List Expr}{i:Pos}{t:St->Hp->Str->(Str->Hp->Prop)->Prop}(h:PJ X (f::c::a) t)(hs:evalEach (f::c::a) X.env=eval f X.env::eval c X.env::evalEach a X.env:=by rfl):
  PE X (.JoinedStr (f::c::a) i) (λg H Q=>t g H Str.empty λz H'=>Q (.str z) H'):=by
 intro b s g H Q I q;have w:=h b s g H Str.empty _ I q;rw[hs] at w;exact JoinedStr_many (nh w λv p j=>by obtain⟨x,l,o,n,z,e,m⟩:=j;exact⟨x,l,o,n,by rwa[e]⟩)
def aaT{e:Expr}{c:Pos}{g:TE}(h:PE X e g):PE X (.FormattedValue e (-1) none c) (λf H Q=>g f H λx a=>(∃i,x=.int i/\i.natAbs.log2<1920/\Q (.str (toString i)) a)\/∃y,x=.str y/\y.length<=sizeLine/\Q (.str y) a):=by
 intro m s f H Q I q;refine FormattedValue_plain (h.th I q λv p x a l j b=>?_);rcases b with⟨i,rfl,n,b⟩|⟨y,rfl,o,b⟩
 .obtain ⟨t,rfl⟩:=(show ∃t,v=Value.int i t from j);exact formatField_int_small n ⟨.str _,a,l.tok _,⟨_,rfl⟩,b⟩
 .obtain ⟨t,rfl⟩:=(show ∃t,v=Value.str y t from j);exact formatField_str (λt' tk=>⟨.str y,a,l.tok tk,⟨t',rfl⟩,b⟩) o
end
section
variable{X:Cx}{dI pins':List (Addr×Obj)}{σ:St}{H:Hp}{s:Shared}{pn':List (Addr×Obj)}{E':Value->Shared->Prop}
abbrev Cx.rJ(X:Cx)(pn':List (Addr×Obj))(E':Value->Shared->Prop):Cx:={X with pn:=pn',xe:=E'}
theorem Cx.Ok.rJ(ok:X.Ok)(pn':List (Addr×Obj))(E':Value->Shared->Prop):(X.rJ pn' E').Ok:=
 ⟨ok.mod,ok.kind,ok.glob,ok.blt,ok.above,ok.inj,ok.has,ok.cab,ok.hd,ok.frames,ok.stk,ok.exf,ok.bs,ok.bsz,ok.Le,ok.LB,ok.xf,ok.frf⟩
theorem Cx.Ok.gr(ok:(X.rJ pn' E').Ok):X.Ok:=
 ⟨ok.mod,ok.kind,ok.glob,ok.blt,ok.above,ok.inj,ok.has,ok.cab,ok.hd,ok.frames,ok.stk,ok.exf,ok.bs,ok.bsz,ok.Le,ok.LB,ok.xf,ok.frf⟩
theorem Inv.rJ(I:Inv X dI σ H s)(E':Value->Shared->Prop):Inv (X.rJ (X.pn++dI) E') [] σ H s:=
 ⟨I.ok.rJ _ _,I.os,I.bare,I.dH,I.loc,I.cell,I.free,I.kY,λp a=>I.pin p (by simpa using a),I.hok,I.len⟩
theorem Inv.gr(I:Inv (X.rJ (X.pn++dI) E') pins' σ H s):Inv X dI σ H s:=
 ⟨I.ok.gr,I.os,I.bare,I.dH,I.loc,I.cell,I.free,I.kY,λp a=>I.pin p (agj _ a),I.hok,I.len⟩
theorem jX.gr{b:Addr}(f:jX (X.rJ (X.pn++dI) E') pins' H b):jX X dI H b:=
 ⟨f.1,f.2.1,f.2.2.1,f.2.2.2.1,f.2.2.2.2.1,λp a=>f.2.2.2.2.2 p (agj _ a)⟩
theorem Arr.gr{e:Addr}{cls:Value}{d:Option Addr}(a:Arr (X.rJ (X.pn++dI) E') pins' σ H s e cls d):Arr X dI σ H s e cls d:=
 ⟨a.inv.gr,let ⟨tr,x,hk,ft⟩:=a.tr;⟨tr,x,hk,λT b=>(ft T b).gr⟩,a.fp.gr⟩
def PH(X:Cx)(hs:List ExceptHandler)(t:Ends->St->XK):Prop:=∀(dI:List (Addr×Obj)) (s:Shared) (σ:St) (H:Hp) (e:Addr) (cls:Value) (d:Option Addr) (T:Addr) (D:Ends),
 Inv X dI σ H s->LV s.heap e cls d (some (T,.none))->jX X dI H e->jX X dI H T->t D σ cls d H->wpAny (model X.prog X.w) X.A (handleBy (.ref e) X.env hs) (SP X dI D) X.xe s
def QY{i c:List Stmt}{p:ExceptHandler}{hs:List ExceptHandler}{t:Pos}{y:Ends->TS}{x:TS}{th:Ends->St->XK}(n:OT X)
  (J:∀D pn' E',Throws (X.rJ pn' E') (th D)->PassesOwn (model X.prog X.w) X.A X.env E'->qx (X.rJ pn' E') i (y D)) (G:qx X c x) (z:PH X (p::hs) th):
  PS X (.Try i (p::hs) c [] t) (λD σ H=>y D {D with nx:=x D} σ H):=by
 intro dI s σ H D I h;refine wpAny_Try_except ?_
 let E':Value->Shared->Prop:=λo m=>wpAny (model X.prog X.w) X.A (noteFrame o X.env) (λ_ K=>wpAny (model X.prog X.w) X.A (setFlight o none) (λ_ B=>wpAny (model X.prog X.w) X.A (handleBy o X.env (p::hs)) (SP X dI D) X.xe B) X.xe K) X.xe m
 have C:Throws (X.rJ (X.pn++dI) E') (th D):=λpins' b g m e cls d a q=>(a.gr).land n λh' T E L F=>z dI _ b g e cls d T D E L a.gr.fp F q;refine xm (J D _ E' C PassesOwn.looking [] s σ H _ (I.rJ E') h) (λf m l=>?_) λo m l=>l;cases f with
 |next=>obtain⟨b,g,j,q⟩:=l;exact G dI m b g D j.gr q
 |brk=>obtain⟨b,g,j,q⟩:=l;exact⟨b,g,j.gr,q⟩
 |cont=>obtain⟨b,g,j,q⟩:=l;exact⟨b,g,j.gr,q⟩
 |ret u=>obtain⟨v,b,g,j,r,q⟩:=l;exact⟨v,b,g,j.gr,r,q⟩
end
section
variable{M:Model}{A:Around}{E:Value->Shared->Prop}
def DY{K:PySem.W.Frag}{s:Shared}{e C a:Addr}{i:Obj}{b:Bool}{Q:Bool->Shared->Prop}(k:K.In s.heap)(j:s.heap.get? e=some i)(p:i.cls=.ref C)(o:DK K a)(m:PySem.W.mroIn K C (.ref a)=some b)(h:Q b s):
  wpAny M A (excMatches (.ref e) (.ref a)) Q E s:=by
 obtain⟨bm,N,nm,u,bs,hdct,sn,sub,ab,col,dd,k0,k1,k2,k3,k5,mN,c,r,l,T⟩:=o.obj k;have n:(Value.ref a::bm).contains (.type "BaseException")=true:=by rw[List.contains_cons,T.hasType (show bmV.contains (.type "BaseException")=true from rfl),Bool.or_true]
 have L:=PySem.W.looks_mroIn (M:=M) k m;obtain⟨q,g,d,t,os⟩:=s;have f:=tc_notTuple;unfold excMatches
 repeat (first|(with_reducible refine agy j ?_;rw[p])|with_reducible refine agy c ?_|(with_reducible refine wpAny_isSubtype_exc c ?_;rw[n])|(with_reducible refine L.at ?_)|wp_step)
 cases b<;>(wp_walk;exact h)
end
def XOb(e C:Addr)(d:Option Addr):HO:= .ext λh=>∃o vs,h.get? e=some o/\o.cls=.ref C/\o.dict=d/\o.data=.fields vs
def XOb.ok{P:Program}{w:World}{H:Hp}{h:Heap}{e C:Addr}{d:Option Addr}(x:∃o vs,h.get? e=some o/\o.cls=.ref C/\o.dict=d/\o.data=.fields vs):dZ P w H h e (XOb e C d):=by
 refine⟨x,?_,λb a p k=>?_⟩
 .obtain ⟨o,_,e1,_⟩:=x;exact⟨o,e1⟩
 .obtain ⟨o,vs,e1,r⟩:=p;exact⟨o,vs,k o e1,r⟩
section
variable{X:Cx}{dI:List (Addr×Obj)}{σ:St}{H:Hp}{s:Shared}{e:Addr}
abbrev Cx.eS(X:Cx)(e:Addr):Cx:={X with A:=X.A.mark (some (.ref e)),calm:=false,xe:=λ_ _=>False}
theorem Cx.Ok.eS(ok:X.Ok)(e:Addr):(X.eS e).Ok:=
 ⟨ok.mod,ok.kind,ok.glob,ok.blt,ok.above,ok.inj,ok.has,ok.cab,λz=>absurd (show(false:Bool)=true from z) ∅,ok.frames,ok.stk,ok.exf,ok.bs,ok.bsz,ok.Le,ok.LB,ok.xf,ok.frf⟩
theorem Inv.eS(I:Inv X dI σ H s)(e:Addr):Inv (X.eS e) dI σ H s:=⟨I.ok.eS e,I.os,I.bare,I.dH,I.loc,I.cell,I.free,I.kY,I.pin,I.hok,I.len⟩
theorem Inv.iG(I:Inv (X.eS e) dI σ H s)(ok:X.Ok):Inv X dI σ H s:=⟨ok,I.os,I.bare,I.dH,I.loc,I.cell,I.free,I.kY,I.pin,I.hok,I.len⟩
def SP.iG{D:Ends}{f:Flow}(h:SP (X.eS e) dI D f s)(ok:X.Ok):SP X dI D f s:=by
 cases f with
 |next=>obtain⟨a,b,c,q⟩:=h;exact⟨a,b,c.iG ok,q⟩
 |brk=>obtain⟨a,b,c,q⟩:=h;exact⟨a,b,c.iG ok,q⟩
 |cont=>obtain⟨a,b,c,q⟩:=h;exact⟨a,b,c.iG ok,q⟩
 |ret u=>obtain⟨v,a,b,c,r,q⟩:=h;exact⟨v,a,b,c.iG ok,r,q⟩
def adM(i:Nat)(D:Ends):Ends:={nx:=λσ H=>D.nx (σ.set i none) H,rt:=D.rt,bk:=λσ H=>D.bk (σ.set i none) H,ct:=λσ H=>D.ct (σ.set i none) H}
def Inv.Xj{M:Model}{A:Around}{E:Value->Shared->Prop}{i:Nat}{n:Str}{g:Pos}{Q:Unit->Shared->Prop}(I:Inv X dI σ H s)(C:X.N.Nodup)(t:X.N[i]? =some n)(F:X.env.kindOf n=some .local)
  (h:∀B,Inv X dI (σ.set i none) H B->Q .unit B):wpAny M A (do bindName X.env n .none;unbindBehindTheSuite X.env n g) Q E s:=by
 obtain⟨m,x,lo⟩:=I.loc;have f:(X.env.scope.kind== .class||(X.env.scope.kind== .module&&X.env.locals != X.env.globals))=false:=by rw[I.ok.kind];rfl
 refine wpAny_nameGoes_keeps F x f λh' v K hs=>h _ ?_;obtain⟨L,es,O,D,_⟩:=id x;refine⟨I.ok,I.os,I.bare,⟨λb o e n l a=>?_,λb o e n l a=>?_,I.dH.free,λb o e a=>?_,I.dH.JF,I.dH.HA,I.dH.Ji⟩,⟨_,K,λj y w e1 e2 e3=>?_⟩,λy c e=>?_,I.free,I.kY,λp J=>?_,?_,by simpa using I.len⟩
 .exact (hs.2 b (nz (wh (nr e) I.ok.above))).trans (I.dH.keep b o e n l a)
 .obtain ⟨sl,q⟩:=I.dH.slot b o e n l a;exact⟨sl,(hs.2 b (nz (wh (nr e) I.ok.above))).trans q⟩
 .obtain ⟨o',q⟩:=I.dH.there b o e a;exact⟨o',(hs.2 b (nz (wh (nr e) I.ok.above))).trans q⟩
 .by_cases hj:j=i
  .subst hj;have z:j<σ.length:=by rw[I.len];exact(uy.mp t).1
   rw[agY z] at e2;cases e2
  .rw[ag8 (Ne.symm hj)] at e2;obtain⟨u,r,q⟩:=lo j y w e1 e2 e3;refine⟨u,r,?_⟩;rcases q with⟨k,q⟩|⟨k,c,e,z⟩
   .refine .inl ⟨k,?_⟩;have:y≠n:=λq=>hj (F0 C e1 (q ▸ t));simp[this,q]
   .exact .inr ⟨k,c,e,z.sameBut hs (I.cne y c e)⟩
 .obtain ⟨w,z⟩:=I.cell y c e;exact⟨w,z.sameBut hs (I.cne y c e)⟩
 .obtain ⟨e,n,ne,nf,d⟩:=I.pin p J;exact⟨(hs.2 p.1 ne).trans e,n,ne,nf,d⟩
 .intro b u e;refine(I.hok b u e).AG (λc w G q=>(hs.2 c λz=>?_).trans q) (λ_ z=>z) λ_ _ z=>z;subst z;rcases G with z|z
  .rw[<- z] at e;rw[I.free] at e;cases e
  .rw[I.free] at z;cases z
end
section
variable{X:Cx}{x n:Str}{C':Addr}{np pos:Pos}{b0:Stmt}{suite:List Stmt}{rest:List ExceptHandler}{ts:TS}{tr:Ends->St->XK}
def Gg{a:List (Addr×Obj)}{s:Shared}{i:St}{H:Hp}{e:Addr}{cls:Value}{d:Option Addr}{T:Addr}(f:OT X)(I:Inv X a i H s)(r:LV s.heap e cls d (some (T,.none)))(c:jX X a H e)(p:jX X a H T){C:Addr}(o:cls=.ref C)
  {Q:Unit->Shared->Prop} {M:Model} {A:Around} {E:Value->Shared->Prop} (h:∀h',Inv X a i (upd H e (XOb e C d)) {s with heap:=h'}->Q .unit {s with heap:=h'}):wpAny M A (setFlight (.ref e) none) Q E s:=by
 subst o;refine DO r λh' j q=>h h' ?_;have m:Inv X a i H {s with heap:=h'}:=I.RO (t':=s.toks) (j.aaH λb g=>absurd g (by simp)) λb g=>by rwa[ro.mp g]
 obtain⟨_,⟨l,vs,e1,e2,e3,e4,_⟩,_⟩:=q;rcases c.2.2.2.1 with z|z
 .rw[f.2.2] at z;exact absurd z (by simp)
 .exact m.aaW c.1 z c.2.1 c.2.2.2.2.1 c.2.2.2.2.2 (XOb.ok ⟨l,vs,e1,e2,e3,e4⟩)
def acW{i:Nat}(r:OT X)(G:X.N.Nodup)(M:X.N[i]? =some n)(F:X.env.kindOf n=some .local)(hg:Gl X x)(Y:X.mg x=some (.ref C'))(U:DK X.K C')(hs:∀e,qx (X.eS e) (b0::suite) ts)(S:PH X rest tr)
  (hd:(x==("__debug__":Str))=false:=by decide):
  PH X (.ExceptHandler (some (.Name x np)) (some n) (b0::suite) pos::rest) (λD t cls d H=>∃C b,cls=.ref C/\PySem.W.mroIn X.K C (.ref C')=some b∧
   if b=true then ∀e,H e=none->ts (adM i D) (t.set i (some (.ref e))) (upd H e (XOb e C d)) else tr D t cls d H):=by
 intro c s t H e cls d T D I B E L h;obtain⟨C,b,rfl,m,q⟩:=h;refine wpAny_handleBy_cons (codeAny_handlers_test (age I.ok.kind hg (agW (by rw[I.ok.glob];exact I.mod.glob.keeps I.bk) Y ?_) hd)) (by intro z;cases z);obtain⟨oe,vs,e1,e2,_⟩:=id B.2.1;refine DY I.oS e1 e2 U m ?_;cases b with
 |false=>exact S c s t H e _ d T D I B E L q
 |true=>
  refine codeAny_handlers_suite_as ?_;refine Gg r I B E L rfl λh' P=>?_;have R:=P.eS e;refine GQ (X:=X.eS e) R G M (.inl F) (show RelV (.ref e) (.ref e) from rfl) (λZ I2=>?_) (.inr F);refine xm (hs e c Z _ _ _ I2 (q e E.1)) (λf J y=>?_) λ_ _ z=>z.elim;have done:∀{a:St} {g:Hp} {Q:Unit->Shared->Prop},Inv (X.eS e) c a g J->(∀p,Inv X c (a.set i none) g p->Q .unit p)->wpAny (model X.prog X.w) X.A (do bindName X.env n .none;unbindBehindTheSuite X.env n pos) Q X.xe J:=λ{a g Q} j k=>Inv.Xj (j.iG I.ok) G M F k;cases f with
  |next=>obtain⟨a,g,j,o⟩:=y;exact done j λp l=>⟨_,g,l,o⟩
  |brk=>obtain⟨a,g,j,o⟩:=y;exact done j λp l=>⟨_,g,l,o⟩
  |cont=>obtain⟨a,g,j,o⟩:=y;exact done j λp l=>⟨_,g,l,o⟩
  |ret u=>obtain⟨v,a,g,j,O,o⟩:=y;exact done j λp l=>⟨v,_,g,l,O,o⟩
def Wz(c:OT X)(u:Gl X x)(p:X.mg x=some (.ref C'))(o:DK X.K C')(hs:∀e,qx (X.eS e) (b0::suite) ts)(v:PH X rest tr)(hd:(x==("__debug__":Str))=false:=by decide):
  PH X (.ExceptHandler (some (.Name x np)) none (b0::suite) pos::rest) (λD g cls d H=>∃C b,cls=.ref C/\PySem.W.mroIn X.K C (.ref C')=some b∧
   if b=true then ∀e,H e=none->ts D g (upd H e (XOb e C d)) else tr D g cls d H):=by
 intro a s g H e cls d T D I j i l h;obtain⟨C,b,rfl,m,q⟩:=h;refine wpAny_handleBy_cons (codeAny_handlers_test (age I.ok.kind u (agW (by rw[I.ok.glob];exact I.mod.glob.keeps I.bk) p ?_) hd)) (by intro z;cases z);obtain⟨w,vs,e1,e2,_⟩:=id j.2.1;refine DY I.oS e1 e2 o m ?_;cases b with
 |false=>exact v a s g H e _ d T D I j i l q
 |true=>
  refine codeAny_handlers_suite ?_;refine Gg c I j i l rfl λh' r=>?_;exact xm (hs e a _ _ _ _ (r.eS e) (q e i.1)) (λf y t=>SP.iG t I.ok) λ_ _ z=>z.elim
end
structure XIn(K:PySem.W.Frag)(C:Addr):Prop where
 ga:PySem.W.findIn K (.ref C) "__getattribute__"=some (some (.builtin "BaseException.__getattribute__"))
 gt:PySem.W.findIn K (.ref C) "__getattr__"=some none
 cl:PySem.W.findIn K (.ref C) "__class__"=some (some (.builtin "object.__class__"))
 mb:PySem.W.mroIn K C (.type "BaseException")=some true
 mo:PySem.W.mroIn K C (.type "object")=some true
section
variable{prog:Program}{w:World}{A:Around}{E:Value->Shared->Prop}{K:PySem.W.Frag}{C a:Addr}{o:Obj}{vs:Array Value}{h:Heap}{g:Array GenState}{d:Drawn}{t:Nat}{os:OsState}
theorem Yx{h:Heap}(e:h.get? a=some o)(b:o.cls=.ref C)(hd:o.data=.fields vs)(f:o.dict=none):PySem.W.InstAt h a o C none:=
 ⟨e,b,by obtain⟨c,dd,j,i⟩:=o;cases hd;rfl,by rw[f];trivial⟩
def X0{tk:Tok}{Q:Fin->Shared->Prop}(X:K.In h)(x:XIn K C)(b:h.get? a=some o)(c:o.cls=.ref C)(hd:o.data=.fields vs)(e:o.dict=none)(l:Q (.done (.ret (.ref C))) ⟨h,g,d,t,os⟩):
  wpAny (model prog w) A (Builtin.«object.__getattribute__» ⟨[.ref a,.str "__class__" tk],[]⟩) Q E ⟨h,g,d,t,os⟩:=by
 have f:(⟨h,g,d,t,os⟩:Shared).TypeIs (.builtin "object.__class__") "getset_descriptor":=F.typeOf_object_class;have L:=agG (M:=model prog w) X x.cl;have m:=F.typeOf_object_class;have j:=F.slot_gs_get.lookup;have i:=F.slot_gs_set.lookup
 repeat (any_goals (first|assumption|(with_reducible refine agy b ?_;rw[c])|(with_reducible refine L.at ?_)|wp_step))
 refine PySem.W.class_get X (Yx b c hd e) x.mo ?_
 repeat (any_goals (first|assumption|wp_step))
def XY{M:Model}{b:Value}{Q:Unit->Shared->Prop}(X:K.In h)(x:XIn K C)(e:h.get? a=some o)(c:o.cls=.ref C)(f:Q .unit ⟨h,g,d,t,os⟩):
  wpAny M A (checkBuiltinCall "BaseException.__getattribute__" ⟨[.ref a,b],[]⟩) Q E ⟨h,g,d,t,os⟩:=by
 have k1:builtinKind "BaseException.__getattribute__"=some .slot:=by decide +kernel
 have k2:splitId "BaseException.__getattribute__"=some ("BaseException","__getattribute__"):=by decide +kernel
 have L:=PySem.W.looks_mroIn (M:=M) X x.mb;have i:=F.args_bexc_ga (.ref a) b;simp only[checkBuiltinCall,k1,k2];refine ko ?_;unfold isInstance
 repeat (first|(with_reducible refine agy e ?_;rw[c])|(with_reducible refine L.at ?_)|wp_step)
 exact f
def ac9{tk:Tok}{Q:Value->Shared->Prop}(X:K.In h)(x:XIn K C)(b:h.get? a=some o)(e:o.cls=.ref C)(hd:o.data=.fields vs)(l:o.dict=none)(n:Q (.ref C) ⟨h,g,d,t,os⟩):
  wpAny (model prog w) A (getAttrBy (.ref a) (.str "__class__" tk) false) Q E ⟨h,g,d,t,os⟩:=by
 have f:=PySem.F.attrBase_ValueError;have p:=f.ga.bind (.ref a);have c:(Value.builtin "BaseException.__getattribute__"==Value.builtin "object.__getattribute__")=false:=by decide +kernel
 have i:(onTheHeap (Value.ref C)&&Value.builtin "BaseException.__getattribute__"==Value.builtin "object.__getattribute__")=false:=by rw[c];rfl
 have m:=agG (M:=model prog w) X x.ga;have j:=agG (M:=model prog w) X x.gt
 repeat (any_goals (first|assumption|(with_reducible refine agy b ?_;rw[e])|(with_reducible refine m.at ?_)|(with_reducible refine j.at ?_)|wp_step))
 refine ahb f.ga.plain F.entry_bexc_ga (XY X x b e (X0 X x b e hd l ?_))
 repeat (any_goals (first|assumption|wp_step))
def YY{Q:Option Value->Shared->Prop}(X:K.In h)(x:XIn K C)(b:h.get? a=some o)(e:o.cls=.ref C)(hd:o.data=.fields vs)(c:o.dict=none)(f:Q (some (.ref C)) ⟨h,g,d,t+1,os⟩):
  wpAny (model prog w) A (getAttr? (.ref a) "__class__") Q E ⟨h,g,d,t,os⟩:=by
 unfold getAttr? getAttrBy?
 repeat (any_goals (first|assumption|with_reducible apply ac9 X x b e hd c|wp_step))
end
structure aI(K:PySem.W.Frag)(x qual:Str)(st:Stmt)(dV:Value)(f:Addr)(fd:FuncData):Prop where
 ex:∃(oc:Value) (od:Option Addr) (kV doc pm:Value) (an:Option Addr) (cdv ct:Value) (osl:Array (Option Value)),
  fd=PySem.W.fnOf x qual (nD st) (cB st) (ak st) dV kV doc pm an cdv ct/\K.lookup f=some ⟨oc,od,.func fd,osl⟩/\PySem.W.codeIn K cdv qual=true
 kp:PySem.W.keepIn K (.ref f)=true
abbrev XNo:St->XK:=λ_ _ _ _=>False
theorem Qy{X:Cx}:Throws X.i1 XNo:=λ_ _ _ _ _ _ _ _ q=>q
theorem cq{X:Cx}:Passes (fw X.i1.prog X.i1.w) X.i1 XNo:=passes Qy
section
variable{P:Program}{w:World}{K:PySem.W.Frag}{mg:Str->Option Value}{dH:Heap}{x qual:Str}{st:Stmt}{dV:Value}{f:Addr}{fd:FuncData}{N ps:List Str}{k:Nat}{cm:Bool}{sp:Sp}
def aI.ok(F:aI K x qual st dV f fd)(S:ao N ps (ak st))(len:∀vs H Q E,sp vs H Q E->vs.length=ps.length)
  (b:∀(a:Value) (A:Around) (dN:List Env) (s:Shared) (H:Hp) (vs:List V) (Q:VK) (E:XK),eA cm k (A.deeper (envOfC qual (ak st) s.heap.objs.size f a))->sp vs H Q E→
   ∃t,qx (vi cm (fw P w) P w K mg dH N qual (ak st) f a A dN s H E) (cB st) t/\t {nx:=λ_ H'=>Q .non H',rt:=Q} (start N vs) H):aC P w K mg dH (fw P w) cm (k+1) f fd ps sp:=by
 obtain⟨n,m,kV,i,l,j,a,ct,g,rfl,lk,e⟩:=F.ex;exact adb lk e S len λA dN s H vs Q E h c=>b a A dN s H vs Q E h c
theorem aI.okN(F:aI K x qual st dV f fd)(S:ao N ps (ak st))(len:∀vs H Q E,sp vs H Q E->vs.length=ps.length)
  (b:∀(a:Value) (A:Around) (dN:List Env) (s:Shared) (H:Hp) (vs:List V) (Q:VK) (E:XK),eA cm k (A.deeper (envOfC qual (ak st) s.heap.objs.size f a))->sp vs H Q E→
   ∃t,qx (vi cm (fw P w) P w K mg dH N qual (ak st) f a A dN s H E).i1 (cB st) t/\t {nx:=λ_ H'=>Q .non H',rt:=Q} (start N vs) H):aC P w K mg dH (fw P w) cm (k+1) f fd ps sp:=
 F.ok S len λa A dN s H vs Q E e c=>let ⟨t,h,q⟩:=b a A dN s H vs Q E e c;⟨t,h.i1,q⟩
theorem aI.ok1(F:aI K x qual st dV f fd)(S:ao N ps (ak st))(h:∀vs H Q E,sp vs H Q E->vs.length=ps.length∧
   ∀(a:Value) (A:Around) (dN:List Env) (s:Shared),eA cm k (A.deeper (envOfC qual (ak st) s.heap.objs.size f a))→
   ∃t,qx (vi cm (fw P w) P w K mg dH N qual (ak st) f a A dN s H E) (cB st) t/\t {nx:=λ_ H'=>Q .non H',rt:=Q} (start N vs) H):aC P w K mg dH (fw P w) cm (k+1) f fd ps sp:=
 F.ok S (λvs H Q E q=>(h vs H Q E q).1) λa A dN s H vs Q E b q=>(h vs H Q E q).2 a A dN s b
theorem aI.br(F:aI K x qual st dV f fd)(S:ao N ps (ak st))(h:∀vs H Q E,sp vs H Q E->vs.length=ps.length∧
   ∀(a:Value) (A:Around) (dN:List Env) (s:Shared),eA cm k (A.deeper (envOfC qual (ak st) s.heap.objs.size f a))→
   ∃t,qx (vi cm (fw P w) P w K mg dH N qual (ak st) f a A dN s H E).i1 (cB st) t/\t {nx:=λ_ H'=>Q .non H',rt:=Q} (start N vs) H):aC P w K mg dH (fw P w) cm (k+1) f fd ps sp:=
 F.okN S (λvs H Q E q=>(h vs H Q E q).1) λa A dN s H vs Q E b q=>(h vs H Q E q).2 a A dN s b
def aI.binds(F:aI K x qual st dV f fd)
  (h:∀(kV a e:Value) (c:Option Addr) (b ct:Value) (us:List Value),us.length=ps.length->bindArgs (PySem.W.fnOf x qual (nD st) (cB st) (ak st) dV kV a e c b ct) ⟨us,[]⟩=pure (ps.zip us)):Binds K fd ps []:=by
 obtain⟨l,j,kV,a,e,c,b,ct,g,rfl,lk,i⟩:=F.ex;exact .all (h kV a e c b ct)
def aI.Mn{T:Addr}{o:Obj}{items:Array Value}{n:Nat}{ds:List Value}(F:aI K x qual st (.ref T) f fd)(lt:K.lookup T=some o)(hs:o.data=.seq items n)
  (h:∀(kV a e:Value) (c:Option Addr) (b ct:Value) (us:List Value),(us++ds).length=ps.length→
   ∃k,bindArgs (PySem.W.fnOf x qual (nD st) (cB st) (ak st) (.ref T) kV a e c b ct) ⟨us,[]⟩=seqItems? (.ref T) >>= k/\k (some items)=pure (ps.zip (us++ds))):Binds K fd ps ds:=by
 obtain⟨r,q,kV,a,e,c,b,ct,i,rfl,lk,m⟩:=F.ex;intro s us g l;obtain⟨kk,p,j⟩:=h kV a e c b ct us l;exact BindsTo.of_defaults (fd:=PySem.W.fnOf x qual (nD st) (cB st) (ak st) (.ref T) kV a e c b ct) rfl (g _ _ lt) hs p j
theorem ZV{j:Value}{i g:Option Addr}{e:Array (Option Value)}{kV b h a ct:Value}(l:K.lookup f=some ⟨j,i,.func (PySem.W.fnOf x qual (nD st) (cB st) (ak st) dV kV b h g a ct),e⟩)
  (c:PySem.W.codeIn K a qual=true) (k:PySem.W.keepIn K (.ref f)=true):aI K x qual st dV f (PySem.W.fnOf x qual (nD st) (cB st) (ak st) dV kV b h g a ct):=⟨⟨j,i,kV,b,h,g,a,ct,e,rfl,l,c⟩,k⟩
end
def IsC(K:PySem.W.Frag)(C:Addr):Prop:=∃dd b a,K.lookup C=some ⟨.type "type",dd,.cls b,a⟩
def Fl{K:PySem.W.Frag}{C D:Addr}{b:Bool}(c:IsC K D)(m:PySem.W.mroIn K C (.ref D)=some b)(ne:C=D->b=true):PySem.W.kitOne K (.ref C) (.ref D)=some b:=by
 obtain⟨dd,g,h,l⟩:=c;unfold PySem.W.kitOne;by_cases e:C=D
 .rw[eE (by rw[e];exact ag2 _),ne e]
 .rw[er (by rw[S4];intro z;exact e (Value.ref.inj z))];unfold PySem.W.kitCls;have f:PySem.W.clsIn K D=some g:=by unfold PySem.W.clsIn;rw[l]
  have a:PySem.W.typeIn K (.ref D)=some (.type "type"):=by
   show(K.lookup D).map (·.cls)=_;rw[l]
   rfl
  dsimp only;rwa[f,a]
theorem VH{K:PySem.W.Frag}{e C:Addr}(x:XIn K C)(f:IsC K C):PySem.W.KitX K (.ref e) (.ref C) (λh=>∃o vs,h.get? e=some o/\o.cls=.ref C/\o.dict=none/\o.data=.fields vs) where
 ty:=λM h _ p=>by
  obtain⟨o,vs,c,a,_⟩:=p;exact a ▸ (PySem.W.Looks.ld c).andThen .now
 it:=λM h X _=>by
  obtain⟨dd,u,y,l⟩:=f;intro D B F H k q;unfold isType loadHead;exact ko (wpAny_loadPart (k _ _ (X _ _ l)) (rr q))
 ne:=λh i dd its n y X b=>by
  obtain⟨m,u,j,l⟩:=f;refine ahw.mpr λq=>?_;have e:C=i:=Value.ref.inj (S4.mp q);subst e;have z:=ix (λo:Obj=>o.data) (iH ((X _ _ l).symm.trans b));cases z
 ca:=λ{prog w A E Q s} X p q=>by
  obtain⟨o,vs,c,a,r,v⟩:=p;obtain⟨G,g,d,t,os⟩:=s;exact YY X x c a v r q
section
variable{X:Cx}
def Xk:sY X (.builtin "isinstance") (λxs H Q=>∃(e C:Addr) (c:V) (f:Value) (b:Bool),xs=[.ref e,c]/\H e=some (XOb e C none)/\XIn X.K C/\IsC X.K C/\RelV c f/\PySem.W.kitOne X.K (.ref C) f=some b/\Q (.bl b) H):=by
 intro m s v H xs us Q I r h;obtain⟨e,C,c,f,b,rfl,p,xi,o,rc,j,q⟩:=h;obtain⟨w,g,rfl,u,l⟩:=vals2 r;cases u
 have e2:g=f:=by
  cases c with
  |ref a=>exact(show g=Value.ref a from l).trans (show f=Value.ref a from rc).symm
  |ty n=>exact(show g=Value.type n from l).trans (show f=Value.type n from rc).symm
  |non=>exact(show g=Value.none from l).trans (show f=Value.none from rc).symm
  |bl y=>exact(show g=Value.bool y from l).trans (show f=Value.bool y from rc).symm
  |int i=>obtain⟨t,rfl⟩:=rc;simp[PySem.W.kitOne,PySem.W.kitCls] at j
  |str y=>obtain⟨t,rfl⟩:=rc;simp[PySem.W.kitOne,PySem.W.kitCls] at j
  |byt y=>obtain⟨t,rfl⟩:=rc;simp[PySem.W.kitOne,PySem.W.kitCls] at j
  |flt y=>obtain⟨t,rfl⟩:=rc;simp[PySem.W.kitOne,PySem.W.kitCls] at j
 subst e2;have ok:=(I.hok e _ p).1;exact afD (VH xi o) I.oS ok j (λz=>nomatch z) λtk=>⟨.bl b,H,I.tok tk,rfl,q⟩
def WQ:sY X (.builtin "isinstance") (λxs H Q=>∃(x c:V) (t e:Value) (b:Bool),xs=[x,c]/\CB X.K H x t/\(∃n,c=.ty n/\e=.type n\/∃a,c=.ref a/\e=.ref a)/\PySem.W.kitOne X.K t e=some b/\Q (.bl b) H):=by
 intro g s m H xs us Q I r h;obtain⟨x,c,t,e,b,rfl,ty,rc,l,q⟩:=h;obtain⟨o,i,rfl,j,f⟩:=vals2 r
 have e2:i=e:=by
  obtain⟨n,⟨rfl,rfl⟩|⟨a,rfl,rfl⟩⟩:=rc
  .exact f
  .exact f
 subst e2;exact Tc I j ty l λtk=>⟨.bl b,H,I.tok tk,rfl,q⟩
theorem uv{x:Str}{i:Int}{t:Tok}{a:Pos}(b:Gl X x)(c:X.mg x=some (.int i t))(hd:(x==("__debug__":Str))=false:=by decide):PE X (.Name x a) (tC (.int i)):=MQ b c ⟨t,rfl⟩ hd
theorem MW{x z:Str}{t:Tok}{a:Pos}(b:Gl X x)(c:X.mg x=some (.str z t))(hd:(x==("__debug__":Str))=false:=by decide):PE X (.Name x a) (tC (.str z)):=MQ b c ⟨t,rfl⟩ hd
theorem yh{x:Str}{a:Addr}{b:Pos}(c:Gl X x)(e:X.mg x=some (.ref a))(hd:(x==("__debug__":Str))=false:=by decide):PE X (.Name x b) (tC (.ref a)):=MQ c e (v:= .ref a) rfl hd
theorem abt{x:Str}{n:String}{a:Pos}(b:Gl X x)(c:X.mg x=none)(e:bootBuiltins x=some (.type n))(f:x≠"__name__":=by decide)(hd:(x==("__debug__":Str))=false:=by decide):PE X (.Name x a) (tC (.ty n)):=ZT b c e (v:= .ty n) rfl f hd
end
section
variable{X:Cx}{x:Str}{C:Addr}{np cpos pos:Pos}{E:St->XK}
end
def MethAt(P:Program)(w:World)(K:PySem.W.Frag)(mg:Str->Option Value)(dH:Heap)(CX:M4)(cm:Bool)(k:Nat)(m:Str)(C:Addr)(sp:Sp)(a:List V):Prop:=
 ∃f fd ps ds,tW K C/\Meth K C m f/\aC P w K mg dH CX cm k f fd ps sp/\Binds K fd ps ds/\Vals a ds
def ML(Dt:Addr->Sp->List V->Prop)(m:Str)(E:St->XK)(g:TE)(t:TA):TE:=λc H Q=>g c H λx e=>∃a C f fs sp b,x=.ref a/\e a=some (.ins C f fs)/\Dt C sp b/\fs.lookup m=none∧
 t c e λvs h=>sp (x::(vs++b)) h Q (E c)
section
variable{X:Cx}{CX:M4}{k:Nat}{cm:Bool}{E:St->XK}{m:Str}{pos apos:Pos}{e o:Expr}{es:List Expr}{ta:TE}{t:TA}{Dt:Addr->Sp->List V->Prop}
def xn{pl:Sem Bool}(B:PE X o ta)(L:∀C sp b,Dt C sp b->MethAt X.prog X.w X.K X.mg X.dH CX cm k m C sp b)(M:eA cm k X.A)(D:Passes CX X E)(P:PA X (e::es) t)
  (g:starEach (e::es) X.env=(false,eval e X.env)::starEach es X.env:=by rfl) (i:(backTo pos (starEach es X.env)).any (·.1)=false:=by rfl)
  (z:eval (.Call (.Attribute o m apos) (e::es) [] pos) X.env=(do
   let j<-eval o X.env
   standAt apos.atName
   let (f,first)<-holding [j] (getMethod j m pl)
   callWith pos f first (backTo pos (starEach (e::es) X.env)) (backToKw pos (keywordEach [] X.env))):=by rfl):
  PE X (.Call (.Attribute o m apos) (e::es) [] pos) (ML Dt m E ta t):=by
 intro n s U H Q I h;refine ag5 (pl:=pl) (B.th I h λu Z x T p J N=>?_) z;obtain⟨a,C,Y,fs,sp,b,ex,R,S,l,q⟩:=N;subst ex;obtain rfl:u=Value.ref a:=J;obtain⟨f,fd,ps,ds,c,v,F,O,hd⟩:=L C sp b S;refine FR p R c v l ?_;refine agP (first:=[.ref a]) (h₀:=X.dH) I.ok.mod.kin v.kp (P.th p q λus s2 vs W y r G=>⟨y.oS,?_⟩) g i;exact KI (us:= .ref a::us) (vs:= .ref a::vs) F M O hd D y (.cons rfl r) G
def iX{pl:Sem Bool}(y:PE X o ta)(D:∀C sp b,Dt C sp b->MethAt X.prog X.w X.K X.mg X.dH CX cm k m C sp b)(G:eA cm k X.A)(z:Passes CX X E)
  (v:eval (.Call (.Attribute o m apos) [] [] pos) X.env=(do
   let n<-eval o X.env
   standAt apos.atName
   let (f,first)<-holding [n] (getMethod n m pl)
   callWith pos f first (backTo pos (starEach [] X.env)) (backToKw pos (keywordEach [] X.env))):=by rfl):
  PE X (.Call (.Attribute o m apos) [] [] pos) (ML Dt m E ta V7):=by
 intro i s N H Q I h;refine ag5 (pl:=pl) (y.th I h λu P x M g B p=>?_) v;obtain⟨a,C,O,fs,sp,b,ex,L,r,l,q⟩:=p;subst ex;obtain rfl:u=Value.ref a:=B;obtain⟨f,fd,ps,ds,c,j,F,J,hd⟩:=D C sp b r;refine FR g L c j l ?_;exact PySem.W.callWith_K0 (first:=[.ref a]) g.oS j.kp (KI (us:=[.ref a]) (vs:=[.ref a]) F G J hd z g (.cons rfl .nil) q)
end
structure Yp(K:PySem.W.Frag)(C:Addr)(m:Str)(f:Addr):Prop where
 sp:PySem.W.specialIn K (.ref C) "__getattribute__"=some (some (.builtin "type.__getattribute__"))
 rd:PySem.W.readsIn K C (.type "type")=true
 fc:PySem.W.findCls K (.ref C) (.type "type") m=some (.val (.ref f))
 kp:PySem.W.keepIn K (.ref f)=true
section
variable{X:Cx}{CX:M4}{k:Nat}{cm:Bool}{f C:Addr}{fd:FuncData}{ps:List Str}{sp:Sp}{oi:List V}{ds:List Value}{E:St->XK}{x m:Str}{p pos apos:Pos}{e:Expr}{es:List Expr}{t:TA}
def Yq{pl:Sem Bool}(F:aC X.prog X.w X.K X.mg X.dH CX cm k f fd ps sp)(u:eA cm k X.A)(D:Gl X x)(B:X.mg x=some (.ref C))(bc:Yp X.K C m f)(y:Binds X.K fd ps ds)(hd:Vals oi ds)(q:Passes CX X E)(z:PA X (e::es) t)
  (g:(x==("__debug__":Str))=false:=by decide)
  (b:starEach (e::es) X.env=(false,eval e X.env)::starEach es X.env:=by rfl) (c:(backTo pos (starEach es X.env)).any (·.1)=false:=by rfl)
  (l:eval (.Call (.Attribute (.Name x p) m apos) (e::es) [] pos) X.env=(do
   let i<-eval (.Name x p) X.env
   standAt apos.atName
   let (f,first)<-holding [i] (getMethod i m pl)
   callWith pos f first (backTo pos (starEach (e::es) X.env)) (backToKw pos (keywordEach [] X.env))):=by rfl):
  PE X (.Call (.Attribute (.Name x p) m apos) (e::es) [] pos) (NR sp oi E t):=by
 intro a s n H Q I h;refine ag5 (pl:=pl) (yk I D B ?_ g) l;refine PySem.W.method_cls I.oS bc.sp (PySem.W.cls_value I.oS bc.rd bc.fc rfl ?_);have v:Inv X a n H {s with toks:=s.toks+1}:=I.tok _;refine agP (first:=[]) (h₀:=X.dH) I.ok.mod.kin bc.kp (z.th v h λus J vs G j r o=>⟨j.oS,?_⟩) b c;exact KI F u y hd q j r o
end
def Ep:List V->List V->Bool
 |[],[]=>true
 |x::xs,y::ys=>vc x y&&Ep xs ys
 |_,_=>false
theorem Pa:∀{xs ys:List V},xs.length≠ys.length->Ep xs ys=false
 |[],[],h=>absurd rfl h
 |[],_::_,_=>rfl
 |_::_,[],_=>rfl
 |x::xs,y::ys,h=>by
  have:=Pa (xs:=xs) (ys:=ys) λz=>h (by rw[xl,xl,z]);show(vc x y&&Ep xs ys)=false;rw[this,agD]
theorem Gn:∀{xs ys:List V},xs.length=ys.length->((List.range xs.length).all λj=>match xs[j]?,ys[j]? with|some a,some b=>vc a b|_,_=>true)=Ep xs ys
 |[],[],_=>rfl
 |x::xs,y::ys,h=>by
  have c:=Gn (xs:=xs) (ys:=ys) (by simpa using h);rw[xl,agv,ahs,List.all_map];show(vc x y&&(List.range xs.length).all λj=>match xs[j]?,ys[j]? with|some a,some b=>vc a b|_,_=>true)=(vc x y&&Ep xs ys);rw[c]
section
variable{X:Cx}
def items_eqAt{A:Around}{s:Shared}{xs ys:List V}{is c:List Value}(h:Vals xs is)(i:Vals ys c)(o:xs.all gC=true)(n:ys.all gC=true)(j:Nat)(l:j<is.toArray.size)(f:j<c.toArray.size):
  SeqAt.EqAt A s is.toArray[j] c.toArray[j] (match xs[j]?,ys[j]? with|some a,some b=>vc a b|_,_=>true):=by
 rw[ki] at l f;have r:=h.length;have q:=i.length;have e1:xs[j]? =some xs[j]:=gy (by omega);have e2:ys[j]? =some ys[j]:=gy (by omega);obtain⟨t,e,p⟩:=h.get e1;obtain⟨u,g,m⟩:=i.get e2;rw[gy l] at e;rw[gy f] at g;cases e;cases g;rw[e1,e2];simp only[ahc];exact Ls p m (afr.mp o _ (M5 _)) (afr.mp n _ (M5 _))
def aee(K:PySem.W.Frag)(c:Bool):R2:=λx y H Q=>∃(a b:Addr) (xs ys:List V),x=.ref a/\y=.ref b/\fk K H a xs/\fk K H b ys/\xs.all gC=true/\ys.all gC=true/\Q (.bl (if c=true then !Ep xs ys else Ep xs ys)) H
def QZ(c:X.A.units<cLine):nN X (compareOp .Eq) (aee X.K false):=by
 intro i s E H x y v u Q I r t h;obtain⟨a,b,xs,ys,rfl,rfl,B,p,z,w,q⟩:=h;cases r;cases t;obtain⟨is,g,n,C⟩:=I.list B;obtain⟨G,m,f,F⟩:=I.list p;have o:=g.length;have D:=m.length;have q:Q (.bl (Ep xs ys)) H:=q;by_cases l:xs.length=ys.length
 .refine SeqAt.eq_listAt (e:=λj=>match xs[j]?,ys[j]? with|some a,some b=>vc a b|_,_=>true) n.isList f.isList (by rw[ki,ki];lia) c (items_eqAt g m z w) ?_;rw[ki,<-o,Gn l];exact⟨.bl _,H,I,rfl,q⟩
 .refine SeqAt.eq_list_lengthsAt n.isList f.isList (by rw[ki,ki,bne_iff_ne];lia) c ?_;rw[Pa l] at q;exact⟨.bl _,H,I,rfl,q⟩
end
def jm(P:Program)(w:World)(K:PySem.W.Frag)(mg:Str->Option Value)(dH:Heap)(cm:Bool)(k:Nat)(x:Str)(sp:Sp)(a:List V):Prop:=
 ∃f fd ps ds,aC P w K mg dH (fw P w) cm k f fd ps sp/\mg x=some (.ref f)/\PySem.W.keepIn K (.ref f)=true/\Binds K fd ps ds/\Vals a ds
def Mak(P:Program)(w:World)(K:PySem.W.Frag)(mg:Str->Option Value)(dH:Heap)(cm:Bool)(k:Nat)(x:Str)(C:Addr)(sp:Sp)(a:List V):Prop:=
 ∃f fd ps ds,Mk K C f/\aC P w K mg dH (fw P w) cm k f fd ps sp/\mg x=some (.ref C)/\Binds K fd ps ds/\Vals a ds
def Cmt(P:Program)(w:World)(K:PySem.W.Frag)(mg:Str->Option Value)(dH:Heap)(cm:Bool)(k:Nat)(x m:Str)(sp:Sp)(a:List V):Prop:=
 ∃C f fd ps ds,Yp K C m f/\aC P w K mg dH (fw P w) cm k f fd ps sp/\mg x=some (.ref C)/\Binds K fd ps ds/\Vals a ds
section
variable{X:Cx}{k:Nat}{cm:Bool}{C:Addr}{sp:Sp}{oi:List V}{E:St->XK}{x m:Str}{p pos apos:Pos}{e:Expr}{es:List Expr}{t:TA}
def Fz(c:jm X.prog X.w X.K X.mg X.dH cm k x sp oi)(q:eA cm k X.A)(o:Gl X x)(n:Passes (fw X.prog X.w) X E)
  (h:PA X (e::es) t) (b:(x==("__debug__":Str))=false:=by decide) (j:starEach (e::es) X.env=(false,eval e X.env)::starEach es X.env:=by rfl) (a:(backTo pos (starEach es X.env)).any (·.1)=false:=by rfl):
  PE X (.Call (.Name x p) (e::es) [] pos) (NR sp oi E t):=by
 obtain⟨f,fd,ps,ds,F,i,l,g,hd⟩:=c;exact ZN F q o i l g hd n h b j a
def uA(c:Mak X.prog X.w X.K X.mg X.dH cm k x C sp oi)(o:eA cm (k+1) X.A)(n:Gl X x)(l:Passes (fw X.prog X.w) X E)
  (h:PA X (e::es) t) (b:(x==("__debug__":Str))=false:=by decide) (j:starEach (e::es) X.env=(false,eval e X.env)::starEach es X.env:=by rfl) (a:(backTo pos (starEach es X.env)).any (·.1)=false:=by rfl):
  PE X (.Call (.Name x p) (e::es) [] pos) (RK C sp oi E t):=by
 obtain⟨f,fd,ps,ds,M,F,i,g,hd⟩:=c;exact Z5 M F o n i g hd l h b j a
def Ga{pl:Sem Bool}(c:Cmt X.prog X.w X.K X.mg X.dH cm k x m sp oi)(l:eA cm k X.A)(r:Gl X x)(j:Passes (fw X.prog X.w) X E)(o:PA X (e::es) t)
  (g:(x==("__debug__":Str))=false:=by decide)
  (a:starEach (e::es) X.env=(false,eval e X.env)::starEach es X.env:=by rfl) (b:(backTo pos (starEach es X.env)).any (·.1)=false:=by rfl)
  (i:eval (.Call (.Attribute (.Name x p) m apos) (e::es) [] pos) X.env=(do
   let h<-eval (.Name x p) X.env
   standAt apos.atName
   let (f,first)<-holding [h] (getMethod h m pl)
   callWith pos f first (backTo pos (starEach (e::es) X.env)) (backToKw pos (keywordEach [] X.env))):=by rfl):
  PE X (.Call (.Attribute (.Name x p) m apos) (e::es) [] pos) (NR sp oi E t):=by
 obtain⟨C,f,fd,ps,ds,bc,F,q,n,hd⟩:=c;exact Yq F l r q bc n hd j o g a b i
end
theorem yp{X:Cx}{c:List Str}{scope:Scope}{cl:List (Str×Addr)}{C:Addr}{a:List Addr}{b:Shared}{e:Hp}:Passes (fw (X.comp c scope cl C a b e).prog (X.comp c scope cl C a b e).w) (X.comp c scope cl C a b e) XNo:=passes λ_ _ _ _ _ _ _ _ q=>q
section
variable{X:Cx}
end
def isStar:Expr->Bool
 |.Starred .. =>true
 |_=>false
def RC{e:Expr}{es:List Expr}{env:Env}(h:isStar e=false):starEach (e::es) env=(false,eval e env)::starEach es env:=by
 cases e<;>first|rfl|cases h
theorem aj{X:Cx}{e:Expr}{es:List Expr}{a:TE}{t:TA}(b:PE X e a)(c:PA X es t)(h:isStar e=false:=by rfl):PA X (e::es) (aa0 a t):=RT b c (RC h)
def isConst:Expr->Bool
 |.Constant (.str _) _ _=>true
 |.Constant (.int _) _ _=>true
 |_=>false
def Wk:Expr->V
 |.Constant (.str x) _ _=>.str x
 |.Constant (.int x) _ _=>.int x
 |_=>.non
def YW(vs:List V):TA:=λ_ H Q=>Q vs H
def Vf{e:Expr}(h:isConst e=true):(∃x j p,e=.Constant (.str x) j p)\/∃x j p,e=.Constant (.int x) j p:=by
 unfold isConst at h
 split at h
 .exact .inl ⟨_,_,_,rfl⟩
 .exact .inr ⟨_,_,_,rfl⟩
 .cases h
theorem J8{X:Cx}:∀{es:List Expr},es.all isConst=true->PA X es (YW (es.map Wk))
 |[],_=>λb a s c H Q I h=>ag b a s c H Q I h
 |e::es,h=>by
  rw[ahs,oT] at h;have f:=J8 (X:=X) (es:=es) h.2;intro b a s c H Q I q
  have hs:PE X e (tC (Wk e))/\isStar e=false:=by
   rcases Vf h.1 with⟨x,j,p,rfl⟩|⟨x,j,p,rfl⟩
   .exact ⟨ar,rfl⟩
   .exact ⟨ah,rfl⟩
  exact RT hs.1 f (RC hs.2) b a s c H Q I q
theorem Qn{A:Around}{k:Nat}{cm:Bool}(a:eA cm k A):A.units<cLine:=Nat.lt_of_succ_lt (Ku a)
def aS(c:Stmt)(j:Nat):Stmt:=match c with
 |.ClassDef _ _ _ body .. =>body.getD j (.Pass ⟨0,0,0,0⟩)
 |_=>.Pass ⟨0,0,0,0⟩
def cJ:bootBuiltins "len"=some (.builtin "len"):=by decide +kernel
def iq:bootBuiltins "isinstance"=some (.builtin "isinstance"):=by decide +kernel
def Qh:bootBuiltins "min"=some (.builtin "min"):=by decide +kernel
def abq:bootBuiltins "all"=some (.builtin "all"):=by decide +kernel
def DI:bootBuiltins "int"=some (.type "int"):=by decide +kernel
def kq:bootBuiltins "str"=some (.type "str"):=by decide +kernel
def Y6:bootBuiltins "list"=some (.type "list"):=by decide +kernel
def Ye{K:PySem.W.Frag}{t:Value}:PySem.W.kitOne K t t=some true:=by
 unfold PySem.W.kitOne;rw[eE (ag2 _)]
def acN{i j:Int}(h:(decide (0<j)&&decide (j<1073741824))=true):adN i j:=by
 rw[oT,qj,qj] at h;exact h
theorem HL:∀{ys:List Str} {its:List Value},Vals (ys.map V.str) its->StrsAre its ys
 |[],[],_=>.nil
 |[],_::_,r=>by cases r
 |_::_,[],r=>by cases r
 |y::ys,_::its,r=>by
  cases r with
  |cons b a=>
   obtain⟨t,rfl⟩:=b;exact .cons _ _ (HL a)
section
variable{X:Cx}
theorem Ru{a:List (Addr×Obj)}{s:Shared}{b:St}{H:Hp}{Q:VK}{z:Str}(I:Inv X a b H s)(q:Q (.str z) H):∀(t':Tok) (k:Nat),EP X a b Q (.str z t') {s with toks:=k}:=λ_ _=>⟨.str z,H,I.tok _,⟨_,rfl⟩,q⟩
def DR:MtM X "str.join" (λx vs H Q=>∃(a:Str) (p:Addr) (ys:List Str),x=.str a/\vs=[.ref p]/\fk X.K H p (ys.map V.str)/\(ys.map (·.length)).sum+ys.length*a.length<=16777216/\Q (.str (Txt.join a ys)) H):=by
 intro b s j H x vs v us Q I f i h;obtain⟨a,p,ys,rfl,rfl,g,e,q⟩:=h;obtain⟨t,rfl⟩:=f;obtain⟨u,rfl,c⟩:=i.one;cases c;obtain⟨its,r,pl,_⟩:=I.list g;exact join_list pl.isList (HL r) e (Ru I q)
def vK:MtM X "str.lstrip" (λx vs H Q=>∃z y:Str,x=.str z/\vs=[.str y]/\z.length<=sizeLine/\Q (.str (Txt.lstripChars z y)) H):=by
 intro a s g H x vs v us Q I b c h;obtain⟨z,y,rfl,rfl,e,q⟩:=h;obtain⟨t,rfl⟩:=b;obtain⟨u,rfl,⟨f,rfl⟩⟩:=c.one;exact call_gives F.slot_str_lstrip (agU _ _ _) F.entry_str_lstrip (F.args_str_lstrip_2 _ _) (gives_str_lstrip_chars z y t f) (post_val_or_made (λ_=>fits_stripped _ _ _ e) (Ru I q))
def A6:MtM X "str.startswith" (λx vs H Q=>∃z y:Str,x=.str z/\vs=[.str y]/\Q (.bl (Txt.startswith z y)) H):=by
 intro a s f H x vs v us Q I b c h;obtain⟨z,y,rfl,rfl,q⟩:=h;obtain⟨t,rfl⟩:=b;obtain⟨u,rfl,⟨e,rfl⟩⟩:=c.one;exact call_gives F.slot_str_startswith (agU _ _ _) F.entry_str_startswith (F.args_str_startswith_2 _ _) (gives_str_startswith z y t e) ⟨.bl _,H,I,rfl,q⟩
theorem Kh:∀(tk:Nat) (ys:List Str),Vals (ys.map V.str) (strsFrom tk ys)
 |_,[]=>.nil
 |tk,_::ys=>.cons ⟨_,rfl⟩ (Kh (tk+1) ys)
def y6:MtM X "str.split" (λx vs H Q=>∃z y:Str,x=.str z/\vs=[.str y]/\z.length<=sizeLine/\(y.length==0)=false/\(Builtin.Str.partsBetween z (Builtin.Str.occurrences z y 0 z.length (z.length+1)) y.length).length<=sizeLine∧
  (Txt.split z y).length<=sizeLine/\∀p,H p=none->Q (.ref p) (upd H p (.lst ((Txt.split z y).map V.str)))):=by
 intro b s i H x vs v us Q I j l h;obtain⟨z,y,rfl,rfl,m,g,n,c,q⟩:=h;obtain⟨t,rfl⟩:=j;obtain⟨u,rfl,⟨f,rfl⟩⟩:=l.one;have q:=q _ I.fresh
 have one:∀(q:Q (.ref s.heap.objs.size) (upd H s.heap.objs.size (.lst [V.str z]))),EP X b i Q (.ref s.heap.objs.size) {s with heap:=s.heap.push {cls:= .type "list",data:= .seq [Value.str z t].toArray}}:=λq=>
  ⟨.ref _,_,I.abG (t':=s.toks) (its:=[.str z t]) (ys:=[V.str z]) (.cons ⟨_,rfl⟩ .nil) (by rw[List.length_singleton,af7];lia),rfl,q⟩
 unfold Txt.split at q c;by_cases a:(decide (z.length<y.length)||decide (Builtin.Str.strKind z<Builtin.Str.strKind y))=true
 .rw[eE a] at q;exact agV ahB (agU _ _ _) ahx (ahp _ _) (meets_str_split_cannot_occur z y t f a) (one q)
 .rw[er a] at q c;have a:=ahw.mpr a;by_cases e:(Builtin.Str.occurrences z y 0 z.length (z.length+1)).isEmpty=true
  .rw[eE e] at q;exact agV ahB (agU _ _ _) ahx (ahp _ _) (meets_str_split_not_found z y t f a g e) (one q)
  .rw[er e] at q c;refine agV ahB (agU _ _ _) ahx (ahp _ _) (meets_str_split_sep z y t f a g (ahw.mpr e) m n) ?_;exact⟨.ref _,_,I.abG (its:=strsFrom s.toks _) (ys:=_) (Kh _ _) (by rwa[gm]),rfl,q⟩
def Am:nN X (binaryOp .Mult) (λx y H Q=>∃(z:Str) (n:Nat),x=.str z/\y=.int n/\z.length*n<=100000/\n<=100000/\z.length<=100000/\Q (.str ⟨(List.replicate n z.cps).foldl (·++·) #[]⟩) H):=by
 intro j s p H x y v u Q I l o h;obtain⟨z,n,rfl,rfl,g,r,A,q⟩:=h;obtain⟨t,rfl⟩:=l;obtain⟨w,rfl⟩:=o;have hs:(100000:Nat)<=sizeLine:=by decide
 refine P.mul_str ?_ ?_ ?_ ?_
 .rw[j0 (),j0 ()];rfl
 .intro a b;have:(0:Int)<n:=by lia
  rw[Int.not_lt,Int.le_ediv_iff_mul_le this];have g:((z.length*n:Nat):Int)<=((100000:Nat):Int):=Int.ofNat_le.mpr g;rw[Int.natCast_mul] at g
  lia
 .intro a b;rw[afO];unfold Builtin.Str.tooLong;exact j0 ()
 .by_cases a:(n:Int)<1
  .rw[eE a];obtain rfl:n=0:=by lia
   exact⟨∅,.str _,H,I.tok _,⟨_,rfl⟩,q⟩
  .rw[er a];by_cases b:((n:Int)==1||z.length==0)=true
   .rw[eE b]
    have e:(⟨(List.replicate n z.cps).foldl (·++·) #[]⟩:Str)=z:=by
     rw[afQ,S4,S4] at b;rcases b with b|b
     .obtain rfl:n=1:=by lia
      show(⟨#[]++z.cps⟩:Str)=z;rw[Array.empty_append]
     .have z0:z.cps=#[]:=Array.size_eq_zero_iff.mp b
      have f:∀m:Nat,(List.replicate m (#[]:Array Nat)).foldl (·++·) #[]=#[]:=λm=>by
       induction m with
       |zero=>rfl
       |succ m i=>exact i
      rw[z0,f];cases z;exact ix Str.mk z0.symm
    rw[e] at q;exact⟨.str _,H,I,⟨_,rfl⟩,q⟩
   .rw[er b,afO];refine⟨?_,.str _,H,I.tok _,⟨_,rfl⟩,q⟩
    have sz:∀(m:Nat) (c:Array Nat),((List.replicate m z.cps).foldl (·++·) c).size=c.size+m*z.cps.size:=λm=>by
     induction m with
     |zero=>intro c;simp
     |succ m i=>intro c;rw[afq,ahd,i,Array.size_append,Nat.succ_mul];lia
    show((List.replicate n z.cps).foldl (·++·) #[]).size<=sizeLine;rw[sz,Nat.mul_comm];have:z.cps.size*n<=100000:=g;simp only[ki,agM]
    lia
end
def Ma(K:PySem.W.Frag)(H:Hp):Nat->V->V->Bool->Prop
 |0,x,y,b=>gC x=true/\gC y=true/\b=vc x y
 |n+1,x,y,b=>(gC x=true/\gC y=true/\b=vc x y)\/∃(a c:Addr) (xs ys:List V),x=.ref a/\y=.ref c∧
   ((fk K H a xs/\fk K H c ys/\xs.length≠ys.length/\b=false)\/(((fk K H a xs/\fk K H c ys)\/(l5 K H a xs/\l5 K H c ys))/\xs.length=ys.length/\∃e:Nat->Bool,(∀(j:Nat) (g f:V),xs[j]? =some g->ys[j]? =some f->Ma K H n g f (e j))/\b=(List.range xs.length).all e))
def OD{x:V}(h:gC x=true):vc x x=true:=by
 cases x<;>first|rfl|exact ag2 _|cases h
section
variable{X:Cx}{dI:List (Addr×Obj)}{σ:St}{H:Hp}{s:Shared}
def Ma.refl(I:Inv X dI σ H s):∀{n:Nat} {x:V} {b:Bool},Ma X.K H n x x b->b=true
 |0,x,b,h=>by rw[h.2.2];exact OD h.1
 |n+1,x,b,h=>by
  rcases h with h|⟨a,c,xs,ys,ex,m,h⟩
  .rw[h.2.2];exact OD h.1
  .subst ex;cases m;rcases h with⟨g,f,h,_⟩|⟨hs,_,e,l,o⟩
   .exact absurd (ix List.length (I.BY g f)) h
   .have ee:xs=ys:=by
     rcases hs with⟨g,f⟩|⟨g,f⟩
     .exact I.BY g f
     .exact I.UP g f
    subst ee;rw[o,afr];intro j i;have i:=xc.mp i;have e1:xs[j]? =some xs[j]:=gy i;exact Ma.refl I (l j _ _ e1 e1)
def zq{e:Nat->Bool}{n m:Nat}(h:n=m):((List.range (min n m)).all e&&n==m)=(List.range n).all e:=by
 subst h;rw[Nat.min_self,ag2,Bool.and_true]
def RE{xs ys:List V}{is a:List Value}(e:Vals xs is)(f:Vals ys a){j:Nat}(l:j<is.length)(h:j<a.length):∃x y,xs[j]? =some x/\ys[j]? =some y/\RelV x is[j]/\RelV y a[j]:=by
 have n:=e.length;have m:=f.length;have e1:xs[j]? =some xs[j]:=gy (by omega);have e2:ys[j]? =some ys[j]:=gy (by omega);obtain⟨o,b,i⟩:=e.get e1;obtain⟨p,c,g⟩:=f.get e2;rw[gy l] at b;rw[gy h] at c;cases b;cases c;exact⟨_,_,e1,e2,i,g⟩
def Ma.rc(I:Inv X dI σ H s):∀{n:Nat} {A:Around} {a c:Addr} {b:Bool},A.units+n<cLine->Ma X.K H n (.ref a) (.ref c) b->SeqAt.RcAt A s (.ref a) (.ref c) b
 |0,A,a,c,b,hu,h=>by cases h.1
 |n+1,A,a,c,b,hu,h=>by
  have p:A.units<cLine:=by lia
  rcases h with h|⟨Q,R,xs,ys,ex,D,h⟩
  .cases h.1
  cases ex;cases D
  have item:∀{is m:List Value} (f:Vals xs is) (g:Vals ys m) {e:Nat->Bool},(∀(j:Nat) (M L:V),xs[j]? =some M->ys[j]? =some L->Ma X.K H n M L (e j))->∀j (l:j<is.toArray.size) (i:j<m.toArray.size),SeqAt.EqAt A.in1 s is.toArray[j] m.toArray[j] (e j):=by
   intro is m f g e w j l i;rw[ki] at l i;obtain⟨x,y,e1,e2,C,v⟩:=RE f g l i;simp only[ahc];have hd:=w j x y e1 e2
   have o:gC x=true/\gC y=true/\e j=vc x y->SeqAt.EqAt A.in1 s is[j] m[j] (e j):=λz=>by
    rw[z.2.2];exact Ls C v z.1 z.2.1
   cases n with
   |zero=>exact o hd
   |succ n=>
    have r:=hd;rcases hd with z|⟨G,J,P,O,ex,D,_⟩
    .exact o z
    .subst ex D;have C:is[j]=Value.ref G:=C;have v:m[j]=Value.ref J:=v;rw[C,v];by_cases t:G=J
     .subst t;rw[Ma.refl I r];exact ahG _
     .exact SeqAt.EqAt.of_refs t (Ma.rc I (by show A.units+1+(n+1)<cLine;lia) r)
  rcases h with⟨l,i,N,B⟩|⟨hs,N,e,w,B⟩
  .obtain ⟨is,f,p1,z1⟩:=I.list l;obtain⟨m,g,q,F⟩:=I.list i;have u:=f.length;have E:=g.length;rw[B];exact SeqAt.RcAt.lists_lengths p1.isList q.isList (by rw[ki,ki,bne_iff_ne];lia) p
  rcases hs with⟨l,i⟩|⟨l,i⟩
  .obtain ⟨is,f,p1,z1⟩:=I.list l;obtain⟨m,g,q,F⟩:=I.list i;have u:=f.length;have E:=g.length;have:=SeqAt.RcAt.lists (e:=e) p1.isList q.isList (by rw[ki,ki];lia) p (item f g w);rw[ki,<-u,<-B] at this;exact this
  .obtain ⟨is,f,p1,z1⟩:=I.tuple l;obtain⟨m,g,q,F⟩:=I.tuple i;have u:=f.length;have E:=g.length;have:=SeqAt.RcAt.tuples (e:=e) p1 q p (item f g w);rw[ki,ki,zq (),<-u,<-B] at this;exact this
def Ma.ne(I:Inv X dI σ H s){n:Nat}{A:Around}{a c:Addr}{b:Bool}(Q:A.units+n<cLine)(h:Ma X.K H n (.ref a) (.ref c) b):SeqAt.RcNeAt A s (.ref a) (.ref c) (!b):=by
 cases n with
 |zero=>cases h.1
 |succ n=>
  have p:A.units<cLine:=by lia
  rcases h with h|⟨R,S,xs,ys,ex,D,h⟩
  .cases h.1
  cases ex;cases D
  have item:∀{is m:List Value} (f:Vals xs is) (g:Vals ys m) {e:Nat->Bool},(∀(j:Nat) (M L:V),xs[j]? =some M->ys[j]? =some L->Ma X.K H n M L (e j))->∀j (l:j<is.toArray.size) (i:j<m.toArray.size),SeqAt.EqAt A.in1 s is.toArray[j] m.toArray[j] (e j):=by
   intro is m f g e w j l i;rw[ki] at l i;obtain⟨x,y,e1,e2,C,v⟩:=RE f g l i;simp only[ahc];have hd:=w j x y e1 e2
   have o:gC x=true/\gC y=true/\e j=vc x y->SeqAt.EqAt A.in1 s is[j] m[j] (e j):=λz=>by
    rw[z.2.2];exact Ls C v z.1 z.2.1
   cases n with
   |zero=>exact o hd
   |succ n=>
    have r:=hd;rcases hd with z|⟨G,J,P,O,ex,D,_⟩
    .exact o z
    .subst ex D;have C:is[j]=Value.ref G:=C;have v:m[j]=Value.ref J:=v;rw[C,v];by_cases t:G=J
     .subst t;rw[Ma.refl I r];exact ahG _
     .exact SeqAt.EqAt.of_refs t (Ma.rc I (by show A.units+1+(n+1)<cLine;lia) r)
  rcases h with⟨l,i,N,B⟩|⟨hs,N,e,w,B⟩
  .obtain ⟨is,f,p1,z1⟩:=I.list l;obtain⟨m,g,q,F⟩:=I.list i;have u:=f.length;have E:=g.length;rw[B];exact SeqAt.RcNeAt.lists_lengths p1.isList q.isList (by rw[ki,ki,bne_iff_ne];lia) p
  rcases hs with⟨l,i⟩|⟨l,i⟩
  .obtain ⟨is,f,p1,z1⟩:=I.list l;obtain⟨m,g,q,F⟩:=I.list i;have u:=f.length;have E:=g.length;have:=SeqAt.RcNeAt.lists (e:=e) p1.isList q.isList (by rw[ki,ki];lia) p (item f g w);rw[ki,<-u,<-B] at this;exact this
  .obtain ⟨is,f,p1,z1⟩:=I.tuple l;obtain⟨m,g,q,F⟩:=I.tuple i;have u:=f.length;have E:=g.length;have:=SeqAt.RcNeAt.tuples (e:=e) p1 q p (item f g w);rw[ki,ki,zq (),<-u,<-B] at this;exact this
end
def ad5(K:PySem.W.Frag)(e:Bool):R2:=λx y H Q=>∃(a c:Addr) (n:Nat) (b:Bool),x=.ref a/\y=.ref c/\n<=8/\Ma K H n (.ref a) (.ref c) b/\Q (.bl (if e=true then !b else b)) H
section
variable{X:Cx}
def Xp(i:X.A.units+64<cLine):nN X (compareOp .NotEq) (ad5 X.K true):=by
 intro e s j H x y v u Q I f g h;obtain⟨a,c,n,b,rfl,rfl,l,hd,q⟩:=h;cases f;cases g;exact Ma.ne I () hd _ _ _ _ ⟨.bl (!b),H,I,rfl,q⟩
end
def Ss{A:Around}{k:Nat}{cm:Bool}(a:eA cm k A):A.units+64<cLine:=by have:=a.un;lia
theorem MS{X:Cx}{hs:List ExceptHandler}:PH X hs (λ_ _ _ _ _=>False):=λ_ _ _ _ _ _ _ _ _ _ _ _ _ z=>z.elim
def K4{X:Cx}{K0:PySem.W.Frag}(h:X.K=K0:=by rfl):MtM X "str.join" (λx vs H Q=>∃(a:Str) (p:Addr) (ys:List Str),x=.str a/\vs=[.ref p]/\fk K0 H p (ys.map V.str)/\(ys.map (·.length)).sum+ys.length*a.length<=16777216/\Q (.str (Txt.join a ys)) H):=by
 subst h;exact DR
section
variable{X:Cx}{K0:PySem.W.Frag}
def abM{T id:String}{name:Str}{r:V->List V->Hp->VK->Prop}{o e:Expr}{es:List Expr}{j:TE}{t:TA}{c a:Pos}(q:X.K=K0)(l:PlainAttrs T)(slot:Slot T name id)(i:typeOf (.builtin id)=pure (.type "method_descriptor"))(n:MtR X id r)(p:PE X o j)(m:PA X (e::es) t)
  (g:attributeBase o name X.env (eval o X.env)=eval o X.env:=by rfl)
  (h:((backTo a (starEach (e::es) X.env)).all (λx=> !x.1)&&(backToKw a (keywordEach [] X.env)).all (λx=>x.1.isSome)
   && decide ((e::es).length+([]:List Keyword).length+(if ([]:List Keyword).isEmpty then 0 else 1)<30))=true:=by rfl)
  (f:(c.endLine==a.line)=true:=by rfl) (hs:starEach (e::es) X.env=(false,eval e X.env)::starEach es X.env:=by rfl) (b:(backTo a (starEach es X.env)).any (·.1)=false:=by rfl):
  PE X (.Call (.Attribute o name c) (e::es) [] a) (tBM K0 T r j t):=by
 subst q;exact fg l slot i n p m g h f hs b
end
section
variable{X:Cx}{K0:PySem.W.Frag}
def Gu(h:X.K=K0):IxR X (adT K0):=by
 subst h;exact aD
end
end L2
namespace Shp
open PySem L2
structure Sh where
 kind:Nat
 keep:Str
 many:Int
 ba:Int
 bZ:Int
 name:Str
structure OkS(s:Sh):Prop where
 kd:s.kind<=5
 kp:s.keep="always"\/s.keep="fallen"\/s.keep="never"
 m0:0<=s.many
 m1:s.many<=1000001
 g0:0<=s.ba
 g1:s.ba<=1000001
 s0:0<=s.bZ
 s1:s.bZ<=1000001
abbrev cG(i:Int):Str:=Str.ofString (toString i)
def words(s:Sh):List Str:=match s.kind with
 |0=>["leaf",s.keep,cG s.ba,cG s.bZ,"idle"]
 |1=>["leaf",s.keep,cG s.ba,cG s.bZ,"steady",cG s.many]
 |2=>["leaf",s.keep,cG s.ba,cG s.bZ,"falls",cG s.many]
 |3=>["minder",s.keep,"one",cG s.ba,cG s.bZ]
 |4=>["minder",s.keep,"all",cG s.ba,cG s.bZ]
 |_=>["minder",s.keep,"rest",cG s.ba,cG s.bZ]
def begun(s:Sh)(wd:Str):Bool:=decide (s.keep="always")||(decide (s.keep="fallen")&&(decide (wd="fallen")||decide (wd="gave up")))
def endAt(s:Sh)(n:Int):Str:=if s.kind=1/\n=s.many then "done" else if s.kind=2/\n=s.many then "fallen" else ""
abbrev Rep:=Hp->Addr->Sh->Prop
def Jq(R:Rep)(C:Addr)(mk:List V->Sh->Prop):Sp:=λvs H Q _=>∃(x b:Addr) (a:Hp) (us:List V) (s:Sh),vs=.ref x::us/\mk us s/\a x=none/\a b=none/\b≠x∧
 H=upd (upd a b (.own x)) x (.ins C b [])/\∀H',aO a H'->R H' x s->Q .non H'
def Wh(us:List V)(s:Sh):Prop:=∃(nm a:Str) (g l:Int),us=[.str nm,.str a,.int g,.int l]/\s=⟨0,a,0,g,l,nm⟩/\OkS s
def Ow(us:List V)(s:Sh):Prop:=∃(nm a:Str) (m g l:Int),us=[.str nm,.str a,.int m,.int g,.int l]/\s=⟨1,a,m,g,l,nm⟩/\OkS s
def O9(us:List V)(s:Sh):Prop:=∃(nm a:Str) (m g l:Int),us=[.str nm,.str a,.int m,.int g,.int l]/\s=⟨2,a,m,g,l,nm⟩/\OkS s
def B0(b:Nat)(us:List V)(s:Sh):Prop:=∃(nm a:Str) (g l:Int),us=[.str nm,.str a,.int g,.int l]/\s=⟨b,a,0,g,l,nm⟩/\OkS s
def Mv(R:Rep)(C:Addr):Sp:=λvs H Q _=>∃(a b:Addr) (fs:List (Str×V)) (s:Sh),vs=[.ref a]/\R H a s/\H a=some (.ins C b fs)∧
 ∀(q:Addr) (H':Hp),aO H H'->H q=none->H' q=some (.lst ((words s).map V.str))->Q (.ref q) H'
def w6(R:Rep)(C:Addr):Sp:=λvs H Q _=>∃(a b:Addr) (fs:List (Str×V)) (s:Sh),vs=[.ref a]/\R H a s/\H a=some (.ins C b fs)/\∀H',aO H H'->Q (.bl (decide (s.kind<3))) H'
def isWord(wd:Str):Prop:=wd="done"\/wd="fallen"\/wd="gave up"\/wd="ended"\/wd="cut"
def Lr(R:Rep)(C:Addr):Sp:=λvs H Q _=>∃(a b:Addr) (fs:List (Str×V)) (s:Sh) (wd:Str),vs=[.ref a,.str wd]/\R H a s/\H a=some (.ins C b fs)/\isWord wd/\∀H',aO H H'->Q (.bl (begun s wd)) H'
def JW(R:Rep)(C:Addr):Sp:=λvs H Q _=>∃(a b:Addr) (fs:List (Str×V)) (s:Sh) (n:Int),vs=[.ref a,.int n]/\R H a s/\H a=some (.ins C b fs)/\s.kind<3/\0<=n/\(s.kind≠0->n<=s.many)/\∀H',aO H H'->Q (.str (endAt s n)) H'
def cy(f:Nat->Bool):Nat->Nat
 |0=>0
 |n+1=>cy f n+if f n=true then 2^n else 0
def kN(a pl ct:Nat)(f:Nat->Bool):Nat:=match a with
 |3=>0
 |4=>cy f ct
 |_=>cy (λk=>f k&&decide (pl<k)) ct
def anew(a pl ct:Nat)(g:Nat->Bool):Nat:=match a with
 |3=>cy (λk=>decide (k=pl)) ct
 |4=>cy (λk=> !g k) ct
 |_=>cy (λk=>decide (pl<=k)&& !g k) ct
def xX(R:Rep)(C:Addr):Sp:=λvs H Q _=>∃(a b:Addr) (fs:List (Str×V)) (s:Sh) (pl ct:Nat) (f g:Nat->Bool),vs=[.ref a,.int pl,.int ct,.int (cy f ct:Nat),.int (cy g ct:Nat)]/\R H a s/\H a=some (.ins C b fs)∧
 3<=s.kind/\pl<ct/\ct<=64/\f pl=false/\g pl=false∧
 ∀(q:Addr) (H':Hp),aO H H'->H q=none->H' q=some (.tup [.int (kN s.kind pl ct f:Nat),.int (anew s.kind pl ct g:Nat)])->Q (.ref q) H'
structure If(P:Program)(w:World)(K:PySem.W.Frag)(mg:Str->Option Value)(dH:Heap)(k:Nat)(R:Rep)(Cl:Nat->Addr->Prop):Prop where
 mono:∀{H H':Hp} {a:Addr} {s:Sh},aO H H'->R H a s->R H' a s
 ok:∀{H:Hp} {a:Addr} {s:Sh},R H a s->OkS s
 inst:∀{H:Hp} {a:Addr} {s:Sh},R H a s->∃C dx fs,H a=some (.ins C dx fs)/\Cl s.kind C/\fs.lookup ("words":Str)=none/\fs.lookup ("leaf":Str)=none/\fs.lookup ("begun_again":Str)=none/\fs.lookup ("end_at":Str)=none/\fs.lookup ("chosen":Str)=none
 words:∀{C j},Cl j C->MethAt P w K mg dH (fw P w) true k "words" C (Mv R C) []
 leaf:∀{C j},Cl j C->MethAt P w K mg dH (fw P w) true k "leaf" C (w6 R C) []
def aT(P:Program)(w:World)(K:PySem.W.Frag)(mg:Str->Option Value)(dH:Heap)(k:Nat)(m:Str)(sp:Addr->Sp)(a:Addr->Prop):Prop:=∀C,a C->MethAt P w K mg dH (fw P w) true k m C (sp C) []
def Dt(sp:Addr->Sp)(b:Addr->Prop)(C:Addr)(s:Sp)(a:List V):Prop:=b C/\s=sp C/\a=[]
def aT.d{P:Program}{w:World}{K:PySem.W.Frag}{mg:Str->Option Value}{dH:Heap}{k:Nat}{m:Str}{sp:Addr->Sp}{b:Addr->Prop}(h:aT P w K mg dH k m sp b):
  ∀C s a,Dt sp b C s a->MethAt P w K mg dH (fw P w) true k m C s a:=by
 rintro C s a ⟨c,rfl,rfl⟩;exact h C c
theorem oP(f:Nat->Bool):∀n,cy f n<2^n
 |0=>Nat.zero_lt_one
 |n+1=>by
  have:=oP f n;unfold cy;rw[Nat.pow_succ]
  split<;>lia
theorem bz(f:Nat->Bool):∀(n k:Nat),(cy f n).testBit k=(decide (k<n)&&f k)
 |0,k=>by
  show Nat.testBit 0 k=_;rw[agn];simp
 |n+1,k=>by
  have b:=oP f n;have a:=bz f n k;unfold cy;by_cases h:f n=true
  .have e0:2^n+cy f n=2^n ||| cy f n:=by
    have:=Nat.two_pow_add_eq_or_of_lt b 1;rwa [ahO] at this
   rw[eE h,Nat.add_comm,e0,ahJ,a,ahm];by_cases e:n=k
   .subst e;simp[h]
   .have:decide (k<n+1)=decide (k<n):=by rw[L1,qj,qj];lia
    rw[this,j0 e,aht]
  .rw[er h,Nat.add_zero,a];by_cases e:n=k
   .subst e;simp[h]
   .have:decide (k<n+1)=decide (k<n):=by rw[L1,qj,qj];lia
    rw[this]
theorem AU{m:Nat}{f:Nat->Bool}{n:Nat}(h:∀k,m.testBit k=(decide (k<n)&&f k)):m=cy f n:=
 af1 λk=>by rw[h,bz]
def RY(a b:Nat):(a ^^^ b)+2*(a &&& b)=a+b:=by
 induction a using Nat.strongRecOn generalizing b with
 |ind a i=>
  by_cases h:a=0
  .subst h;simp
  .have:=i (a/2) () (b/2);rw[<- Nat.xor_div_two,<-Nat.and_div_two] at this
   have g:(a ^^^ b)%2=(a%2+b%2)%2:=by
    rcases afs a with c|c<;>rcases afs b with e|e <;>
     .have t:=af2 a b 0;simp only[Nat.testBit_zero,c,e] at t;rcases afs (a ^^^ b) with f|f<;>simp_all
   have j:(a &&& b)%2=(a%2)*(b%2):=by
    rcases afs a with c|c<;>rcases afs b with e|e <;>
     .have t:=afE a b 0;simp only[Nat.testBit_zero,c,e] at t;rcases afs (a &&& b) with f|f<;>simp_all
   rcases afs a with c|c<;>rcases afs b with e|e<;>rw[c,e] at g j<;>lia
def HD(a b:Nat):Builtin.bitAnd (a:Int) (b:Int)=((a &&& b:Nat):Int):=by
 unfold Builtin.bitAnd;rw[f7 (agR a),f7 (agR b)]
 rfl
def aa8(a b:Nat):(a ||| b)+(a &&& b)=a+b:=by
 have h:(a ||| b)=(a ^^^ b)+(a &&& b):=by
  have e1:=RY (a ^^^ b) (a &&& b)
  have z:(a ^^^ b) &&& (a &&& b)=0:=af1 λk=>by
   rw[afE,af2,afE,agn];cases a.testBit k<;>cases b.testBit k<;>rfl
  have y:(a ^^^ b) ^^^ (a &&& b)=a ||| b:=af1 λk=>by
   rw[af2,af2,afE,ahJ];cases a.testBit k<;>cases b.testBit k<;>rfl
  rw[z,y] at e1
  lia
 have:=RY a b
 lia
def Tf(a b:Nat):Builtin.bitOr (a:Int) (b:Int)=((a ||| b:Nat):Int):=by
 unfold Builtin.bitOr Builtin.bitAnd Builtin.bitNot;rw[j0 (),j0 ()];have e1:(-(-(a:Int)-1)-1).toNat=a:=by lia
 have e2:(-(-(b:Int)-1)-1).toNat=b:=by lia
 dsimp only;rw[e1,e2]
 lia
def Jn(a b:Nat):Builtin.bitAnd (a:Int) (Builtin.bitNot (b:Int))=((a &&& (a ^^^ b):Nat):Int):=by
 unfold Builtin.bitAnd;rw[f7 (agR a),j0 (by unfold Builtin.bitNot;lia)];dsimp only;have e:(Builtin.bitNot (Builtin.bitNot (b:Int))).toNat=b:=by unfold Builtin.bitNot;lia
 rw[e];have e3:(Int.toNat (a:Int))=a:=by lia
 rw[e3];have h:=aa8 (a &&& b) (a &&& (a ^^^ b))
 have z:(a &&& b) &&& (a &&& (a ^^^ b))=0:=af1 λk=>by
  simp only[afE,af2,agn];cases a.testBit k<;>cases b.testBit k<;>rfl
 have y:(a &&& b) ||| (a &&& (a ^^^ b))=a:=af1 λk=>by
  simp only[afE,ahJ,af2];cases a.testBit k<;>cases b.testBit k<;>rfl
 rw[z,y] at h
 lia
def Rf(k:Nat):(1:Int)*2^((k:Int)).toNat=((2^k:Nat):Int):=by
 rw[Int.one_mul,afO,Int.natCast_pow]
 rfl
def SO(n:Nat):(1:Int)*2^((n:Int)).toNat-1=((2^n-1:Nat):Int):=by
 rw[Rf];have:=ahH n;omega
end Shp
namespace Nm
open PySem PySem.NumText PySem.StrLaws
abbrev fx(x:Str):List Nat:=x.cps.toList
def ofC(l:List Nat):Str:=⟨l.toArray⟩
theorem Cd(l:List Nat):fx (ofC l)=l:=rfl
theorem tJ{x y:Str}(h:fx x=fx y):x=y:=PyProof.Rows.ext_toList h
theorem Q9(x:Str):ofC (fx x)=x:=tJ rfl
theorem bC(x:Str):(fx x).length=x.length:=ahk
theorem kj(x y:Str):fx (x++y)=fx x++fx y:=PySem.W.KT.app_list x y
def Sx(x y:Str):(x++y).length=x.length+y.length:=by rw[<- bC,kj,js,bC,bC]
def ace(x:Str)(c:Nat):(!(Builtin.Str.occurrences x ⟨#[c]⟩ 0 x.length 1).isEmpty)=(fx x).contains c:=by
 rw[L1,found_iff]
 constructor
 .rintro ⟨i,h⟩;exact agE.mpr (afJ ((subAt_one x c i).mp h))
 .intro h;obtain⟨i,a⟩:=List.mem_iff_getElem?.mp (agE.mp h);exact⟨i,(subAt_one x c i).mpr a⟩
def dg(m:Nat):List Nat:=(Nat.toDigits 10 m).map Char.toNat
def Oy(m:Nat):dg m≠[]:=by
 unfold dg;intro e;exact Nat.toDigits_ne_nil (List.map_eq_nil_iff.mp e)
def Wx(m:Nat):(dg m).length<=7↔m<10^7:=by
 unfold dg;rw[gm];exact Nat.length_toDigits_le_iff ∅ ∅
def SQ{c:Char}(h:c.isDigit=true):48<=c.toNat/\c.toNat<=57:=by
 unfold Char.isDigit at h;simp only[oT,decide_eq_true_eq] at h;exact⟨h.1,h.2⟩
def Wi{m c:Nat}(h:c∈dg m):48<=c/\c<=57:=by
 obtain⟨ch,a,e⟩:=C0.mp h;rw[<- e];exact SQ (Nat.isDigit_of_mem_toDigits ∅ ∅ a)
def OJ{d:Nat}(h:d<10):(Nat.digitChar d).toNat=d+48:=by
 revert h;revert d;decide
def NP{m:Nat}(h:m<10):dg m=[m+48]:=by
 unfold dg;rw[Nat.toDigits_of_lt_base h,M0,agC,OJ h]
def XB{m:Nat}(h:10<=m):dg m=dg (m/10)++[m%10+48]:=by
 unfold dg;rw[Nat.toDigits_eq_if (n:=m) ∅,er (),ni,M0,agC,OJ ()]
def GK(a:List Nat)(c:Nat):digitsVal (a++[c])=digitsVal a*10+(c-48):=by
 unfold digitsVal;rw[agz];rfl
def Vq(m:Nat):digitsVal (dg m)=m:=by
 induction m using Nat.strongRecOn with
 |_ m a=>
  by_cases h:m<10
  .rw[NP h];show 0*10+(m+48-48)=m
   lia
  .rw[XB (),GK,a (m/10) ()]
   lia
def aal(m:Nat):∀t,dg m=48::t->m=0/\t=[]:=by
 induction m using Nat.strongRecOn with
 |_ m b=>
  intro t e;by_cases h:m<10
  .rw[NP h] at e;injection e with e1 e2;exact⟨(),e2.symm⟩
  .rw[XB ()] at e;cases q:dg (m/10) with
   |nil=>exact absurd q (Oy _)
   |cons a r=>
    rw[q] at e;injection e with e1 e2;subst e1;have:=(b (m/10) () r q).1
    lia
def yd{v:Int}(a:0<=v):fx (PySem.Str.ofString (toString v))=dg v.toNat:=by
 obtain⟨m,rfl⟩:=afT a;exact PySem.W.KIN.signs_num m
def wc(c:Nat):Bool:=decide (48<=c/\c<=57)
def Li(c:Nat):Bool:=decide (97<=c/\c<=122)||decide (48<=c/\c<=57)
def Ug:fx "0123456789"=[48,49,50,51,52,53,54,55,56,57]:=by decide +kernel
def YG(c:Nat):(fx "0123456789").contains c=wc c:=by
 rw[Ug,L1,agE];unfold wc;rw[qj];simp only[ti,ahC,or_false];omega
def VR:fx "abcdefghijklmnopqrstuvwxyz0123456789"=[97,98,99,100,101,102,103,104,105,106,107,108,109,110,111,112,113,114,115,116,117,118,119,120,121,122,48,49,50,51,52,53,54,55,56,57]:=by decide +kernel
def abT(c:Nat):(fx "abcdefghijklmnopqrstuvwxyz0123456789").contains c=Li c:=by
 rw[VR];by_cases h:c<128
 .have q:∀c,c<128->[97,98,99,100,101,102,103,104,105,106,107,108,109,110,111,112,113,114,115,116,117,118,119,120,121,122,48,49,50,51,52,53,54,55,56,57].contains c=Li c:=by decide +kernel
  exact q c h
 .have e:Li c=false:=by
   unfold Li;rw[j0 (),j0 ()]
   rfl
  rw[e,<-Bool.not_eq_true,agE];intro m;have q:∀x∈[97,98,99,100,101,102,103,104,105,106,107,108,109,110,111,112,113,114,115,116,117,118,119,120,121,122,48,49,50,51,52,53,54,55,56,57],x<128:=by decide +kernel
  exact h (q c m)
def Sz(m k:Nat):(List.replicate k 48++dg m).all wc=true:=by
 rw[afr];intro c a;unfold wc;rw[qj];rcases wH.mp a with h|h
 .rw[(af0.mp h).2]
  lia
 .exact Wi h
def j9(c:List Nat):List (List Nat)->List Nat
 |[]=>[]
 |[a]=>a
 |a::b::r=>a++c++j9 c (b::r)
theorem y7(c:Str):∀ys:List Str,fx (Str.join c ys)=j9 (fx c) (ys.map fx)
 |[]=>rfl
 |[_]=>rfl
 |a::b::r=>by
  show fx (a++c++Str.join c (b::r))=fx a++fx c++j9 (fx c) ((b::r).map fx);rw[kj,kj,y7 c (b::r)]
def Gj(a:Str)(ys:List Str):fx (Txt.join a ys)=j9 (fx a) (ys.map fx):=by
 show fx (Builtin.Str.glued a ys)=_;rw[StrLaws.glued_eq_join,y7]
theorem Sv{x:Str}(a:fx x≠[])(hd:(fx x).all wc=true)(e:x.length<=60):PySem.intText? x=some ((digitsVal (fx x):Nat):Int):=
 intText_digits (λc b=>by have:=afr.mp hd c b;unfold wc at this;exact hI this) a ()
end Nm
namespace Tr
open PySem Shp Nm PySem.NumText
def lF(x:Str):Prop:=1<=x.length/\x.length<=12/\(fx x).all Li=true
structure Row where
 dep:Nat
 sh:Sh
def Row.isM(r:Row):Bool:=decide (3<=r.sh.kind)
instance:Inhabited Row:=⟨⟨0,⟨0,"",0,0,0,""⟩⟩⟩
abbrev Path:=List (Nat×Bool)
def Hn(p:Path)(k:Nat)(r:Row):Path:=p.take r.dep++[(k,r.isM)]
def b6(rows:List Row):Nat->Path
 |0=>[]
 |k+1=>Hn (b6 rows k) k (rows.getD k default)
def fits(p:Path)(k:Nat)(r:Row):Prop:=if k=0 then r.dep=0/\r.isM=true else 1<=r.dep/\r.dep<=8/\∃j,p[r.dep-1]? =some (j,true)
instance(p:Path)(k:Nat)(r:Row):Decidable (fits p k r):=by
 unfold fits;refine @instDecidableIte _ _ _ _ inferInstance ?_;refine @instDecidableAnd _ _ inferInstance (@instDecidableAnd _ _ inferInstance ?_);cases h:p[r.dep-1]? with
 |none=>exact isFalse λa=>by obtain⟨j,e⟩:=a;cases e
 |some x=>
  obtain⟨j,b⟩:=x;cases b with
  |true=>exact isTrue ⟨j,rfl⟩
  |false=>exact isFalse λa=>by obtain⟨j,e⟩:=a;cases e
def cA(rows:List Row)(k:Nat):Int:=match (b6 rows k)[(rows.getD k default).dep-1]? with
 |some x=>if k=0 then -1 else (x.1:Int)
 |none=> -1
def oC{a:Type}(xs ys:List a)(d:a){k:Nat}(h:k<xs.length):(xs++ys).getD k d=xs.getD k d:=by
 rw[ry,ry,ae1 h]
theorem cX(rows more:List Row):∀k,k<=rows.length->b6 (rows++more) k=b6 rows k
 |0,_=>rfl
 |k+1,h=>by
  unfold b6;rw[cX rows more k (),oC _ _ _ ()]
def J6(rows more:List Row){k:Nat}(h:k<rows.length):cA (rows++more) k=cA rows k:=by
 unfold cA;rw[cX rows more k (by omega),oC _ _ _ (by omega)]
structure zw(s:Sh):Prop where
 kd:s.kind<=5
 kp:s.keep="always"\/s.keep="fallen"\/s.keep="never"
 m0:0<=s.many
 m1:s.many<=1000000
 m2:¬(s.kind=1\/s.kind=2)->s.many=0
 g0:0<=s.ba
 g1:s.ba<=1000000
 s0:0<=s.bZ
 s1:s.bZ<=1000000
 s2:3<=s.kind->1<=s.bZ
 nm:lF s.name
theorem zw.okS{s:Sh}(h:zw s):OkS s:=⟨h.kd,h.kp,h.m0,by have:=h.m1;lia,h.g0,by have:=h.g1;lia,h.s0,by have:=h.s1;lia⟩
structure gx(rows:List Row):Prop where
 ne:rows≠[]
 len:rows.length<=64
 fit:∀k,k<rows.length->fits (b6 rows k) k (rows.getD k default)
 sh:∀r∈rows,zw r.sh
 nd:(rows.map (·.sh.name)).Nodup
def ot(c:Nat):List Nat->List (List Nat)
 |[]=>[[]]
 |a::r=>if a=c then []::ot c r else match ot c r with
  |[]=>[[a]]
  |w::ws=>(a::w)::ws
theorem vL(c a:Nat)(r:List Nat):ot c (a::r)=if a=c then []::ot c r else match ot c r with
  |[]=>[[a]]
  |w::ws=>(a::w)::ws:=rfl
theorem Pc(c:Nat):∀l,ot c l≠[]
 |[]=>afY _ _
 |a::r=>by
  unfold ot
  split
  .exact afY _ _
  .cases ot c r<;>exact afY _ _
theorem LO(c:Nat)(y:List Nat):∀x,ot c (x++c::y)=ot c x++ot c y
 |[]=>by
  show(if c=c then []::ot c y else _)=_;rw[eE rfl]
  rfl
 |a::r=>by
  have b:=LO c y r;rw[afZ,vL,vL];by_cases h:a=c
  .rw[eE h,eE h,b]
   rfl
  .rw[er h,er h,b];cases z:ot c r with
   |nil=>exact absurd z (Pc c r)
   |cons w e=>rfl
theorem Fo(c:Nat):∀x,c∉x->ot c x=[x]
 |[],_=>rfl
 |a::r,h=>by
  have b:a≠c:=λe=>h (by rw[e];exact ov);unfold ot;rw[er b,Fo c r (λz=>h (ri _ z))]
theorem Ng(c:Nat):∀ls:List (List Nat),ls≠[]->(∀l∈ls,c∉l)->ot c (j9 [c] ls)=ls
 |[],h,_=>absurd rfl h
 |[a],_,h=>Fo c a (h a ov)
 |a::b::r,_,h=>by
  have f:=Ng c (b::r) (afY _ _) λl e=>h l (ri _ e);show ot c (a++[c]++j9 [c] (b::r))=_;rw[T1,ag6,LO,f,Fo c a (h a ov)]
  rfl
def cK(l:List Nat):List (List Nat):=(ot 32 l).filter λw=> !w.isEmpty
def As(x y:List Nat):cK (x++32::y)=cK x++cK y:=by
 unfold cK;rw[LO,YP]
theorem QI:cK []=[]:=rfl
def Tj(y:List Nat):cK (32::y)=cK y:=by
 have:=As [] y;rwa [QI,NC,NC] at this
def uK(n:Nat)(y:List Nat):cK (List.replicate n 32++y)=cK y:=by
 induction n with
 |zero=>rfl
 |succ n a=>rw[afq,afZ,Tj,a]
def zS{w:List Nat}(h:w≠[])(b:32∉w):cK w=[w]:=by
 unfold cK;rw[Fo 32 w b];cases w with
 |nil=>exact absurd rfl h
 |cons a r=>rfl
theorem DN(n m:Nat):∀f:List (List Nat),(∀w∈f,w≠[]/\32∉w)->cK (j9 (List.replicate (n+1) 32) f++List.replicate m 32)=f
 |[],_=>by
  show cK ([]++_)=[];rw[NC];have:=uK m [];rwa [su] at this
 |[a],h=>by
  show cK (a++_)=[a];obtain⟨e,c⟩:=h a ov;cases m with
  |zero=>rw[agq,su];exact zS e c
  |succ m=>
   rw[afq,As,zS e c];have:=uK m [];rw[su] at this;rw[this]
   rfl
 |a::b::r,h=>by
  obtain⟨e,c⟩:=h a ov;have g:=DN n m (b::r) λw i=>h w (ri _ i);show cK (a++List.replicate (n+1) 32++j9 _ (b::r)++_)=_;rw[afq] at g ⊢;rw[T1,T1,afZ,As,uK,zS e c];rw[g]
  rfl
def numOf(x:Str):Option Int:=if fx x≠[]/\(fx x).all wc=true/\((fx x).head? =some 48->fx x=[48])/\digitsVal (fx x)<=1000000 then some ((digitsVal (fx x):Nat):Int) else none
def dW(x:Str):Prop:=x="always"\/x="fallen"\/x="never"
instance(x:Str):Decidable (dW x):=inferInstanceAs (Decidable (_\/_))
instance(x:Str):Decidable (lF x):=inferInstanceAs (Decidable (_/\_))
def Qv(x:Str):Option Nat:=if x="one" then some 3 else if x="all" then some 4 else if x="rest" then some 5 else none
def rowOf:List Str->Option Sh
 |[a,kp,g,s,wk,nm]=>if a="leaf"/\dW kp/\wk="idle"/\lF nm then (numOf g).bind λg=>(numOf s).bind λs=>some ⟨0,kp,0,g,s,nm⟩
   else if a="minder"/\dW kp/\lF nm then (Qv g).bind λk=>(numOf s).bind λm=>(numOf wk).bind λp=>if p=0 then none else some ⟨k,kp,0,m,p,nm⟩ else none
 |[a,kp,g,s,wk,m,nm]=>if a="leaf"/\dW kp/\lF nm then (if wk="steady" then some 1 else if wk="falls" then some 2 else none).bind λk=>(numOf g).bind λg=>(numOf s).bind λs=>(numOf m).bind λm=>some ⟨k,kp,m,g,s,nm⟩ else none
 |_=>none
def lead(l:List Nat):Nat:=(l.takeWhile (·==32)).length
def gK(l:List Nat):Bool:=match l.dropWhile (·==32) with
 |[]=>true
 |c::_=>c==35
def rg(l:List Nat):Option Row:=if lead l%2=0 then (rowOf ((cK l).map ofC)).map λs=>⟨lead l/2,s⟩ else none
inductive Res
 |ok (rows:List Row)
 |bad (n:Nat)
 |many
 |aaS
def scan(rows:List Row)(n:Nat):List (List Nat)->Res
 |[]=>if rows=[] then .aaS else .ok rows
 |l::ls=>if gK l=true then scan rows (n+1) ls else match rg l with
  |none=>.bad (n+1)
  |some r=>if fits (b6 rows rows.length) rows.length r/\r.sh.name∉rows.map (·.sh.name) then (if rows.length=64 then .many else scan (rows++[r]) (n+1) ls) else .bad (n+1)
theorem Dd(rows:List Row)(n:Nat)(l:List Nat)(ls:List (List Nat)):scan rows n (l::ls)=if gK l=true then scan rows (n+1) ls else match rg l with
  |none=>.bad (n+1)
  |some r=>if fits (b6 rows rows.length) rows.length r/\r.sh.name∉rows.map (·.sh.name) then (if rows.length=64 then .many else scan (rows++[r]) (n+1) ls) else .bad (n+1):=rfl
def parse(x:List Nat):Res:=scan [] 0 (ot 10 x)
def Qo{i:Int}(b:0<=i)(f:i<=1000000):numOf (cG i)=some i:=by
 have c:fx (cG i)=dg i.toNat:=yd b;unfold numOf;rw[c,Vq,eE]
 .rw[Int.toNat_of_nonneg b]
 .refine ⟨Oy _,?_,?_,()⟩
  .have:=Sz i.toNat 0;rwa [agq,NC] at this
  .intro e;cases z:dg i.toNat with
   |nil=>exact absurd z (Oy _)
   |cons a r=>
    rw[z] at e;obtain rfl:a=48:=by simpa using e
    rw[(aal _ _ z).2]
def P1(a w m p nm:Str)(c:dW a)(b:lF nm):rowOf ["minder",a,w,m,p,nm]=(Qv w).bind λk=>(numOf m).bind λm=>(numOf p).bind λp=>if p=0 then none else some ⟨k,a,0,m,p,nm⟩:=by
 unfold rowOf;dsimp only;rw[er (λz=>absurd z.1 ∅),eE ⟨rfl,c,b⟩]
def T9{s:Sh}(h:zw s):rowOf (words s++[s.name])=some s:=by
 obtain⟨f,i,m,g,l,nm⟩:=s;have q:f=0\/f=1\/f=2\/f=3\/f=4\/f=5:=by have:=h.kd;dsimp only at this;lia
 have c:=Qo h.g0 h.g1;have hs:=Qo h.s0 h.s1;have n:=Qo h.m0 h.m1;have a:dW i:=h.kp;have b:lF nm:=h.nm;have j:=h.m2;have p:=h.s2;dsimp only at c hs n j p;rcases q with rfl|rfl|rfl|rfl|rfl|rfl
 .have e:m=0:=j ∅;subst e;show(if ("leaf":Str)="leaf"/\dW i/\("idle":Str)="idle"/\lF nm then _ else _)=_;rw[eE ⟨rfl,a,rfl,b⟩,c,zd,hs,zd]
 .show (if ("leaf":Str)="leaf"/\dW i/\lF nm then _ else _)=_;rw[eE ⟨rfl,a,b⟩,eE rfl,zd,c,zd,hs,zd,n,zd]
 .show (if ("leaf":Str)="leaf"/\dW i/\lF nm then _ else _)=_;rw[eE ⟨rfl,a,b⟩,er ∅,eE rfl,zd,c,zd,hs,zd,n,zd]
 all_goals
  have e:m=0:=j ∅;subst e;have o:l≠0:=by have:=p ∅;lia
  show rowOf ["minder",i,_,cG g,cG l,nm]=_;rw[P1 _ _ _ _ _ a b];dsimp only[Qv]
 .rw[eE rfl,zd,c,zd,hs,zd,er o]
 .rw[er ∅,eE rfl,zd,c,zd,hs,zd,er o]
 .rw[er ∅,er ∅,eE rfl,zd,c,zd,hs,zd,er o]
def okW(w:List Nat):Prop:=w≠[]/\∀c∈w,33<=c/\c<=126
def MC{i:Int}(h:0<=i):okW (fx (cG i)):=by
 rw[show fx (cG i)=dg i.toNat from yd h];exact⟨Oy _,λc a=>by have:=Wi a;lia⟩
def ab5{x:Str}(h:lF x):okW (fx x):=by
 refine⟨λe=>?_,λc a=>?_⟩
 .have:=bC x;rw[e] at this;have:=h.1;simp at *
  lia
 .have:=afr.mp h.2.2 c a;unfold Li at this;rw[afQ,qj,qj] at this
  lia
def RH(l:List Nat)(h:(!l.isEmpty&&l.all λc=>decide (33<=c/\c<=126))=true):okW l:=by
 rw[oT] at h;refine⟨λe=>?_,λc a=>hI (afr.mp h.2 c a)⟩;rw[e] at h;exact absurd h.1 ∅
def Vj{x:Str}(h:dW x):okW (fx x):=by
 rcases h with rfl|rfl|rfl<;>exact RH _ (by decide +kernel)
def KD{s:Sh}(h:zw s):∀w∈(words s++[s.name]).map fx,okW w:=by
 intro w f;obtain⟨x,a,rfl⟩:=C0.mp f;rcases wH.mp a with a|a
 .have hl:∀x:Str,x="leaf"\/x="minder"\/x="idle"\/x="steady"\/x="falls"\/x="one"\/x="all"\/x="rest"->okW (fx x):=by
   rintro x (rfl|rfl|rfl|rfl|rfl|rfl|rfl|rfl)<;>exact RH _ (by decide +kernel)
  have b:=MC h.g0;have hs:=MC h.s0;have e:=MC h.m0;have c:=Vj h.kp;unfold words at a
  split at a<;>simp only[ti,ahC,or_false] at a
  .rcases a with rfl|rfl|rfl|rfl|rfl
   .exact hl _ (by simp)
   .exact c
   .exact b
   .exact hs
   .exact hl _ (by simp)
  .rcases a with rfl|rfl|rfl|rfl|rfl|rfl
   .exact hl _ (by simp)
   .exact c
   .exact b
   .exact hs
   .exact hl _ (by simp)
   .exact e
  .rcases a with rfl|rfl|rfl|rfl|rfl|rfl
   .exact hl _ (by simp)
   .exact c
   .exact b
   .exact hs
   .exact hl _ (by simp)
   .exact e
  all_goals
   rcases a with rfl|rfl|rfl|rfl|rfl
   .exact hl _ (by simp)
   .exact c
   .exact hl _ (by simp)
   .exact b
   .exact hs
 .obtain rfl:x=s.name:=by simpa using a
  exact ab5 h.nm
def WD(s:Sh):∃a r,words s++[s.name]=a::r/\(a="leaf"\/a="minder"):=by
 unfold words
 split
 .exact ⟨_,_,rfl,.inl rfl⟩
 .exact ⟨_,_,rfl,.inl rfl⟩
 .exact ⟨_,_,rfl,.inl rfl⟩
 .exact ⟨_,_,rfl,.inr rfl⟩
 .exact ⟨_,_,rfl,.inr rfl⟩
 .exact ⟨_,_,rfl,.inr rfl⟩
def Iw(e:List Nat){a:List Nat}{c:Nat}{t:List Nat}(r:List (List Nat))(h:a=c::t):∃u,j9 e (a::r)=c::u:=by
 subst h;cases r with
 |nil=>exact⟨t,rfl⟩
 |cons b r=>exact⟨t++e++j9 e (b::r),rfl⟩
def Au(d n m:Nat)(s:Sh):List Nat:=List.replicate (2*d) 32++(j9 (List.replicate (n+1) 32) ((words s++[s.name]).map fx)++List.replicate m 32)
def OO(d n m:Nat)(s:Sh):∃c u,(c=108\/c=109)/\Au d n m s=List.replicate (2*d) 32++c::u:=by
 obtain⟨a,r,e,b⟩:=WD s;unfold Au;rw[e,M0];rcases b with rfl|rfl
 .obtain ⟨u,hu⟩:=Iw (List.replicate (n+1) 32) (r.map fx) (show fx "leaf"=108::[101,97,102] by decide +kernel);exact⟨108,_,.inl rfl,by rw[hu,afZ]⟩
 .obtain ⟨u,hu⟩:=Iw (List.replicate (n+1) 32) (r.map fx) (show fx "minder"=109::[105,110,100,101,114] by decide +kernel);exact⟨109,_,.inr rfl,by rw[hu,afZ]⟩
def aa5(k:Nat){c:Nat}(u:List Nat)(h:c≠32):(List.replicate k 32++c::u).takeWhile (·==32)=List.replicate k 32:=by
 rw[List.takeWhile_append_of_pos (λa b=>by rw[(af0.mp b).2];rfl),List.takeWhile_cons_of_neg (by simpa using h),su]
def ack(k:Nat){c:Nat}(u:List Nat)(h:c≠32):(List.replicate k 32++c::u).dropWhile (·==32)=c::u:=by
 rw[List.dropWhile_append_of_pos (λa b=>by rw[(af0.mp b).2];rfl),List.dropWhile_cons_of_neg (by simpa using h)]
def Qr(d n m:Nat)(s:Sh):gK (Au d n m s)=false:=by
 obtain⟨c,u,a,e⟩:=OO d n m s;unfold gK;rw[e,ack _ _ ()];show(c==35)=false;rw[af4]
 lia
def Xi(d n m:Nat){s:Sh}(h:zw s):rg (Au d n m s)=some ⟨d,s⟩:=by
 obtain⟨c,u,i,e⟩:=OO d n m s
 have b:lead (Au d n m s)=2*d:=by
  unfold lead;rw[e,aa5 _ _ (),afA]
 have a:cK (Au d n m s)=(words s++[s.name]).map fx:=by
  unfold Au;rw[uK,DN];intro w a;obtain⟨g,f⟩:=KD h w a;exact⟨g,λz=>by have:=f 32 z;lia⟩
 unfold rg;rw[b,a,eE (),agF,show ofC∘fx=id from funext Q9,List.map_id,T9 h];show some (⟨2*d/2,s⟩:Row)=_;rw[show 2*d/2=d by lia]
def abc(d n m:Nat){s:Sh}(h:zw s):10∉Au d n m s:=by
 unfold Au;intro z;rcases wH.mp z with z|z
 .have:=(af0.mp z).2;lia
 rcases wH.mp z with z|z
 .have hj:∀c:List (List Nat),(∀w∈c,okW w)->10∉j9 (List.replicate (n+1) 32) c:=by
   intro c
   induction c with
   |nil=>intro _ z;cases z
   |cons a r i=>
    intro f z;have e:=(f a ov).2;cases r with
    |nil=>have:=e 10 z;lia
    |cons b r=>
     have z:10∈a++List.replicate (n+1) 32++j9 (List.replicate (n+1) 32) (b::r):=z;rcases wH.mp z with z|z
     .rcases wH.mp z with z|z
      .have:=e 10 z;lia
      .have:=(af0.mp z).2;lia
     .exact i (λw g=>f w (ri _ g)) z
  exact hj _ (KD h) z
 .have:=(af0.mp z).2;lia
inductive D0:List (List Nat)->List Row->Prop
 |nil:D0 [] []
 |skip {l:List Nat} {ls:List (List Nat)} {rows:List Row}:gK l=true->D0 ls rows->D0 (l::ls) rows
 |row {l:List Nat} {ls:List (List Nat)} {r:Row} {rows:List Row}:gK l=false->rg l=some r->D0 ls rows->D0 (l::ls) (r::rows)
def h9{c:Type}(a:List c)(r:c)(b:List c)(d:c):(a++r::b).getD a.length d=r:=by
 rw[ry,ae2 (fC _),afL]
 rfl
def gx.next{a:List Row}{r:Row}{b:List Row}(h:gx (a++r::b)):fits (b6 a a.length) a.length r/\r.sh.name∉a.map (·.sh.name)/\a.length<64:=by
 refine⟨?_,?_,?_⟩
 .have:=h.fit a.length (by rw[js,xl];lia);rwa [cX a _ _ (fC _),h9] at this
 .have:=h.nd;rw[ni,M0,List.nodup_append] at this;exact λz=>this.2.2 _ z _ ov rfl
 .have:=h.len;rw[js,xl] at this
  lia
def P7{ls:List (List Nat)}{rows:List Row}(L:D0 ls rows):∀(a:List Row) (n:Nat) (more:List (List Nat)),(∀(q:List Row) (r:Row) (t:List Row),a++rows=q++r::t->a.length<=q.length->fits (b6 q q.length) q.length r/\r.sh.name∉q.map (·.sh.name)/\q.length<64)→
  scan a n (ls++more)=scan (a++rows) (n+ls.length) more:=by
 induction L with
 |nil=>intro a n more _;rw[su];rfl
 |skip p _ b=>
  intro a n more h;rw[afZ,Dd];rw[eE p,b a (n+1) more h,xl,Nat.add_right_comm]
  rfl
 |row p q _ b=>
  rename_i l ls r rows _
  intro a n more h;obtain⟨c,f,g⟩:=h a r rows rfl (fC _);rw[afZ,Dd];rw[er (by rw[p];decide),q];dsimp only;rw[eE ⟨c,f⟩,er (),b (a++[r]) (n+1) more ?_,xl,T1,ag6,Nat.add_right_comm]
  .rfl
  .intro q' r' t e hl;rw[T1,ag6] at e;exact h q' r' t e (by rw[js] at hl;lia)
def gx.all{rows:List Row}(h:gx rows):∀(q:List Row) (r:Row) (t:List Row),[]++rows=q++r::t->([]:List Row).length<=q.length->fits (b6 q q.length) q.length r/\r.sh.name∉q.map (·.sh.name)/\q.length<64:=by
 intro q r t e _;rw[NC] at e;subst e;exact h.next
def YB{ls:List (List Nat)}{rows:List Row}(L:D0 ls rows)(h:gx rows):scan [] 0 ls=.ok rows:=by
 have:=P7 L [] 0 [] h.all;rw[su,NC] at this;rw[this];unfold scan;rw[er h.ne]
open L2
def KX(H:Hp)(p:Addr)(a:List (List Str)):Prop:=∃b:List Addr,H p=some (.lst (b.map V.ref))/\b.length=a.length/\∀(i:Nat) (x:Addr) (c:List Str),b[i]? =some x->a[i]? =some c->H x=some (.lst (c.map V.str))
def KX.mono{H H':Hp}{p:Addr}{a:List (List Str)}(e:aO H H')(h:KX H p a):KX H' p a:=by
 obtain⟨j,l,f,c⟩:=h;exact⟨j,e _ _ l,f,λi x m g b=>e _ _ (c i x m g b)⟩
structure KG(H:Hp)(dp ep wp np:Addr)(rows:List Row):Prop where
 d:H dp=some (.lst (rows.map λr=>V.int (r.dep:Int)))
 e:H ep=some (.lst ((List.range rows.length).map λk=>V.int (cA rows k)))
 w:KX H wp (rows.map λr=>words r.sh)
 n:H np=some (.lst (rows.map λr=>V.str r.sh.name))
theorem KG.mono{H H':Hp}{dp b c a:Addr}{rows:List Row}(e:aO H H')(h:KG H dp b c a rows):KG H' dp b c a rows:=⟨e _ _ h.d,e _ _ h.e,h.w.mono e,e _ _ h.n⟩
def oE(i:Int):Str:=if i=0 then "always" else if i=1 then "fallen" else if i=2 then "always" else "never"
def WE(i:Int):Str:=if i=0 then "one" else if i=1 then "all" else "rest"
def Bm(i:Int):Int:=if i=0 then 9 else if i=1 then 2 else if i=2 then 30 else if i=3 then 1 else if i=4 then 3 else if i=5 then 0 else if i=6 then 9 else 2
def JQ(i:Int):Str:=if i=0 then "falls" else if i=1 then "idle" else if i=2 then "steady" else "falls"
def bD(cell other:Int)(nm:Str):Sh:=⟨3+(cell/20%3).toNat,oE (cell/5%4),0,if other%29=7 then other%1000001 else Bm (other%8),if other%29=7 then 1+other/3%1000000 else 1+other/8%5,nm⟩
def D7(i:Int):Nat:=if i=1 then 0 else if i=2 then 1 else 2
def leafOf(cell other:Int)(nm:Str):Sh:=⟨D7 (cell/20%4),oE (cell/5%4),if cell/20%4=1 then 0 else if other%29=7 then other/7%1000001 else other/16%5,if other%29=7 then other%1000001 else other%4,if other%29=7 then other/3%1000001 else other/4%4,nm⟩
theorem cP(x:Int){n:Int}(h:0<n):0<=x%n/\x%n<n:=⟨ahI _ (),agS _ h⟩
def Nb(i:Int):oE i="always"\/oE i="fallen"\/oE i="never":=by
 unfold oE
 repeat' split
 all_goals simp
def DE{cell other:Int}{nm:Str}(h:lF nm):zw (bD cell other nm):=by
 have e:=cP (cell/20) (n:=3) ∅;have a:0<=Bm (other%8)/\Bm (other%8)<=1000000:=by unfold Bm;(repeat' split)<;>decide
 have f:=cP other (n:=1000001) ∅;have c:=cP (other/3) (n:=1000000) ∅;have b:=cP (other/8) (n:=5) ∅;refine⟨?_,Nb _,by show(0:Int)<=0;decide,by show(0:Int)<=1000000;decide,λ_=>rfl,?_,?_,?_,?_,λ_=>?_,h⟩
 .show 3+(cell/20%3).toNat<=5;lia
 .show 0<=ite _ _ _;split<;>lia
 .show ite _ _ _<=(1000000:Int);split<;>lia
 .show 0<=ite _ _ _;split<;>lia
 .show ite _ _ _<=(1000000:Int);split<;>lia
 .show 1<=ite _ _ _;split<;>lia
def RU{cell other:Int}{nm:Str}(h:lF nm):zw (leafOf cell other nm):=by
 have i:=cP other (n:=1000001) ∅;have f:=cP (other/3) (n:=1000001) ∅;have c:=cP (other/7) (n:=1000001) ∅;have b:=cP other (n:=4) ∅;have a:=cP (other/4) (n:=4) ∅;have g:=cP (other/16) (n:=5) ∅;refine⟨?_,Nb _,?_,?_,?_,?_,?_,?_,?_,?_,h⟩
 .show D7 _<=5;unfold D7;(repeat' split)<;>lia
 .show 0<=ite _ _ _;(repeat' split)<;>lia
 .show ite _ _ _<=(1000000:Int);(repeat' split)<;>lia
 .intro z;show ite _ _ _=(0:Int);rw[eE];have z:¬(D7 (cell/20%4)=1\/D7 (cell/20%4)=2):=z;unfold D7 at z;by_cases e:cell/20%4=1
  .exact e
  .rw[er e] at z;by_cases e2:cell/20%4=2
   .rw[eE e2] at z;simp at z
   .rw[er e2] at z;simp at z
 .show 0<=ite _ _ _;split<;>lia
 .show ite _ _ _<=(1000000:Int);split<;>lia
 .show 0<=ite _ _ _;split<;>lia
 .show ite _ _ _<=(1000000:Int);split<;>lia
 .intro z;have z:3<=D7 (cell/20%4):=z;unfold D7 at z
  (repeat' split at z)<;>lia
def SG:List Nat:=fx "abcdefghijklmnopqrstuvwxyz0123456789"
def sgn(i:Nat):Nat:=SG.getD i 0
def Q1{i:Nat}(h:i<36):Li (sgn i)=true:=by
 revert h;revert i;decide +kernel
def Lz{i j:Nat}(h:i<36)(g:j<36)(e:sgn i=sgn j):i=j:=by
 have:∀i<36,∀j<36,sgn i=sgn j->i=j:=by decide +kernel
 exact this i h j g e
def Qe{i:Nat}(h:i<36):("abcdefghijklmnopqrstuvwxyz0123456789":Str).cps[i]? =some (sgn i):=by
 revert h;revert i;decide +kernel
def uZ(k:Nat)(mark:Int):List Nat:=if mark%11=5/\k<36 then [sgn k] else List.replicate (mark%7).toNat 113++[sgn (k%36),sgn ((((k/36:Nat):Int)+mark)%36).toNat]++List.replicate (mark/7%5).toNat 113
def SV(k:Nat)(mark:Int):1<=(uZ k mark).length/\(uZ k mark).length<=12:=by
 have b:=cP mark (n:=7) ∅;have a:=cP (mark/7) (n:=5) ∅;unfold uZ
 split
 .exact ⟨fC _,by show 1<=12;decide⟩
 .rw[js,js,afA,afA];show 1<=_+2+_/\_+2+_<=12
  lia
def Xd{k:Nat}{mark:Int}(h:k<64):(uZ k mark).all Li=true:=by
 have b:=cP (((k/36:Nat):Int)+mark) (n:=36) ∅;rw[afr];intro c a;unfold uZ at a
 split at a
 .rename_i g
  obtain rfl:c=sgn k:=by simpa using a
  exact Q1 g.2
 .simp only[wH,af0,ti,ahC,or_false] at a;rcases a with(⟨_,rfl⟩|rfl|rfl)|⟨_,rfl⟩
  .decide
  .exact Q1 ()
  .exact Q1 ()
  .decide
def nameOf(k:Nat)(mark:Int):Str:=ofC (uZ k mark)
def Fq{k:Nat}{mark:Int}(h:k<64):lF (nameOf k mark):=by
 have a:=SV k mark;have e:(nameOf k mark).length=(uZ k mark).length:=by rw[<- bC];rfl
 exact⟨(),(),Xd h⟩
def Ul{k j:Nat}{mark:Int}(h:k<64)(g:j<64)(e:uZ k mark=uZ j mark):k=j:=by
 have l:=cP (((k/36:Nat):Int)+mark) (n:=36) ∅;have f:=cP (((j/36:Nat):Int)+mark) (n:=36) ∅;unfold uZ at e;by_cases b:mark%11=5/\k<36
 .rw[eE b] at e;by_cases a:mark%11=5/\j<36
  .rw[eE a] at e;exact Lz b.2 a.2 (ag1 e).1
  .rw[er a] at e;have:=ix List.length e;rw[js,js] at this;have:1=_+2+_:=this
   lia
 .rw[er b] at e;by_cases a:mark%11=5/\j<36
  .rw[eE a] at e;have:=ix List.length e;rw[js,js] at this;have:_+2+_=1:=this
   lia
  .rw[er a,T1,T1] at e;have e:=List.append_cancel_left e;have e1:=(ag1 e).1;have e2:=(ag1 (ag1 e).2).1;have i:=Lz () () e1;have c:=Lz () () e2;omega
theorem Pk{k j:Nat}{mark:Int}(h:k<64)(g:j<64)(e:nameOf k mark=nameOf j mark):k=j:=Ul h g (ix fx e)
def yc(z:Str)(n:Nat):fx ⟨(List.replicate n z.cps).foldl (·++·) #[]⟩=(List.replicate n (fx z)).flatten:=by
 have:∀(m:Nat) (a:Array Nat),((List.replicate m z.cps).foldl (·++·) a).toList=a.toList++(List.replicate m (fx z)).flatten:=λm=>by
  induction m with
  |zero=>intro a;simp
  |succ m b=>intro a;rw[afq,ahd,b,afq,ahy,Array.toList_append,T1]
 have:=this n #[];rwa [show (#[]:Array Nat).toList=[] from rfl,NC] at this
def M8(n c:Nat):(List.replicate n [c]).flatten=List.replicate n c:=by
 induction n with
 |zero=>rfl
 |succ n a=>rw[afq,ahy,a,afq];rfl
def Oi(n c:Nat):(List.replicate n [c,c]).flatten=List.replicate (2*n) c:=by
 induction n with
 |zero=>rfl
 |succ n a=>rw[afq,ahy,a,show 2*(n+1)=(2*n+1)+1 by lia,afq,afq];rfl
structure eG(rows:List Row)(lp:List Nat):Prop where
 l1:1<=lp.length
 l8:lp.length<=8
 eq:∃ex:Path,b6 rows rows.length=lp.map (λj=>(j,true))++ex
def eG.first{r:Row}(h:r.isM=true):eG [r] [0]:=by
 refine⟨fC _,∅,[],?_⟩;show Hn [] 0 r=_;unfold Hn;rw[h,List.take_nil]
 rfl
def eG.fits{rows:List Row}{a:List Nat}{r:Row}(P:eG rows a)(b:rows.length≠0)(c:1<=r.dep)(f:r.dep<=a.length):fits (b6 rows rows.length) rows.length r:=by
 obtain⟨ex,e⟩:=P.eq;have:=P.l8;unfold Tr.fits;rw[er b];refine⟨c,(),a[r.dep-1]'(),?_⟩;rw[e,ae1 (by rw[gm];lia),jl,gy ()]
 rfl
def eG.cA{rows:List Row}{a:List Nat}{r:Row}(P:eG rows a)(b:rows.length≠0)(f:1<=r.dep)(c:r.dep<=a.length):cA (rows++[r]) rows.length=((a[r.dep-1]'():Nat):Int):=by
 obtain⟨ex,e⟩:=P.eq;unfold Tr.cA;rw[cX rows _ _ (fC _),h9,e,ae1 (by rw[gm];lia),jl,gy ()];show(if rows.length=0 then _ else _)=_;rw[er b]
def eG.next{rows:List Row}{a:List Nat}{r:Row}(P:eG rows a)(c:1<=r.dep)(b:r.dep<=a.length):eG (rows++[r]) (a.take r.dep):=by
 obtain⟨ex,e⟩:=P.eq;have:=P.l8;refine⟨by rw[XP];lia,by rw[XP];lia,[(rows.length,r.isM)],?_⟩;rw[js];show Hn (b6 (rows++[r]) rows.length) rows.length ((rows++[r]).getD rows.length default)=_;rw[cX rows _ _ (fC _),h9,e];unfold Hn;rw[List.take_append_of_le_length (by rwa[gm]),ahu]
def eG.more{rows:List Row}{a:List Nat}{r:Row}(P:eG rows a)(g:1<=r.dep)(c:r.dep<=a.length)(f:r.dep<8)(b:r.isM=true):eG (rows++[r]) (a.take r.dep++[rows.length]):=by
 obtain⟨ex,e⟩:=P.eq;refine⟨by rw[js];show 1<=_+1;lia,by rw[js,XP];show _+1<=8;lia,[],?_⟩;rw[js];show Hn (b6 (rows++[r]) rows.length) rows.length ((rows++[r]).getD rows.length default)=_;rw[cX rows _ _ (fC _),h9,e];unfold Hn;rw[List.take_append_of_le_length (by rw[gm];exact c),ni,ahu,b,su]
 rfl
structure lJ(rows:List Row)(mark:Int):Prop where
 ne:1<=rows.length
 len:rows.length<=64
 fit:∀k,k<rows.length->fits (b6 rows k) k (rows.getD k default)
 sh:∀r∈rows,zw r.sh
 nm:∀k,k<rows.length->(rows.getD k default).sh.name=nameOf k mark
def lJ.next{rows:List Row}{mark:Int}{r:Row}(h:lJ rows mark)(g:rows.length<64)(b:fits (b6 rows rows.length) rows.length r)(f:zw r.sh)(c:r.sh.name=nameOf rows.length mark):lJ (rows++[r]) mark:=by
 have a:(rows++[r]).length=rows.length+1:=js;refine⟨(),(),?_,?_,?_⟩
 .intro k hk;by_cases e:k=rows.length
  .subst e;rwa[cX rows _ _ (fC _),h9]
  .rw[cX rows _ _ (),oC _ _ _ ()];exact h.fit k ()
 .intro x hx;rcases wH.mp hx with z|z
  .exact h.sh x z
  .obtain rfl:x=r:=by simpa using z
   exact f
 .intro k hk;by_cases e:k=rows.length
  .subst e;rwa[h9]
  .rw[oC _ _ _ ()];exact h.nm k ()
def lJ.ok{rows:List Row}{mark:Int}(h:lJ rows mark):gx rows:=by
 refine⟨λe=>by have:=h.ne;rw[e] at this;exact absurd this ∅,h.len,h.fit,h.sh,?_⟩;rw[List.Nodup,List.pairwise_iff_getElem];intro i j b a c e;rw[gm] at b a;rw[ag3,ag3] at e;have e1:=h.nm i b;have e2:=h.nm j a;rw[ry,gy b] at e1;rw[ry,gy a] at e2;have e1:rows[i].sh.name=nameOf i mark:=e1;have e2:rows[j].sh.name=nameOf j mark:=e2;rw[e1,e2] at e;have:=h.len;have:=Pk () () e
 lia
def lJ.names{rows:List Row}{mark:Int}(h:lJ rows mark):rows.map (λr=>V.str r.sh.name)=(List.range rows.length).map λk=>V.str (nameOf k mark):=by
 refine List.ext_getElem (by rw[gm,gm,tG]) λi a b=>?_;rw[gm] at a;rw[ag3,ag3,List.getElem_range];have:=h.nm i a;rw[ry,gy a] at this;exact ix V.str this
def eG.take{rows:List Row}{a:List Nat}(P:eG rows a){m:Nat}(c:1<=m)(b:m<=a.length):eG rows (a.take m):=by
 obtain⟨ex,e⟩:=P.eq;have:=P.l8;refine⟨by rw[XP];lia,by rw[XP];lia,(a.drop m).map (λj=>(j,true))++ex,?_⟩;rwa[<- T1,<-ni,ag7]
def Vt{a:Type}{xs:List a}(h:1<=xs.length):sq xs (-1)=xs[xs.length-1]? :=by
 unfold sq ixN;rw[er ∅,eE ()];show xs[(-1+(xs.length:Int)).toNat]? =_
 congr 1
 lia
theorem xb{H a:Hp}{d:Addr}{o:HO}(h:aO H a)(hd:H d=none):aO H (upd a d o):=λb u e=>by rw[ai (aq e hd)];exact h b u e
def KX.ne{H:Hp}{p d:Addr}{b:List (List Str)}{i:Int}{xs:List V}(h:KX H p b)(g:H d=some (.lst (V.int i::xs)))(c:b≠[]):p≠d:=by
 obtain⟨f,e1,e2,e3⟩:=h;intro e;subst e;rw[g] at e1;cases f with
 |nil=>cases b with
  |nil=>exact c rfl
  |cons _ _=>cases e2
 |cons a r=>cases e1
def KX.upd{H:Hp}{p d:Addr}{b:List (List Str)}{i:Int}{xs:List V}{o:HO}(h:KX H p b)(j:H d=some (.lst (V.int i::xs)))(n:b≠[])(l:∀c∈b,c≠[]):KX (upd H d o) p b:=by
 have m:=h.ne j n;obtain⟨s,e1,e2,e3⟩:=h;refine⟨s,(ai m).trans e1,e2,λk x c q g=>?_⟩;have f:=e3 k x c q g;rw[ai]
 .exact f
 .intro e;subst e;rw[j] at f;cases c with
  |nil=>exact l [] (afJ g) rfl
  |cons a r=>cases f
def KX.push{H:Hp}{p q:Addr}{c:List (List Str)}{g:List Str}(h:KX H p c)(o:H q=some (.lst (g.map V.str)))(w:c≠[])(u:∀g∈c,g≠[])(m:g≠[]):
  ∃f:List Addr,H p=some (.lst (f.map V.ref))/\f.length=c.length/\KX (L2.upd H p (.lst (f.map V.ref++[.ref q]))) p (c++[g]):=by
 obtain⟨f,e1,e2,e3⟩:=h
 have n:∀(x:Addr) (us:List Str),us≠[]->H x=some (.lst (us.map V.str))->x≠p:=λx us s i e=>by
  subst e;rw[e1] at i;cases f with
  |nil=>cases c with
   |nil=>exact w rfl
   |cons _ _=>cases e2
  |cons a r=>cases us with
   |nil=>exact s rfl
   |cons b t=>cases i
 refine⟨f,e1,e2,f++[q],by rw[ae,ni];rfl,by rw[js,js,e2];rfl,λk x us l j=>?_⟩;by_cases v:k<f.length
 .rw[ae1 v] at l;rw[ae1 ()] at j;have i:=e3 k x us l j;rwa[ai (n x us (u us (afJ j)) i)]
 .have ek:k=f.length:=by
   have:=(uy.mp l).1;rw[js] at this;have:k<f.length+1:=this
   lia
  subst ek;rw[ae2 (fC _),afL] at l;rw[ae2 (),e2,afL] at j;obtain rfl:q=x:=iH l;obtain rfl:g=us:=iH j;rwa[ai (n q g m o)]
def CP(s:Sh):words s≠[]:=by
 unfold words
 split<;>exact afY _ _
theorem Lu(rows:List Row):∀a∈rows.map (λr=>words r.sh),a≠[]:=λa h=>by
 obtain⟨r,_,rfl⟩:=C0.mp h;exact CP _
def vQ{rows:List Row}{r:Row}{j:Int}(h:cA (rows++[r]) rows.length=j):(List.range (rows++[r]).length).map (λk=>V.int (cA (rows++[r]) k))=(List.range rows.length).map (λk=>V.int (cA rows k))++[V.int j]:=by
 rw[js];show(List.range (rows.length+1)).map _=_;rw[afR,ni,M0,agC,h]
 congr 1
 refine agL λk a=>?_;rw[J6 rows [r] (xc.mp a)]
def Ka{rows:List Row}(h:1<=rows.length)(g:Row->Int):∃i xs,rows.map (λr=>V.int (g r))=V.int i::xs:=by
 cases rows with
 |nil=>cases h
 |cons r t=>exact⟨_,_,rfl⟩
def GU{n:Nat}(h:1<=n)(g:Nat->Int):∃i xs,(List.range n).map (λk=>V.int (g k))=V.int i::xs:=by
 cases n with
 |zero=>cases h
 |succ n=>rw[agv];exact⟨_,_,rfl⟩
def ab8{rows:List Row}(h:1<=rows.length):rows.map (λr=>words r.sh)≠[]:=by
 cases rows with
 |nil=>cases h
 |cons r t=>exact afY _ _
def Z0(xs:List V)(b:Nat):HM xs none (some (b:Int))=xs.take b:=by
 unfold HM;have e1:HT.tL xs.length 0 none=0:=rfl
 have e2:HT.tL xs.length xs.length (some (b:Int))=min b xs.length:=by
  unfold HT.tL;dsimp only
  split
  .lia
  .rw[afO]
 rw[e1,e2,List.drop_zero,Nat.sub_zero];by_cases h:b<=xs.length
 .rw[Nat.min_eq_left h]
 .rw[Nat.min_eq_right (),agw (fC _),agw ()]
def lZ(rows:List Row):List (List Nat):=rows.map λr=>Au r.dep 0 0 r.sh
theorem Eb:∀{rows:List Row},(∀r∈rows,zw r.sh)->D0 (lZ rows) rows
 |[],_=>.nil
 |r::t,h=>.row (Qr _ _ _ _) (Xi _ _ _ (h r ov)) (Eb λx a=>h x (ri _ a))
def We{rows:List Row}(h:∀r∈rows,zw r.sh):∀l∈lZ rows,10∉l:=by
 intro l a;obtain⟨r,b,rfl⟩:=C0.mp a;exact abc _ _ _ (h r b)
theorem plain_len(rows:List Row):(lZ rows).length=rows.length:=gm _
def written(rows:List Row):List Nat:=j9 [10] (lZ rows)
def Jf{rows:List Row}(h:gx rows):parse (written rows)=.ok rows:=by
 unfold parse written;rw[Ng 10 (lZ rows) (λe=>h.ne (List.map_eq_nil_iff.mp e)) (We h.sh)];exact YB (Eb h.sh) h
def KJ{i:Int}(a:0<=i)(b:i<=1000000):(fx (cG i)).length<=7:=by
 rw[show fx (cG i)=dg i.toNat from yd a];exact(Wx _).mpr ()
def Ea{s:Sh}(h:zw s):((words s++[s.name]).map (·.length)).sum<=60/\(words s++[s.name]).length<=7:=by
 have i:=KJ h.g0 h.g1;have hs:=KJ h.s0 h.s1;have j:=KJ h.m0 h.m1;rw[bC] at i hs j;have o:s.keep.length<=6:=by rcases h.kp with e|e|e<;>rw[e]<;>decide
 have n:=h.nm.2.1;have l:("leaf":Str).length=4:=by decide
 have f:("idle":Str).length=4:=by decide
 have b:("steady":Str).length=6:=by decide
 have m:("falls":Str).length=5:=by decide
 have g:("minder":Str).length=6:=by decide
 have c:("one":Str).length=3:=by decide
 have a:("all":Str).length=3:=by decide
 have l8:("rest":Str).length=4:=by decide
 unfold words
 split<;>simp only[ni,M0,agC,ahe,ahv,List.sum_nil,js,xl,agM,l,f,b,m,g,c,a,l8]<;>lia
theorem Df(c:List Nat):∀ls:List (List Nat),(j9 c ls).length<=(ls.map (·.length)).sum+ls.length*c.length
 |[]=>vr _
 |[a]=>by simp[j9]
 |a::b::r=>by
  have e:=Df c (b::r);show(a++c++j9 c (b::r)).length<=_;rw[js,js,M0,ahv,xl,agx]
  lia
def MH{s:Sh}(h:zw s)(d:Nat):(Au d 0 0 s).length<=2*d+67:=by
 have b:=Ea h;have a:=Df (List.replicate 1 32) ((words s++[s.name]).map fx);rw[agF,gm,afA,show(λx:List Nat=>x.length)∘fx=λx:Str=>x.length from funext bC] at a;unfold Au;rw[js,js,afA,agq];show 2*d+((j9 (List.replicate 1 32) ((words s++[s.name]).map fx)).length+0)<=_
 lia
def Xl(d:Nat)(s:Sh):fx ((⟨(List.replicate d ("  ":Str).cps).foldl (·++·) #[]⟩:Str)++Txt.join " " (words s++[s.name]))=Au d 0 0 s:=by
 rw[kj,yc,Gj];unfold Au;rw[agq,su]
 congr 1
 exact Oi d 32
theorem QW{n:Nat}:∀{l:List Nat},(∀x∈l,x<=n)->l.sum<=n*l.length
 |[],_=>vr _
 |a::r,h=>by
  have c:=h a ov;have e:=QW λx b=>h x (ri _ b);rw[ahv,xl,Nat.mul_succ]
  lia
end Tr
namespace Hs
open PySem L2 Shp
abbrev FS:=Addr->Prop
abbrev Ent:=Int×Str×Str
def QS(e:Ent):List V:=[.int e.1,.str e.2.1,.str e.2.2]
def Ig(K:PySem.W.Frag)(H:Hp)(q:Addr)(es:List Ent):Prop:=∃a:List Addr,H q=some (.lst (a.map V.ref))/\a.length=es.length/\∀(i:Nat) (x:Addr) (e:Ent),a[i]? =some x->es[i]? =some e->l5 K H x (QS e)
def l5.same{K:PySem.W.Frag}{H H':Hp}{a:Addr}{xs:List V}(e:aO H H')(h:l5 K H a xs):l5 K H' a xs:=by
 rcases h with(h|⟨o,h⟩)|h
 .exact .inl (.inl (e _ _ h))
 .exact .inl (.inr ⟨o,e _ _ h⟩)
 .exact .inr h
def Keeps(F:FS)(H H':Hp):Prop:=∀b o,¬F b->H b=some o->H' b=some o
abbrev HR(S:Type):=Hp->Addr->S->FS->Prop
structure pS{S:Type}(R:HR S)(Cl:Addr->Prop):Prop where
 own:∀{H:Hp} {x:Addr} {s:S} {F:FS} {b:Addr},R H x s F->F b->H b≠none
 mono:∀{H H':Hp} {x:Addr} {s:S} {F:FS},(∀b o,F b->H b=some o->H' b=some o)->R H x s F->R H' x s F
 inst:∀{H:Hp} {x:Addr} {s:S} {F:FS},R H x s F->∃C dx fs,H x=some (.ins C dx fs)/\Cl C/\fs.lookup ("rows":Str)=none/\fs.lookup ("doing":Str)=none/\fs.lookup ("on":Str)=none/\fs.lookup ("turn":Str)=none/\fs.lookup ("stop":Str)=none/\fs.lookup ("trip":Str)=none
section
variable{S:Type}{R:HR S}{Cl:Addr->Prop}{H H':Hp}{x:Addr}{s:S}{F:FS}
theorem pS.same(I:pS R Cl)(e:aO H H')(h:R H x s F):R H' x s F:=I.mono (λb o _ z=>e b o z) h
end
def Moved{S:Type}(R:HR S)(H:Hp)(F:FS)(x:Addr)(s:S)(H':Hp)(a:FS):Prop:=Keeps F H H'/\(∀b,a b->F b\/H b=none)/\R H' x s a
def WM{S:Type}(K:PySem.W.Frag)(R:HR S)(book:S->List Ent)(C:Addr):Sp:=λvs H Q _=>∃(x:Addr) (s:S) (F:FS) (a:Addr) (fs:List (Str×V)),vs=[.ref x]/\R H x s F/\H x=some (.ins C a fs)∧
 ∀(q:Addr) (H':Hp),aO H H'->H q=none->Ig K H' q (book s)->Q (.ref q) H'
end Hs
namespace Nm
open PySem PySem.NumText PySem.StrLaws PySem.Builtin.Str Tr
theorem DD(x:Str)(i j:Nat):fx (strSub x i j)=((fx x).drop i).take (j-i):=strSub_toList x i j
theorem Q8(p:Nat->Bool):∀l:List Nat,l.drop (l.takeWhile p).length=l.dropWhile p
 |[]=>rfl
 |a::r=>by
  by_cases h:p a=true
  .rw[List.takeWhile_cons_of_pos h,List.dropWhile_cons_of_pos h];exact Q8 p r
  .rw[List.takeWhile_cons_of_neg h,List.dropWhile_cons_of_neg h]
   rfl
def B8(x:Str)(c:Nat):fx (Txt.lstripChars x ⟨#[c]⟩)=(fx x).dropWhile (·==c):=by
 unfold Txt.lstripChars;rw[PyProof.Rows.stripBy_eq,DD]
 have e:(⟨#[c]⟩:Str).cps.contains=(·==c):=by
  funext d
  show(#[c]:Array Nat).contains d=_;rw[L1];simp
 rw[e];show List.take (x.length-(List.takeWhile (·==c) (fx x)).length) (List.drop (List.takeWhile (·==c) (fx x)).length (fx x))=_;rw[agw (by rw[agm,bC];exact fC _),Q8]
theorem QU(x y:Str):(Txt.lstripChars x y).length<=x.length:=PyProof.Rows.len_lstripChars x y
theorem Lp(x:Str)(c:Nat):∀(k a:Nat) (st:Array Nat×Nat),a+k=x.length+1->st.fst.size<=a->st.snd<=a→
  (forIn (List.range' a k) st (occBody x ⟨#[c]⟩ x.length (x.length+1))).run.fst.toList=st.fst.toList++(List.range' a k).filter λi=>decide ((fx x)[i]? =some c)
 |0,a,st,_,_,_=>by
  rw[List.range'_zero,af3,su]
  rfl
 |k+1,a,st,h,hs,hf=>by
  rw[agH,List.forIn_cons,afh];unfold occBody;by_cases e:(fx x)[a]? =some c
  .have z:=(subAt_one x c a).mpr e;rw[eE ⟨⟨⟨(),hf⟩,z.1⟩,z.2⟩,eE (f7 e)];have b:=Lp x c k (a+1) (st.fst.push a,a+1) () (by rw[Array.size_push];lia) (fC _);unfold occBody at b;refine Eq.trans b ?_;rw[Array.toList_push,T1]
   rfl
  .rw[er (λz=>e ((subAt_one x c a).mp ⟨z.1.2,z.2⟩)),er (λz=>e (hI z))];have b:=Lp x c k (a+1) (st.fst,st.snd) () (by show st.fst.size<=_;lia) (by show st.snd<=_;lia);unfold occBody at b;exact b
theorem CW(x:Str)(c:Nat):∀(k a b:Nat),a<=b->b+k=x.length→
  (partsFrom x 1 a ((List.range' b k).filter λi=>decide ((fx x)[i]? =some c))).map fx=match ot c ((fx x).drop b) with
   |[]=>[]
   |h::t=>(((fx x).drop a).take (b-a)++h)::t
 |0,a,b,h,hb=>by
  have n:(fx x).drop b=[]:=List.drop_of_length_le (by rw[bC];lia);rw[List.range'_zero,af3,n];show [fx (strSub x a x.length)]=_;rw[DD,show ot c ([]:List Nat)=[[]] from rfl,show b=x.length by lia];show _=[_++[]];rw[su]
 |k+1,a,b,h,hb=>by
  have f:b<(fx x).length:=by rw[bC];lia
  have hd:(fx x).drop b=(fx x)[b]::(fx x).drop (b+1):=agk f;have g:(fx x)[b]? =some (fx x)[b]:=gy f;rw[agH,afh,hd,vL];by_cases e:(fx x)[b]=c
  .rw[eE (f7 (by rw[g,e])),eE e];show fx (strSub x a b)::(partsFrom x 1 (b+1) _).map fx=_;rw[CW x c k (b+1) (b+1) (fC _) (),DD];show _=(_++[])::ot c _;rw[su]
   congr 1
   cases hz:ot c ((fx x).drop (b+1)) with
   |nil=>rfl
   |cons h t=>
    show(_++h)::t=h::t;rw[afL,List.take_zero,NC]
  .rw[er (λz=>e (by have:=hI z;rw[g] at this;exact iH this)),er e];rw[CW x c k a (b+1) () ()];cases hz:ot c ((fx x).drop (b+1)) with
   |nil=>exact absurd hz (Pc c _)
   |cons h t=>
    show(_++h)::t=(_++((fx x)[b]::h))::t
    congr 1
    have e1:b+1-a=(b-a)+1:=by lia
    rw[e1,aft,List.getElem?_drop,show a+(b-a)=b by lia,g,T1]
    rfl
theorem ZR(c:Nat):ot c []=[[]]:=rfl
def pP(x:Str){c:Nat}(j:c<256):(Txt.split x ⟨#[c]⟩).map fx=ot c (fx x):=by
 have l:¬Builtin.Str.strKind x<Builtin.Str.strKind ⟨#[c]⟩:=by
  have:Builtin.Str.strKind ⟨#[c]⟩=1:=by
   unfold Builtin.Str.strKind;rw[eE (by show(#[c]:Array Nat).all _=true;simp[j])]
  rw[this];unfold Builtin.Str.strKind
  split
  .lia
  .split<;>lia
 unfold Txt.split;by_cases g:x.length<1
 .rw[eE (by rw[afQ];exact .inl (f7 g))];have:fx x=[]:=afH.mp (by rw[bC];lia);show [fx x]=_;rw[this]
  rfl
 .rw[er (by rw[afQ];exact λz=>z.elim (λz=>g (hI z)) (λz=>l (hI z)))]
  have f:occurrences x ⟨#[c]⟩ 0 x.length (x.length+1)=(List.range' 0 x.length).filter λi=>decide ((fx x)[i]? =some c):=by
   rw[occ_eq,Lp x c _ 0 _ () (vr _) (vr _),Nat.sub_zero,List.range'_concat,YP];show []++(_++List.filter _ [0+1*x.length])=_
   rw[afh,er (by
    intro z;have z:=hI z;rw[agd (by rw[bC];lia)] at z;cases z),af3,su,NC]
  have b:=CW x c x.length 0 0 (fC _) ();rw[<- f,List.drop_zero] at b
  have a:(match ot c (fx x) with
   |[]=>[]
   |h::t=>((fx x).take (0-0)++h)::t)=ot c (fx x):=by
   cases hz:ot c (fx x) with
   |nil=>rfl
   |cons h t=>
    show(_++h)::t=h::t;rw[afL,List.take_zero,NC]
  by_cases e:(occurrences x ⟨#[c]⟩ 0 x.length (x.length+1)).isEmpty=true
  .rw[eE e];rw[List.isEmpty_iff.mp e] at b;refine Eq.trans ?_ (b.trans a);show [fx x]=[fx (strSub x 0 x.length)];rw[sub_whole]
  .rw[er e,partsBetween_eq];exact b.trans a
theorem Sq(c:Nat):∀l:List Nat,(ot c l).length<=l.length+1
 |[]=>fC _
 |a::r=>by
  have b:=Sq c r;rw[vL];by_cases e:a=c
  .rw[eE e];show(ot c r).length+1<=r.length+1+1
   lia
  .rw[er e];cases hz:ot c r with
   |nil=>show(_:Nat)<=_;exact mf (ahL (by rfl)) (by show 1<=_;lia)
   |cons h t=>
    rw[hz] at b;show t.length+1<=r.length+1+1;have b:t.length+1<=r.length+1:=b
    lia
def split_len(x:Str){c:Nat}(a:c<256):(Txt.split x ⟨#[c]⟩).length<=x.length+1:=by
 rw[<- gm (f:=fx),pP x a,<-bC];exact Sq c _
theorem ZG(x:Str)(c:Nat):(occurrences x ⟨#[c]⟩ 0 x.length (x.length+1)).length<=x.length+1:=occ_length_le _ _ _ _ _
theorem Kl(x:Str)(w:Nat):∀(b:List Nat) (a:Nat),(partsFrom x w a b).length=b.length+1
 |[],_=>rfl
 |_::r,a=>ix (·+1) (Kl x w r _)
def Eg(x:Str)(c:Nat):(partsBetween x (occurrences x ⟨#[c]⟩ 0 x.length (x.length+1)) 1).length<=x.length+2:=by
 rw[partsBetween_eq,Kl];have:=ZG x c
 lia
def Lf(x:Str)(c:Nat):Txt.startswith x ⟨#[c]⟩=decide ((fx x).head? =some c):=by
 unfold Txt.startswith
 rw[L1,oT,qj,qj];rw[List.head?_eq_getElem?];exact subAt_one x c 0
end Nm
namespace L2
open PySem PySem.Spec PyProof.Rows
def fk.same{K:PySem.W.Frag}{H H':Hp}{a:Addr}{xs:List V}(h:fk K H a xs)(e:aO H H'):fk K H' a xs:=by
 rcases h with(h|⟨o,h⟩)|h
 .exact .inl (.inl (e _ _ h))
 .exact .inl (.inr ⟨o,e _ _ h⟩)
 .exact .inr h
end L2
namespace Tr
open PySem Shp Nm PySem.NumText
def Ax(x:Str):Bool:=decide (fx x≠[])&&decide (x.length<=7)&&decide ((fx x).head? =some 48->fx x=[48])&&(fx x).all wc
theorem RG(c:Nat)(h:49<=c):∀(n:Nat) (l:List Nat),l.length=n->10^n<=digitsVal (c::l)
 |0,l,e=>by
  obtain rfl:l=[]:=afH.mp e;have:=GK [] c;rw[NC] at this;rw[this];show 1<=_
  lia
 |n+1,l,e=>by
  rcases List.eq_nil_or_concat l with rfl|⟨r,d,rfl⟩
  .cases e
  .rw[List.concat_eq_append] at e ⊢;rw[js] at e;have a:=RG c h n r (by have:r.length+1=n+1:=e;lia);rw[<- afZ,GK,Nat.pow_succ]
   lia
def i6{x:Str}{v:Int}(h:numOf x=some v):Ax x=true/\PySem.intText? x=some v/\x.length<=7/\0<=v/\v<=1000000:=by
 unfold numOf at h;by_cases z:fx x≠[]/\(fx x).all wc=true/\((fx x).head? =some 48->fx x=[48])/\digitsVal (fx x)<=1000000
 .rw[eE z] at h;obtain⟨g,f,l,n⟩:=z
  have j:x.length<=7:=by
   obtain⟨c,r,a⟩:∃c r,fx x=c::r:=by
    cases y:fx x with
    |nil=>exact absurd y g
    |cons c r=>exact⟨c,r,rfl⟩
   rw[<- bC,a];by_cases i:c=48
   .have:=l (by rw[a,i];rfl);rw[a] at this;rw[this]
    decide
   .have e:=afr.mp f c (by rw[a];exact ov);unfold wc at e;have e:=hI e;have b:=RG c () _ r rfl;rw[a] at n;by_cases o:r.length<=6
    .rw[xl];lia
    .have:10^7<=10^r.length:=ahf ∅ ()
     lia
  have m:=iH h;refine⟨?_,?_,j,(),()⟩
  .unfold Ax;rw[f7 g,f7 j,f7 l,f]
   rfl
  .rw[Sv g f (),m]
 .rw[er z] at h;cases h
theorem Wy(a b g s c nm:Str):rowOf [a,b,g,s,c,nm]=if a="leaf"/\dW b/\c="idle"/\lF nm then (numOf g).bind λg=>(numOf s).bind λs=>some ⟨0,b,0,g,s,nm⟩
   else if a="minder"/\dW b/\lF nm then (Qv g).bind λk=>(numOf s).bind λm=>(numOf c).bind λp=>if p=0 then none else some ⟨k,b,0,m,p,nm⟩ else none:=rfl
theorem WI(a c g s b m nm:Str):rowOf [a,c,g,s,b,m,nm]=if a="leaf"/\dW c/\lF nm then (if b="steady" then some 1 else if b="falls" then some 2 else none).bind λk=>(numOf g).bind λg=>(numOf s).bind λs=>(numOf m).bind λm=>some ⟨k,c,m,g,s,nm⟩ else none:=rfl
def C6{i:List Str}{s:Sh}(h:rowOf i=some s):(∃a b c d e f,i=[a,b,c,d,e,f])\/∃a b c d e f g,i=[a,b,c,d,e,f,g]:=by
 match i,h with
 |[a,b,c,d,e,f],_=>exact .inl ⟨a,b,c,d,e,f,rfl⟩
 |[a,b,c,d,e,f,g],_=>exact .inr ⟨a,b,c,d,e,f,g,rfl⟩
def G3{n:List Str}{s:Sh}(h:rowOf n=some s)(r:n.head? =some ("leaf":Str)):
  (∃(b g l nm:Str) (f i:Int),n=(["leaf",b,g,l,"idle",nm]:List Str)/\dW b/\lF nm/\numOf g=some f/\numOf l=some i/\s=⟨0,b,0,f,i,nm⟩)∨
  ∃(b g l e m nm:Str) (f i mi:Int) (k:Nat),n=(["leaf",b,g,l,e,m,nm]:List Str)/\dW b/\lF nm/\(e="steady"/\k=1\/e="falls"/\k=2)/\numOf g=some f/\numOf l=some i/\numOf m=some mi/\s=⟨k,b,mi,f,i,nm⟩:=by
 rcases C6 h with⟨a,b,g,l,e,nm,rfl⟩|⟨a,b,g,l,e,m,nm,rfl⟩
 .obtain rfl:a="leaf":=iH r
  left
  rw[Wy] at h;by_cases c:(("leaf":Str)="leaf"/\dW b/\e="idle"/\lF nm)
  .rw[eE c] at h;obtain⟨_,p,rfl,q⟩:=c;cases eg:numOf g with
   |none=>rw[eg] at h;cases h
   |some f=>
    rw[eg] at h;cases el:numOf l with
    |none=>rw[el] at h;cases h
    |some i=>
     rw[el] at h;exact⟨b,g,l,nm,f,i,rfl,p,q,eg,el,(iH h).symm⟩
  .rw[er c,er (λz=>absurd z.1 ∅)] at h;cases h
 .obtain rfl:a="leaf":=iH r
  right
  rw[WI] at h;by_cases c:(("leaf":Str)="leaf"/\dW b/\lF nm)
  .rw[eE c] at h;obtain⟨_,p,q⟩:=c
   have o:∃k,(if e="steady" then some 1 else if e="falls" then some 2 else none:Option Nat)=some k/\(e="steady"/\k=1\/e="falls"/\k=2):=by
    by_cases j:e="steady"
    .exact ⟨1,by rw[eE j],.inl ⟨j,rfl⟩⟩
    .by_cases w2:e="falls"
     .exact ⟨2,by rw[er j,eE w2],.inr ⟨w2,rfl⟩⟩
     .rw[er j,er w2] at h;cases h
   obtain⟨k,u,t⟩:=o;rw[u] at h;cases eg:numOf g with
   |none=>rw[eg] at h;cases h
   |some f=>
    rw[eg] at h;cases el:numOf l with
    |none=>rw[el] at h;cases h
    |some i=>
     rw[el] at h;cases em:numOf m with
     |none=>rw[em] at h;cases h
     |some mi=>
      rw[em] at h;exact⟨b,g,l,e,m,nm,f,i,mi,k,rfl,p,q,t,eg,el,em,(iH h).symm⟩
  .rw[er c] at h;cases h
def Bh{j:List Str}{s:Sh}(h:rowOf j=some s)(p:j.head? ≠some ("leaf":Str)):
  ∃(e b m sp nm:Str) (mi f:Int) (k:Nat),j=(["minder",e,b,m,sp,nm]:List Str)/\dW e/\lF nm/\(b="one"/\k=3\/b="all"/\k=4\/b="rest"/\k=5)/\numOf m=some mi/\numOf sp=some f/\f≠0/\s=⟨k,e,0,mi,f,nm⟩:=by
 rcases C6 h with⟨a,e,b,m,sp,nm,rfl⟩|⟨a,e,g,l,o,m,nm,rfl⟩
 .have na:a≠"leaf":=λz=>p (ix some z);rw[Wy,er (λz=>na z.1)] at h;by_cases c:(a="minder"/\dW e/\lF nm)
  .rw[eE c] at h;obtain⟨rfl,r,u⟩:=c
   have o:∃k,Qv b=some k/\(b="one"/\k=3\/b="all"/\k=4\/b="rest"/\k=5):=by
    unfold Qv;by_cases i:b="one"
    .exact ⟨3,by rw[eE i],.inl ⟨i,rfl⟩⟩
    .by_cases w2:b="all"
     .exact ⟨4,by rw[er i,eE w2],.inr (.inl ⟨w2,rfl⟩)⟩
     .by_cases w3:b="rest"
      .exact ⟨5,by rw[er i,er w2,eE w3],.inr (.inr ⟨w3,rfl⟩)⟩
      .unfold Qv at h;rw[er i,er w2,er w3] at h;cases h
   obtain⟨k,t,q⟩:=o;rw[t] at h;cases em:numOf m with
   |none=>rw[em] at h;cases h
   |some mi=>
    rw[em] at h;cases es:numOf sp with
    |none=>rw[es] at h;cases h
    |some f=>
     rw[es] at h;have h:(if f=0 then none else some (⟨k,e,0,mi,f,nm⟩:Sh))=some s:=h;by_cases n:f=0
     .rw[eE n] at h;cases h
     .rw[er n] at h;exact⟨e,b,m,sp,nm,mi,f,k,rfl,r,u,q,em,es,n,(iH h).symm⟩
  .rw[er c] at h;cases h
 .have na:a≠"leaf":=λz=>p (ix some z);rw[WI,er (λz=>na z.1)] at h;cases h
def XQ{e:List Str}{s:Sh}(h:rowOf e=some s):zw s:=by
 by_cases z:e.head? =some ("leaf":Str)
 .rcases G3 h z with⟨kp,g,l,nm,gi,li,_,c1,c2,eg,el,rfl⟩|⟨kp,g,l,wk,m,nm,gi,li,mi,kd,_,c1,c2,ck,eg,el,em,rfl⟩
  .obtain ⟨_,_,_,g0,g1⟩:=i6 eg;obtain⟨_,_,_,l0,b⟩:=i6 el;exact⟨vr _,c1,afS _,by show(0:Int)<=1000000;decide,λ_=>rfl,g0,g1,l0,b,λz=>absurd (show 3<=0 from z) ∅,c2⟩
  .obtain ⟨_,_,_,g0,g1⟩:=i6 eg;obtain⟨_,_,_,l0,b⟩:=i6 el;obtain⟨_,_,_,c,a⟩:=i6 em;have f:kd=1\/kd=2:=ck.elim (λz=>.inl z.2) (λz=>.inr z.2);exact⟨by show kd<=5;lia,c1,c,a,λz=>absurd f z,g0,g1,l0,b,λz=>absurd (show 3<=kd from z) (),c2⟩
 .obtain ⟨kp,wy,m,sp,nm,mi,si,k,_,c1,c2,ck,em,es,e0,rfl⟩:=Bh h z;obtain⟨_,_,_,c,a⟩:=i6 em;obtain⟨_,_,_,j,i⟩:=i6 es
  have f:k=3\/k=4\/k=5:=by
   rcases ck with z|z|z
   .exact .inl z.2
   .exact .inr (.inl z.2)
   .exact .inr (.inr z.2)
  exact⟨by show k<=5;lia,c1,afS _,by show(0:Int)<=1000000;decide,λ_=>rfl,c,a,j,i,λ_=>by show 1<=si;lia,c2⟩
theorem K8(rows:List Row):∀(k:Nat),(∀i,i<k->(rows.getD i default).dep<=(b6 rows i).length)->∀(d j:Nat) (b:Bool),(b6 rows k)[d]? =some (j,b)→
  j<k/\(rows.getD j default).dep=d/\(rows.getD j default).isM=b/\∀i,j<i->i<k->d<(rows.getD i default).dep
 |0,_,d,j,b,h=>by cases h
 |k+1,wf,d,j,b,h=>by
  have q:=wf k (afn k);have h:((b6 rows k).take (rows.getD k default).dep++[(k,(rows.getD k default).isM)])[d]? =some (j,b):=h;have p:((b6 rows k).take (rows.getD k default).dep).length=(rows.getD k default).dep:=by rw[XP];lia
  by_cases hd:d<(rows.getD k default).dep
  .rw[ae1 (),List.getElem?_take_of_lt hd] at h;obtain⟨r,o,l,g⟩:=K8 rows k (λi c=>wf i ()) d j b h;refine⟨(),o,l,λi a m=>?_⟩;by_cases c:i=k
   .rwa[c]
   .exact g i a ()
  .rw[ae2 (),p] at h
   have n:d-(rows.getD k default).dep=0:=by
    have:=(uy.mp h).1;have:d-(rows.getD k default).dep<1:=this
    lia
   rw[n] at h;have h:=iH h;have e:k=j:=ix Prod.fst h;have f:(rows.getD k default).isM=b:=ix Prod.snd h;subst e;exact⟨afn _,(),f,λi a m=>absurd a ()⟩
def Ob{p:Path}{k:Nat}{r:Row}(h:fits p k r):r.dep<=p.length:=by
 unfold fits at h
 split at h
 .lia
 .obtain ⟨h1,_,j,hj⟩:=h;have:=(uy.mp hj).1
  lia
def OkP(rows:List Row):Prop:=∀i,i<rows.length->fits (b6 rows i) i (rows.getD i default)
def OkP.snoc{rows:List Row}{r:Row}(h:OkP rows)(b:fits (b6 rows rows.length) rows.length r):OkP (rows++[r]):=by
 intro i a;rw[js] at a;by_cases e:i<rows.length
 .rw[cX rows [r] i (),oC _ _ _ e];exact h i e
 .have e:i=rows.length:=by have:i<rows.length+1:=a;lia
  subst e;rw[cX rows [r] _ (fC _),h9 rows r [] default];exact b
def Y5{rows:List Row}{r:Row}(h:OkP rows)(p:rows≠[])(a:fits (b6 rows rows.length) rows.length r):
  ∃j,j<rows.length/\(rows.getD j default).dep+1=r.dep/\(rows.getD j default).isM=true/\(∀i,j<i->i<rows.length->r.dep<=(rows.getD i default).dep)/\r.dep<=8/\cA (rows++[r]) rows.length=(j:Int):=by
 have g:=a;unfold fits at a;have c:rows.length≠0:=λz=>p (afH.mp z);rw[er c] at a;obtain⟨t,f,j,b⟩:=a;obtain⟨m,s,n,e⟩:=K8 rows rows.length (λi o=>Ob (h i o)) _ j true b;refine⟨j,m,(),n,λi q l=>by have:=e i q l;lia,f,?_⟩;unfold cA;rw[cX rows [r] _ (fC _),h9 rows r [] default,b];show(if rows.length=0 then (-1:Int) else (j:Int))=j;rw[er c]
def TV{rows a:List Row}{n:Nat}{l:List Nat}{ls:List (List Nat)}(h:scan rows n (l::ls)=.ok a):(gK l=true/\scan rows (n+1) ls=.ok a)∨
  (gK l=false/\∃r,rg l=some r/\fits (b6 rows rows.length) rows.length r/\r.sh.name∉rows.map (·.sh.name)/\rows.length≠64/\scan (rows++[r]) (n+1) ls=.ok a):=by
 rw[Dd] at h;by_cases c:gK l=true
 .rw[eE c] at h;exact .inl ⟨c,h⟩
 .right
  rw[er c] at h;refine⟨by cases z:gK l with|false=>rfl|true=>exact absurd z c,?_⟩;cases hl:rg l with
  |none=>rw[hl] at h;cases h
  |some r=>
   rw[hl] at h;have h:(if fits (b6 rows rows.length) rows.length r/\r.sh.name∉rows.map (·.sh.name) then (if rows.length=64 then Res.many else scan (rows++[r]) (n+1) ls) else .bad (n+1))=.ok a:=h;by_cases e:fits (b6 rows rows.length) rows.length r/\r.sh.name∉rows.map (·.sh.name)
   .rw[eE e] at h;by_cases b:rows.length=64
    .rw[eE b] at h;cases h
    .rw[er b] at h;exact⟨r,rfl,e.1,e.2,b,h⟩
   .rw[er e] at h;cases h
def W7{l:List Nat}{r:Row}(h:rg l=some r):lead l=2*r.dep/\rowOf ((cK l).map ofC)=some r.sh:=by
 unfold rg at h;by_cases e:lead l%2=0
 .rw[eE e] at h;cases hr:rowOf ((cK l).map ofC) with
  |none=>rw[hr] at h;cases h
  |some s=>
   rw[hr] at h;have h:=iH h;subst h;exact⟨by show lead l=2*(lead l/2);lia,rfl⟩
 .rw[er e] at h;cases h
def Xt{rows a:List Row}{n:Nat}(h:scan rows n []=.ok a):rows≠[]/\a=rows:=by
 have h:(if rows=[] then Res.aaS else .ok rows)=.ok a:=h;by_cases e:rows=[]
 .rw[eE e] at h;cases h
 .rw[er e] at h;injection h with h;exact⟨e,h.symm⟩
end Tr
namespace Hm
open PySem Shp Tr Hs
structure Nd where
 st:Str
 asked:Bool
 beg:Int
 steps:Int
 need:Int
 eQ:Int
 aG:List Int
 good:Nat
 wait:List Nat
 dQ:Nat
 com:Nat
 Em:Bool
structure HS where
 clk:Int
 book:List Ent
 ends:List (Nat×Str)
 nd:Nat->Nd
def sh(T:List Row)(i:Nat):Sh:=(T.getD i default).sh
def fm(T:List Row)(i:Nat):Bool:=decide ((sh T i).kind<3)
def par(T:List Row)(i:Nat):Option Nat:=if cA T i<0 then none else some (cA T i).toNat
def kids(T:List Row)(m:Nat):List Nat:=(List.range T.length).filter λj=>decide (par T j=some m)
def hH(T:List Row)(j:Nat):Nat:=((List.range j).filter λi=>decide (par T i=par T j)).length
def up(S:HS)(i:Nat)(g:Nd->Nd):HS:={S with nd:=λj=>if j=i then g (S.nd j) else S.nd j}
theorem az(S:HS)(i:Nat)(g:Nd->Nd):(up S i g).nd i=g (S.nd i):=eE rfl
theorem bF{S:HS}{i j:Nat}(g:Nd->Nd)(h:j≠i):(up S i g).nd j=S.nd j:=er h
section
variable(T:List Row)
def write(wd:Str)(i:Nat)(S:HS):HS:={S with book:=S.book++[(S.clk,wd,(sh T i).name)]}
def cg(S:HS)(i:Nat):Bool:=decide ((S.nd i).st="off")
def forget(d:Nd):Nd:={d with aG:=[],good:=0,wait:=[],dQ:=0,com:=0,Em:=false}
def nX(i:Nat)(S:HS):HS:=up S i λd=>if fm T i then {d with st:="on",asked:=false,beg:=S.clk,steps:=0} else forget {d with st:="on",asked:=false}
def a9:Nat->Nat->HS->HS
 |0,_,S=>S
 |d+1,i,S=>(kids T i).foldl (λS j=>a9 d j S) (write T "begun" i (nX T i S))
def aW(i:Nat)(wd:Str)(S:HS):HS:=if wd="" then S else {write T wd i (up S i λd=>{d with st:="off"}) with ends:=S.ends++[(i,wd)]}
def dP(d:Nd):Str:=if d.need=0 then "ended" else if d.eQ=0 then "cut" else ""
def bH(m:Nat)(S:HS):Nat:=cy (λk=>match (kids T m)[k]? with|some j=> !cg S j|none=>false) (kids T m).length
def goDown(m:Nat)(d:Nd):Nd:={d with st:="down",wait:=[],dQ:=2^(kids T m).length-1,com:=0}
def bB(i:Nat)(S:HS):HS:=up S i λd=>if fm T i then {d with st:="told",asked:=true,need:=(sh T i).bZ,eQ:=(sh T i).ba} else goDown T i {d with asked:=true}
def cn(m:Nat)(S:HS):Option Nat:=if (S.nd m).dQ &&& bH T m S=0 then none else (kids T m)[Nat.log2 ((S.nd m).dQ &&& bH T m S)]?
def gf(d:Nd):Str:=if d.Em then "gave up" else "ended"
def bb(d:Nd):Nd:={d with st:="on",dQ:=0,com:=0}
def bU(m:Nat)(S:HS):List Nat:=(kids T m).filter λj=>Nat.testBit (S.nd m).com (hH T j)&& !Nat.testBit (S.nd m).good (hH T j)
def aR(m:Nat)(S:HS):HS:=if (S.nd m).st="down" then aW T m (gf (S.nd m)) S else (bU T m S).foldl (λS j=>a9 T 9 j S) (up S m bb)
def cz:Nat->Nat->HS->HS
 |0,_,S=>S
 |d+1,i,S=>
  let a:=bB T i (write T "told" i S)
  if fm T i then aW T i (dP (a.nd i)) a else match cn T i a with
   |none=>aR T i a
   |some j=>if (a.nd j).asked then a else cz d j a
def kN(m:Nat)(S:HS):HS:=match cn T m S with
 |none=>aR T m S
 |some j=>if (S.nd j).asked then S else cz T 9 j S
def kR(m i:Nat)(wd:Str)(S:HS):HS:=if begun (sh T i) wd=false then up S m λd=>{d with good:=d.good ||| 2^hH T i}
 else if (S.nd m).st≠"down"/\Nat.testBit (S.nd m).com (hH T i)=false then up S m λd=>{d with wait:=d.wait++[i]} else S
def dR(c sp:Int)(l:List Int):List Int:=l.filter λx=>decide (c-x<sp)
def aE(m:Nat)(S:HS):Bool×HS:=if ((S.nd m).aG.length:Int)<(sh T m).ba then (false,S) else
 let l:=dR S.clk (sh T m).bZ (S.nd m).aG
 (decide ((sh T m).ba<(l.length:Int)+1),up S m λd=>{d with aG:=l})
def Kz(m i:Nat)(S:HS)(d:Nd):Nd:=
 let a:=Shp.kN (sh T m).kind (hH T i) (kids T m).length (λk=>Nat.testBit (bH T m S) k)
 let b:=anew (sh T m).kind (hH T i) (kids T m).length (λk=>Nat.testBit (S.nd m).good k)
 {d with aG:=d.aG++[S.clk],st:="turning",dQ:=a,com:=b}
def kO(m i:Nat)(S:HS):HS:=up S m (Kz T m i S)
def giveUp(m:Nat)(S:HS):HS:=up S m λd=>goDown T m {d with Em:=true}
def answer(m i:Nat)(S:HS):HS:=let e:=aE T m S
 kN T m (if e.1 then giveUp T m (write T "gives up" m e.2) else kO T m i (write T "answers" i e.2))
def toBe(m i:Nat)(S:HS):Bool:=cg S i&& !Nat.testBit (S.nd m).good (hH T i)
def bf:Nat->Nat->HS->HS
 |0,_,S=>S
 |f+1,m,S=>if (S.nd m).st="on" then (match (S.nd m).wait with
  |[]=>S
  |i::r=>let a:=up S m λd=>{d with wait:=r}
   bf f m (if toBe T m i a then answer T m i a else a)) else S
def ph(i:Nat)(wd:Str)(S:HS):HS:=match par T i with
 |none=>S
 |some m=>
  let a:=if (S.nd i).asked then S else kR T m i wd S
  let b:=if (a.nd m).st="on" then a else kN T m a
  bf T (b.nd m).wait.length m b
def aX:Nat->HS->Option HS
 |0,S=>if S.ends=[] then some S else none
 |f+1,S=>match S.ends with
  |[]=>some S
  |(i,wd)::r=>aX f (ph T i wd {S with ends:=r})
def bR(i:Nat)(S:HS):Bool:=fm T i&& !cg S i&&decide ((S.nd i).beg<S.clk)
def cu(i:Nat)(S:HS):Str×HS:=if (S.nd i).st="told" then
  let a:=up S i λd=>{d with need:=d.need-1,eQ:=d.eQ-1}
  (dP (a.nd i),a)
 else (endAt (sh T i) (S.nd i).steps,up S i λd=>{d with steps:=d.steps+1})
def eh(f i:Nat)(S:HS):Option HS:=if bR T i S then aX T f (aW T i (cu T i S).1 (cu T i S).2) else some S
def AY(f:Nat)(S:HS):Option HS:=(List.range T.length).foldlM (λS i=>eh T f i S) {S with clk:=S.clk+1}
def FA(f i:Nat)(S:HS):Option HS:=aX T f (aW T i "fallen" S)
def DU(f:Nat)(S:HS):Option HS:=if (S.nd 0).asked then some S else aX T f (cz T 10 0 S)
def nd0:Nd:=⟨"off",false,0,0,0,0,[],0,[],0,0,false⟩
def new:HS:=a9 T 10 0 ⟨0,[],[],λ_=>nd0⟩
end
theorem R1(p:Nat->Bool):∀(n k j:Nat),((List.range n).filter p)[k]? =some j->((List.range j).filter p).length=k/\p j=true/\j<n
 |0,k,j,h=>by cases h
 |n+1,k,j,h=>by
  rw[afR,YP] at h;by_cases f:k<((List.range n).filter p).length
  .rw[ae1 f] at h;obtain⟨a,b,c⟩:=R1 p n k j h;exact⟨a,b,()⟩
  .rw[ae2 ()] at h;by_cases e:p n=true
   .rw[afh,eE e,af3] at h
    have k0:k-((List.range n).filter p).length=0:=by
     have:=(uy.mp h).1;have:k-((List.range n).filter p).length<1:=this
     lia
    rw[k0] at h;have h:n=j:=iH h;subst h;exact⟨(),e,afn _⟩
   .rw[afh,er e,af3] at h;cases h
def Q2{T:List Row}{m k j:Nat}(h:(kids T m)[k]? =some j):hH T j=k/\par T j=some m/\j<T.length:=by
 obtain⟨a,b,c⟩:=R1 _ _ _ _ h;have b:=hI b;refine⟨?_,b,c⟩;unfold hH;rwa[b]
theorem Oe(p:Nat->Bool):∀(n j:Nat),j<n->p j=true->((List.range n).filter p)[((List.range j).filter p).length]? =some j
 |0,j,h,_=>absurd h (afm _)
 |n+1,j,h,hp=>by
  rw[afR,YP];by_cases a:j<n
  .have ih:=Oe p n j a hp;rwa[ae1 (uy.mp ih).1]
  .obtain rfl:j=n:=by lia
   rw[ae2 (fC _),afL,afh,eE hp]
   rfl
def Ci{T:List Row}{m i:Nat}(b:i<T.length)(a:par T i=some m):(kids T m)[hH T i]? =some i:=by
 have:=Oe (λj=>decide (par T j=some m)) T.length i b (f7 a);unfold kids hH;rwa[a]
theorem ZK(T:List Row):par T 0=none:=rfl
def ZA(T:List Row)(m:Nat):(kids T m).length<=T.length-1:=by
 unfold kids;cases T.length with
 |zero=>exact fC _
 |succ n=>
  rw[agv,afh,er (λz=>by rw[ZK] at z;exact absurd (hI z) (λy=>by cases y))];refine mf (afG _ _) ?_;rw[gm,tG];exact fC _
def bW(T:List Row):Nat->Nat->Prop
 |0,_=>False
 |d+1,i=>∀j∈kids T i,bW T d j
theorem gq{T:List Row}:∀{d i:Nat},bW T d i->bW T (d+1) i
 |0,_,h=>h.elim
 |_+1,_,h=>λj a=>gq (h j a)
structure mn(T:List Row):Prop where
 n0:0<T.length
 n64:T.length<=64
 cF:∀{j m:Nat},j<T.length->par T j=some m->m<j/\fm T m=false
 top:fm T 0=false
 up:∀j,0<j->j<T.length->∃m,par T j=some m
 deep:∀i,i<T.length->bW T 9 i
 ok:∀i,i<T.length->OkS (sh T i)
structure Wf(T:List Row)(S:HS):Prop where
 wt:∀m j,j∈(S.nd m).wait->j<T.length/\par T j=some m
 gd:∀m,(S.nd m).good<2^(kids T m).length
 fl:∀m,(S.nd m).aG.length<=S.book.length
 wl:∀m,(S.nd m).wait.length+S.ends.length<=S.book.length
 en:∀e∈S.ends,e.1<T.length/\isWord e.2
 st:∀i,fm T i=true->(S.nd i).st≠"off"->(S.nd i).st≠"told"->0<=(S.nd i).steps/\((sh T i).kind≠0->(S.nd i).steps<=(sh T i).many)
section
variable{T:List Row}{S:HS}
def df{m j:Nat}(h:j∈kids T m):j<T.length/\par T j=some m:=by
 unfold kids at h;rw[afP,xc,qj] at h;exact h
def Wf.up{i:Nat}{g:Nd->Nd}(h:Wf T S)(o:∀j∈(g (S.nd i)).wait,j<T.length/\par T j=some i)(n:(g (S.nd i)).good<2^(kids T i).length)(l:(g (S.nd i)).aG.length<=S.book.length)(q:(g (S.nd i)).wait.length+S.ends.length<=S.book.length)
  (f:fm T i=true->(g (S.nd i)).st≠"off"->(g (S.nd i)).st≠"told"->0<=(g (S.nd i)).steps/\((sh T i).kind≠0->(g (S.nd i)).steps<=(sh T i).many)):Wf T (Hm.up S i g):=by
 have c:∀(p:Nat->Nd->Prop),(∀j,p j (S.nd j))->p i (g (S.nd i))->∀j,p j ((Hm.up S i g).nd j):=λp a b j=>by
  by_cases e:j=i
  .subst e;rwa[az]
  .rw[bF g e];exact a j
 exact⟨c (λm d=>∀j,j∈d.wait->j<T.length/\par T j=some m) h.wt o,c (λm d=>d.good<2^(kids T m).length) h.gd n,c (λ_ d=>d.aG.length<=S.book.length) h.fl l,c (λ_ d=>d.wait.length+S.ends.length<=S.book.length) h.wl q,h.en,
  c (λi d=>fm T i=true->d.st≠"off"->d.st≠"told"->0<=d.steps/\((sh T i).kind≠0->d.steps<=(sh T i).many)) h.st f⟩
def cR(wd:Str)(i:Nat)(S:HS):(write T wd i S).book.length=S.book.length+1:=by
 show(S.book++_).length=_;rw[js]
 rfl
def Wf.write(h:Wf T S)(wd:Str)(i:Nat):Wf T (Hm.write T wd i S):=by
 have e:=cR (T:=T) wd i S;refine⟨h.wt,h.gd,λm=>?_,λm=>?_,h.en,h.st⟩
 .rw[e];exact Nat.le_succ_of_le (h.fl m)
 .rw[e];exact Nat.le_succ_of_le (h.wl m)
def Wf.aW(h:Wf T S){i:Nat}(g:i<T.length){wd:Str}(f:wd≠""->isWord wd):Wf T (Hm.aW T i wd S):=by
 unfold Hm.aW
 split
 .exact h
 .rename_i hn
  have c:Wf T (Hm.up S i λd=>{d with st:="off"}):=h.up (h.wt i) (h.gd i) (h.fl i) (h.wl i) (λ_ z=>absurd rfl z);have a:=c.write wd i;have e:=cR (T:=T) wd i (Hm.up S i λd=>{d with st:="off"});refine⟨a.wt,a.gd,a.fl,λm=>?_,λx b=>?_,a.st⟩
  .show _+(S.ends++[(i,wd)]).length<=(Hm.write T wd i (Hm.up S i λd=>{d with st:="off"})).book.length;rw[e,js];have:=c.wl m;show((Hm.up S i λd=>{d with st:="off"}).nd m).wait.length+(S.ends.length+1)<=_;have e2:(Hm.up S i λd=>{d with st:="off"}).ends=S.ends:=rfl;rw[e2] at this
   lia
  .have b:x∈S.ends++[(i,wd)]:=b;rcases wH.mp b with z|z
   .exact h.en x z
   .rw[ro.mp z];exact⟨g,f hn⟩
def Wf.nX(ok:mn T)(h:Wf T S){i:Nat}(b:i<T.length):Wf T (Hm.nX T i S):=by
 unfold Hm.nX;cases hl:fm T i with
 |true=>
  refine h.up (h.wt i) (h.gd i) (h.fl i) (h.wl i) (λ_ _ _=>⟨afS _,λ_=>(ok.ok i b).m0⟩)
 |false=>
  refine h.up (λj a=>(by cases a)) (ahH _) (vr _) ?_ (λz=>by rw[hl] at z;cases z);have:=h.wl i;show 0+S.ends.length<=_
  lia
theorem Wf.foldl{f:HS->Nat->HS}:∀(l:List Nat) (S:HS),(∀j∈l,∀S,Wf T S->Wf T (f S j))->Wf T S->Wf T (l.foldl f S)
 |[],_,_,h=>h
 |a::r,S,hf,h=>Wf.foldl r _ (λj b=>hf j (ri _ b)) (hf a ov S h)
theorem Wf.a9(ok:mn T):∀(d i:Nat) (S:HS),i<T.length->Wf T S->Wf T (Hm.a9 T d i S)
 |0,_,_,_,h=>h
 |d+1,i,S,hi,h=>Wf.foldl _ _ (λj a S h=>Wf.a9 ok d j S (df a).1 h) ((h.nX ok hi).write _ _)
theorem kz{m j:Nat}(h:j∈bU T m S):j∈kids T m:=(afP.mp h).1
def Oq(d:Nd):isWord (gf d):=by
 unfold gf
 split
 .exact .inr (.inr (.inl rfl))
 .exact .inr (.inr (.inr (.inl rfl)))
def OG{d:Nd}(h:dP d≠""):isWord (dP d):=by
 unfold dP at h ⊢
 split
 .exact .inr (.inr (.inr (.inl rfl)))
 .rename_i h1
  rw[er h1] at h
  split
  .exact .inr (.inr (.inr (.inr rfl)))
  .rename_i h2
   rw[er h2] at h;exact absurd rfl h
def Se{s:Sh}{n:Int}(h:endAt s n≠""):isWord (endAt s n):=by
 unfold endAt at h ⊢
 split
 .exact .inl rfl
 .rename_i h1
  rw[er h1] at h
  split
  .exact .inr (.inl rfl)
  .rename_i h2
   rw[er h2] at h;exact absurd rfl h
def Wf.aR(ok:mn T)(h:Wf T S){m:Nat}(c:m<T.length)(b:fm T m=false):Wf T (Hm.aR T m S):=by
 unfold Hm.aR
 split
 .exact h.aW c λ_=>Oq _
 .refine Wf.foldl _ _ (λj a S h=>Wf.a9 ok 9 j S (df (kz a)).1 h) ?_;exact h.up (h.wt m) (h.gd m) (h.fl m) (h.wl m) (λz=>by rw[b] at z;cases z)
def Wf.bB(h:Wf T S){i:Nat}:Wf T (Hm.bB T i S):=by
 unfold Hm.bB;cases hl:fm T i with
 |true=>exact h.up (h.wt i) (h.gd i) (h.fl i) (h.wl i) (λ_ _ z=>absurd rfl z)
 |false=>
  refine h.up (λj a=>(by cases a)) (h.gd i) (h.fl i) ?_ (λz=>by rw[hl] at z;cases z);have:=h.wl i;show 0+S.ends.length<=_
  lia
def kW{m j:Nat}(h:cn T m S=some j):j∈kids T m:=by
 unfold cn at h
 split at h
 .cases h
 .exact afJ h
def aJ(T:List Row)(d m:Nat)(S:HS):HS:=match cn T m S with
 |none=>Hm.aR T m S
 |some j=>if (S.nd j).asked then S else cz T d j S
theorem FU(m:Nat)(S:HS):Hm.kN T m S=aJ T 9 m S:=rfl
theorem eY(d i:Nat)(S:HS):cz T (d+1) i S=if fm T i then Hm.aW T i (dP ((Hm.bB T i (Hm.write T "told" i S)).nd i)) (Hm.bB T i (Hm.write T "told" i S)) else aJ T d i (Hm.bB T i (Hm.write T "told" i S)):=rfl
theorem Wf.JH(ok:mn T)(d:Nat)(a:∀(i:Nat) (S:HS),i<T.length->Wf T S->Wf T (Hm.cz T d i S)):∀(m:Nat) (S:HS),m<T.length->fm T m=false->Wf T S->Wf T (Hm.aJ T d m S)
 |m,S,hm,hl,h=>by
  unfold Hm.aJ
  split
  .exact h.aR ok hm hl
  .rename_i j hj
   split
   .exact h
   .exact a j S (df (kW hj)).1 h
theorem Wf.cz(ok:mn T):∀(d i:Nat) (S:HS),i<T.length->Wf T S->Wf T (Hm.cz T d i S)
 |0,_,_,_,h=>h
 |d+1,i,S,hi,h=>by
  have a:=(h.write (T:=T) "told" i).bB (i:=i);rw[eY]
  split
  .exact a.aW hi OG
  .rename_i hl
   exact Wf.JH ok d (Wf.cz ok d) i _ hi (by cases z:fm T i with|true=>exact absurd z hl|false=>rfl) a
theorem Wf.aJ(ok:mn T)(d:Nat):∀(m:Nat) (S:HS),m<T.length->fm T m=false->Wf T S->Wf T (Hm.aJ T d m S):=Wf.JH ok d (Wf.cz ok d)
theorem ZJ{i k:Nat}(h:k≠i):(Hm.nX T i S).nd k=S.nd k:=bF _ h
theorem Ft{f:HS->Nat->HS}{k:Nat}:∀(l:List Nat) (S:HS),(∀j∈l,∀S,(f S j).nd k=S.nd k)->(l.foldl f S).nd k=S.nd k
 |[],_,_=>rfl
 |a::r,S,hf=>(Ft r _ λj b=>hf j (ri _ b)).trans (hf a ov S)
theorem Dp(ok:mn T):∀(d i k:Nat) (S:HS),k<i->(Hm.a9 T d i S).nd k=S.nd k
 |0,_,_,_,_=>rfl
 |d+1,i,k,S,h=>by
  show((kids T i).foldl (λS j=>Hm.a9 T d j S) (Hm.write T "begun" i (Hm.nX T i S))).nd k=_;rw[Ft _ _ λj a S=>Dp ok d j k S (aga h (ok.cF (df a).1 (df a).2).1)];exact ZJ (nz h)
def N3{i k:Nat}{wd:Str}(h:k≠i):(Hm.aW T i wd S).nd k=S.nd k:=by
 unfold Hm.aW
 split
 .rfl
 .exact bF (S:=S) (λd=>{d with st:="off"}) h
def Jy(ok:mn T){m k:Nat}(h:k<m):(Hm.aR T m S).nd k=S.nd k:=by
 unfold Hm.aR
 split
 .exact N3 (nz h)
 .rw[Ft _ _ λj a S=>Dp ok 9 j k S (aga h (ok.cF (df (kz a)).1 (df (kz a)).2).1)];exact bF _ (nz h)
theorem LC(ok:mn T)(d:Nat)(a:∀(i k:Nat) (S:HS),k<i->(Hm.cz T d i S).nd k=S.nd k):∀(m k:Nat) (S:HS),k<m->(Hm.aJ T d m S).nd k=S.nd k
 |m,k,S,h=>by
  unfold Hm.aJ
  split
  .exact Jy ok h
  .rename_i j hj
   split
   .rfl
   .exact a j k S (aga h (ok.cF (df (kW hj)).1 (df (kW hj)).2).1)
theorem HV(ok:mn T):∀(d i k:Nat) (S:HS),k<i->(Hm.cz T d i S).nd k=S.nd k
 |0,_,_,_,_=>rfl
 |d+1,i,k,S,h=>by
  have a:(Hm.bB T i (Hm.write T "told" i S)).nd k=S.nd k:=bF _ (nz h);rw[eY]
  split
  .rwa[N3 (nz h)]
  .rwa[LC ok d (HV ok d) i k _ h]
def KQ(ok:mn T)(d m:Nat)(S:HS):∃st b cm,(Hm.aJ T d m S).nd m={S.nd m with st:=st,dQ:=b,com:=cm}/\((S.nd m).st="down"->st≠"on"):=by
 unfold Hm.aJ
 split
 .unfold Hm.aR
  split
  .unfold Hm.aW
   split
   .rename_i h1 h2
    refine⟨_,_,_,rfl,λz=>by rw[z];decide⟩
   .exact ⟨"off",(S.nd m).dQ,(S.nd m).com,az S m λd=>{d with st:="off"},λ_=>∅⟩
  .rename_i h1 h2
   refine⟨"on",0,0,?_,λz=>absurd z h2⟩;rw[Ft _ _ λj a S=>Dp ok 9 j m S (ok.cF (df (kz a)).1 (df (kz a)).2).1];exact az _ _ _
 .rename_i j a
  split
  .exact ⟨_,_,_,rfl,λz=>by rw[z];decide⟩
  .rw[HV ok d j m S (ok.cF (df (kW a)).1 (df (kW a)).2).1];exact⟨_,_,_,rfl,λz=>by rw[z];decide⟩
theorem rP{f:HS->Nat->HS}:∀(l:List Nat) (S:HS),(∀j∈l,∀S,S.book.length<=(f S j).book.length)->S.book.length<=(l.foldl f S).book.length
 |[],_,_=>fC _
 |a::r,S,hf=>mf (hf a ov S) (rP r _ λj b=>hf j (ri _ b))
theorem oq:∀(d i:Nat) (S:HS),S.book.length<=(Hm.a9 T d i S).book.length
 |0,_,_=>fC _
 |d+1,i,S=>by
  refine mf ?_ (rP _ _ λj _ S=>oq d j S);rw[cR];exact af8 _
def ye(i:Nat)(wd:Str)(S:HS):S.book.length<=(Hm.aW T i wd S).book.length:=by
 unfold Hm.aW
 split
 .exact fC _
 .show S.book.length<=(S.book++_).length;rw[js]
  lia
def GS(m:Nat)(S:HS):S.book.length<=(Hm.aR T m S).book.length:=by
 unfold Hm.aR
 split
 .exact ye m _ S
 .exact rP _ (Hm.up S m bb) λj _ S=>oq 9 j S
theorem zx(d:Nat)(a:∀(i:Nat) (S:HS),S.book.length<=(Hm.cz T d i S).book.length):∀(m:Nat) (S:HS),S.book.length<=(Hm.aJ T d m S).book.length
 |m,S=>by
  unfold Hm.aJ
  split
  .exact GS m S
  .split
   .exact fC _
   .exact a _ S
def JO:∀(d i:Nat) (S:HS),S.book.length<=(Hm.cz T d i S).book.length
 |0,_,_=>fC _
 |d+1,i,S=>by
  have a:S.book.length<=(Hm.bB T i (Hm.write T "told" i S)).book.length:=by
   show S.book.length<=(Hm.write T "told" i S).book.length;rw[cR];exact af8 _
  rw[eY]
  split
  .exact mf a (ye i _ _)
  .exact mf a (zx d (JO d) i _)
theorem jO(d:Nat):∀(m:Nat) (S:HS),S.book.length<=(Hm.aJ T d m S).book.length:=zx d (JO d)
def pU(m:Nat)(S:HS):(Hm.aE T m S).2.book=S.book/\(Hm.aE T m S).2.ends=S.ends:=by
 unfold Hm.aE
 split<;>exact⟨rfl,rfl⟩
def sI(m:Nat)(S:HS):∃l,(Hm.aE T m S).2=Hm.up S m (λd=>{d with aG:=l})/\l.length<=(S.nd m).aG.length:=by
 unfold Hm.aE
 split
 .refine ⟨(S.nd m).aG,?_,fC _⟩;unfold Hm.up;show S=_
  have:(λj=>if j=m then {S.nd j with aG:=(S.nd m).aG} else S.nd j)=S.nd:=by
   funext j
   by_cases e:j=m
   .rw[eE e,e]
   .rw[er e]
  rw[this]
 .exact ⟨_,rfl,afG _ _⟩
def bI(T:List Row)(m i:Nat)(S:HS):HS:=if (Hm.aE T m S).1 then giveUp T m (Hm.write T "gives up" m (Hm.aE T m S).2) else kO T m i (Hm.write T "answers" i (Hm.aE T m S).2)
theorem kn(m i:Nat)(S:HS):Hm.answer T m i S=aJ T 9 m (bI T m i S):=rfl
def Wf.aE(h:Wf T S){m:Nat}:Wf T (Hm.aE T m S).2:=by
 obtain⟨l,e,a⟩:=sI (T:=T) m S;rw[e];exact h.up (h.wt m) (h.gd m) (mf a (h.fl m)) (h.wl m) (h.st m)
def Wf.giveUp(h:Wf T S){m:Nat}(b:fm T m=false):Wf T (Hm.giveUp T m S):=by
 refine h.up (λj a=>(by cases a)) (h.gd m) (h.fl m) ?_ (λz=>by rw[b] at z;cases z);have:=h.wl m;show 0+S.ends.length<=_
 lia
def Wf.bI(h:Wf T S){m i:Nat}(b:fm T m=false):Wf T (Hm.bI T m i S):=by
 have a:=h.aE (m:=m);unfold Hm.bI
 split
 .exact (a.write _ _).giveUp b
 .have h1:=a.write (T:=T) "answers" i;refine h1.up (h1.wt m) (h1.gd m) ?_ (h1.wl m) (λz=>by rw[b] at z;cases z);have e:=cR (T:=T) "answers" i (Hm.aE T m S).2;have:=a.fl m;rw[e];show(((Hm.aE T m S).2.nd m).aG++[_]).length<=_;rw[js];show _+1<=_
  lia
def vO(m i:Nat)(S:HS):(bI T m i S).book.length=S.book.length+1:=by
 unfold Hm.bI
 split
 .show (Hm.write T "gives up" m (Hm.aE T m S).2).book.length=_;rw[cR,(pU m S).1]
 .show (Hm.write T "answers" i (Hm.aE T m S).2).book.length=_;rw[cR,(pU m S).1]
def Oa(ok:mn T)(m i:Nat)(S:HS):((Hm.answer T m i S).nd m).wait=(S.nd m).wait\/(((Hm.answer T m i S).nd m).wait=[]/\((Hm.answer T m i S).nd m).st≠"on"):=by
 rw[kn];obtain⟨st,a,cm,e,hs⟩:=KQ ok 9 m (bI T m i S);rw[e];obtain⟨l,e1,_⟩:=sI (T:=T) m S;unfold bI at hs ⊢
 split
 .rename_i he
  rw[eE he] at hs
  right
  have e2:(Hm.giveUp T m (Hm.write T "gives up" m (Hm.aE T m S).2)).nd m=goDown T m { (Hm.aE T m S).2.nd m with Em:=true}:=az _ _ _;refine⟨?_,hs (by rw[e2];rfl)⟩;show((Hm.giveUp T m (Hm.write T "gives up" m (Hm.aE T m S).2)).nd m).wait=[];rw[e2]
  rfl
 .left
  show((Hm.kO T m i (Hm.write T "answers" i (Hm.aE T m S).2)).nd m).wait=_
  have e2:((Hm.kO T m i (Hm.write T "answers" i (Hm.aE T m S).2)).nd m).wait=((Hm.aE T m S).2.nd m).wait:=by
   show((Hm.up _ m _).nd m).wait=_;rw[az]
   rfl
  rw[e2,e1,az]
def cQ(T:List Row)(m i:Nat)(r:List Nat)(S:HS):HS:=if toBe T m i (Hm.up S m λd=>{d with wait:=r}) then Hm.answer T m i (Hm.up S m λd=>{d with wait:=r}) else Hm.up S m λd=>{d with wait:=r}
theorem tH{m:Nat}{S:HS}(h:(S.nd m).st≠"on"\/(S.nd m).wait=[]):∀f,bf T f m S=S
 |0=>rfl
 |f+1=>by
  unfold bf
  split
  .rename_i h1
   rcases h with h|h
   .exact absurd h1 h
   .rw[h]
  .rfl
def KR(ok:mn T){m i:Nat}{r:List Nat}{S:HS}(f:(S.nd m).st="on")(a:(S.nd m).wait=i::r):bf T (S.nd m).wait.length m S=bf T ((cQ T m i r S).nd m).wait.length m (cQ T m i r S)/\((cQ T m i r S).nd m).wait.length<(S.nd m).wait.length:=by
 have e:bf T (S.nd m).wait.length m S=bf T r.length m (cQ T m i r S):=by
  rw[a];show bf T (r.length+1) m S=_;rw[bf,eE f,a]
  rfl
 have c:((Hm.up S m λd=>{d with wait:=r}).nd m).wait=r:=by rw[az]
 rw[e,a];by_cases b:toBe T m i (Hm.up S m λd=>{d with wait:=r})=true
 .have ew:cQ T m i r S=Hm.answer T m i (Hm.up S m λd=>{d with wait:=r}):=eE b;rw[ew];rcases Oa ok m i (Hm.up S m λd=>{d with wait:=r}) with z|⟨z1,z2⟩
  .rw[z,c];exact⟨rfl,afn _⟩
  .rw[z1,tH (.inr z1) r.length];exact⟨rfl,Nat.zero_lt_succ _⟩
 .have ew:cQ T m i r S=Hm.up S m λd=>{d with wait:=r}:=er b;rw[ew,c];exact⟨rfl,afn _⟩
def Wf.cQ(ok:mn T)(h:Wf T S){m i:Nat}{r:List Nat}(g:m<T.length)(a:fm T m=false)(c:(S.nd m).wait=i::r):Wf T (Hm.cQ T m i r S)/\Wf T (Hm.up S m λd=>{d with wait:=r}):=by
 have b:Wf T (Hm.up S m λd=>{d with wait:=r}):=by
  refine h.up (λj f=>h.wt m j (by rw[c];exact ri _ f)) (h.gd m) (h.fl m) ?_ (λz=>by rw[a] at z;cases z);have:=h.wl m;rw[c] at this;have e:(i::r).length=r.length+1:=rfl;show r.length+S.ends.length<=_
  lia
 refine⟨?_,b⟩;unfold Hm.cQ
 split
 .rw[kn];exact Wf.aJ ok 9 m _ g a (b.bI a)
 .exact b
def QR(m i:Nat)(S:HS):S.book.length<(Hm.answer T m i S).book.length:=by
 rw[kn];refine wh ?_ (jO 9 m _);rw[vO];exact afn _
def Kp(m i:Nat)(r:List Nat)(S:HS):S.book.length<=(cQ T m i r S).book.length:=by
 unfold cQ
 split
 .exact afC (QR (T:=T) m i (Hm.up S m λd=>{d with wait:=r}))
 .exact fC _
theorem pO:∀(f m:Nat) (S:HS),S.book.length<=(bf T f m S).book.length
 |0,_,_=>fC _
 |f+1,m,S=>by
  unfold bf
  split
  .split
   .exact fC _
   .rename_i i r _
    exact mf (Kp m i r S) (pO f m (cQ T m i r S))
  .exact fC _
theorem Wf.bf(ok:mn T):∀(f m:Nat) (S:HS),m<T.length->fm T m=false->Wf T S->Wf T (Hm.bf T f m S)
 |0,_,_,_,_,h=>h
 |f+1,m,S,hm,hl,h=>by
  unfold Hm.bf
  split
  .split
   .exact h
   .rename_i i r e
    exact Wf.bf ok f m (Hm.cQ T m i r S) hm hl (h.cQ ok hm hl e).1
  .exact h
def bT(T:List Row)(m i:Nat)(wd:Str)(S:HS):HS:=if (S.nd i).asked then S else kR T m i wd S
def dG(T:List Row)(m i:Nat)(wd:Str)(S:HS):HS:=if ((bT T m i wd S).nd m).st="on" then bT T m i wd S else Hm.kN T m (bT T m i wd S)
def sR{i:Nat}{wd:Str}{S:HS}(h:par T i=none):ph T i wd S=S:=by
 unfold ph;rw[h]
def nH{i m:Nat}{wd:Str}{S:HS}(h:par T i=some m):ph T i wd S=Hm.bf T ((dG T m i wd S).nd m).wait.length m (dG T m i wd S):=by
 unfold ph;rw[h]
 rfl
def Ae(m i:Nat)(wd:Str)(S:HS):(bT T m i wd S).book=S.book:=by
 unfold bT kR
 split
 .rfl
 .split
  .rfl
  .split<;>rfl
def XF(i:Nat)(wd:Str)(S:HS):S.book.length<=(ph T i wd S).book.length:=by
 cases h:par T i with
 |none=>rw[sR h];exact fC _
 |some m=>
  rw[nH h];refine mf ?_ (pO _ _ _);have e:=Ae (T:=T) m i wd S;unfold dG
  split
  .rw[e];exact fC _
  .rw[<- e];exact jO 9 m _
def Wf.pop(h:Wf T S){e:Nat×Str}{r:List (Nat×Str)}(b:S.ends=e::r):Wf T {S with ends:=r}/\(∀m,(S.nd m).wait.length+r.length+1<=S.book.length)/\e.1<T.length/\isWord e.2:=by
 have a:=h.wl;rw[b] at a
 have a:∀m,(S.nd m).wait.length+r.length+1<=S.book.length:=λm=>by
  have:=a m;have e2:(e::r).length=r.length+1:=rfl;omega
 refine⟨⟨h.wt,h.gd,h.fl,λm=>?_,λx c=>h.en x (by rw[b];exact ri _ c),h.st⟩,a,h.en e (by rw[b];exact ov)⟩;have:=a m;show(S.nd m).wait.length+r.length<=S.book.length;omega
theorem acf{a n k:Nat}(h:a<2^n)(b:k<n):a ||| 2^k<2^n:=Nat.or_lt_two_pow h (Nat.pow_lt_pow_right ∅ b)
theorem Ce{i m:Nat}(b:i<T.length)(a:par T i=some m):hH T i<(kids T m).length:=(uy.mp (Ci b a)).1
def Wf.bT(h:Wf T S){m i:Nat}{wd:Str}(c:i<T.length)(b:par T i=some m)(a:fm T m=false)(f:(S.nd m).wait.length+S.ends.length+1<=S.book.length):Wf T (Hm.bT T m i wd S):=by
 unfold Hm.bT kR
 split
 .exact h
 .split
  .exact h.up (h.wt m) (acf (h.gd m) (Ce c b)) (h.fl m) (h.wl m) (λz=>by rw[a] at z;cases z)
  .split
   .refine h.up (λj e=>?_) (h.gd m) (h.fl m) ?_ (λz=>by rw[a] at z;cases z)
    .rcases wH.mp e with z|z
     .exact h.wt m j z
     .rw[ro.mp z];exact⟨c,b⟩
    .show ((S.nd m).wait++[i]).length+S.ends.length<=_;rw[js];show(S.nd m).wait.length+1+_<=_
     lia
   .exact h
def Wf.dG(ok:mn T)(h:Wf T S){m i:Nat}{wd:Str}(a:i<T.length)(b:par T i=some m)(f:(S.nd m).wait.length+S.ends.length+1<=S.book.length):Wf T (Hm.dG T m i wd S):=by
 have c:=(ok.cF a b).2;have e:=h.bT (wd:=wd) a b c f;unfold Hm.dG
 split
 .exact e
 .exact Wf.aJ ok 9 m _ (aga (ok.cF a b).1 a) c e
def Wf.ph(ok:mn T)(h:Wf T S){i:Nat}{wd:Str}(a:i<T.length)(b:∀m,(S.nd m).wait.length+S.ends.length+1<=S.book.length):Wf T (Hm.ph T i wd S):=by
 cases hp:par T i with
 |none=>rwa[sR hp]
 |some m=>
  rw[nH hp];exact Wf.bf ok _ m _ (aga (ok.cF a hp).1 a) (ok.cF a hp).2 (h.dG ok a hp (b m))
theorem kI:∀(f:Nat) (S S':HS),aX T f S=some S'->S.book.length<=S'.book.length
 |0,S,S',h=>by
  unfold aX at h
  split at h
  .cases h;exact fC _
  .cases h
 |f+1,S,S',h=>by
  unfold aX at h
  split at h
  .cases h;exact fC _
  .rename_i i wd r e
   exact mf (XF (T:=T) i wd {S with ends:=r}) (kI f _ S' h)
theorem Wf.settle(ok:mn T):∀(f:Nat) (S S':HS),aX T f S=some S'->Wf T S->Wf T S'/\S'.ends=[]
 |0,S,S',h,w=>by
  unfold aX at h
  split at h
  .rename_i e
   cases h;exact⟨w,e⟩
  .cases h
 |f+1,S,S',h,w=>by
  unfold aX at h
  split at h
  .rename_i e
   cases h;exact⟨w,e⟩
  .rename_i i wd r e
   obtain⟨b,c,a,g⟩:=w.pop e;exact Wf.settle ok f _ S' h (b.ph ok a c)
def step_same(i:Nat)(S:HS):(cu T i S).2.book=S.book/\(cu T i S).2.ends=S.ends:=by
 unfold cu
 split<;>exact⟨rfl,rfl⟩
def Xm{i:Nat}(h:(cu T i S).1≠""):isWord (cu T i S).1:=by
 unfold cu at h ⊢
 split
 .rename_i e
  rw[eE e] at h;exact OG h
 .rename_i e
  rw[er e] at h;exact Se h
def f9(T:List Row)(i:Nat)(S:HS):HS:=Hm.aW T i (cu T i S).1 (cu T i S).2
def Uq(i:Nat)(S:HS):S.book.length<=(f9 T i S).book.length:=by
 unfold f9;refine mf ?_ (ye _ _ _);rw[(step_same i S).1];exact fC _
def Wf.f9(h:Wf T S){i:Nat}(l:i<T.length)(hs:bR T i S=true):Wf T (Hm.f9 T i S):=by
 unfold bR at hs;rw[oT,oT,afU] at hs;have n:=hs.1.1;have q:(S.nd i).st≠"off":=afk hs.1.2;by_cases b:(S.nd i).st="told"
 .refine Wf.aW ?_ l Xm;unfold cu;rw[eE b];exact h.up (g:=λd=>{d with need:=d.need-1,eQ:=d.eQ-1}) (h.wt i) (h.gd i) (h.fl i) (h.wl i) (λ_ _ z=>absurd b z)
 .-- at work: it adM on,or it is over
  obtain⟨t,r⟩:=h.st i n q b
  have e:Hm.f9 T i S=Hm.aW T i (endAt (sh T i) (S.nd i).steps) (Hm.up S i λd=>{d with steps:=d.steps+1}):=by
   unfold Hm.f9 cu;rw[er b]
  rw[e];by_cases a:endAt (sh T i) (S.nd i).steps=""
  .unfold Hm.aW;rw[eE a];refine h.up (h.wt i) (h.gd i) (h.fl i) (h.wl i) (λ_ _ _=>⟨by show 0<=(S.nd i).steps+1;lia,λs=>?_⟩);have:=r s;have u:(sh T i).kind<3:=hI n
   have ne:(S.nd i).steps≠(sh T i).many:=λz=>by
    unfold endAt at a;by_cases k1:(sh T i).kind=1
    .rw[eE ⟨k1,z⟩] at a;exact absurd a ∅
    .rw[er (λy=>k1 y.1),eE ⟨(),z⟩] at a;exact absurd a ∅
   show(S.nd i).steps+1<=_
   lia
  .-- off: the steps are of no account
   have o:Wf T (Hm.up (Hm.up S i λd=>{d with steps:=d.steps+1}) i λd=>{d with st:="off"}):=by
    have e2:(Hm.up (Hm.up S i λd=>{d with steps:=d.steps+1}) i λd=>{d with st:="off"})=Hm.up S i λd=>{d with steps:=d.steps+1,st:="off"}:=by
     unfold Hm.up
     congr 1
     funext j
     show(if j=i then _ else if j=i then _ else _)=_;by_cases z:j=i
     .rw[eE z,eE z];show({ (if j=i then {S.nd j with steps:=(S.nd j).steps+1} else S.nd j) with st:="off"}:Nd)=_;rw[eE z]
     .rw[er z,er z,er z]
    rw[e2];exact h.up (h.wt i) (h.gd i) (h.fl i) (h.wl i) (λ_ z=>absurd rfl z)
   have c:=o.write (endAt (sh T i) (S.nd i).steps) i;have p:=cR (T:=T) (endAt (sh T i) (S.nd i).steps) i (Hm.up (Hm.up S i λd=>{d with steps:=d.steps+1}) i λd=>{d with st:="off"});unfold Hm.aW;rw[er a];refine⟨c.wt,c.gd,c.fl,λm=>?_,λx f=>?_,c.st⟩
   .have:=o.wl m;show _+(S.ends++[(i,endAt (sh T i) (S.nd i).steps)]).length<=(Hm.write T (endAt (sh T i) (S.nd i).steps) i (Hm.up (Hm.up S i λd=>{d with steps:=d.steps+1}) i λd=>{d with st:="off"})).book.length;rw[p,js];have e3:(Hm.up (Hm.up S i λd=>{d with steps:=d.steps+1}) i λd=>{d with st:="off"}).ends=S.ends:=rfl;rw[e3] at this;show((Hm.up (Hm.up S i λd=>{d with steps:=d.steps+1}) i λd=>{d with st:="off"}).nd m).wait.length+(S.ends.length+1)<=_
    lia
   .have f:x∈S.ends++[(i,endAt (sh T i) (S.nd i).steps)]:=f;rcases wH.mp f with z|z
    .exact h.en x z
    .rw[ro.mp z];exact⟨l,Se a⟩
theorem rQ(f i:Nat)(S:HS):eh T f i S=if bR T i S then aX T f (f9 T i S) else some S:=rfl
def TY{f i:Nat}{S S':HS}(h:eh T f i S=some S'):S.book.length<=S'.book.length:=by
 rw[rQ] at h
 split at h
 .exact mf (Uq i S) (kI f _ _ h)
 .cases h;exact fC _
def Wf.eh(ok:mn T){f i:Nat}{S S':HS}(w:Wf T S)(a:i<T.length)(h:Hm.eh T f i S=some S'):Wf T S':=by
 rw[rQ] at h
 split at h
 .rename_i hs
  exact(Wf.settle ok f _ _ h (w.f9 a hs)).1
 .cases h;exact w
theorem Rg{f:Nat}:∀(l:List Nat) (S S':HS),l.foldlM (λS i=>Hm.eh T f i S) S=some S'->S.book.length<=S'.book.length
 |[],S,S',h=>by
  cases h;exact fC _
 |a::r,S,S',h=>by
  rw[af6] at h;cases e:Hm.eh T f a S with
  |none=>rw[e] at h;cases h
  |some b=>
   rw[e] at h;exact mf (TY e) (Rg r b S' h)
theorem Wf.run(ok:mn T){f:Nat}:∀(l:List Nat) (S S':HS),(∀i∈l,i<T.length)->l.foldlM (λS i=>Hm.eh T f i S) S=some S'->Wf T S->Wf T S'
 |[],S,S',_,h,w=>by
  cases h;exact w
 |a::r,S,S',hl,h,w=>by
  rw[af6] at h;cases e:Hm.eh T f a S with
  |none=>rw[e] at h;cases h
  |some b=>
   rw[e] at h;exact Wf.run ok r b S' (λi c=>hl i (ri _ c)) h (w.eh ok (hl a ov) e)
theorem Wf.tick(w:Wf T S)(c:Int):Wf T {S with clk:=c}:=⟨w.wt,w.gd,w.fl,w.wl,w.en,w.st⟩
theorem Wf.turn(ok:mn T){f:Nat}{S S':HS}(h:AY T f S=some S')(w:Wf T S):Wf T S':=Wf.run ok _ _ _ (λi a=>xc.mp a) h (w.tick _)
theorem Wf.zero:Wf T ⟨0,[],[],λ_=>nd0⟩:=⟨λm j a=>(by cases a),λm=>ahH _,λm=>vr _,λm=>fC _,λe b=>(by cases b),λi _ h=>absurd rfl h⟩
theorem Wf.new(ok:mn T):Wf T (Hm.new T):=Wf.a9 ok 10 0 _ ok.n0 Wf.zero
theorem HK:∀(d i:Nat) (S:HS),(Hm.a9 T d i S).ends=S.ends
 |0,_,_=>rfl
 |d+1,i,S=>by
  have b:∀(l:List Nat) (S:HS),(l.foldl (λS j=>Hm.a9 T d j S) S).ends=S.ends:=λl=>by
   induction l with
   |nil=>exact λS=>rfl
   |cons a r c=>exact λS=>(c _).trans (HK d a S)
  exact b _ _
theorem Od(ok:mn T){f:Nat}:∀(l:List Nat) (S S':HS),(∀i∈l,i<T.length)->l.foldlM (λS i=>Hm.eh T f i S) S=some S'->Wf T S->S.ends=[]->S'.ends=[]
 |[],S,S',_,h,_,e=>by
  cases h;exact e
 |a::r,S,S',hl,h,w,e=>by
  rw[af6] at h;cases e1:Hm.eh T f a S with
  |none=>rw[e1] at h;cases h
  |some b=>
   rw[e1] at h;have g:=w.eh ok (hl a ov) e1
   have e2:b.ends=[]:=by
    rw[rQ] at e1
    split at e1
    .rename_i hs
     exact(Wf.settle ok f _ _ e1 (w.f9 (hl a ov) hs)).2
    .cases e1;exact e
   exact Od ok r b S' (λi c=>hl i (ri _ c)) h g e2
theorem TL(ok:mn T){f:Nat}{S S':HS}(h:AY T f S=some S')(w:Wf T S)(e:S.ends=[]):S'.ends=[]:=Od ok _ _ _ (λi a=>xc.mp a) h (w.tick _) e
end
end Hm
namespace L2
open PySem PySem.Spec PyProof.Rows
section
variable{prog:Program}{w:World}{A:Around}{E:Value->Shared->Prop}{s:Shared}
def To{T nu:String}{x:Value}{vs:List Value}{kw:List (Str×Value)}(f:typeLookup (.type T) "__init__"=pure (some (.builtin "object.__init__")))
  (g:Bind.madeBy (.type T)=pure (some nu)) (c:(some nu != some "object.__new__")=true):
  Meets (Builtin.«object.__init__» ⟨x::vs,kw⟩) (λ_ R z=>z.TypeIs x T/\R (.ok (.ret .none)) z):=by
 refine Meets.of_wp λprog w A R z e=>?_;obtain⟨h,b⟩:=e;cases vs with
 |nil=>
  cases kw with
  |nil=>exact rr ⟨_,rfl,b⟩
  |cons k r=>
   repeat (any_goals (first|assumption|wp_step))
   exact⟨_,rfl,b⟩
 |cons a r=>
  repeat (any_goals (first|assumption|wp_step))
  exact⟨_,rfl,b⟩
def X5{T nu:String}{o:Builtin}{vs:List Value}{kw:List (Str×Value)}{S:PySem.Spec}{Q:Value->Shared->Prop}(a:TypeCalled T nu "object.__init__")
  (ne:(some nu != some "object.__new__")=true) (I:checkTypeCall T ⟨vs,kw⟩=pure .unit) (D:checkBuiltinCall nu ⟨.type T::vs,kw⟩=pure .unit)
  (ok:∀b,argsOk "object.__init__" ⟨b::vs,kw⟩) (en:entryFor table nu=some o) (g:Meets (o ⟨.type T::vs,kw⟩) S)
  (h:S A.in1 (wants (λb z=>z.TypeIs b T/\Q b z) E) s):wpAny (model prog w) A (call (.type T) vs kw) Q E s:=by
 obtain⟨c,H,m⟩:=a.mro;have j:=a.made;have n:=a.sub;have J:=a.notType;have G:=a.canCreate;refine wpAny_call (codeAny_of_tree ?_);show wpAny _ _ (callAny (.type T) _) _ _ _;refine rr ⟨Code.quiet_builtin _ (by decide +kernel),codeAny_builtin F.entry_type_call ?_⟩;rw[Around.under_plain (weight_type_call_type T vs kw) (units_type_call_type T vs kw)]
 repeat (any_goals (first|assumption|wp_step))
 refine agO (ahb a.plain en (wpAny_of_eq D (g prog w A.in1 _ s h))) λr z i=>?_;cases r with
 |error e=>exact i
 |ok u=>
  cases u with
  |ret b=>
   obtain⟨l,q⟩:=i;have v:=a.init.lookup;have t:=a.init.bind b
   repeat (any_goals (first|assumption|wp_step))
   have y:=To (x:=b) (vs:=vs) (kw:=kw) a.init.lookup a.made ne;refine agO (ahb a.init.plain F.entry_object_init (a.init.check _ _ _ _ _ _ _ _ l (ok b) (y prog w A.in1 (wants (λr p=>r=.none/\Q b p) E) z ⟨l,rfl,q⟩))) λB p f=>?_;cases B with
   |error e=>exact f
   |ok C=>
    cases C with
    |ret r=>
     obtain⟨rfl,q⟩:=f
     repeat (any_goals (first|assumption|wp_step))
    |_=>exact f.elim
  |_=>exact i.elim
end
theorem Xe(k:Int)(t:Tok)(l:Addr):checkTypeCall "enumerate" ⟨[.ref l],[("start",.int k t)]⟩=pure .unit/\checkBuiltinCall "enumerate.__new__" ⟨[.type "enumerate",.ref l],[("start",.int k t)]⟩=pure .unit:=⟨by kernel_rfl,by kernel_rfl⟩
def W6(k:Int)(t:Tok)(l:Addr)(a:Value):argsOk "object.__init__" ⟨[a,.ref l],[("start",.int k t)]⟩:=by
 unfold argsOk;rw[signature?_of (id:="object.__init__") (n:=['_','_','t','i','n','i','_','_']) (o:=['t','c','e','j','b','o']) (by kernel_rfl) F.owner_object];kernel_rfl
theorem Y1(l:Addr)(items:Array Value)(n:Nat)(b:Option Addr)(i:Array (Option Value))(t:Tok):
  Meets (Builtin.«enumerate.__new__» ⟨[.type "enumerate",.ref l],[("start",.int 1 t)]⟩) (λ_ R z=>z.heap.get? l=some {cls:= .type "list",dict:=b,data:= .seq items n,slots:=i}∧
   R (.ok (.ret (.ref (z.heap.push {cls:= .type "list_iterator",data:= .fields #[.ref l,.int 0 0]}).objs.size)))
    {z with heap:=(z.heap.push {cls:= .type "list_iterator",data:= .fields #[.ref l,.int 0 0]}).push {cls:= .type "enumerate",data:= .fields #[.none,.bool false,.ref z.heap.objs.size,rawInt 1,.none,.none]}}):=
 .of_wp λprog w A R z h=>by
  obtain⟨j,g,d,tk,os⟩:=z;obtain⟨a,h⟩:=h;have f:=sub_enumerate;have e:Heap.IsList (Shared.heap ⟨j,g,d,tk,os⟩) l items:=⟨_,a,rfl,n,rfl⟩
  wp_walk using ago a
  refine wpAny_stack_any λst=>rr ?_
  split
  .rename_i c _ _ _ _ _
   cases (c==Value.type "enumerate")
   .wp_walk using ago a,agh e
    exact⟨_,rfl,h⟩
   .wp_walk using ago a,agh e
    exact⟨_,rfl,h⟩
  .wp_walk using ago a,agh e
   exact⟨_,rfl,h⟩
section
variable{prog:Program}{w:World}{A:Around}{E:Value->Shared->Prop}{s:Shared}
def QQ{l:Addr}{items:Array Value}{t:Tok}{Q:Value->Shared->Prop}(p:s.heap.IsList l items)
  (h:∀g,IsEnum g (s.heap.objs.size+1) s.heap.objs.size 1 .none->g.IsListIter s.heap.objs.size l 0->g.objs.size=s.heap.objs.size+2→
   (∀b o,s.heap.get? b=some o->g.get? b=some o)->Q (.ref (s.heap.objs.size+1)) {s with heap:=g}):
  wpAny (model prog w) A (call (.type "enumerate") [.ref l] [("start",.int 1 t)]) Q E s:=by
 obtain⟨⟨c,a,q,j⟩,m,f,n,hd⟩:=p
 replace f:c=.type "list":=f
 replace hd:q=.seq items n:=hd
 subst f hd;refine X5 F.called_enumerate ∅ (Xe 1 t l).1 (Xe 1 t l).2 (W6 1 t l) F.entry_enumerate_new (Y1 l items n a j t) ⟨m,?_⟩;have e:(s.heap.push {cls:= .type "list_iterator",data:= .fields #[.ref l,.int 0 0]}).objs.size=s.heap.objs.size+1:=agB ..;show _/\_;rw[e]
 have i:IsEnum ((s.heap.push {cls:= .type "list_iterator",data:= .fields #[.ref l,.int 0 0]}).push
   {cls:= .type "enumerate",data:= .fields #[.none,.bool false,.ref s.heap.objs.size,rawInt 1,.none,.none]}) (s.heap.objs.size+1) s.heap.objs.size 1 .none:=by
  have:=xo (s.heap.push {cls:= .type "list_iterator",data:= .fields #[.ref l,.int 0 0]})
   (o:={cls:= .type "enumerate",data:= .fields #[.none,.bool false,.ref s.heap.objs.size,rawInt 1,.none,.none]}) rfl
  rw[e] at this;exact this
 exact⟨⟨_,i,rfl⟩,h _ i ⟨_,q4 _ (xo _ rfl),rfl,rfl⟩ (by rw[agB,e]) λb o x=>q4 _ (q4 _ x)⟩
def P5{it l:Addr}{items:Array Value}(k:Nat)(c:A.handled=none)(b:l≠it):
  Draws prog w A it [it,l] (k+items.size) (λi v=>items[i-k]? =some v) (λi h=>k<=i/\h.IsListIter it l (i-k)/\h.IsList l items):=by
 have D:=Draws.list (prog:=prog) (w:=w) c it l b items;refine⟨λi h st=>D.live _ h st.2,λi h h' st e=>⟨st.1,D.frame _ h h' st.2 e⟩,λi z Q E m st f=>?_,λz Q E st j=>D.done z Q E (by have:=st.2;rwa [agr] at this) j⟩;refine D.item (i-k) z Q E (by have:=st.1;lia) st.2 λx h' tk g a hs=>f x h' tk g ⟨by have:=st.1;lia,?_⟩ hs;rwa[show i+1-k=i-k+1 by have:=st.1;lia]
end
section
variable{X:Cx}{dI:List (Addr×Obj)}{σ:St}{H:Hp}{s:Shared}{h':Heap}
def Inv.ZW{t':Nat}{a b:Addr}(I:Inv X dI σ H s)(k:∀c o,c≠a->c≠b->s.heap.get? c=some o->h'.get? c=some o)(fa:jX X dI H a)(h:jX X dI H b):Inv X dI σ H {s with heap:=h',toks:=t'}:=by
 have i:∀c u,H c=some u->c≠a/\c≠b:=λc u e=>⟨λz=>(by rw[z,fa.1] at e;cases e),λz=>(by rw[z,h.1] at e;cases e)⟩;have g:∀c,c∉[a,b]->c≠a/\c≠b:=λc f=>⟨λz=>f (by simp[z]),λz=>f (by simp[z])⟩
 refine I.step (g':=s.gens) (d':=s.drawn) (ch:=[a,b]) (λc f=>?_) (λc o _ _ f e _=>k c o (g c f).1 (g c f).2 e) (λc o _ _ f e _=>⟨o.slots,k c o (g c f).1 (g c f).2 e⟩) (λ_ _ _ _ n=>n)
  (λc o f e=>⟨o,k c o (g c f).1 (g c f).2 e⟩) (λ_ _ e=>e) (λ_ _ _ e=>e) (λc ps e=>⟨#[],by rw[e];simp⟩) (λm p=>?_) (λc u e=>?_) I.bare
 .obtain ⟨_,a1,_,a3,a4,a5⟩:=fa;obtain⟨_,j,_,t,l,w⟩:=h;rcases ti.mp f with rfl|f
  .exact ⟨a3,a1,a4,a5⟩
  .rw[ro.mp f];exact⟨t,j,l,w⟩
 .obtain ⟨o,es,ep,ho,r⟩:=p;exact⟨o,es,ep,k _ o (Ne.symm fa.2.1) (Ne.symm h.2.1) ho,r⟩
 .have n:=i;refine(I.hok c u e).AG (λd v f q=>?_) (λ_ q=>q) λ_ _ q=>q;rcases f with z|z
  .rw[z];rw[z] at q;exact k c v (n c u e).1 (n c u e).2 q
  .exact k d v (n d _ z).1 (n d _ z).2 q
end
def Itn(K:PySem.W.Frag)(a:Addr)(k:Nat):It:=
 ⟨λi H=>∃xs x,fk K H a xs/\xs[i]? =some x,λi H x H'=>∃q y,H q=none/\x=.ref q/\(∀xs,fk K H a xs->xs[i]? =some y)/\H'=upd H q (.tup [.int ((k+i:Nat):Int),y]),λi H=>∃xs,fk K H a xs/\xs.length<=i⟩
def Uh{P:Program}{w:World}{K:PySem.W.Frag}{O:List Expr}{c}{tp:Pos}(a e it:Addr)(k:Nat)(M:e≠it):
  Turn P w K (.Tuple O c tp) (Itn K a k) [e,it] e (λi h=>(∃n,IsEnum h e it ((k+i:Nat):Int) n)/\h.IsListIter it a i) where
 mem:=by simp
 obj:=λi h st b j=>by
  rcases ti.mp j with rfl|j
  .obtain ⟨n,q⟩:=st.1;exact⟨_,q,λv z=>by cases z⟩
  .rw[ro.mp j];obtain⟨o,q,_,d⟩:=st.2;exact⟨o,q,λv z=>by rw[d] at z;cases z⟩
 keep:=λi h h' st kk=>⟨st.1.imp λn q=>kk e (by simp) _ q,st.2.at λo q=>kk it (by simp) o q⟩
 item:=by
  intro X t hw Y hc i f s σ H E I U st hg;subst t hw Y;obtain⟨xs,x,R,hx⟩:=hg;obtain⟨its,rv,p,hz⟩:=I.list R;obtain⟨u,hu,ru⟩:=rv.get hx;obtain⟨⟨n,C⟩,m⟩:=st;have fe:=U e (by simp);have fi:=U it (by simp);have an:i<its.length:=(uy.mp hu).1
  have Q:a≠it:=λz=>by
   obtain⟨o,q,c1,_⟩:=m;obtain⟨o2,B,L,_⟩:=p.isList;rw[z,q] at B;cases B;rw[c1] at L;exact absurd (ahK L) ∅
  have ab:e≠a:=λz=>by
   obtain⟨o2,B,L,_⟩:=p.isList;rw[<- z] at B;have:=iH (C.symm.trans B);rw[<- this] at L;exact absurd (ahK L) ∅
  have D:=P5 (prog:=X.prog) (w:=X.w) (A:=X.A.in1) (it:=it) (l:=a) (items:=its.toArray) k (I.ok.hd hc) Q;refine wpAny_pyNext_enum_itemD D C ⟨(),by rwa[agr],p.isList⟩ (by show k+i<k+its.toArray.size;simp;lia) M (by simp;exact⟨M,ab⟩) λy g tk t ho hs S hsz kk=>?_
  have ey:y=u:=by
   have t:its.toArray[k+i-k]? =some y:=t;rw[agr] at t;have al:its.toArray[i]? =some u:=by simpa using hu
   rw[al] at t;exact(iH t).symm
  subst ey;refine⟨_,rfl,wpAny_letOwnedTupleGo_enum ho λg2 am N=>?_⟩;have G:s.heap.objs.size≠e:=agN (nr C);have J:s.heap.objs.size≠it:=by obtain⟨_,q,_⟩:=m;exact agN (nr q)
  have f0:H s.heap.objs.size=none:=I.fresh
  have I1:Inv X f σ (upd H s.heap.objs.size (.tup [.int ((k+i:Nat):Int),x])) {s with heap:=s.heap.push {cls:= .type "tuple",data:= .seq #[.int ((k+i:Nat):Int) tk,y]},toks:=tk+1}:=
   I.laid (λb o q=>q4 _ q) (fC _) ⟨afC (aV (show 2<=1000 by decide)),[_,_],.cons ⟨_,rfl⟩ (.cons ru .nil),⟨_,xo _ rfl,rfl,_,rfl⟩⟩
  have r:∀b,jX X f H b->b≠s.heap.objs.size->jX X f (upd H s.heap.objs.size (.tup [.int ((k+i:Nat):Int),x])) b:=λb fb j=>⟨by rw[ai j];exact fb.1,fb.2⟩
  have I2:=Inv.ZW (h':=g2) (t':=tk+1) I1 (a:=e) (b:=it) (λb o h1 h2 q=>by
   by_cases j:b=s.heap.objs.size
   .subst j;have q':=xo s.heap (o:={cls:= .type "tuple",data:= .seq #[.int ((k+i:Nat):Int) tk,y]}) rfl;rw[q'] at q;cases q;exact(N.2 _ h1).trans S
   .refine (N.2 _ h1).trans (kk b o h1 h2 ?_);exact(Heap.get?_push_ne _ _ _ j).symm.trans q) (r e fe (Ne.symm G)) (r it fi (Ne.symm J))
  refine⟨.ref s.heap.objs.size,_,I2,rfl,⟨_,x,f0,rfl,λys hy=>by rwa[I.BY hy R],rfl⟩,⟨⟨_,by simpa[Int.add_assoc] using am⟩,?_⟩,λb j=>?_⟩
  .have:=hs.2.1;rw[show k+i+1-k=i+1 by lia] at this;exact this.at λo q=>(N.2 it (Ne.symm M)).trans q
  .rcases ti.mp j with rfl|j
   .exact (r _ fe (Ne.symm G)).1
   .rw[ro.mp j];exact(r _ fi (Ne.symm J)).1
 done:=by
  intro X t hw Y hc i f s σ H E I U st hg;subst t hw Y;obtain⟨xs,R,hx⟩:=hg;obtain⟨its,rv,p,hz⟩:=I.list R;obtain⟨⟨n,C⟩,m⟩:=st;obtain⟨f0,f1,f2,f3,f4,f5⟩:=U it (by simp);have hl:=rv.length
  have Q:a≠it:=λz=>by
   obtain⟨o,q,c1,_⟩:=m;obtain⟨o2,B,L,_⟩:=p.isList;rw[z,q] at B;cases B;rw[c1] at L;exact absurd (ahK L) ∅
  have S:s.TypeIs (.ref e) "enumerate":=⟨_,C,rfl⟩;unfold pyNext
  refine ko (wpAny_attempt (wpAny_callSpecial?_slot (name:=Str.ofString "__next__") S F.slot_enumerate_next
   (wpAny_call_entry F.slot_enumerate_next S F.entry_enumerate_next ?_ (F.args_enumerate_next_1 _))))
  show wpAny _ _ (field (.ref e) 2 >>= _) _ _ _;refine ko (ahn C rfl (x:= .ref it) rfl ?_);refine ko (wpAny_nextOf_list_end (I.ok.hd hc) m p.isList (Array.getElem?_eq_none (by simp;lia)) λg x ac ad=>?_);obtain⟨o,ho,Z⟩:=ad;refine ko (wpAny_isInstance (T:="StopIteration") (b:=true) ⟨o,ho,Z⟩ isSubtype_stop ?_);exact rr ⟨rfl,I.turned (t':=s.toks) (λb o j q=>ac b o j q) f0 f1 f3 f4 f5⟩
 self:=λ_ _ _ _ _ st h=>by
  obtain⟨⟨n,C⟩,_⟩:=st;exact wpAny_pyIter_enum C h
section
variable{X:Cx}{elts:List Expr}{c}{tp:Pos}
def RA{e:List (Addr×Obj)}{h:St}{H:Hp}{s:Shared}{R:It->Hp->Prop}{E:Value->Shared->Prop}{a:Addr}{g:Heap}{k:Nat}(I:Inv X e h H s)(i:IsEnum g (s.heap.objs.size+1) s.heap.objs.size (k:Int) .none)(j:g.IsListIter s.heap.objs.size a 0)
  (kk:∀b o,s.heap.get? b=some o->g.get? b=some o) (q:R (Itn X.K a k) H):wpAny (model X.prog X.w) X.A (pyIter (.ref (s.heap.objs.size+1))) (PIE X e h (.Tuple elts c tp) R) E {s with heap:=g}:=by
 refine wpAny_pyIter_enum i ?_;refine⟨s.heap.objs.size+1,[s.heap.objs.size+1,s.heap.objs.size],_,_,H,rfl,I.kept (t':=s.toks) kk,Uh a _ _ k (Nat.succ_ne_self _),⟨⟨_,i⟩,j⟩,λb f=>?_,q⟩;rcases ti.mp f with rfl|f
 .exact I.PX (af8 _) (I.hok.fresh (af8 _))
 .rw[ro.mp f];exact I.PX (fC _) (I.hok.fresh (fC _))
def aaC(K:PySem.W.Frag)(k:Nat)(e:TA):TI:=λf H R=>e f H λvs b=>∃a,vs=[.ref a]/\(∃xs,fk K b a xs)/\R (Itn K a k) b
def Zs{l:Expr}{j:TA}{p b:Pos}(w:Gl X "enumerate")(u:X.mg "enumerate"=none)(t:PA X [l] j)(hs:starEach [l] X.env=[(false,eval l X.env)]:=by rfl):
  PI X (.Tuple elts c tp) (.Call (.Name "enumerate" p) [l] [] b) (aaC X.K 0 j):=by
 intro i s A H R I h;refine Call_ (xV I w u boot_enumerate (afV (t.th I h λus D vs z f o m=>?_) hs rfl));obtain⟨a,e,⟨xs,v⟩,q⟩:=m;subst e;cases o with
 |cons r n=>
  cases n;cases r;obtain⟨its,C,pl,B⟩:=f.list v;exact call_enumerate_list pl.isList λg x y hsz kk=>RA f (k:=0) x y kk q
def Vz{M:Model}{A:Around}{E:Value->Shared->Prop}{s:Shared}{e:Pos}{T:String}{vs:List (Bool×Sem Value)}{b:List (Option Str×Sem Value)}{Q:Value->Shared->Prop}(j:vs.any (·.1)=false)(f:b.any (·.1.isNone)=false)
  (h:wpAny M A (evalArgs (.type T) true vs b) (λa z=>wpAny M A (call (.type T) a.pos a.kw) Q E z) E s):wpAny M A (callWith e (.type T) [] vs b) Q E s:=by
 unfold callWith;refine ko (ag0 (xm h (λa z i=>ko (ahr ?_)) λ_ _ x=>x));simp only[j,f,agg];refine ko (rr (ko (xm i (λr l g=>?_) λ_ _ x=>x)));exact ko (ag0 (wpAny_point (rr g)))
def X3{l:Expr}{m:TA}{p b n u:Pos}{j}(E:Gl X "enumerate")(C:X.mg "enumerate"=none)(B:PA X [l] m)(hs:starEach [l] X.env=[(false,eval l X.env)]:=by rfl):
  PI X (.Tuple elts c tp) (.Call (.Name "enumerate" p) [l] [⟨some "start",.Constant (.int 1) j u,n⟩] b) (aaC X.K 1 m):=by
 intro f s v H R I h;show wpAny _ _ (do callWith b (<- eval (.Name "enumerate" p) X.env) [] (backTo b (starEach [l] X.env)) (backToKw b (keywordEach [⟨some "start",.Constant (.int 1) j u,n⟩] X.env))) _ _ _;refine ko (xV I E C boot_enumerate (Vz (by rw[hs];rfl) rfl ?_));rw[show backTo b (starEach [l] X.env)=(false,eval l X.env)::backTo b [] by rw[hs];rfl];refine evalArgs_kwB rfl ?_;have o:=B b f s v H _ I h;rw[show backTo b (starEach [l] X.env)=(false,eval l X.env)::backTo b [] by rw[hs];rfl] at o;refine nh o λus i ⟨vs,F,t,A,w⟩=>kws_cons ?_;obtain⟨a,e,⟨xs,D⟩,q⟩:=w;subst e;cases A with
 |cons r x=>
  cases x;cases r;refine wpAny_Constant_int (kws_nil ?_);obtain⟨its,G,pl,J⟩:=(t.tok (i.toks+1)).list D;exact QQ (s:={i with toks:=i.toks+1}) pl.isList λg y z hsz kk=>RA (t.tok (i.toks+1)) (k:=1) y z kk q
def Itd(n:Nat):It:=⟨λi _=>i<n,λi H x H'=>H'=H/\x=.int ((n:Int)-1-i),λi _=>n<=i⟩
def SK{P:Program}{w:World}{K:PySem.W.Frag}{G:Expr}(it:Addr)(n:Nat):Turn P w K G (Itd n) [it] it (λi h=>IsRangeIter h it (((n:Int)-1)+(i:Nat)*(-1)) ((n:Int)-(i:Nat)) (-1)) where
 mem:=by simp
 obj:=λi h st b f=>by
  rw[ro.mp f]
  exact⟨_,st,λv z=>by
   have N:Data.fields _=Data.cell v:=z;cases N⟩
 keep:=λi h h' st k=>k it (by simp) _ st
 item:=by
  intro X B A r m i a s D H E I l st q;subst B A r;obtain⟨u,p,L,C,x,y⟩:=l it (by simp);have W:=Walks.range (prog:=X.prog) (w:=X.w) (I.ok.hd m) it ((n:Int)-1) (-1) n;refine W.item i s _ _ q st λv g tk M j kk=>?_;obtain⟨t,rfl⟩:=M;have F:Inv X a D H {s with heap:=g,toks:=tk}:=I.turned (λb o f e=>kk b o (by simpa using f) e) u p C x y;refine⟨_,rfl,XT (s:={s with heap:=g,toks:=tk}) (n:="range_iterator") j rfl rfl ∅ ⟨.int ((n:Int)-1-i),H,F,⟨t,?_⟩,⟨rfl,rfl⟩,j,λb f=>(l b f).1⟩⟩;rw[show (n:Int)-1+(i:Int)* -1=(n:Int)-1-i by lia]
 done:=by
  intro X B A r m i a s D H E I l st q;subst B A r;obtain⟨u,p,L,C,x,y⟩:=l it (by simp);exact wpAny_pyNext_range_end (I.ok.hd m) st (by have:n<=i:=q;lia) λg J=>⟨rfl,I.turned (t':=s.toks) (λb o f e=>J b o f e) u p C x y⟩
 self:=λ_ _ _ _ _ st h=>wpAny_pyIter_rangeiter st h
def acK(b:TA):TI:=λe H R=>b e H λvs a=>∃n:Nat,vs=[.int ((n:Int)-1),.int (-1),.int (-1)]/\n<=1000000/\R (Itd n) a
def YC{D a b c:Expr}{w:TA}{p m:Pos}(K:Gl X "range")(J:X.mg "range"=none)(F:PA X [a,b,c] w)(hs:starEach [a,b,c] X.env=[(false,eval a X.env),(false,eval b X.env),(false,eval c X.env)]:=by rfl)(j:starEach [b,c] X.env=[(false,eval b X.env),(false,eval c X.env)]:=by rfl):
  PI X D (.Call (.Name "range" p) [a,b,c] [] m) (acK w):=by
 intro i s y H R I h;refine Call_ (xV I K J boot_range (afV (F.th I h λus f vs v C l z=>?_) (by rw[hs,j]) (by rw[j];rfl)));obtain⟨n,e,L,q⟩:=z;subst e;cases l with
 |cons l g=>
  cases g with
  |cons G g=>
   cases g with
   |cons x g=>
    cases g;obtain⟨t1,rfl⟩:=l;obtain⟨u,rfl⟩:=G;obtain⟨t,rfl⟩:=x
    have sz:Builtin.Range.rangeSize ((n:Int)-1) (-1) (-1)=n:=by
     unfold Builtin.Range.rangeSize;rw[er ∅];by_cases A:n=0
     .subst A
      rfl
     .rw[eE ()];show((n:Int)-1- -1-1)/1+1=n;rw[Int.ediv_one]
      lia
    refine call_range_3 ∅ ?_ (.inl (PyProof.noPylong_small ()))
    have B:Builtin.Range.small ((n:Int)-1) (-1) (-1)=true:=by
     unfold Builtin.Range.small;rw[sz,er (show ¬(-1:Int) > 0 by decide)];simp only[Builtin.Range.rangeFitsLong,oT,afQ,decide_eq_true_eq,S4]
     lia
    refine wpAny_pyIter_range (IsRange.new ..) B ?_;have r:Inv X i y v {f with heap:=f.heap.push {cls:= .type "range",data:= .fields #[.int ((n:Int)-1) t1,.int (-1) u,.int (-1) t]},toks:=f.toks}:=C.kept λb o e=>q4 _ e;refine⟨_,[(f.heap.push {cls:= .type "range",data:= .fields #[.int ((n:Int)-1) t1,.int (-1) u,.int (-1) t]}).objs.size],_,_,v,rfl,r.kept (t':=f.toks) λb o e=>q4 _ e,SK _ n,?_,λb E=>?_,q⟩
    .show IsRangeIter _ _ ((n:Int)-1+((0:Nat):Int)* -1) ((n:Int)-((0:Nat):Int)) (-1);rw[show (n:Int)-1+((0:Nat):Int)* -1=(n:Int)-1 by lia,show(n:Int)-((0:Nat):Int)=n by lia];have:=xo (f.heap.push {cls:= .type "range",data:= .fields #[.int ((n:Int)-1) t1,.int (-1) u,.int (-1) t]}) (o:={cls:= .type "range_iterator",data:= .fields #[rawInt ((n:Int)-1),rawInt (Builtin.Range.rangeSize ((n:Int)-1) (-1) (-1)),rawInt (-1)]}) rfl;rw[sz] at this;rwa[sz]
    .rw[ro.mp E];exact r.PX (fC _) (r.hok.fresh (fC _))
end
section
variable{X:Cx}{k:Nat}{cm:Bool}{C:Addr}{sp:Sp}{oi:List V}{E:St->XK}{x:Str}{p pos:Pos}
def YF(c:Mak X.prog X.w X.K X.mg X.dH cm k x C sp oi)(i:eA cm (k+1) X.A)(h:Gl X x)(g:Passes (fw X.prog X.w) X E)(a:(x==("__debug__":Str))=false:=by decide):
  PE X (.Call (.Name x p) [] [] pos) (RK C sp oi E V7):=by
 obtain⟨f,fd,ps,ds,M,F,e,b,hd⟩:=c;exact Ws M F i h e b hd g a
end
def KO{X:Cx}{K0:PySem.W.Frag}{e:Expr}{f:Str}{a:Pos}{b:TE}(g:X.K=K0)(h:PE X e b)(c:attributeBase e f X.env (eval e X.env)=eval e X.env):PE X (.Attribute e f a) (acQ K0 b f):=by
 subst g;exact aw h c
def tY{J:It}{n:Nat}{g:TG}{l:TS}{D:Ends}{a:St}{H:Hp}(b:Nat->St->Hp->Prop)(q:b 0 a H)(r:∀i a H,i<n->b i a H->J.go i H)
  (hs:∀i a H x H',i<n->b i a H->J.yld i H x H'->g x a H' λc h=>l {D with nx:=b (i+1),ct:=b (i+1),bk:=D.nx} c h) (hd:∀a H,b n a H->J.stop n H/\D.nx a H):
  ∃W:Nat->Nat->St->Hp->Prop,(∃m,W 0 m a H)/\∀i m a H,W i m a H→
   (J.stop i H/\D.nx a H)\/(J.go i H/\∃N:St->Hp->Prop,(∀f H',N f H'->∃j,j<m/\W (i+1) j f H')/\∀x H',J.yld i H x H'->g x a H' λc h=>l {D with nx:=N,ct:=N,bk:=D.nx} c h):=by
 refine⟨λi m a H=>m=n-i/\i<=n/\b i a H,⟨n,rfl,vr _,q⟩,?_⟩;rintro i m a H ⟨rfl,s,p⟩;by_cases e:i<n
 .exact .inr ⟨r i a H e p,b (i+1),λf H' o=>⟨n-(i+1),(),rfl,e,o⟩,λx H' y=>hs i a H x H' e p y⟩
 .obtain rfl:i=n:=by lia
  exact .inl (hd a H p)
def aa2:bootBuiltins "sum"=some (.builtin "sum"):=by decide +kernel
def int_at{a:List Int}{its:List Value}{i:Nat}{v:Value}(r:Vals (a.map V.int) its)(e:its[i]? =some v):∃t,v=.int (a.getD i 0) t:=by
 have g:=r.length
 have h:i<a.length:=by
  have:=(uy.mp e).1;rw[gm] at g
  lia
 have f:a[i]? =some a[i]:=gy h;obtain⟨u,c,b⟩:=r.get (show(a.map V.int)[i]? =some (V.int a[i]) by rw[jl,f];rfl);rw[e] at c;cases c;obtain⟨t,b⟩:=b;refine⟨t,?_⟩;rw[b,ry,f]
 rfl
theorem qb(a:List Int):∀k,k<=a.length->preSum (λi=>a.getD i 0) k=(a.take k).sum
 |0,_=>rfl
 |k+1,h=>by
  have b:=qb a k ();show preSum (λi=>a.getD i 0) k+a.getD k 0=_;rw[b,aft,gy (),ahe,ry,gy ()];simp
def Ek{b:List Int}(h:∀n∈b,0<=n)(k:Nat):0<=(b.take k).sum/\(b.take k).sum<=b.sum:=by
 have e:∀l:List Int,(∀n∈l,0<=n)->0<=l.sum:=λl f=>by
  induction l with
  |nil=>exact afS _
  |cons a r g=>
   rw[ahv];have i:=f a ov;have j:=g λn c=>f n (ri _ c)
   lia
 have i:=e (b.take k) λn c=>h n (List.mem_of_mem_take c);have j:=e (b.drop k) λn c=>h n (List.mem_of_mem_drop c);have m:b.sum=(b.take k).sum+(b.drop k).sum:=by rw[<- ahe,ag7]
 lia
section
variable{X:Cx}
def Yd(B:X.calm=true):sY X (.builtin "sum") (λxs H Q=>∃(p:Addr) (a:List Int),xs=[.ref p]/\fk X.K H p (a.map V.int)/\(∀n∈a,0<=n)/\a.sum<2^63/\Q (.int a.sum) H):=by
 intro w s M H xs us Q I r h;obtain⟨p,a,rfl,C,l,D,q⟩:=h;obtain⟨u,rfl,y⟩:=vals1 r;cases y;obtain⟨its,x,E,O⟩:=I.list C;have t:=E.isList;have c:p<s.heap.objs.size:=by obtain⟨_,e,_⟩:=t;exact nr e
 have f:its.length=a.length:=by have:=x.length;rw[gm] at this;lia
 refine call_sum_walk (agh t ?_)
 refine⟨s.heap.objs.size,[s.heap.objs.size,p],[s.heap.objs.size],its.toArray.size,_,_,λi=>a.getD i 0,rfl,Walks.list (A:=X.A.in1) (I.ok.hd B) _ p (nz c) its.toArray,
  ⟨⟨_,xo _ rfl,rfl,rfl⟩,t.push _⟩,λb m=>?_,λi v G=>int_at x (by simpa using G),λj g=>?_,λh' tk t' L=>?_⟩
 .show b<(s.heap.push _).objs.size;rw[agB];rcases ti.mp m with rfl|m
  .exact afn _
  .rw[ro.mp m];exact Nat.lt_succ_of_lt c
 .have g:j<a.length:=by
   have:its.toArray.size=its.length:=ki
   lia
  have J:=Ek l j;have F:=Ek l (j+1);rw[<- qb a (j+1) ()] at F;rw[<- qb a j ()] at J;have P:preSum (λi=>a.getD i 0) (j+1)=preSum (λi=>a.getD i 0) j+a.getD j 0:=rfl;have N:0<=a.getD j 0:=by rw[ry,gy g];exact l _ (M5 g)
  exact⟨⟨by show -(2^63)<=a.getD j 0;lia,by show a.getD j 0<2^63;lia⟩,⟨(),()⟩⟩
 .rw[ki,f,qb a _ (fC _),afx];refine⟨.int a.sum,H,I.kept (t':=tk) λb o e=>L b o (λz=>?_) (q4 _ e),⟨_,rfl⟩,q⟩;rw[ro.mp z] at e;exact afK _ (nr e)
def Bz:MtM X "int.bit_length" (λx vs H Q=>∃i:Int,x=.int i/\vs=[]/\Q (.int (Builtin.Int.intBits i:Nat)) H):=by
 intro a s e H x vs v us Q I b c h;obtain⟨i,rfl,rfl,q⟩:=h;obtain⟨t,rfl⟩:=b;cases c;exact call_int_bit_length ⟨.int _,H,I.tok _,⟨_,rfl⟩,q⟩
end
section
variable{X:Cx}{k:Nat}{cm:Bool}{sp:Sp}{oi:List V}{x m:Str}{p pos apos:Pos}{e o a b i:Expr}{es:List Expr}{t:TA}{ta tb te td ty:TE}{C:Addr}{CX:M4}
theorem cb(c:jm X.i1.prog X.i1.w X.i1.K X.i1.mg X.i1.dH cm k x sp oi)(j:PA X.i1 (e::es) t)(l:eA cm k X.i1.A:=by exact eA.mono (by assumption) ())(h:Gl X.i1 x:=by rfl)
  (g:(x==("__debug__":Str))=false:=by decide) (n:starEach (e::es) X.i1.env=(false,eval e X.i1.env)::starEach es X.i1.env:=by rfl) (f:(backTo pos (starEach es X.i1.env)).any (·.1)=false:=by rfl):
  PE X.i1 (.Call (.Name x p) (e::es) [] pos) (NR sp oi XNo t):=Fz c l h cq j g n f
theorem nt{Dt:Addr->Sp->List V->Prop}{pl:Sem Bool}(r:PE X.i1 o ta)(n:∀C sp oi,Dt C sp oi->MethAt X.i1.prog X.i1.w X.i1.K X.i1.mg X.i1.dH (fw X.i1.prog X.i1.w) cm k m C sp oi)(j:PA X.i1 (e::es) t)(q:eA cm k X.i1.A:=by exact eA.mono (by assumption) ())
  (c:starEach (e::es) X.i1.env=(false,eval e X.i1.env)::starEach es X.i1.env:=by rfl) (g:(backTo pos (starEach es X.i1.env)).any (·.1)=false:=by rfl)
  (l:eval (.Call (.Attribute o m apos) (e::es) [] pos) X.i1.env=(do
   let h<-eval o X.i1.env
   standAt apos.atName
   let (f,first)<-holding [h] (getMethod h m pl)
   callWith pos f first (backTo pos (starEach (e::es) X.i1.env)) (backToKw pos (keywordEach [] X.i1.env))):=by rfl):
  PE X.i1 (.Call (.Attribute o m apos) (e::es) [] pos) (ML Dt m XNo ta t):=xn r n q cq j c g l
theorem jd{Dt:Addr->Sp->List V->Prop}{pl:Sem Bool}(h:PE X.i1 o ta)(j:∀C sp oi,Dt C sp oi->MethAt X.i1.prog X.i1.w X.i1.K X.i1.mg X.i1.dH (fw X.i1.prog X.i1.w) cm k m C sp oi)(l:eA cm k X.i1.A:=by exact eA.mono (by assumption) ())
  (g:eval (.Call (.Attribute o m apos) [] [] pos) X.i1.env=(do
   let c<-eval o X.i1.env
   standAt apos.atName
   let (f,first)<-holding [c] (getMethod c m pl)
   callWith pos f first (backTo pos (starEach [] X.i1.env)) (backToKw pos (keywordEach [] X.i1.env))):=by rfl):
  PE X.i1 (.Call (.Attribute o m apos) [] [] pos) (ML Dt m XNo ta V7):=iX h j l cq g
theorem bq{i:Nat}{c:Pos}(j:X.N.Nodup)(l:PE X e te)(h:X.N[i]? =some x:=by rfl)(f:Loc X.env.scope x:=by first|exact Or.inl rfl|exact Or.inr rfl)(hs:swapsWith e (some (.Name x c)) pos.line X.env=pure false:=by rfl)(g:X.fn x=true\/X.env.scope.names.lookup x=some .local:=by first|exact .inl rfl|exact .inr rfl|assumption):
  PS X (.Assign [.Name x c] e pos) (aao te (Ii i)):=acw j h f l hs g
theorem hD{r:R2}(g:IxR X r)(f:PE X a ta)(c:PE X b tb)(hs:Sd b:=by exact λ_ _=>rfl):PE X (.Subscript a b pos) (tOp r ta tb):=ac3 g f c hs
theorem zdg(g:PE X o td)(f:PE X i ty)(c:X.A.units+1<cLine:=by exact Ku (by assumption))(hs:abg i:=by exact λ_ _=>rfl):PE X (.Subscript o i pos) (aaX td ty):=Zg c g f hs
theorem wx{c:CmpOp}{r:R2}(j:nN X (compareOp c) r)(g:PE X a ta)(f:PE X b tb)(h:behindInMarks c b=false:=by first|exact FO _|with_unfolding_all rfl):PE X (.Compare a [c] [b] pos) (tOp r ta tb):=Rc j g f h
theorem iw{c:CmpOp}{r:R2}(j:nN X (compareOp c) r)(g:PE X a ta)(f:PE X b tb)(h:behindInMarks c b=false:=by first|exact FO _|with_unfolding_all rfl):PT X (.Compare a [c] [b] pos) (Yk (tOp r ta tb)):=Fx j g f h
end
section
variable{s1 s2 s3 rest t u:TS}{c:TT}{D:Ends}{σ:St}{H:Hp}
theorem VS(M:St->Hp->Prop)(b:∀N:St->Hp->Prop,(∀a H',M a H'->N a H')->s1 {D with nx:=λσ H=>s2 {D with nx:=N} σ H} σ H)(e:∀a H',M a H'->rest D a H'):jf s1 (jf s2 rest) D σ H:=b _ e
theorem W4(M:St->Hp->Prop)(b:∀N:St->Hp->Prop,(∀a H',M a H'->N a H')->s1 {D with nx:=λσ H=>s2 {D with nx:=λσ H=>s3 {D with nx:=N} σ H} σ H} σ H)(e:∀a H',M a H'->rest D a H'):jf s1 (jf s2 (jf s3 rest)) D σ H:=b _ e
theorem WC{f g b e:TS}(M:St->Hp->Prop)(i:∀N:St->Hp->Prop,(∀a H',M a H'->N a H')->jf s1 (jf s2 (jf s3 (jf f (jf g (jf b e))))) {D with nx:=N} σ H)(h:∀a H',M a H'->rest D a H'):jf s1 (jf s2 (jf s3 (jf f (jf g (jf b (jf e rest)))))) D σ H:=i _ h
theorem aco(b:Bool)(a:∀N:Bool->Hp->Prop,N b H->c σ H N)(e:if b=true then t D σ H else u D σ H):adQ c t u D σ H:=a _ e
end
end L2
local macro_rules|`(tactic|erw[$e:term])=>`(tactic|refine $e)
namespace Hr
open PySem L2 Shp Tr Hs Hm
abbrev nS:=Hp->Addr->List Row->FS->Prop
structure HC where
 cH:Addr
 cL:Addr
 cM:Addr
structure Lo where
 x:Addr
 dx:Addr
 en:Addr
 qu:Addr
 sa:Addr
 t:Addr
 nd:Nat->Addr
 dn:Nat->Addr
 mi:Nat->Addr
 ch:Nat->Addr
structure Dy where
 fa:Nat->Addr
 wa:Nat->Addr
 bk:List Addr
 qs:List Addr
inductive Lb
 |hs
 |en
 |qu
 |nd (i:Nat)
 |fa (i:Nat)
 |wa (i:Nat)
def Lb.at(L:Lo)(D:Dy):Lb->Addr
 |.hs=>L.x
 |.en=>L.en
 |.qu=>L.qu
 |.nd i=>L.nd i
 |.fa i=>D.fa i
 |.wa i=>D.wa i
def vl(T:List Row):Lb->Prop
 |.nd i=>i<T.length
 |.fa i=>i<T.length/\fm T i=false
 |.wa i=>i<T.length/\fm T i=false
 |_=>True
def fsH(L:Lo)(S:HS):List (Str×V):=[("tree",.ref L.t),("clock",.int S.clk),("entries",.ref L.en),("ends",.ref L.qu),("standings",.ref L.sa)]
def tw(T:List Row)(L:Lo)(i:Nat):V:=match par T i with
 |none=>.non
 |some m=>.ref (L.nd m)
def pE(T:List Row)(L:Lo)(d:Nd)(i:Nat):List (Str×V):=[("child",.ref (L.ch i)),("state",.str d.st),("asked",.bl d.asked),("minder",tw T L i),("place",.int ((hH T i:Nat):Int)),("minded",.ref (L.mi i))]
def fsL(d:Nd):List (Str×V):=[("begun_at",.int d.beg),("steps",.int d.steps),("needed",.int d.need),("granted",.int d.eQ)]
def rx(fa wa:Addr)(d:Nd):List (Str×V):=[("falls",.ref fa),("good",.int ((d.good:Nat):Int)),("waiting",.ref wa),("leaving",.int ((d.dQ:Nat):Int)),("coming",.int ((d.com:Nat):Int)),("gave_up",.bl d.Em)]
def mu(T:List Row)(L:Lo)(D:Dy)(d:Nd)(i:Nat):List (Str×V):=pE T L d i++if fm T i then fsL d else rx (D.fa i) (D.wa i) d
def bu(C:HC)(T:List Row)(i:Nat):Addr:=if fm T i then C.cL else C.cM
def cont(C:HC)(T:List Row)(L:Lo)(D:Dy)(S:HS):Lb->HO
 |.hs=>.ins C.cH L.dx (fsH L S)
 |.en=>.lst (D.bk.map V.ref)
 |.qu=>.lst (D.qs.map V.ref)
 |.nd i=>.ins (bu C T i) (L.dn i) (mu T L D (S.nd i) i)
 |.fa i=>.lst ((S.nd i).aG.map V.int)
 |.wa i=>.lst ((S.nd i).wait.map λj=>V.ref (L.nd j))
def Wj(L:Lo)(e:Nat×Str):List V:=[.ref (L.nd e.1),.str e.2]
structure Rp(R:Rep)(TR:nS)(C:HC)(T:List Row)(L:Lo)(FT:FS)(D:Dy)(S:HS)(H:Hp):Prop where
 cells:∀l,vl T l->H (l.at L D)=some (cont C T L D S l)
 inj:∀l l',vl T l->vl T l'->l.at L D=l'.at L D->l=l'
 sa:H L.sa=some (.lst ((List.range T.length).map λi=>V.ref (L.nd i)))
 mi:∀i,i<T.length->H (L.mi i)=some (.lst ((kids T i).map λj=>V.ref (L.nd j)))
 ch:∀i,i<T.length->∃o,H (L.ch i)=some o/\∀H':Hp,H' (L.ch i)=some o->R H' (L.ch i) (sh T i)
 tr:TR H L.t T FT
 own:∀b,FT b->H b≠none
 bkl:D.bk.length=S.book.length
 bk:∀(k:Nat) (a:Addr) (e:Ent),D.bk[k]? =some a->S.book[k]? =some e->H a=some (.tup (QS e))
 qsl:D.qs.length=S.ends.length
 qs:∀(k:Nat) (a:Addr) (e:Nat×Str),D.qs[k]? =some a->S.ends[k]? =some e->H a=some (.tup (Wj L e))
 far:∀l,vl T l->l.at L D≠L.sa/\(∀i,i<T.length->l.at L D≠L.mi i/\l.at L D≠L.ch i)/\¬FT (l.at L D)
section
variable{R:Rep}{TR:nS}{C:HC}{T:List Row}{L:Lo}{FT:FS}{D D':Dy}{S S':HS}{H H':Hp}
def jE(TR:nS):Prop:=∀(H H':Hp) (t:Addr) (T:List Row) (FT:FS),(∀b o,FT b->H b=some o->H' b=some o)->TR H t T FT->TR H' t T FT
def U8(l:Lb)(xs:List V):cont C T L D S l≠ .tup xs:=by
 cases l<;>exact λz=>by cases z
theorem Rp.Ke(h:Rp R TR C T L FT D S H){a:Addr}{xs:List V}(e:H a=some (.tup xs)):∀l,vl T l->a≠l.at L D:=λl b z=>by
 rw[z,h.cells l b] at e;exact U8 l xs (iH e)
def Rp.next(p:jE TR)(h:Rp R TR C T L FT D S H)(u:∀l,vl T l->H' (l.at L D')=some (cont C T L D' S' l))(j:∀b o,(∀l,vl T l->b≠l.at L D)->H b=some o->H' b=some o)
  (q:∀l,vl T l->l.at L D'=l.at L D\/H (l.at L D')=none) (x:∀l c,vl T l->vl T c->H (l.at L D')=none->H (c.at L D')=none->l.at L D'=c.at L D'->l=c) (r:D'.bk.length=S'.book.length) (w:∀(k:Nat) (a:Addr) (e:Ent),D'.bk[k]? =some a->S'.book[k]? =some e->H' a=some (.tup (QS e)))
  (s:D'.qs.length=S'.ends.length) (t:∀(k:Nat) (a:Addr) (e:Nat×Str),D'.qs[k]? =some a->S'.ends[k]? =some e->H' a=some (.tup (Wj L e))):Rp R TR C T L FT D' S' H':=by
 erw[⟨u,λl c v n e=>?_,?_,λi f=>?_,λi f=>?_,?_,λb m=>?_,r,w,s,t,λl v=>?_⟩]
 .rcases q l v with z|z<;>rcases q c n with g|g
  .exact h.inj l c v n (by rw[<- z,<-g,e])
  .rw[<- e,z,h.cells l v] at g;cases g
  .rw[e,g,h.cells c n] at z;cases z
  .exact x l c v n z g e
 .exact j _ _ (λl v z=>(h.far l v).1 z.symm) h.sa
 .exact j _ _ (λl v z=>((h.far l v).2.1 i f).1 z.symm) (h.mi i f)
 .obtain ⟨o,e1,e2⟩:=h.ch i f;exact⟨o,j _ _ (λl v z=>((h.far l v).2.1 i f).2 z.symm) e1,e2⟩
 .exact p H H' _ _ _ (λb o m e=>j b o (λl v z=>(h.far l v).2.2 (z ▸ m)) e) h.tr
 .cases e:H b with
  |none=>exact absurd e (h.own b m)
  |some o=>rw[j b o (λl v z=>(h.far l v).2.2 (z ▸ m)) e];exact λz=>by cases z
 .rcases q l v with z|z
  .rw[z];exact h.far l v
  .refine ⟨λy=>?_,λi f=>⟨λy=>?_,λy=>?_⟩,λy=>h.own _ y z⟩
   .rw[y,h.sa] at z;cases z
   .rw[y,h.mi i f] at z;cases z
   .obtain ⟨o,e1,_⟩:=h.ch i f;rw[y,e1] at z;cases z
structure Goes0(R:Rep)(TR:nS)(C:HC)(T:List Row)(L:Lo)(FT:FS)(D:Dy)(H:Hp)(D':Dy)(S':HS)(H':Hp):Prop where
 rp:Rp R TR C T L FT D' S' H'
 kp:∀b o,(∀l,vl T l->b≠l.at L D)->H b=some o->H' b=some o
 fr:∀l,vl T l->l.at L D'=l.at L D\/H (l.at L D')=none
 al:∀b,H' b=none->H b=none
structure Goes(R:Rep)(TR:nS)(C:HC)(T:List Row)(L:Lo)(FT:FS)(D:Dy)(H:Hp)(D':Dy)(S':HS)(H':Hp):Prop extends Goes0 R TR C T L FT D H D' S' H' where
 fb:∀a,a∈D'.bk->a∈D.bk\/H a=none
theorem Goes.refl(h:Rp R TR C T L FT D S H):Goes R TR C T L FT D H D S H:=⟨⟨h,λ_ _ _ e=>e,λ_ _=>.inl rfl,λ_ e=>e⟩,λ_ e=>.inl e⟩
def Goes0.trans{i:Dy}{f:HS}{h:Hp}(g:Goes0 R TR C T L FT D H D' S' H')(a:Goes0 R TR C T L FT D' H' i f h):Goes0 R TR C T L FT D H i f h:=by
 erw[⟨a.rp,λb o c e=>a.kp b o (λl v z=>?_) (g.kp b o c e),λl v=>?_,λb e=>g.al b (a.al b e)⟩]
 .rcases g.fr l v with y|y
  .exact c l v (by rw[z,y])
  .rw[<- z,e] at y;cases y
 .rcases a.fr l v with y|y
  .rcases g.fr l v with w|w
   .exact .inl (by rw[y,w])
   .exact .inr (by rwa[y])
  .exact .inr (g.al _ y)
theorem Goes.trans{e:Dy}{f:HS}{b:Hp}(g:Goes R TR C T L FT D H D' S' H')(c:Goes R TR C T L FT D' H' e f b):Goes R TR C T L FT D H e f b:=
 ⟨g.toGoes0.trans c.toGoes0,λa h=>(c.fb a h).elim (g.fb a) λz=>.inr (g.al a z)⟩
theorem Rp.same(c:jE TR)(h:Rp R TR C T L FT D S H)(e:aO H H'):Rp R TR C T L FT D S H':=
 h.next c (λl v=>e _ _ (h.cells l v)) (λb o _ z=>e _ _ z) (λ_ _=>.inl rfl) (λl f v g z _ _=>by rw[h.cells l v] at z;cases z) h.bkl (λk a x e1 e2=>e _ _ (h.bk k a x e1 e2)) h.qsl (λk a x e1 e2=>e _ _ (h.qs k a x e1 e2))
theorem Goes0.same(a:jE TR)(h:Rp R TR C T L FT D S H)(e:aO H H'):Goes0 R TR C T L FT D H D S H':=⟨h.same a e,λb o _ z=>e _ _ z,λ_ _=>.inl rfl,λb z=>by
 cases y:H b with
 |none=>rfl
 |some o=>rw[e _ _ y] at z;cases z⟩
theorem Goes.same(a:jE TR)(h:Rp R TR C T L FT D S H)(e:aO H H'):Goes R TR C T L FT D H D S H':=⟨Goes0.same a h e,λ_ z=>.inl z⟩
def Rp.set(i:jE TR)(h:Rp R TR C T L FT D S H){l:Lb}(m:vl T l)(f:∀c:Lb,c.at L D'=c.at L D)(t:∀c,vl T c->c≠l->cont C T L D' S' c=cont C T L D S c)
  (p:D'.bk.length=S'.book.length) (n:∀(k:Nat) (a:Addr) (e:Ent),D'.bk[k]? =some a->S'.book[k]? =some e->H a=some (.tup (QS e)))
  (r:D'.qs.length=S'.ends.length) (j:∀(k:Nat) (a:Addr) (e:Nat×Str),D'.qs[k]? =some a->S'.ends[k]? =some e->H a=some (.tup (Wj L e))):
  Goes0 R TR C T L FT D H D' S' (upd H (l.at L D) (cont C T L D' S' l)):=by
 have g:∀b o,(∀c,vl T c->b≠c.at L D)->H b=some o->(upd H (l.at L D) (cont C T L D' S' l)) b=some o:=λb o s e=>by rwa[ai (s l m)]
 have fr:∀c,vl T c->c.at L D'=c.at L D\/H (c.at L D')=none:=λc _=>.inl (f c);erw[⟨h.next i (λc v=>?_) g fr (λq w u y z _ _=>by rw[f,h.cells q u] at z;cases z) p (λk a x e1 e2=>g _ _ (h.Ke (n k a x e1 e2)) (n k a x e1 e2)) r (λk a x e1 e2=>g _ _ (h.Ke (j k a x e1 e2)) (j k a x e1 e2)),g,fr,λb z=>?_⟩]
 .rw[f];by_cases e:c.at L D=l.at L D
  .have:=h.inj c l v m e;subst this;exact ae
  .rw[ai e,h.cells c v,t c v (λz=>e (by rw[z]))]
 .by_cases e:b=l.at L D
  .rw[e,ae] at z;cases z
  .rw[ai e] at z;exact z
def Rp.node(a:jE TR)(h:Rp R TR C T L FT D S H){i:Nat}(f:i<T.length)(g:Nd->Nd)(m:(g (S.nd i)).aG=(S.nd i).aG)(c:(g (S.nd i)).wait=(S.nd i).wait):
  Goes R TR C T L FT D H D (up S i g) (upd H (L.nd i) (.ins (bu C T i) (L.dn i) (mu T L D (g (S.nd i)) i))):=by
 have:=h.set a (l:= .nd i) (D':=D) (S':=up S i g) f (λ_=>rfl) (λb v ne=>?_) h.bkl h.bk h.qsl h.qs
 .have e:cont C T L D (up S i g) (.nd i)=.ins (bu C T i) (L.dn i) (mu T L D (g (S.nd i)) i):=by
   show HO.ins _ _ (mu T L D ((up S i g).nd i) i)=_;rw[az]
  rw[e] at this;exact⟨this,λ_ z=>.inl z⟩
 .cases b with
  |hs=>rfl
  |en=>rfl
  |qu=>rfl
  |nd j=>
   have:j≠i:=λz=>ne (by rw[z]);show HO.ins _ _ (mu T L D ((up S i g).nd j) j)=_;rw[bF g this]
   rfl
  |fa j=>
   show HO.lst (((up S i g).nd j).aG.map V.int)=_;by_cases e:j=i
   .subst e;rw[az,m]
    rfl
   .rw[bF g e]
    rfl
  |wa j=>
   show HO.lst (((up S i g).nd j).wait.map _)=_;by_cases e:j=i
   .subst e;rw[az,c]
    rfl
   .rw[bF g e]
    rfl
def Rp.abb(c:jE TR)(h:Rp R TR C T L FT D S H){q:Addr}{e:Ent}(g:H q=some (.tup (QS e))):
  Goes0 R TR C T L FT D H {D with bk:=D.bk++[q]} {S with book:=S.book++[e]} (upd H L.en (.lst ((D.bk++[q]).map V.ref))):=by
 erw[h.set c (l:= .en) (D':={D with bk:=D.bk++[q]}) (S':={S with book:=S.book++[e]}) trivial (λb=>by cases b<;>rfl) (λb v ne=>?_) (by rw[js,js,h.bkl];rfl) (λk a x e1 e2=>?_) h.qsl h.qs]
 .cases b with
  |en=>exact absurd rfl ne
  |_=>rfl
 .have e1:(D.bk++[q])[k]? =some a:=e1;have e2:(S.book++[e])[k]? =some x:=e2;by_cases f:k<D.bk.length
  .rw[ae1 f] at e1;rw[ae1 (by rw[<- h.bkl];exact f)] at e2;exact h.bk k a x e1 e2
  .rw[ae2 ()] at e1;rw[ae2 (by rw[<- h.bkl];lia),<-h.bkl] at e2
   have k0:k-D.bk.length=0:=by
    have:=(uy.mp e1).1;have:k-D.bk.length<1:=this
    lia
   rw[k0] at e1 e2;cases e1;cases e2;exact g
def Rp.entry(c:jE TR)(h:Rp R TR C T L FT D S H){q:Addr}(e:Ent)(f:H q=none):
  Goes R TR C T L FT D H {D with bk:=D.bk++[q]} {S with book:=S.book++[e]} (upd (upd H q (.tup (QS e))) L.en (.lst ((D.bk++[q]).map V.ref))):=by
 have j:aO H (upd H q (.tup (QS e))):=λb o z=>by rwa[ai (aq z f)]
 have g:=Goes0.same c h j;erw[⟨g.trans (g.rp.abb c (q:=q) (e:=e) ae),λa i=>?_⟩];rcases wH.mp i with z|z
 .exact .inl z
 .rw[ro.mp z];exact .inr f
def Rp.RO(c:jE TR)(h:Rp R TR C T L FT D S H){q:Addr}{e:Nat×Str}(g:H q=some (.tup (Wj L e))):
  Goes R TR C T L FT D H {D with qs:=D.qs++[q]} {S with ends:=S.ends++[e]} (upd H L.qu (.lst ((D.qs++[q]).map V.ref))):=by
 erw[⟨h.set c (l:= .qu) (D':={D with qs:=D.qs++[q]}) (S':={S with ends:=S.ends++[e]}) trivial (λb=>by cases b<;>rfl) (λb v ne=>?_) h.bkl h.bk (by rw[js,js,h.qsl];rfl) (λk a x e1 e2=>?_),λ_ z=>.inl z⟩]
 .cases b with
  |qu=>exact absurd rfl ne
  |_=>rfl
 .have e1:(D.qs++[q])[k]? =some a:=e1;have e2:(S.ends++[e])[k]? =some x:=e2;by_cases f:k<D.qs.length
  .rw[ae1 f] at e1;rw[ae1 (by rw[<- h.qsl];exact f)] at e2;exact h.qs k a x e1 e2
  .rw[ae2 ()] at e1;rw[ae2 (by rw[<- h.qsl];lia),<-h.qsl] at e2
   have k0:k-D.qs.length=0:=by
    have:=(uy.mp e1).1;have:k-D.qs.length<1:=this
    lia
   rw[k0] at e1 e2;cases e1;cases e2;exact g
def eJ(g:Nat->Addr)(i:Nat)(q:Addr):Nat->Addr:=λj=>if j=i then q else g j
theorem bG(g:Nat->Addr)(i:Nat)(q:Addr):eJ g i q i=q:=eE rfl
theorem eB{g:Nat->Addr}{i j:Nat}(q:Addr)(h:j≠i):eJ g i q j=g j:=er h
def Rp.anew(n:jE TR)(h:Rp R TR C T L FT D S H){i:Nat}(p:i<T.length){q:Addr}(f:H q=none){l0:Lb}(O:vl T l0)(N:l0≠ .nd i)(m:D'.bk=D.bk)(g:D'.qs=D.qs)(w:S'.book=S.book)(t:S'.ends=S.ends)
  (s:l0.at L D'=q) (r:∀l:Lb,l≠l0->l.at L D'=l.at L D) (I:∀l,vl T l->l≠l0->l≠ .nd i->cont C T L D' S' l=cont C T L D S l):
  Goes0 R TR C T L FT D H D' S' (upd (upd H q (cont C T L D' S' l0)) (L.nd i) (cont C T L D' S' (.nd i))):=by
 have u:=h.cells (.nd i) p;have J:q≠L.nd i:=λz=>by rw[z] at f;rw[show (Lb.nd i).at L D=L.nd i from rfl,f] at u;cases u
 have j:∀b o,(∀c,vl T c->b≠c.at L D)->H b=some o->(upd (upd H q (cont C T L D' S' l0)) (L.nd i) (cont C T L D' S' (.nd i))) b=some o:=λb o m e=>by
  rwa[ai (show b≠L.nd i from m (.nd i) p),ai (aq e f)]
 have fr:∀c,vl T c->c.at L D'=c.at L D\/H (c.at L D')=none:=λc _=>by
  by_cases e:c=l0
  .right
   rwa[e,s]
  .exact .inl (r c e)
 erw[⟨h.next n (λc v=>?_) j fr (λE B M F y K e=>?_) (by rw[m,w];exact h.bkl) (λk a x e1 e2=>?_) (by rw[g,t];exact h.qsl) (λk a x e1 e2=>?_),j,fr,λb z=>?_⟩]
 .by_cases e1:c=.nd i
  .rw[e1];exact ae
  .by_cases e2:c=l0
   .rw[e2,s,ai J];exact ae
   .rw[r c e2];have G:c.at L D≠L.nd i:=λz=>e1 (h.inj c (.nd i) v p z);have A:c.at L D≠q:=λz=>by rw[<- z,h.cells c v] at f;cases f
    rw[ai G,ai A,h.cells c v,I c v e2 e1]
 .have only:∀l,vl T l->H (l.at L D')=none->l=l0:=λl v z=>by
   by_cases e:l=l0
   .exact e
   .rw[r l e,h.cells l v] at z;cases z
  rw[only E M y,only B F K]
 .rw[m] at e1;rw[w] at e2;exact j _ _ (h.Ke (h.bk k a x e1 e2)) (h.bk k a x e1 e2)
 .rw[g] at e1;rw[t] at e2;exact j _ _ (h.Ke (h.qs k a x e1 e2)) (h.qs k a x e1 e2)
 .by_cases e1:b=L.nd i
  .rw[e1,ae] at z;cases z
  .rw[ai e1] at z;by_cases e2:b=q
   .rwa[e2]
   .rw[ai e2] at z;exact z
def Rp.acH(a:jE TR)(h:Rp R TR C T L FT D S H){i:Nat}(b:i<T.length)(m:fm T i=false){q:Addr}(p:H q=none)(g:Nd->Nd)(f:(g (S.nd i)).wait=(S.nd i).wait):
  Goes R TR C T L FT D H {D with fa:=eJ D.fa i q} (up S i g) (upd (upd H q (.lst ((g (S.nd i)).aG.map V.int))) (L.nd i) (.ins (bu C T i) (L.dn i) (mu T L {D with fa:=eJ D.fa i q} (g (S.nd i)) i))):=by
 have e1:cont C T L {D with fa:=eJ D.fa i q} (up S i g) (.fa i)=.lst ((g (S.nd i)).aG.map V.int):=by
  show HO.lst (((up S i g).nd i).aG.map V.int)=_;rw[az]
 have e2:cont C T L {D with fa:=eJ D.fa i q} (up S i g) (.nd i)=.ins (bu C T i) (L.dn i) (mu T L {D with fa:=eJ D.fa i q} (g (S.nd i)) i):=by
  show HO.ins _ _ (mu T L _ ((up S i g).nd i) i)=_;rw[az]
 rw[<- e1,<-e2];erw[⟨h.anew a b p (l0:= .fa i) ⟨b,m⟩ (λz=>by cases z) rfl rfl rfl rfl (bG _ _ _) (λl c=>?_) (λl v r o=>?_),λ_ z=>.inl z⟩]
 .cases l with
  |fa j=>exact eB q (λz=>c (by rw[z]))
  |_=>rfl
 .cases l with
  |nd j=>
   have n:j≠i:=λz=>o (by rw[z]);show HO.ins _ _ (mu T L _ ((up S i g).nd j) j)=_;rw[bF g n];show HO.ins _ _ (pE T L (S.nd j) j++if fm T j then fsL (S.nd j) else rx (eJ D.fa i q j) (D.wa j) (S.nd j))=_;rw[eB q n]
   rfl
  |fa j=>
   have n:j≠i:=λz=>r (by rw[z]);show HO.lst (((up S i g).nd j).aG.map V.int)=_;rw[bF g n]
   rfl
  |wa j=>
   show HO.lst (((up S i g).nd j).wait.map _)=_;by_cases e:j=i
   .subst e;rw[az,f]
    rfl
   .rw[bF g e]
    rfl
  |_=>rfl
def Rp.aaN(a:jE TR)(h:Rp R TR C T L FT D S H){i:Nat}(b:i<T.length)(o:fm T i=false){q:Addr}(p:H q=none)(g:Nd->Nd)(m:(g (S.nd i)).aG=(S.nd i).aG):
  Goes R TR C T L FT D H {D with wa:=eJ D.wa i q} (up S i g) (upd (upd H q (.lst ((g (S.nd i)).wait.map λj=>V.ref (L.nd j)))) (L.nd i) (.ins (bu C T i) (L.dn i) (mu T L {D with wa:=eJ D.wa i q} (g (S.nd i)) i))):=by
 have e1:cont C T L {D with wa:=eJ D.wa i q} (up S i g) (.wa i)=.lst ((g (S.nd i)).wait.map λj=>V.ref (L.nd j)):=by
  show HO.lst (((up S i g).nd i).wait.map _)=_;rw[az]
 have e2:cont C T L {D with wa:=eJ D.wa i q} (up S i g) (.nd i)=.ins (bu C T i) (L.dn i) (mu T L {D with wa:=eJ D.wa i q} (g (S.nd i)) i):=by
  show HO.ins _ _ (mu T L _ ((up S i g).nd i) i)=_;rw[az]
 rw[<- e1,<-e2];erw[⟨h.anew a b p (l0:= .wa i) ⟨b,o⟩ (λz=>by cases z) rfl rfl rfl rfl (bG _ _ _) (λl f=>?_) (λl v r c=>?_),λ_ z=>.inl z⟩]
 .cases l with
  |wa j=>exact eB q (λz=>f (by rw[z]))
  |_=>rfl
 .cases l with
  |nd j=>
   have n:j≠i:=λz=>c (by rw[z]);show HO.ins _ _ (mu T L _ ((up S i g).nd j) j)=_;rw[bF g n];show HO.ins _ _ (pE T L (S.nd j) j++if fm T j then fsL (S.nd j) else rx (D.fa j) (eJ D.wa i q j) (S.nd j))=_;rw[eB q n]
   rfl
  |wa j=>
   have n:j≠i:=λz=>r (by rw[z]);show HO.lst (((up S i g).nd j).wait.map _)=_;rw[bF g n]
   rfl
  |fa j=>
   show HO.lst (((up S i g).nd j).aG.map V.int)=_;by_cases e:j=i
   .subst e;rw[az,m]
    rfl
   .rw[bF g e]
    rfl
  |_=>rfl
theorem Rp.tick(a:jE TR)(h:Rp R TR C T L FT D S H)(c:Int):Goes R TR C T L FT D H D {S with clk:=c} (upd H L.x (.ins C.cH L.dx (fsH L {S with clk:=c}))):=
 ⟨h.set a (l:= .hs) (D':=D) (S':={S with clk:=c}) trivial (λ_=>rfl) (λb v ne=>by
  cases b with
  |hs=>exact absurd rfl ne
  |_=>rfl) h.bkl h.bk h.qsl h.qs,λ_ z=>.inl z⟩
def Rp.popped(f:jE TR)(h:Rp R TR C T L FT D S H){a:Addr}{r:List Addr}{e:Nat×Str}{es:List (Nat×Str)}(i:D.qs=a::r)(g:S.ends=e::es):
  Goes R TR C T L FT D H {D with qs:=r} {S with ends:=es} (upd H L.qu (.lst (r.map V.ref))):=by
 erw[⟨h.set f (l:= .qu) (D':={D with qs:=r}) (S':={S with ends:=es}) trivial (λc=>by cases c<;>rfl) (λc v ne=>?_) h.bkl h.bk ?_ (λk b x e1 e2=>?_),λ_ z=>.inl z⟩]
 .cases c with
  |qu=>exact absurd rfl ne
  |_=>rfl
 .have:=h.qsl;rw[i,g] at this;exact Nat.succ.inj this
 .exact h.qs (k+1) b x (by rwa[i]) (by rwa[g])
def Rp.aaL(a:jE TR)(h:Rp R TR C T L FT D S H){i:Nat}(f:i<T.length)(c:fm T i=false)(w:List Nat):
  Goes R TR C T L FT D H D (up S i λd=>{d with wait:=w}) (upd H (D.wa i) (.lst (w.map λj=>V.ref (L.nd j)))):=by
 have:=h.set a (l:= .wa i) (D':=D) (S':=up S i λd=>{d with wait:=w}) ⟨f,c⟩ (λ_=>rfl) (λb v ne=>?_) h.bkl h.bk h.qsl h.qs
 .have e:cont C T L D (up S i λd=>{d with wait:=w}) (.wa i)=.lst (w.map λj=>V.ref (L.nd j)):=by
   show HO.lst (((up S i _).nd i).wait.map _)=_;rw[az]
  rw[e] at this;exact⟨this,λ_ z=>.inl z⟩
 .cases b with
  |hs=>rfl
  |en=>rfl
  |qu=>rfl
  |nd j=>
   show HO.ins _ _ (mu T L D ((up S i _).nd j) j)=_;by_cases e:j=i
   .subst e;rw[az]
    rfl
   .rw[bF _ e]
    rfl
  |fa j=>
   show HO.lst (((up S i _).nd j).aG.map V.int)=_;by_cases e:j=i
   .subst e;rw[az]
    rfl
   .rw[bF _ e]
    rfl
  |wa j=>
   show HO.lst (((up S i _).nd j).wait.map _)=_;rw[bF _ (λz=>ne (by rw[z]))]
   rfl
def Rp.adj(a:jE TR)(h:Rp R TR C T L FT D S H){i:Nat}(f:i<T.length)(c:fm T i=false)(w:List Int):
  Goes R TR C T L FT D H D (up S i λd=>{d with aG:=w}) (upd H (D.fa i) (.lst (w.map V.int))):=by
 have:=h.set a (l:= .fa i) (D':=D) (S':=up S i λd=>{d with aG:=w}) ⟨f,c⟩ (λ_=>rfl) (λb v ne=>?_) h.bkl h.bk h.qsl h.qs
 .have e:cont C T L D (up S i λd=>{d with aG:=w}) (.fa i)=.lst (w.map V.int):=by
   show HO.lst (((up S i _).nd i).aG.map _)=_;rw[az]
  rw[e] at this;exact⟨this,λ_ z=>.inl z⟩
 .cases b with
  |hs=>rfl
  |en=>rfl
  |qu=>rfl
  |nd j=>
   show HO.ins _ _ (mu T L D ((up S i _).nd j) j)=_;by_cases e:j=i
   .subst e;rw[az]
    rfl
   .rw[bF _ e]
    rfl
  |wa j=>
   show HO.lst (((up S i _).nd j).wait.map _)=_;by_cases e:j=i
   .subst e;rw[az]
    rfl
   .rw[bF _ e]
    rfl
  |fa j=>
   show HO.lst (((up S i _).nd j).aG.map V.int)=_;rw[bF _ (λz=>ne (by rw[z]))]
   rfl
def Rp.acJ(p:jE TR)(h:Rp R TR C T L FT D S H){i:Nat}(r:i<T.length)(Q:fm T i=false){q:Addr}(u:H q=none){g:Hp}(s:aO H g)(w:List Int)(G:g q=some (.lst (w.map V.int))):
  Goes R TR C T L FT D H {D with fa:=eJ D.fa i q} (up S i λd=>{d with aG:=w}) (upd g (L.nd i) (.ins (bu C T i) (L.dn i) (mu T L {D with fa:=eJ D.fa i q} {S.nd i with aG:=w} i))):=by
 have O:H (L.nd i)=_:=h.cells (.nd i) r;have M:q≠L.nd i:=Ne.symm (aq O u)
 have m:∀b o,(∀c,vl T c->b≠c.at L D)->H b=some o->(upd g (L.nd i) (.ins (bu C T i) (L.dn i) (mu T L {D with fa:=eJ D.fa i q} {S.nd i with aG:=w} i))) b=some o:=λb o J e=>by
  rw[ai (show b≠L.nd i from J (.nd i) r)];exact s _ _ e
 have f:∀c:Lb,c≠ .fa i->c.at L {D with fa:=eJ D.fa i q}=c.at L D:=λl K=>by
  cases l with
  |fa j=>exact eB q (λz=>K (by rw[z]))
  |_=>rfl
 have t:(Lb.fa i).at L {D with fa:=eJ D.fa i q}=q:=bG _ _ _
 have fr:∀c,vl T c->c.at L {D with fa:=eJ D.fa i q}=c.at L D\/H (c.at L {D with fa:=eJ D.fa i q})=none:=λc _=>by
  by_cases e:c=.fa i
  .right
   rwa[e,t]
  .exact .inl (f c e)
 erw[⟨⟨h.next p (λc v=>?_) m fr (λE B P F A N e=>?_) h.bkl (λk a x e1 e2=>m _ _ (h.Ke (h.bk k a x e1 e2)) (h.bk k a x e1 e2)) h.qsl (λk a x e1 e2=>m _ _ (h.Ke (h.qs k a x e1 e2)) (h.qs k a x e1 e2)),m,fr,λb z=>?_⟩,λ_ z=>.inl z⟩]
 .by_cases e1:c=.nd i
  .subst e1;show(upd g (L.nd i) _) (L.nd i)=some (.ins (bu C T i) (L.dn i) (mu T L {D with fa:=eJ D.fa i q} ((up S i λd=>{d with aG:=w}).nd i) i));rw[az];exact ae
  .by_cases e2:c=.fa i
   .subst e2;rw[t,ai M,G];show _=some (HO.lst (((up S i λd=>{d with aG:=w}).nd i).aG.map V.int));rw[az]
   .rw[f c e2];have I:c.at L D≠L.nd i:=λz=>e1 (h.inj c (.nd i) v r z);rw[ai I,s _ _ (h.cells c v)];cases c with
    |hs=>rfl
    |en=>rfl
    |qu=>rfl
    |nd j=>
     have n:j≠i:=λz=>e1 (by rw[z]);show some (HO.ins _ _ (mu T L D (S.nd j) j))=some (HO.ins _ _ (mu T L {D with fa:=eJ D.fa i q} ((up S i _).nd j) j));rw[bF _ n];show _=some (HO.ins _ _ (pE T L (S.nd j) j++if fm T j then fsL (S.nd j) else rx (eJ D.fa i q j) (D.wa j) (S.nd j)));rw[eB q n]
     rfl
    |fa j=>
     have n:j≠i:=λz=>e2 (by rw[z]);show some (HO.lst ((S.nd j).aG.map V.int))=some (HO.lst (((up S i _).nd j).aG.map V.int));rw[bF _ n]
    |wa j=>
     show some (HO.lst ((S.nd j).wait.map _))=some (HO.lst (((up S i _).nd j).wait.map _));by_cases e:j=i
     .subst e;rw[az]
     .rw[bF _ e]
 .have only:∀l,vl T l->H (l.at L {D with fa:=eJ D.fa i q})=none->l=.fa i:=λl v z=>by
   by_cases e:l=.fa i
   .exact e
   .rw[f l e,h.cells l v] at z;cases z
  rw[only E P A,only B F N]
 .by_cases e1:b=L.nd i
  .rw[e1,ae] at z;cases z
  .rw[ai e1] at z;cases y:H b with
   |none=>rfl
   |some o=>rw[s _ _ y] at z;cases z
end
end Hr
namespace L2
open PySem PySem.Spec PyProof.Rows
section
variable(K:PySem.W.Frag)
def Nos:List String->Prop
 |[]=>True
 |x::r=>PySem.W.nsIn K mainGlobals (Str.ofString x)=some none/\Nos r
def Gls:List (String×Addr)->Prop
 |[]=>True
 |(x,a)::r=>PySem.W.nsIn K mainGlobals (Str.ofString x)=some (some (.ref a))/\Gls r
def Mts(C:Addr):List (String×Addr)->Prop
 |[]=>True
 |(m,f)::r=>PySem.W.findIn K (.ref C) (Str.ofString m)=some (some (.ref f))/\Mts C r
def NoX(C:Addr):List String->Prop
 |[]=>True
 |f::r=>PySem.W.findIn K (.ref C) (Str.ofString f)=some none/\NoX C r
def EW(C:Addr):Prop:=PySem.W.plainGet K C Str.empty=true/\PySem.W.hasDictIn K C=true/\PySem.W.plainOver K C=true/\PySem.W.findIn K (.ref C) "__setattr__"=some (some (.builtin "object.__setattr__"))
def MkV(C:Addr):Prop:=PySem.W.makesIn K C=true/\PySem.W.keepIn K (.ref C)=true
def ByV(C:Addr)(m:Str)(f:Addr):Prop:=PySem.W.specialIn K (.ref C) "__getattribute__"=some (some (.builtin "type.__getattribute__"))/\PySem.W.readsIn K C (.type "type")=true/\PySem.W.findCls K (.ref C) (.type "type") m=some (.val (.ref f))
def abB(a:Addr)(x b:Str)(st:Stmt)(j h:Value)(f:Option Addr)(n l m:Value)(i:Option Addr)(c e:Value)(g:Array (Option Value)):Prop:=
 K.lookup a=some ⟨h,f,.func (PySem.W.fnOf x b (nD st) (cB st) (ak st) j n l m i c e),g⟩/\PySem.W.codeIn K c b=true/\PySem.W.keepIn K (.ref a)=true/\PySem.W.isFn K (.ref a)=true
end
section
variable{K:PySem.W.Frag}{a C:Addr}{x qual m:Str}{st:Stmt}{dv vo vk vg vp vv vu:Value}{od oa:Option Addr}{sl:Array (Option Value)}
theorem abB.d(h:abB K a x qual st dv vo od vk vg vp oa vv vu sl):aI K x qual st dv a (PySem.W.fnOf x qual (nD st) (cB st) (ak st) dv vk vg vp oa vv vu):=ZV h.1 h.2.1 h.2.2.1
def aM(K:PySem.W.Frag)(a:Addr)(x qual:Str)(st:Stmt)(dv:Value):Prop:=∃vo od vk vg vp oa vv vu sl,abB K a x qual st dv vo od vk vg vp oa vv vu sl
theorem aM.d(h:aM K a x qual st dv):∃fd,aI K x qual st dv a fd:=let ⟨_,_,_,_,_,_,_,_,_,h⟩:=h;⟨_,h.d⟩
theorem aM.mt(h:aM K a x qual st dv)(f:PySem.W.findIn K (.ref C) m=some (some (.ref a))):Meth K C m a:=let ⟨_,_,_,_,_,_,_,_,_,h⟩:=h;⟨f,h.2.2.2,h.2.2.1⟩
theorem aM.mk(h:aM K a x qual st dv)(f:PySem.W.findIn K (.ref C) "__init__"=some (some (.ref a)))(k:MkV K C):Mk K C a:=let ⟨_,_,_,_,_,_,_,_,_,h⟩:=h;⟨k.1,f,h.2.2.2,k.2⟩
theorem aM.bc(h:aM K a x qual st dv)(b:ByV K C m a):Yp K C m a:=let ⟨_,_,_,_,_,_,_,_,_,h⟩:=h;⟨b.1,b.2.1,b.2.2,h.2.2.1⟩
def aaj(K:PySem.W.Frag)(C:Addr):Prop:=PySem.W.findIn K (.ref C) "__getattribute__"=some (some (.builtin "BaseException.__getattribute__"))/\PySem.W.findIn K (.ref C) "__getattr__"=some none/\PySem.W.findIn K (.ref C) "__class__"=some (some (.builtin "object.__class__"))/\PySem.W.mroIn K C (.type "BaseException")=some true/\PySem.W.mroIn K C (.type "object")=some true
theorem aaj.xi(h:aaj K C):XIn K C:=⟨h.1,h.2.1,h.2.2.1,h.2.2.2.1,h.2.2.2.2⟩
def aI.bl{fd:FuncData}{p:FuncData->Prop}(F:aI K x qual st dv a fd)(h:∀kV b f e c ct,p (PySem.W.fnOf x qual (nD st) (cB st) (ak st) dv kV b f e c ct)):p fd:=by
 obtain⟨_,_,kV,b,f,e,c,ct,_,rfl,_⟩:=F.ex;exact h ..
theorem EW.d(h:EW K C):tW K C:=⟨h.1,h.2.1,h.2.2.1,h.2.2.2⟩
variable{P:Program}{w:World}{mg:Str->Option Value}{dH:Heap}{cm:Bool}{k:Nat}{f:Addr}{fd:FuncData}{ps:List Str}{sp:Sp}{spC:Addr->Sp}
def Wd(_:Program)(_:World)(_:PySem.W.Frag)(_:Str->Option Value)(_:Heap):Prop:=True
theorem mkH(_:Wd P w K mg dH)(c:tW K C)(h:Meth K C m f)(b:Binds K fd ps [])(ok:aC P w K mg dH (fw P w) true k f fd ps (spC C)):Shp.aT P w K mg dH k m spC λg=>g=C:=λg e=>by subst e;exact⟨f,fd,ps,[],c,h,ok,b,.nil⟩
theorem mkM{y:Str}(_:Wd P w K mg dH)(q:mg y=some (.ref C))(M:Mk K C f)(b:Binds K fd ps [])(ok:aC P w K mg dH (fw P w) cm k f fd ps sp):Mak P w K mg dH cm k y C sp []:=⟨f,fd,ps,[],M,ok,q,b,.nil⟩
def acP{h:Heap}{y:Str}(X:K.In h)(G:h.Ns mainGlobals mg)(_:Wd P w K mg dH)(q:PySem.W.nsIn K mainGlobals y=some (some (.ref f)))(v:aM K f x qual st dv)(ok:∀fd,aI K x qual st dv f fd->aC P w K mg dH (fw P w) cm k f fd ps sp)(b:∀fd,aI K x qual st dv f fd->Binds K fd ps []):jm P w K mg dH cm k y sp []:=by
 obtain⟨fd,F⟩:=v.d;exact⟨f,fd,ps,[],ok fd F,ql X G q,F.kp,b fd F,.nil⟩
def acO(e:Wd P w K mg dH)(c:tW K C)(h:PySem.W.findIn K (.ref C) m=some (some (.ref f)))(v:aM K f x qual st dv)(ok:∀fd,aI K x qual st dv f fd->aC P w K mg dH (fw P w) true k f fd ps (spC C))(b:∀fd,aI K x qual st dv f fd->Binds K fd ps []):Shp.aT P w K mg dH k m spC λg=>g=C:=by
 obtain⟨fd,F⟩:=v.d;exact mkH e c (v.mt h) (b fd F) (ok fd F)
end
section
variable{α:Type}{p:List α->Prop}
theorem IH(z:∀a,p [a]):∀us:List α,us.length=1->p us
 |[a],_=>z a
theorem ln2(z:∀a b,p [a,b]):∀us:List α,us.length=2->p us
 |[a,b],_=>z a b
theorem ln3(z:∀a b c,p [a,b,c]):∀us:List α,us.length=3->p us
 |[a,b,c],_=>z a b c
theorem ln4(z:∀a b c d,p [a,b,c,d]):∀us:List α,us.length=4->p us
 |[a,b,c,d],_=>z a b c d
theorem ln5(z:∀a b c d e,p [a,b,c,d,e]):∀us:List α,us.length=5->p us
 |[a,b,c,d,e],_=>z a b c d e
theorem ln6(z:∀a b c d e f,p [a,b,c,d,e,f]):∀us:List α,us.length=6->p us
 |[a,b,c,d,e,f],_=>z a b c d e f
theorem lnD{ds:List α}{k n:Nat}(e:n+ds.length=k)(h:∀us:List α,us.length=n->p us)(us:List α)(q:(us++ds).length=k):p us:=h us (by rw[js] at q;lia)
end
section
variable{P:Program}{w:World}{K:PySem.W.Frag}{mg:Str->Option Value}{dH:Heap}{cm:Bool}{k:Nat}{f a C:Addr}{fd:FuncData}{ps:List Str}{sp:Sp}{spC:Addr->Sp}{x qual m:Str}{st:Stmt}{dv:Value}
theorem gh{h:Heap}{y:Str}(X:K.In h)(G:h.Ns mainGlobals mg)(e:Wd P w K mg dH)(q:PySem.W.nsIn K mainGlobals y=some (some (.ref f)))(v:aM K f x qual st dv)(ok:∀fd,aI K x qual st dv f fd->aC P w K mg dH (fw P w) cm k f fd ps sp)
  (b:∀fd,aI K x qual st dv f fd->Binds K fd ps []:=by intro _ F;first|exact F.binds λ_ _ _ _ _ _=>IH λ_=>rfl|exact F.binds λ_ _ _ _ _ _=>ln2 λ_ _=>rfl|exact F.binds λ_ _ _ _ _ _=>ln3 λ_ _ _=>rfl|exact F.binds λ_ _ _ _ _ _=>ln0 rfl|exact F.binds λ_ _ _ _ _ _=>ln4 λ_ _ _ _=>rfl|exact F.binds λ_ _ _ _ _ _=>ln5 λ_ _ _ _ _=>rfl|exact F.binds λ_ _ _ _ _ _=>ln6 λ_ _ _ _ _ _=>rfl|exact F.binds λ_ _ _ _ _ _=>ln7 λ_ _ _ _ _ _ _=>rfl|exact F.binds λ_ _ _ _ _ _=>ln8 λ_ _ _ _ _ _ _ _=>rfl):jm P w K mg dH cm k y sp []:=acP X G e q v ok b
theorem jC(e:Wd P w K mg dH)(c:tW K C)(h:PySem.W.findIn K (.ref C) m=some (some (.ref f)))(v:aM K f x qual st dv)(ok:∀fd,aI K x qual st dv f fd->aC P w K mg dH (fw P w) true k f fd ps (spC C))
  (b:∀fd,aI K x qual st dv f fd->Binds K fd ps []:=by intro _ F;first|exact F.binds λ_ _ _ _ _ _=>IH λ_=>rfl|exact F.binds λ_ _ _ _ _ _=>ln2 λ_ _=>rfl|exact F.binds λ_ _ _ _ _ _=>ln3 λ_ _ _=>rfl|exact F.binds λ_ _ _ _ _ _=>ln0 rfl|exact F.binds λ_ _ _ _ _ _=>ln4 λ_ _ _ _=>rfl|exact F.binds λ_ _ _ _ _ _=>ln5 λ_ _ _ _ _=>rfl|exact F.binds λ_ _ _ _ _ _=>ln6 λ_ _ _ _ _ _=>rfl|exact F.binds λ_ _ _ _ _ _=>ln7 λ_ _ _ _ _ _ _=>rfl|exact F.binds λ_ _ _ _ _ _=>ln8 λ_ _ _ _ _ _ _ _=>rfl):Shp.aT P w K mg dH k m spC λg=>g=C:=acO e c h v ok b
end
end L2
namespace Hm
open PySem Shp Tr Hs
def dp(T:List Row)(i:Nat):Nat:=(T.getD i default).dep
def xA{T:List Row}(h:gx T){k:Nat}(r:0<k)(g:k<T.length):∃j,par T k=some j/\j<k/\dp T j+1=dp T k/\fm T j=false/\∀x,j<x->x<k->dp T k<=dp T x:=by
 have a:=h.fit k g;unfold fits at a;rw[er ()] at a;obtain⟨s,o,j,b⟩:=a;obtain⟨l,p,m,c⟩:=K8 T k (λi q=>Ob (h.fit i ())) _ j true b
 have e:cA T k=(j:Int):=by
  unfold cA;rw[b];show(if k=0 then (-1:Int) else (j:Int))=j;rw[er ()]
 erw[⟨j,?_,l,?_,?_,λx n f=>?_⟩]
 .unfold par;rw[e,er (),afO]
 .unfold dp
  lia
 .unfold fm sh;have:=hI m;exact j0 ()
 .have:=c x n f;unfold dp
  lia
def Vs{T:List Row}(h:gx T):dp T 0=0/\fm T 0=false:=by
 have b:0<T.length:=af5.mpr h.ne;have a:=h.fit 0 b;unfold fits at a;rw[eE rfl] at a;erw[⟨a.1,?_⟩];have:=hI a.2;unfold fm sh;exact j0 ()
def RM{T:List Row}(h:gx T){k:Nat}(b:k<T.length):dp T k<=8:=by
 have a:=h.fit k b;unfold fits at a
 split at a
 .have:dp T k=0:=a.1
  lia
 .exact a.2.1
def adv(p:Nat->Bool):Nat->Nat->Nat
 |0,a=>a
 |f+1,a=>if p a=true then adv p f (a+1) else a
theorem Wg(p:Nat->Bool):∀f a,a<=adv p f a/\adv p f a<=a+f/\(∀x,a<=x->x<adv p f a->p x=true)/\(adv p f a=a+f\/p (adv p f a)=false)
 |0,a=>⟨fC _,fC _,λx c b=>absurd (F6 c b) (afK _),.inl rfl⟩
 |f+1,a=>by
  unfold adv;by_cases h:p a=true
  .rw[eE h];obtain⟨l,j,i,g⟩:=Wg p f (a+1);refine⟨(),(),λx c b=>?_,?_⟩
   .by_cases e:x=a
    .rwa[e]
    .exact i x () b
   .rcases g with z|z
    .left;lia
    .exact .inr z
  .rw[er h];erw[⟨fC _,(),λx c b=>absurd (F6 c b) (afK _),.inr ?_⟩];cases z:p a with
   |true=>exact absurd z h
   |false=>rfl
def en(T:List Row)(i:Nat):Nat:=adv (λk=>decide (dp T i<dp T k)) (T.length-(i+1)) (i+1)
def iP{T:List Row}{i:Nat}(h:i<T.length):i<en T i/\en T i<=T.length/\(∀x,i<x->x<en T i->dp T i<dp T x)/\(en T i=T.length\/dp T (en T i)<=dp T i):=by
 obtain⟨f,c,b,a⟩:=Wg (λk=>decide (dp T i<dp T k)) (T.length-(i+1)) (i+1);erw[⟨f,?_,λx e g=>hI (b x e g),?_⟩]
 .have:en T i<=i+1+(T.length-(i+1)):=c;omega
 .rcases a with z|z
  .left
   have:en T i=i+1+(T.length-(i+1)):=z;omega
  .right
   have:=afk z;show dp T (adv _ _ _)<=_;omega
section
variable{T:List Row}
def t9(h:gx T){i k:Nat}(e:k<T.length)(a:par T k=some i):i<k/\k<en T i/\dp T k=dp T i+1:=by
 have f:0<k:=by
  cases k with
  |zero=>cases a
  |succ k=>exact ahg _
 obtain⟨j,b,c,l,m,g⟩:=xA h f e;rw[a] at b;cases b;obtain⟨e1,e2,e3,e4⟩:=iP (T:=T) (i:=i) ();erw[⟨c,?_,()⟩];by_cases z:k<en T i
 .exact z
 .rcases e4 with y|y
  .lia
  .by_cases w:en T i=k
   .rw[w] at y
    lia
   .have:=g (en T i) e1 ()
    lia
def JV(h:gx T){i a:Nat}(c:i<T.length)(f:i<a)(m:a<en T i)(hd:dp T a=dp T i+1):par T a=some i:=by
 obtain⟨e1,e2,e3,e4⟩:=iP c;obtain⟨j,b,g,l,n,e⟩:=xA h () (show a<T.length by lia);rw[b]
 congr 1
 by_cases z:j=i
 .exact z
 .by_cases y:j<i
  .have:=e i y f
   lia
  .have:=e3 j () ()
   lia
def aax(h:gx T){i a:Nat}(g:i<T.length)(j:i<a)(f:a<en T i):en T a<=en T i/\(dp T a=dp T i+1->en T a=en T i\/dp T (en T a)=dp T i+1):=by
 obtain⟨e1,e2,e3,e4⟩:=iP g;obtain⟨m,l,e,b⟩:=iP (T:=T) (i:=a) ()
 have c:en T a<=en T i:=by
  by_cases z:en T a<=en T i
  .exact z
  .have d1:=e3 a j f;have d2:=e (en T i) () ();rcases e4 with y|y<;>lia
 erw[⟨c,λhd=>?_⟩];by_cases z:en T a=en T i
 .exact .inl z
 .right
  have d2:=e3 (en T a) () ();rcases b with y|y<;>lia
def vw(T:List Row)(c:Int)(k:Nat)(d:Nd):Nd:=if fm T k then {d with st:="on",asked:=false,beg:=c,steps:=0} else forget {d with st:="on",asked:=false}
def ent(T:List Row)(c:Int)(wd:Str)(k:Nat):Ent:=(c,wd,(sh T k).name)
def jZ(T:List Row)(a e:Nat)(S:HS):HS:={S with book:=S.book++(List.range' a (e-a)).map (ent T S.clk "begun"),nd:=λk=>if a<=k/\k<e then vw T S.clk k (S.nd k) else S.nd k}
def Ir(a:Nat)(S:HS):jZ T a a S=S:=by
 unfold jZ;rw[afL];show({S with book:=S.book++[],nd:=_}:HS)=S;rw[su]
 have:(λk=>if a<=k/\k<a then vw T S.clk k (S.nd k) else S.nd k)=S.nd:=by
  funext k
  rw[er ()]
 rw[this]
def NG{a b c:Nat}(g:a<=b)(f:b<=c)(S:HS):jZ T b c (jZ T a b S)=jZ T a c S:=by
 unfold jZ
 have e1:List.range' a (c-a)=List.range' a (b-a)++List.range' b (c-b):=by
  rw[show c-a=(b-a)+(c-b) by lia,<-agl,show a+(b-a)=b by lia]
 congr 1
 .show (S.book++_)++_=_;rw[e1,ni,T1]
 .funext k
  show(if b<=k/\k<c then vw T S.clk k (if a<=k/\k<b then _ else _) else if a<=k/\k<b then _ else _)=_;by_cases e:a<=k/\k<b
  .rw[er (),eE e,eE ()]
  .by_cases z2:b<=k/\k<c
   .rw[eE z2,er e,eE ()]
   .rw[er z2,er e,er ()]
def aci{S S':HS}(f:S.clk=S'.clk)(e:S.book=S'.book)(g:S.ends=S'.ends)(h:∀k,S.nd k=S'.nd k):S=S':=by
 obtain⟨a,b,c,d⟩:=S;obtain⟨i,l,j,d'⟩:=S';have f:a=i:=f;have e:b=l:=e;have g:c=j:=g;have h:d=d':=funext h;rw[f,e,g,h]
def XN(i:Nat)(S:HS):write T "begun" i (nX T i S)=jZ T i (i+1) S:=by
 erw[aci rfl ?_ rfl (λk=>?_)]
 .show S.book++([(S.clk,"begun",(sh T i).name)]:List Ent)=S.book++(List.range' i (i+1-i)).map (ent T S.clk "begun");rw[show i+1-i=1 by lia]
  rfl
 .show (if k=i then (if fm T i then _ else _) else S.nd k)=if i<=k/\k<i+1 then vw T S.clk k (S.nd k) else S.nd k;by_cases e:k=i
  .subst e;rw[eE rfl,eE (show k<=k/\k<k+1 by lia)]
   rfl
  .rw[er e,er ()]
def FE(h:gx T){i:Nat}(e:i<T.length):kids T i=(List.range' (i+1) (en T i-(i+1))).filter λj=>decide (par T j=some i):=by
 obtain⟨e1,e2,e3,e4⟩:=iP e;unfold kids
 have l:List.range T.length=List.range' 0 (i+1)++(List.range' (i+1) (en T i-(i+1))++List.range' (en T i) (T.length-en T i)):=by
  have c:=agl (s:=i+1) (m:=en T i-(i+1)) (n:=T.length-en T i);rw[show i+1+(en T i-(i+1))=en T i by lia,show en T i-(i+1)+(T.length-en T i)=T.length-(i+1) by lia] at c;rw[c];have b:=agl (s:=0) (m:=i+1) (n:=T.length-(i+1));rw[show 0+(i+1)=i+1 by lia,show i+1+(T.length-(i+1))=T.length by lia] at b;rw[b,List.range_eq_range']
 rw[l,YP,YP]
 have g:(List.range' 0 (i+1)).filter (λj=>decide (par T j=some i))=[]:=af9.mpr λj a z=>by
  have:=(t9 h (by have:=(agA.mp a).2;lia) (hI z)).1;have:=(agA.mp a).2
  lia
 have f:(List.range' (en T i) (T.length-en T i)).filter (λj=>decide (par T j=some i))=[]:=af9.mpr λj a z=>by
  have a:=agA.mp a;have:=(t9 h () (hI z)).2.1
  lia
 rw[g,f,su,NC]
def UU(h:gx T){i:Nat}(b:i<T.length)(f:HS->Nat->HS)(x:∀j S,j<T.length->par T j=some i->f S j=jZ T j (en T j) S):∀(m a:Nat),en T i-a<=m->i<a->a<=en T i->(a=en T i\/dp T a=dp T i+1)->∀S,
  ((List.range' a (en T i-a)).filter λj=>decide (par T j=some i)).foldl f S=jZ T a (en T i) S:=by
 obtain⟨e1,e2,e3,e4⟩:=iP b;intro m
 induction m with
 |zero=>
  intro a t c w _ S;have:a=en T i:=by lia
  rw[this,afL,Ir]
  rfl
 |succ m r=>
  intro a t c w v S;rcases v with z|z
  .rw[z,afL,Ir]
   rfl
  .by_cases ha:a=en T i
   .rw[ha,afL,Ir]
    rfl
   .have la:a<en T i:=by lia
    have e:=JV h b c la z;obtain⟨D,C,p,B⟩:=iP (T:=T) (i:=a) ();obtain⟨l,q⟩:=aax h b c la
    have u:List.range' a (en T i-a)=a::(List.range' (a+1) (en T a-(a+1))++List.range' (en T a) (en T i-en T a)):=by
     have o:=agl (s:=a+1) (m:=en T a-(a+1)) (n:=en T i-en T a);rw[show a+1+(en T a-(a+1))=en T a by lia,show en T a-(a+1)+(en T i-en T a)=en T i-a-1 by lia] at o;rw[o,show en T i-a=(en T i-a-1)+1 by lia,agH]
     rfl
    have A:(List.range' (a+1) (en T a-(a+1))).filter (λj=>decide (par T j=some i))=[]:=af9.mpr λj g y=>by
     have g:=agA.mp g;have E:=(t9 h () (hI y)).2.2;have d2:=p j () ()
     lia
    rw[u,afh,eE (f7 e),YP,A,NC,ahd,x a S () e,r (en T a) () () l (q z),NG () l]
theorem CJ(h:gx T):∀(d i:Nat) (S:HS),i<T.length->bW T d i->a9 T d i S=jZ T i (en T i) S
 |0,_,_,_,hd=>hd.elim
 |d+1,i,S,hi,hd=>by
  obtain⟨e1,e2,e3,e4⟩:=iP hi;show(kids T i).foldl (λS j=>a9 T d j S) (write T "begun" i (nX T i S))=_;rw[XN,FE h hi]
  have first:i+1=en T i\/dp T (i+1)=dp T i+1:=by
   by_cases z:i+1=en T i
   .exact .inl z
   .right
    obtain⟨j,l,f,b,g,e⟩:=xA h (k:=i+1) (ahg _) ();have m:=e3 (i+1) () ();by_cases y:j=i
    .rw[y] at b;lia
    .have:=e i () ()
     lia
  rw[UU h hi (λS j=>a9 T d j S) (λj S a c=>CJ h d j S a (hd j (by unfold kids;rw[afP,xc];exact⟨a,f7 c⟩))) (en T i-(i+1)) (i+1) (fC _) () () first,NG () ()]
theorem Sr(h:gx T):∀(d i:Nat),i<T.length->9-dp T i<=d->bW T d i
 |0,i,hi,hd=>by
  have:=RM h hi;omega
 |d+1,i,hi,hd=>λj c=>by
  obtain⟨a,b⟩:=df c;have:=(t9 h a b).2.2;exact Sr h d j a (by omega)
def gx.tok(h:gx T):mn T:=by
 erw[⟨af5.mpr h.ne,h.len,λ{j m} c f=>?_,(Vs h).2,λj e c=>?_,λi a=>Sr h 9 i a (by omega),λi a=>?_⟩]
 .have e:0<j:=by
   cases j with
   |zero=>cases f
   |succ k=>exact ahg _
  obtain⟨o,b,g,n,l,p⟩:=xA h e c;rw[f] at b;cases b;exact⟨g,l⟩
 .obtain ⟨m,b,_⟩:=xA h e c;exact⟨m,b⟩
 .refine (h.sh (T.getD i default) ?_).okS;rw[ry,gy a];exact M5 a
end
section
variable{T:List Row}
def S9(h:gx T){i:Nat}(e:i<T.length)(q:Nat->Bool)(f:HS->Nat->HS)(x:∀j S,j<T.length->par T j=some i->f S j=jZ T j (en T j) S)(Inv:Nat->HS->Prop)
  (step:∀j S,j<T.length->par T j=some i->q j=true->Inv j S->Inv (en T j) (jZ T j (en T j) S)) (skip:∀j S,j<T.length->par T j=some i->q j=false->Inv j S->Inv (en T j) S):
  ∀(m a:Nat),en T i-a<=m->i<a->a<=en T i->(a=en T i\/dp T a=dp T i+1)->∀S,Inv a S->Inv (en T i) (((List.range' a (en T i-a)).filter λj=>decide (par T j=some i)&&q j).foldl f S):=by
 obtain⟨e1,e2,e3,e4⟩:=iP e;intro m
 induction m with
 |zero=>
  intro a C l w _ S b;have:a=en T i:=by lia
  rw[this,afL];rw[this] at b;exact b
 |succ m u=>
  intro a C l w D S b;by_cases g:a=en T i
  .rw[g,afL];rw[g] at b;exact b
  .have z:dp T a=dp T i+1:=by
    rcases D with z|z
    .exact absurd z g
    .exact z
   have p:a<en T i:=by lia
   have c:=JV h e l p z;obtain⟨H,G,B,F⟩:=iP (T:=T) (i:=a) ();obtain⟨v,t⟩:=aax h e l p
   have E:List.range' a (en T i-a)=a::(List.range' (a+1) (en T a-(a+1))++List.range' (en T a) (en T i-en T a)):=by
    have r:=agl (s:=a+1) (m:=en T a-(a+1)) (n:=en T i-en T a);rw[show a+1+(en T a-(a+1))=en T a by lia,show en T a-(a+1)+(en T i-en T a)=en T i-a-1 by lia] at r;rw[r,show en T i-a=(en T i-a-1)+1 by lia,agH]
    rfl
   have A:(List.range' (a+1) (en T a-(a+1))).filter (λj=>decide (par T j=some i)&&q j)=[]:=af9.mpr λj o y=>by
    rw[oT] at y;have o:=agA.mp o;have I:=(t9 h () (hI y.1)).2.2;have d2:=B j () ()
    lia
   rw[E,afh,YP,A,NC];cases hq:q a with
   |true=>
    rw[eE (by rw[f7 c];rfl),ahd,x a S () c];exact u (en T a) () () v (t z) _ (step a S () c hq b)
   |false=>
    rw[er (by rw[f7 c];exact l6)];exact u (en T a) () () v (t z) _ (skip a S () c hq b)
def Ts(h:gx T){i:Nat}(a:i<T.length):i+1=en T i\/dp T (i+1)=dp T i+1:=by
 obtain⟨e1,e2,e3,e4⟩:=iP a;by_cases z:i+1=en T i
 .exact .inl z
 .right
  obtain⟨j,l,e,b,f,c⟩:=xA h (k:=i+1) (ahg _) ();have g:=e3 (i+1) () ();by_cases y:j=i
  .rw[y] at b;lia
  .have:=c i () ()
   lia
def D9(h:gx T){i:Nat}(f:i<T.length)(b:HS)(Inv:Nat->HS->Prop)(step:∀j S,j<T.length->par T j=some i->j∈bU T i b->Inv j S->Inv (en T j) (jZ T j (en T j) S))
  (skip:∀j S,j<T.length->par T j=some i->Inv j S->Inv (en T j) S) (S:HS) (c:Inv (i+1) S):Inv (en T i) ((bU T i b).foldl (λS j=>a9 T 9 j S) S):=by
 have ok:=gx.tok h;obtain⟨e1,e2,e3,e4⟩:=iP f
 have g:bU T i b=(List.range' (i+1) (en T i-(i+1))).filter λj=>decide (par T j=some i)&&(Nat.testBit (b.nd i).com (hH T j)&& !Nat.testBit (b.nd i).good (hH T j)):=by
  unfold bU;rw[FE h f,List.filter_filter]
  congr 1
  funext j
  exact Bool.and_comm _ _
 rw[g];erw[S9 h f (λj=>Nat.testBit (b.nd i).com (hH T j)&& !Nat.testBit (b.nd i).good (hH T j)) (λS j=>a9 T 9 j S) (λj S a e=>CJ h 9 j S a (ok.deep j a)) Inv (λj S a e l c=>?_) (λj S a e _ c=>skip j S a e c) (en T i-(i+1)) (i+1) (fC _) () () (Ts h f) S c];erw[step j S a e ?_ c];unfold bU kids;rw[afP,afP,xc];exact⟨⟨a,f7 e⟩,l⟩
def Dq(h:gx T){i k:Nat}(c:i<T.length)(a:i<k)(b:k<en T i):∃m,par T k=some m/\i<=m/\m<k:=by
 obtain⟨e1,e2,e3,e4⟩:=iP c;obtain⟨m,e,f,l,n,g⟩:=xA h (k:=k) () ();erw[⟨m,e,?_,f⟩];by_cases z:i<=m
 .exact z
 .have a1:=g i () a;have j:=e3 k a b
  lia
end
structure Jv(T:List Row)(S:HS):Prop where
 dl:∀k,fm T k=true->(S.nd k).st="off"\/(S.nd k).st="on"\/(S.nd k).st="told"
 dm:∀k,fm T k=false->(S.nd k).st="off"\/(S.nd k).st="on"\/(S.nd k).st="turning"\/(S.nd k).st="down"
 up:∀k m,k<T.length->par T k=some m->(S.nd k).st≠"off"->(S.nd m).st≠"off"
 com:∀k m,k<T.length->par T k=some m->(S.nd m).st="turning"->Nat.testBit (S.nd m).com (hH T k)=true->Nat.testBit (S.nd m).dQ (hH T k)=true\/(S.nd k).st="off"
 dwn:∀m,(S.nd m).st="down"->(S.nd m).dQ=2^(kids T m).length-1
 ask:∀k,(S.nd k).asked=true->(S.nd k).st="off"\/(S.nd k).st="told"\/(S.nd k).st="down"
 pnd:∀e∈S.ends,e.1<T.length/\(S.nd e.1).st="off"/\∀m,par T e.1=some m->(S.nd m).st≠"off"
 one:S.ends.length<=1
section
variable{T:List Row}{S:HS}
def Jv.below(h:gx T)(j:Jv T S){i:Nat}(a:i<T.length)(g:(S.nd i).st="off"):∀(k:Nat),i<=k->k<en T i->(S.nd k).st="off":=by
 intro k
 induction k using Nat.strongRecOn with
 |ind k b=>
  intro l f;by_cases e:k=i
  .rwa[e]
  .obtain ⟨m,m1,m2,m3⟩:=Dq h a () f;have c:=b m m3 m2 ();by_cases z:(S.nd k).st="off"
   .exact z
   .exact absurd c (j.up k m (by have:=(iP a).2.1;lia) m1 z)
def Kb{m:Nat}(b:cn T m S=none){k:Nat}(c:k<T.length)(e:par T k=some m)(f:Nat.testBit (S.nd m).dQ (hH T k)=true):(S.nd k).st="off":=by
 have h:(S.nd m).dQ &&& bH T m S=0:=by
  unfold cn at b
  split at b
  .assumption
  .rename_i h0
   have lt:(S.nd m).dQ &&& bH T m S<2^(kids T m).length:=F6 ahD (oP _ _);have:=(ahP h0).mpr lt;rw[gy this] at b;cases b
 have a:=ix (λx=>Nat.testBit x (hH T k)) h;have a:Nat.testBit ((S.nd m).dQ &&& bH T m S) (hH T k)=Nat.testBit 0 (hH T k):=a
 have g:Nat.testBit (bH T m S) (hH T k)= !cg S k:=by
  unfold bH;rw[bz,Ci c e,f7 (Ce c e)]
  rfl
 rw[afE,f,g,agn,afB,Bool.not_eq_false'] at a;exact hI a
def VP{n k:Nat}(h:k<n):Nat.testBit (2^n-1) k=true:=by
 rw[Nat.testBit_two_pow_sub_one,f7 h]
def Sk{m j:Nat}(h:cn T m S=some j):j<T.length/\par T j=some m/\(S.nd j).st≠"off":=by
 obtain⟨a,b⟩:=df (kW h);erw[⟨a,b,λz=>?_⟩];unfold cn at h
 split at h
 .cases h
 .rename_i h0
  have lt:(S.nd m).dQ &&& bH T m S<2^(kids T m).length:=F6 ahD (oP _ _);obtain⟨n,l,i⟩:=Q2 h
  have g:Nat.testBit ((S.nd m).dQ &&& bH T m S) (Nat.log2 ((S.nd m).dQ &&& bH T m S))=true:=by
   have:=Nat.testBit_log2 h0;exact this
  rw[afE,oT] at g
  have e:∀x,(kids T m)[x]? =some j->Nat.testBit (bH T m S) x= !cg S j:=λx f=>by
   unfold bH;rw[bz,f,f7 (uy.mp f).1]
   rfl
  have c:=e _ h;rw[g.2] at c;unfold cg at c;rw[f7 z] at c;cases c
end
def uu(f:Nat->Nat):Nat->Nat
 |0=>0
 |n+1=>uu f n+f n
theorem MU{f g:Nat->Nat}:∀{n:Nat},(∀k,k<n->g k=f k)->uu g n=uu f n
 |0,_=>rfl
 |n+1,h=>by
  unfold uu;rw[MU λk a=>h k (),h n ()]
theorem N1{f g:Nat->Nat}{i:Nat}:∀{n:Nat},i<n->(∀k,k≠i->g k=f k)->uu g n+f i=uu f n+g i
 |0,hi,_=>absurd hi (afm _)
 |n+1,hi,h=>by
  unfold uu;by_cases e:i=n
  .subst e;rw[MU λk a=>h k ()]
   lia
  .have:=N1 (n:=n) () h;have:=h n ()
   lia
theorem Ra{f g:Nat->Nat}{a e c:Nat}(h:∀k,g k<=f k+if a<=k/\k<e then c else 0):∀n:Nat,uu g n<=uu f n+c*(min e n-a)
 |0=>vr _
 |n+1=>by
  have i:=Ra h n;have b:=h n;unfold uu;by_cases z:a<=n/\n<e
  .rw[eE z] at b;have e1:min e (n+1)-a=(min e n-a)+1:=by lia
   rw[e1,agZ,ahO]
   lia
  .rw[er z] at b;have e1:c*(min e n-a)<=c*(min e (n+1)-a):=afX c ()
   lia
def wB(T:List Row):Nat:=3*T.length+4
def nu(d:Nd):Nat:=if d.st="off" then 0 else if d.asked then 1 else 2
def tk(T:List Row)(k:Nat)(d:Nd):Nat:=d.wait.length*(dp T k+2)+if d.st="down"/\d.asked=false then dp T k+1 else 0
def pn(T:List Row)(k:Nat)(d:Nd):Nat:=wB T*tk T k d+nu d+if d.st="turning" then 3*T.length else 0
def pe(T:List Row)(S:HS):Nat:=match S.ends with
 |[]=>0
 |e::_=>if (S.nd e.1).asked then 0 else wB T*(dp T e.1+1)
def gT(T:List Row)(S:HS):Nat:=uu (λk=>pn T k (S.nd k)) T.length+pe T S
structure tM(T:List Row)(S S':HS):Prop where
 p:gT T S'+S'.book.length<=gT T S+S.book.length
 e:S'.ends.length+S.book.length<=S.ends.length+S'.book.length
theorem tM.refl(T:List Row)(S:HS):tM T S S:=⟨fC _,fC _⟩
theorem tM.trans{T:List Row}{S c f:HS}(a:tM T S c)(b:tM T c f):tM T S f:=⟨mf b.p a.p,by have:=a.e;have:=b.e;lia⟩
section
variable{T:List Row}{S:HS}
def xv(h:S.ends=[]):pe T S=0:=by
 unfold pe;rw[h]
def wV{i:Nat}{g:Nd->Nd}(b:i<T.length)(a:S.ends=[]):gT T (up S i g)+pn T i (S.nd i)=gT T S+pn T i (g (S.nd i)):=by
 unfold gT;rw[xv a,xv (S:=up S i g) a]
 have:=N1 (f:=λk=>pn T k (S.nd k)) (g:=λk=>pn T k ((up S i g).nd k)) b λk c=>by
  show pn T k ((up S i g).nd k)=_;rw[bF g c]
 have e:pn T i ((up S i g).nd i)=pn T i (g (S.nd i)):=by rw[az]
 have this:uu (λk=>pn T k ((up S i g).nd k)) T.length+pn T i (S.nd i)=uu (λk=>pn T k (S.nd k)) T.length+pn T i ((up S i g).nd i):=this;rw[e] at this;omega
theorem C3(wd:Str)(i:Nat)(S:HS):gT T (write T wd i S)=gT T S:=rfl
def Nn{a e:Nat}(b:S.ends=[])(i:e<=T.length)(c:∀k,a<=k->k<e->(S.nd k).st="off"):gT T (jZ T a e S)+(jZ T a e S).book.length<=gT T S+S.book.length+3*(e-a):=by
 have f:(jZ T a e S).book.length=S.book.length+(e-a):=by
  show(S.book++_).length=_;rw[js,gm,List.length_range']
 have ps:uu (λk=>pn T k ((jZ T a e S).nd k)) T.length<=uu (λk=>pn T k (S.nd k)) T.length+2*(min e T.length-a):=by
  erw[Ra (λk=>?_) _];show pn T k (if a<=k/\k<e then vw T S.clk k (S.nd k) else S.nd k)<=_;by_cases z:a<=k/\k<e
  .rw[eE z,eE z];have g:=c k z.1 z.2
   have h:pn T k (S.nd k)=wB T*((S.nd k).wait.length*(dp T k+2)):=by
    unfold pn tk nu;rw[g,er (λz=>absurd z.1 ∅),eE rfl,er (show ¬("off":Str)="turning" by decide)]
    rfl
   rw[h];unfold vw;cases fm T k with
   |true=>
    show wB T*((S.nd k).wait.length*(dp T k+2)+0)+2+0<=_;rw[Nat.add_zero];exact fC _
   |false=>
    show wB T*(0*(dp T k+2)+0)+2+0<=_;rw[ahh,ahM]
    lia
  .rw[er z,er z];exact fC _
 unfold gT;rw[xv b,xv (S:=jZ T a e S) b,f];have:min e T.length-a=e-a:=by lia
 rw[this] at ps
 lia
def Jv.jZ(h:gx T)(j:Jv T S){i m:Nat}(p:i<T.length)(r:par T i=some m)(u:(S.nd m).st="on")(v:(S.nd i).st="off")(s:S.ends=[]):Jv T (Hm.jZ T i (en T i) S):=by
 obtain⟨e1,e2,e3,e4⟩:=iP p;have nd:∀k,(Hm.jZ T i (en T i) S).nd k=if i<=k/\k<en T i then vw T S.clk k (S.nd k) else S.nd k:=λk=>rfl
 have b:∀k,(vw T S.clk k (S.nd k)).st="on"/\(vw T S.clk k (S.nd k)).asked=false:=λk=>by
  unfold vw;cases fm T k<;>exact⟨rfl,rfl⟩
 have mi:=(t9 h p r).1;erw[⟨λk l=>?_,λk l=>?_,λk c l a g=>?_,λk c l a f q=>?_,λc hd=>?_,λk n=>?_,λe t=>?_,by rw[show (Hm.jZ T i (en T i) S).ends=S.ends from rfl,s];exact vr _⟩]
 .rw[nd]
  split
  .exact .inr (.inl (b k).1)
  .exact j.dl k l
 .rw[nd]
  split
  .exact .inr (.inl (b k).1)
  .exact j.dm k l
 .rw[nd]
  split
  .rw[(b c).1];decide
  .rename_i hr
   rw[nd] at g
   split at g
   .rename_i o
    by_cases e:k=i
    .subst e;rw[r] at a;cases a;rw[u];decide
    .obtain ⟨m2,q1,q2,q3⟩:=Dq h p (k:=k) () ();rw[a] at q1;cases q1;exact absurd ⟨q2,()⟩ hr
   .exact j.up k c l a g
 .rw[nd] at f q;rw[nd c,nd k]
  split at f
  .rw[(b c).1] at f;exact absurd f ∅
  .rename_i hr
   rw[er hr] at q;rw[er hr];by_cases o:i<=k/\k<en T i
   .by_cases e:k=i
    .subst e;rw[r] at a;cases a;rw[u] at f;exact absurd f ∅
    .obtain ⟨m2,q1,q2,q3⟩:=Dq h p (k:=k) () ();rw[a] at q1;cases q1;exact absurd ⟨q2,()⟩ hr
   .rw[er o];exact j.com k c l a f q
 .rw[nd] at hd ⊢
  split at hd
  .rw[(b c).1] at hd;exact absurd hd ∅
  .rename_i hr
   rw[er hr];exact j.dwn c hd
 .rw[nd] at n ⊢
  split at n
  .rw[(b k).2] at n;cases n
  .rename_i hr
   rw[er hr];exact j.ask k n
 .rw[show (Hm.jZ T i (en T i) S).ends=S.ends from rfl,s] at t;cases t
theorem Jv.write(j:Jv T S)(wd:Str)(i:Nat):Jv T (Hm.write T wd i S):=⟨j.dl,j.dm,j.up,j.com,j.dwn,j.ask,j.pnd,j.one⟩
def Jv.turn(j:Jv T S){i:Nat}{g:Nd->Nd}(n:(S.nd i).st≠"off")(r:S.ends=[])(w:(g (S.nd i)).st≠"off")(s:fm T i=true->(g (S.nd i)).st="on"\/(g (S.nd i)).st="told")(u:fm T i=false->(g (S.nd i)).st="on"\/(g (S.nd i)).st="turning"\/(g (S.nd i)).st="down")
  (t:(g (S.nd i)).st="turning"->∀k,k<T.length->par T k=some i->Nat.testBit (g (S.nd i)).com (hH T k)=true->Nat.testBit (g (S.nd i)).dQ (hH T k)=true\/(S.nd k).st="off")
  (q:(g (S.nd i)).st="down"->(g (S.nd i)).dQ=2^(kids T i).length-1) (v:(g (S.nd i)).asked=true->(g (S.nd i)).st="told"\/(g (S.nd i)).st="down") (o:par T i≠some i):Jv T (Hm.up S i g):=by
 have nd:∀k,(Hm.up S i g).nd k=if k=i then g (S.nd i) else S.nd k:=λk=>by
  by_cases e:k=i
  .rw[eE e,e,az]
  .rw[er e,bF g e]
 erw[⟨λk c=>?_,λk c=>?_,λk b c a f=>?_,λk b c a h m=>?_,λb hd=>?_,λk l=>?_,λe p=>?_,j.one⟩]
 .rw[nd];by_cases e:k=i
  .rw[eE e];exact .inr (s (e ▸ c))
  .rw[er e];exact j.dl k c
 .rw[nd];by_cases e:k=i
  .rw[eE e];exact .inr (u (e ▸ c))
  .rw[er e];exact j.dm k c
 .rw[nd];by_cases e:b=i
  .rwa[eE e]
  .rw[er e];rw[nd] at f;by_cases e2:k=i
   .subst e2;exact j.up k b c a n
   .rw[er e2] at f;exact j.up k b c a f
 .rw[nd b] at h m ⊢;rw[nd k];by_cases e:b=i
  .rw[eE e] at h m ⊢;subst e;have e2:k≠b:=λz=>o (by rw[<- z] at a ⊢;exact a);rw[er e2];exact t h k c a m
  .rw[er e] at h m ⊢;rcases j.com k b c a h m with z|z
   .exact .inl z
   .by_cases e2:k=i
    .rw[e2] at z;exact absurd z n
    .rw[er e2];exact .inr z
 .rw[nd] at hd ⊢;by_cases e:b=i
  .rw[eE e] at hd ⊢;rw[e];exact q hd
  .rw[er e] at hd ⊢;exact j.dwn b hd
 .rw[nd] at l ⊢;by_cases e:k=i
  .rw[eE e] at l ⊢;exact .inr (v l)
  .rw[er e] at l ⊢;exact j.ask k l
 .rw[show (Hm.up S i g).ends=S.ends from rfl,r] at p;cases p
theorem sV(ok:mn T){i:Nat}(a:i<T.length):par T i≠some i:=λz=>absurd (ok.cF a z).1 (afK _)
def OA(ok:mn T)(j:Jv T S){i:Nat}(f:i<T.length)(a:(S.nd i).st≠"off")(m:(S.nd i).asked=false)(c:S.ends=[]):Jv T (bB T i (Hm.write T "told" i S))/\tM T S (bB T i (Hm.write T "told" i S)):=by
 have l:=j.write (T:=T) "told" i
 have b:pn T i (((bB T i (Hm.write T "told" i S)).nd i))+1<=pn T i (S.nd i):=by
  have e:(bB T i (Hm.write T "told" i S)).nd i=if fm T i then {S.nd i with st:="told",asked:=true,need:=(sh T i).bZ,eQ:=(sh T i).ba} else goDown T i {S.nd i with asked:=true}:=by
   unfold bB;rw[az]
   rfl
  have p:wB T*((S.nd i).wait.length*(dp T i+2))+2<=pn T i (S.nd i):=by
   have o:wB T*((S.nd i).wait.length*(dp T i+2))<=wB T*tk T i (S.nd i):=afX _ (agp _ _)
   have n:nu (S.nd i)=2:=by
    unfold nu;rw[er a,m,er l6]
   unfold pn
   lia
  rw[e];cases fm T i with
  |true=>
   rw[eE rfl]
   have:pn T i {S.nd i with st:="told",asked:=true,need:=(sh T i).bZ,eQ:=(sh T i).ba}=wB T*((S.nd i).wait.length*(dp T i+2))+1:=by
    unfold pn tk nu
    rfl
   rw[this]
   lia
  |false=>
   rw[er l6]
   have:pn T i (goDown T i {S.nd i with asked:=true})=1:=by
    unfold pn tk nu goDown;show wB T*(0*(dp T i+2)+0)+1+0=1;rw[ahh,ahM]
   rw[this]
   lia
 constructor
 .unfold bB;cases hl:fm T i with
  |true=>exact l.turn (g:=λd=>{d with st:="told",asked:=true,need:=(sh T i).bZ,eQ:=(sh T i).ba}) a c (by show("told":Str)≠"off";decide) (λ_=>.inr rfl) (λz=>by rw[hl] at z;cases z) (λz=>absurd (show("told":Str)="turning" from z) ∅) (λz=>absurd (show("told":Str)="down" from z) ∅) (λ_=>.inl rfl) (sV ok f)
  |false=>exact l.turn (g:=λd=>goDown T i {d with asked:=true}) a c (by show("down":Str)≠"off";decide) (λz=>by rw[hl] at z;cases z) (λ_=>.inr (.inr rfl)) (λz=>absurd (show("down":Str)="turning" from z) ∅) (λ_=>rfl) (λ_=>.inr rfl) (sV ok f)
 .have lb:(bB T i (Hm.write T "told" i S)).book.length=S.book.length+1:=cR (T:=T) "told" i S
  constructor
  .have h:=wV (T:=T) (S:=Hm.write T "told" i S) (i:=i) (g:=λd=>if fm T i then {d with st:="told",asked:=true,need:=(sh T i).bZ,eQ:=(sh T i).ba} else goDown T i {d with asked:=true}) f c;rw[C3] at h;have e2:(bB T i (Hm.write T "told" i S)).nd i=(λd=>if fm T i then {d with st:="told",asked:=true,need:=(sh T i).bZ,eQ:=(sh T i).ba} else goDown T i {d with asked:=true}) ((Hm.write T "told" i S).nd i):=az _ _ _;rw[e2] at b;have h:gT T (bB T i (Hm.write T "told" i S))+pn T i (S.nd i)=gT T S+pn T i ((λd=>if fm T i then {d with st:="told",asked:=true,need:=(sh T i).bZ,eQ:=(sh T i).ba} else goDown T i {d with asked:=true}) ((Hm.write T "told" i S).nd i)):=h;rw[lb]
   lia
  .rw[lb,show(bB T i (Hm.write T "told" i S)).ends=S.ends from rfl]
   lia
end
section
variable{T:List Row}{S:HS}
def oA{i:Nat}{wd:Str}(a:wd≠"")(b:S.ends=[]):Hm.aW T i wd S={Hm.write T wd i (Hm.up S i λd=>{d with st:="off"}) with ends:=[(i,wd)]}:=by
 unfold Hm.aW;rw[er a,b]
 rfl
def Jv.aW(ok:mn T)(j:Jv T S){i:Nat}(p:i<T.length)(q:(S.nd i).st≠"off")(t:∀k,k<T.length->par T k=some i->(S.nd k).st="off")(s:S.ends=[]){wd:Str}:Jv T (Hm.aW T i wd S):=by
 by_cases r:wd=""
 .unfold Hm.aW;rwa[eE r]
 rw[oA r s]
 have nd:∀k,(Hm.up S i λd=>{d with st:="off"}).nd k=if k=i then {S.nd i with st:="off"} else S.nd k:=λk=>by
  by_cases e:k=i
  .rw[eE e,e,az]
  .rw[er e,bF _ e]
 erw[⟨λk n=>?_,λk n=>?_,λk b f c a=>?_,λk b f c g l=>?_,λb hd=>?_,λk h=>?_,λe u=>?_,fC _⟩]
 .show ((Hm.up S i λd=>{d with st:="off"}).nd k).st=_\/((Hm.up S i λd=>{d with st:="off"}).nd k).st=_\/((Hm.up S i λd=>{d with st:="off"}).nd k).st=_;rw[nd];by_cases e:k=i
  .rw[eE e];exact .inl rfl
  .rw[er e];exact j.dl k n
 .show ((Hm.up S i λd=>{d with st:="off"}).nd k).st=_\/((Hm.up S i λd=>{d with st:="off"}).nd k).st=_\/((Hm.up S i λd=>{d with st:="off"}).nd k).st=_\/((Hm.up S i λd=>{d with st:="off"}).nd k).st=_;rw[nd];by_cases e:k=i
  .rw[eE e];exact .inl rfl
  .rw[er e];exact j.dm k n
 .have a:((Hm.up S i λd=>{d with st:="off"}).nd k).st≠"off":=a;show((Hm.up S i λd=>{d with st:="off"}).nd b).st≠"off";rw[nd] at a ⊢;by_cases e:k=i
  .rw[eE e] at a;exact absurd rfl a
  .rw[er e] at a;by_cases e2:b=i
   .rw[e2] at c;exact absurd (t k f c) a
   .rw[er e2];exact j.up k b f c a
 .have g:((Hm.up S i λd=>{d with st:="off"}).nd b).st="turning":=g;have l:Nat.testBit ((Hm.up S i λd=>{d with st:="off"}).nd b).com (hH T k)=true:=l;show Nat.testBit ((Hm.up S i λd=>{d with st:="off"}).nd b).dQ (hH T k)=true\/((Hm.up S i λd=>{d with st:="off"}).nd k).st="off";rw[nd b] at g l ⊢;by_cases e2:b=i
  .rw[eE e2] at g;exact absurd (show("off":Str)="turning" from g) ∅
  .rw[er e2] at g l ⊢;rcases j.com k b f c g l with z|z
   .exact .inl z
   .right
    rw[nd];by_cases e:k=i
    .rw[eE e]
    .rwa[er e]
 .have hd:((Hm.up S i λd=>{d with st:="off"}).nd b).st="down":=hd;show((Hm.up S i λd=>{d with st:="off"}).nd b).dQ=_;rw[nd] at hd ⊢;by_cases e:b=i
  .rw[eE e] at hd;exact absurd (show("off":Str)="down" from hd) ∅
  .rw[er e] at hd ⊢;exact j.dwn b hd
 .have h:((Hm.up S i λd=>{d with st:="off"}).nd k).asked=true:=h;show((Hm.up S i λd=>{d with st:="off"}).nd k).st=_\/((Hm.up S i λd=>{d with st:="off"}).nd k).st=_\/((Hm.up S i λd=>{d with st:="off"}).nd k).st=_;rw[nd] at h ⊢;by_cases e:k=i
  .rw[eE e];exact .inl rfl
  .rw[er e] at h ⊢;exact j.ask k h
 .obtain rfl:=ro.mp u;refine⟨p,?_,λm o=>?_⟩
  .show ((Hm.up S i λd=>{d with st:="off"}).nd i).st="off";rw[az]
  .show ((Hm.up S i λd=>{d with st:="off"}).nd m).st≠"off";have ne:m≠i:=λz=>sV ok p (by rw[z] at o;exact o);rw[bF _ ne];exact j.up i m p o q
def RB{i:Nat}{wd:Str}(f:i<T.length)(e:wd≠"")(a:S.ends=[]):gT T (Hm.aW T i wd S)+pn T i (S.nd i)=gT T S+wB T*((S.nd i).wait.length*(dp T i+2))+(if (S.nd i).asked then 0 else wB T*(dp T i+1))/\(Hm.aW T i wd S).book.length=S.book.length+1/\(Hm.aW T i wd S).ends=[(i,wd)]:=by
 rw[oA e a];erw[⟨?_,cR (T:=T) wd i (Hm.up S i λd=>{d with st:="off"}),rfl⟩];have b:=wV (T:=T) (S:=S) (i:=i) (g:=λd=>{d with st:="off"}) f a
 have e1:pn T i {S.nd i with st:="off"}=wB T*((S.nd i).wait.length*(dp T i+2)):=by
  unfold pn tk nu;rw[er (λz=>absurd (show("off":Str)="down" from z.1) ∅),eE rfl,er (show ¬("off":Str)="turning" by decide)]
  rfl
 rw[e1] at b
 have c:gT T (Hm.up S i λd=>{d with st:="off"})=uu (λk=>pn T k ((Hm.up S i λd=>{d with st:="off"}).nd k)) T.length:=by
  unfold gT;rw[xv (S:=Hm.up S i λd=>{d with st:="off"}) a]
  rfl
 have h:gT T {Hm.write T wd i (Hm.up S i λd=>{d with st:="off"}) with ends:=[(i,wd)]}=uu (λk=>pn T k ((Hm.up S i λd=>{d with st:="off"}).nd k)) T.length+if (S.nd i).asked then 0 else wB T*(dp T i+1):=by
  unfold gT pe;show _+(if ((Hm.up S i λd=>{d with st:="off"}).nd i).asked=true then 0 else wB T*(dp T i+1))=_;rw[az]
  rfl
 rw[h];rw[c] at b
 lia
def aaA{d:Nd}(h:d.st≠"off"):1<=nu d:=by
 unfold nu;rw[er h]
 split<;>lia
def Sl{i:Nat}(l:i<T.length)(b:(S.nd i).st≠"off")(c:S.ends=[]){wd:Str}(h:(S.nd i).asked=true\/(S.nd i).st="down"):tM T S (Hm.aW T i wd S):=by
 by_cases f:wd=""
 .unfold Hm.aW;rw[eE f];exact tM.refl T S
 obtain⟨a,g,j⟩:=RB (T:=T) l f c;have n:=aaA b
 constructor
 .rw[g];cases ha:(S.nd i).asked with
  |true=>
   rw[ha,eE rfl] at a;have m:wB T*((S.nd i).wait.length*(dp T i+2))<=wB T*tk T i (S.nd i):=afX _ (agp _ _);have e:pn T i (S.nd i)=wB T*tk T i (S.nd i)+nu (S.nd i)+if (S.nd i).st="turning" then 3*T.length else 0:=rfl;rw[e] at a
   lia
  |false=>
   rw[ha,er l6] at a
   have hd:(S.nd i).st="down":=by
    rcases h with z|z
    .rw[ha] at z;cases z
    .exact z
   have e:tk T i (S.nd i)=(S.nd i).wait.length*(dp T i+2)+(dp T i+1):=by
    unfold tk;rw[eE ⟨hd,ha⟩]
   have e2:pn T i (S.nd i)=wB T*tk T i (S.nd i)+nu (S.nd i)+if (S.nd i).st="turning" then 3*T.length else 0:=rfl;rw[e,agZ] at e2;rw[e2] at a
   lia
 .rw[g,j,c];show 1+S.book.length<=0+(S.book.length+1)
  lia
def N4{i:Nat}(h:i<T.length)(f:S.ends=[]){wd:Str}(a:(S.nd i).st≠"off")(hd:dp T i<=8):gT T (Hm.aW T i wd S)+(Hm.aW T i wd S).book.length<=gT T S+S.book.length+9*wB T:=by
 by_cases b:wd=""
 .unfold Hm.aW;rw[eE b]
  lia
 obtain⟨c,j,n⟩:=RB (T:=T) h b f;have o:=aaA a;have l:wB T*((S.nd i).wait.length*(dp T i+2))<=wB T*tk T i (S.nd i):=afX _ (agp _ _);have e:pn T i (S.nd i)=wB T*tk T i (S.nd i)+nu (S.nd i)+if (S.nd i).st="turning" then 3*T.length else 0:=rfl
 have g:wB T*(dp T i+1)<=9*wB T:=by
  rw[Nat.mul_comm 9];exact afX _ ()
 have m:(if (S.nd i).asked=true then 0 else wB T*(dp T i+1))<=9*wB T:=by
  split
  .lia
  .exact g
 rw[j];rw[e] at c
 lia
def acr{wd:Str}(h:isWord wd):wd≠"":=by
 rcases h with rfl|rfl|rfl|rfl|rfl<;>decide
def OW(h:gx T)(j:Jv T S){m:Nat}(n:m<T.length)(J:fm T m=false)(p:(S.nd m).st="turning"\/(S.nd m).st="down")(w:cn T m S=none)(l:S.ends=[]):
  Jv T (Hm.aR T m S)/\tM T S (Hm.aR T m S)/\((Hm.aR T m S).ends≠[]->((Hm.aR T m S).nd m).st≠"on"):=by
 have ok:=gx.tok h;have e:(S.nd m).st≠"off":=by rcases p with z|z<;>rw[z]<;>decide
 unfold Hm.aR;by_cases hd:(S.nd m).st="down"
 .rw[eE hd];have K:∀k,k<T.length->par T k=some m->(S.nd k).st="off":=λk b c=>Kb w b c (by rw[j.dwn m hd];exact VP (Ce b c));erw[⟨j.aW ok n e K l,Sl n e l (.inr hd),λ_=>?_⟩];rw[oA (acr (Oq _)) l];show((Hm.up S m λd=>{d with st:="off"}).nd m).st≠"on";rw[az];show("off":Str)≠"on"
  decide
 .rw[er hd];have s:(S.nd m).st="turning":=by rcases p with z|z;exact z;exact absurd z hd
  have r:(S.nd m).asked=false:=by
   cases z:(S.nd m).asked with
   |false=>rfl
   |true=>rcases j.ask m z with y|y|y<;>rw[s] at y<;>exact absurd y ∅
  have B:Jv T (Hm.up S m bb):=j.turn e l (by show("on":Str)≠"off";decide) (λz=>by rw[J] at z;cases z) (λ_=>.inl rfl) (λz=>absurd (show("on":Str)="turning" from z) ∅) (λz=>absurd (show("on":Str)="down" from z) ∅) (λz=>by rw[show (bb (S.nd m)).asked=(S.nd m).asked from rfl,r] at z;cases z) (sV ok n);have L:=wV (T:=T) (S:=S) (i:=m) (g:=bb) n l
  have M:pn T m (bb (S.nd m))+3*T.length=pn T m (S.nd m):=by
   have t1:tk T m (bb (S.nd m))=(S.nd m).wait.length*(dp T m+2):=by
    unfold tk bb;rw[er (λz=>absurd (show("on":Str)="down" from z.1) ∅)]
    rfl
   have E:tk T m (S.nd m)=(S.nd m).wait.length*(dp T m+2):=by
    unfold tk;rw[er (λz=>hd z.1)]
    rfl
   have A:nu (bb (S.nd m))=2:=by
    unfold nu bb;show(if ("on":Str)="off" then 0 else if (S.nd m).asked=true then 1 else 2)=2;rw[er ∅,r]
    rfl
   have G:nu (S.nd m)=2:=by
    unfold nu;rw[er e,r]
    rfl
   unfold pn;rw[t1,E,A,G,eE s,er (show ¬(bb (S.nd m)).st="turning" from(by decide:¬("on":Str)="turning"))]
  obtain⟨e1,e2,e3,e4⟩:=iP n
  have t:=D9 h n S (λa S'=>Jv T S'/\S'.ends=[]/\(S'.nd m).st="on"/\(∀k,a<=k->S'.nd k=S.nd k)/\gT T S'+S'.book.length<=gT T (Hm.up S m bb)+S.book.length+3*(a-(m+1)))
   (λk S' b c C u=>?_) (λk S' b c u=>?_) (Hm.up S m bb) ⟨B,l,by rw[az];rfl,λk b=>bF _ (),by rw[afL];exact fC _⟩
  .obtain ⟨k1,k2,k3,k4,k5⟩:=t;refine⟨k1,⟨?_,?_⟩,λz=>absurd k2 z⟩
   .have:3*(en T m-(m+1))<=3*T.length:=afX 3 ()
    lia
   .rw[k2,l];have:=rP (bU T m S) (Hm.up S m bb) (f:=λS j=>Hm.a9 T 9 j S) λj _ S=>oq 9 j S;exact Nat.add_le_add_left this _
  .obtain ⟨k1,k2,k3,k4,k5⟩:=u;obtain⟨D,v,I,F⟩:=iP b;have mk:=(t9 h b c).1
   have o:(S'.nd k).st="off":=by
    rw[k4 k (fC _)];have q:=(afP.mp C).2;rw[oT] at q;rcases j.com k m b c s q.1 with z|z
    .exact Kb w b c z
    .exact z
   erw[⟨k1.jZ h b c k3 o k2,k2,?_,λx H=>?_,?_⟩]
   .show (if k<=m/\m<en T k then _ else S'.nd m).st="on";rwa[er ()]
   .show (if k<=x/\x<en T k then _ else S'.nd x)=_;rw[er ()];exact k4 x ()
   .have:=Nn (T:=T) k2 v (k1.below h b o)
    lia
  .obtain ⟨k1,k2,k3,k4,k5⟩:=u;obtain⟨D,v,I,F⟩:=iP b;have mk:=(t9 h b c).1;exact⟨k1,k2,k3,λx H=>k4 x (),()⟩
end
section
variable{T:List Row}{S:HS}
theorem BU(h:gx T)(d:Nat)(e:∀(i:Nat) (S:HS),i<T.length->(S.nd i).st≠"off"->(S.nd i).asked=false->Jv T S->S.ends=[]->Jv T (cz T d i S)/\tM T S (cz T d i S)):∀(m:Nat) (S:HS),m<T.length->fm T m=false->(S.nd m).st="turning"\/(S.nd m).st="down"->Jv T S->S.ends=[]->Jv T (aJ T d m S)/\tM T S (aJ T d m S)/\((aJ T d m S).ends≠[]->((aJ T d m S).nd m).st≠"on")
 |m,S,hm,hl,hst,j,he=>by
  have ok:=gx.tok h;have c:(S.nd m).st≠"on":=by rcases hst with z|z<;>rw[z]<;>decide
  unfold aJ;cases hL:cn T m S with
  |none=>exact OW h j hm hl hst hL he
  |some k=>
   obtain⟨k1,k2,k3⟩:=Sk hL;dsimp only;cases ha:(S.nd k).asked with
   |true=>
    rw[eE rfl];exact⟨j,tM.refl T S,λz=>absurd he z⟩
   |false=>
    rw[er l6];obtain⟨a,b⟩:=e k S k1 k3 ha j he;erw[⟨a,b,λ_=>?_⟩];rwa[HV ok d k m S (ok.cF k1 k2).1]
theorem Bx(h:gx T):∀(d i:Nat) (S:HS),i<T.length->(S.nd i).st≠"off"->(S.nd i).asked=false->Jv T S->S.ends=[]->Jv T (cz T d i S)/\tM T S (cz T d i S)
 |0,_,S,_,_,_,j,_=>⟨j,tM.refl T S⟩
 |d+1,i,S,hi,hon,ha,j,he=>by
  have ok:=gx.tok h;obtain⟨f,g⟩:=OA ok j hi hon ha he;have e1:(bB T i (Hm.write T "told" i S)).ends=[]:=he
  have e:(bB T i (Hm.write T "told" i S)).nd i=if fm T i then {S.nd i with st:="told",asked:=true,need:=(sh T i).bZ,eQ:=(sh T i).ba} else goDown T i {S.nd i with asked:=true}:=by
   unfold bB;rw[az]
   rfl
  rw[eY];cases hl:fm T i with
  |true=>
   rw[eE rfl];rw[hl,eE rfl] at e;have c:((bB T i (Hm.write T "told" i S)).nd i).st="told"/\((bB T i (Hm.write T "told" i S)).nd i).asked=true:=by rw[e];exact⟨rfl,rfl⟩
   erw[⟨f.aW ok hi (by rw[c.1];decide) (λk m l=>?_) e1,g.trans (Sl hi (by rw[c.1];decide) e1 (.inl c.2))⟩];rw[(ok.cF m l).2] at hl;cases hl
  |false=>
   rw[er l6];rw[hl,er l6] at e;have c:((bB T i (Hm.write T "told" i S)).nd i).st="down":=by rw[e];rfl
   obtain⟨a,b,_⟩:=BU h d (Bx h d) i _ hi hl (.inr c) f e1;exact⟨a,g.trans b⟩
theorem vS(h:gx T)(d:Nat):∀(m:Nat) (S:HS),m<T.length->fm T m=false->(S.nd m).st="turning"\/(S.nd m).st="down"->Jv T S->S.ends=[]->Jv T (aJ T d m S)/\tM T S (aJ T d m S)/\((aJ T d m S).ends≠[]->((aJ T d m S).nd m).st≠"on"):=BU h d (Bx h d)
def Jv.same{S':HS}(j:Jv T S)(f:∀k,(S'.nd k).st=(S.nd k).st/\(S'.nd k).com=(S.nd k).com/\(S'.nd k).dQ=(S.nd k).dQ/\(S'.nd k).asked=(S.nd k).asked)(l:S'.ends=S.ends):Jv T S':=by
 erw[⟨λk g=>?_,λk g=>?_,λk m g h o=>?_,λk m g h i q=>?_,λm hd=>?_,λk p=>?_,λe n=>?_,by rw[l];exact j.one⟩]
 .rw[(f k).1];exact j.dl k g
 .rw[(f k).1];exact j.dm k g
 .rw[(f k).1] at o;rw[(f m).1];exact j.up k m g h o
 .rw[(f m).1] at i;rw[(f m).2.1] at q;rw[(f m).2.2.1,(f k).1];exact j.com k m g h i q
 .rw[(f m).1] at hd;rw[(f m).2.2.1];exact j.dwn m hd
 .rw[(f k).2.2.2] at p;rw[(f k).1];exact j.ask k p
 .rw[l] at n;obtain⟨a,b,c⟩:=j.pnd e n;exact⟨a,by rwa[(f _).1],λm r=>by rw[(f m).1];exact c m r⟩
theorem iB{i:Nat}{g:Nd->Nd}(a:∀d,(g d).st=d.st/\(g d).com=d.com/\(g d).dQ=d.dQ/\(g d).asked=d.asked):∀k,((Hm.up S i g).nd k).st=(S.nd k).st/\((Hm.up S i g).nd k).com=(S.nd k).com/\((Hm.up S i g).nd k).dQ=(S.nd k).dQ/\((Hm.up S i g).nd k).asked=(S.nd k).asked:=λk=>by
 by_cases e:k=i
 .rw[e,az];exact a _
 .rw[bF g e];exact⟨rfl,rfl,rfl,rfl⟩
def toBe_off{m i:Nat}(h:toBe T m i S=true):(S.nd i).st="off":=by
 unfold toBe at h;rw[oT] at h;exact hI h.1
def U4(h:gx T){m i:Nat}(n:i<T.length)(p:par T i=some m)(f:(S.nd i).st="off"){k:Nat}(j:k<T.length)(c:par T k=some m){good:Nat}(g:Nat.testBit (anew (sh T m).kind (hH T i) (kids T m).length λx=>Nat.testBit good x) (hH T k)=true):
  Nat.testBit (Shp.kN (sh T m).kind (hH T i) (kids T m).length λx=>Nat.testBit (bH T m S) x) (hH T k)=true\/(S.nd k).st="off":=by
 have o:Nat.testBit (bH T m S) (hH T k)= !cg S k:=by
  unfold bH;rw[bz,Ci j c,f7 (Ce j c)]
  rfl
 have inj:hH T k=hH T i->k=i:=λe=>by
  have a:=Ci j c;have b:=Ci n p;rw[e,b] at a;exact(iH a).symm
 have lt:=Ce j c;by_cases l:(S.nd k).st="off"
 .exact .inr l
 .left
  have on:Nat.testBit (bH T m S) (hH T k)=true:=by
   rw[o];unfold cg;rw[j0 l]
   rfl
  have ne:hH T k≠hH T i:=λz=>l (by rwa[inj z]);unfold Shp.kN anew at *
  split at g
  .rw[bz,oT] at g;exact absurd (hI g.2) ne
  .rw[bz,f7 lt,on]
   rfl
  .rw[bz,oT,oT] at g;have q:=hI g.2.1;rw[bz,f7 lt];show(true&&(Nat.testBit (bH T m S) (hH T k)&&decide (hH T i<hH T k)))=true;rw[on,f7 (show hH T i<hH T k by lia)]
   rfl
def Ip{S':HS}(b:∀k,k<T.length->pn T k (S'.nd k)=pn T k (S.nd k))(c:S.ends=[])(a:S'.ends=[]):gT T S'=gT T S:=by
 unfold gT;rw[xv c,xv a,MU b]
def Xz(h:gx T)(j:Jv T S){m i:Nat}{r:List Nat}(q:m<T.length)(J:fm T m=false)(I:i<T.length)(L:par T i=some m)(H:(S.nd m).wait=i::r)(c:(S.nd m).st="on")(G:S.ends=[]) (U:toBe T m i (Hm.up S m λd=>{d with wait:=r})=true):
  Jv T (bI T m i (Hm.up S m λd=>{d with wait:=r}))/\(bI T m i (Hm.up S m λd=>{d with wait:=r})).ends=[]/\(((bI T m i (Hm.up S m λd=>{d with wait:=r})).nd m).st="turning"\/((bI T m i (Hm.up S m λd=>{d with wait:=r})).nd m).st="down")/\gT T (bI T m i (Hm.up S m λd=>{d with wait:=r}))+1<=gT T (Hm.up S m λd=>{d with wait:=r})+wB T*(dp T m+2):=by
 have ok:=gx.tok h
 have E:(S.nd m).asked=false:=by
  cases z:(S.nd m).asked with
  |false=>rfl
  |true=>rcases j.ask m z with y|y|y<;>rw[c] at y<;>exact absurd y ∅
 have Q:Jv T (Hm.up S m λd=>{d with wait:=r}):=j.same (iB λd=>⟨rfl,rfl,rfl,rfl⟩) rfl;have e1:(Hm.up S m λd=>{d with wait:=r}).ends=[]:=G;have u:=wV (T:=T) (S:=S) (i:=m) (g:=λd=>{d with wait:=r}) q G
 have nm:∀w:List Nat,pn T m {S.nd m with wait:=w}=wB T*(w.length*(dp T m+2))+2:=λw=>by
  unfold pn tk nu;dsimp only;rw[c,E,er (λz=>absurd z.1 ∅),er ∅,er l6,er (show ¬("on":Str)="turning" by decide)]
  rfl
 have X:pn T m (S.nd m)=wB T*((r.length+1)*(dp T m+2))+2:=by
  have:=nm (S.nd m).wait;rw[H] at this;have e:({S.nd m with wait:=i::r}:Nd)=S.nd m:=by rw[<- H]
  rw[e] at this;exact this
 have K:=nm r
 have sp:wB T*((r.length+1)*(dp T m+2))=wB T*(r.length*(dp T m+2))+wB T*(dp T m+2):=by
  rw[agx,agK,agZ]
 have u:gT T (Hm.up S m λd=>{d with wait:=r})+wB T*(dp T m+2)=gT T S:=by
  have u:gT T (Hm.up S m λd=>{d with wait:=r})+pn T m (S.nd m)=gT T S+pn T m {S.nd m with wait:=r}:=u;rw[X,K,sp] at u
  lia
 generalize hS1:(Hm.up S m λd=>{d with wait:=r})=S1 at *;have v:(S1.nd m).st="on":=by rwa[<- hS1,az]
 have A:(S1.nd m).asked=false:=by rwa[<- hS1,az]
 have B:pn T m (S1.nd m)=wB T*(r.length*(dp T m+2))+2:=by rwa[<- hS1,az]
 have O:S1.book=S.book:=by rw[<- hS1];rfl
 have s:=toBe_off U;obtain⟨l,p,_⟩:=sI (T:=T) m S1;have F:Jv T (Hm.aE T m S1).2:=by rw[p];exact Q.same (iB λd=>⟨rfl,rfl,rfl,rfl⟩) rfl
 have f:(Hm.aE T m S1).2.ends=[]:=by rwa[p]
 have M:gT T (Hm.aE T m S1).2=gT T S1:=by
  rw[p];erw[Ip (λk _=>?_) e1 e1];by_cases e:k=m
  .rw[e,az];rfl
  .rw[bF _ e]
 have t:(Hm.aE T m S1).2.nd m={S1.nd m with aG:=l}:=by rw[p,az]
 have N:∀k,k≠m->(Hm.aE T m S1).2.nd k=S1.nd k:=λk D=>by rw[p,bF _ D]
 have o:((Hm.aE T m S1).2.nd m).st="on":=by rwa[t]
 have b:((Hm.aE T m S1).2.nd m).asked=false:=by rwa[t]
 have n:pn T m ((Hm.aE T m S1).2.nd m)=wB T*(r.length*(dp T m+2))+2:=by rwa[t]
 have Y:(Hm.aE T m S1).2.book=S1.book:=(pU m S1).1;have mi:=(ok.cF I L).1
 have P:Jv T (bI T m i S1)/\(bI T m i S1).ends=[]/\(((bI T m i S1).nd m).st="turning"\/((bI T m i S1).nd m).st="down")/\gT T (bI T m i S1)+1<=gT T S1+wB T*(dp T m+2):=by
  unfold bI
  split
  .have jw:=F.write (T:=T) "gives up" m;refine⟨jw.turn (g:=λd=>goDown T m {d with Em:=true}) (by show((Hm.aE T m S1).2.nd m).st≠"off";rw[o];decide) f (by show("down":Str)≠"off";decide) (λz=>by rw[J] at z;cases z) (λ_=>.inr (.inr rfl)) (λz=>absurd (show("down":Str)="turning" from z) ∅) (λ_=>rfl) (λ_=>.inr rfl) (sV ok q),f,.inr ?_,?_⟩
   .show ((Hm.up _ m _).nd m).st="down";rw[az]
    rfl
   .have a:=wV (T:=T) (S:=Hm.write T "gives up" m (Hm.aE T m S1).2) (i:=m) (g:=λd=>goDown T m {d with Em:=true}) q f;rw[C3,M] at a;have e2:pn T m ((Hm.write T "gives up" m (Hm.aE T m S1).2).nd m)=wB T*(r.length*(dp T m+2))+2:=n
    have e3:pn T m (goDown T m { (Hm.write T "gives up" m (Hm.aE T m S1).2).nd m with Em:=true})=wB T*(dp T m+1)+2:=by
     have C:((Hm.write T "gives up" m (Hm.aE T m S1).2).nd m).asked=false:=b;unfold pn tk nu goDown;dsimp only;rw[C,eE ⟨rfl,rfl⟩,er (show ¬("down":Str)="off" by decide),er l6,er (show ¬("down":Str)="turning" by decide)];show wB T*(0*(dp T m+2)+(dp T m+1))+2+0=_;rw[ahh,ahE]
    rw[e2,e3] at a;have a:gT T (giveUp T m (Hm.write T "gives up" m (Hm.aE T m S1).2))+(wB T*(r.length*(dp T m+2))+2)=gT T S1+(wB T*(dp T m+1)+2):=a;have:wB T*(dp T m+2)=wB T*(dp T m+1)+wB T:=by rw[show dp T m+2=(dp T m+1)+1 from rfl,agZ,ahO]
    have:4<=wB T:=by unfold wB;lia
    lia
  .have jw:=F.write (T:=T) "answers" i;refine⟨jw.turn (g:=Kz T m i (Hm.write T "answers" i (Hm.aE T m S1).2)) (by show((Hm.aE T m S1).2.nd m).st≠"off";rw[o];decide) f (by show("turning":Str)≠"off";decide) (λz=>by rw[J] at z;cases z) (λ_=>.inr (.inl rfl)) (λ_ k D x R=>?_) (λz=>absurd (show("turning":Str)="down" from z) ∅) (λz=>?_) (sV ok q),f,.inl ?_,?_⟩
   .refine U4 (S:=Hm.write T "answers" i (Hm.aE T m S1).2) h I L ?_ D x R;show((Hm.aE T m S1).2.nd i).st="off";rwa[N i ()]
   .have z:((Hm.aE T m S1).2.nd m).asked=true:=z;rw[b] at z;cases z
   .show ((Hm.up _ m _).nd m).st="turning";rw[az]
    rfl
   .have a:=wV (T:=T) (S:=Hm.write T "answers" i (Hm.aE T m S1).2) (i:=m) (g:=Kz T m i (Hm.write T "answers" i (Hm.aE T m S1).2)) q f;rw[C3,M] at a;have e2:pn T m ((Hm.write T "answers" i (Hm.aE T m S1).2).nd m)=wB T*(r.length*(dp T m+2))+2:=n
    have W:((Hm.write T "answers" i (Hm.aE T m S1).2).nd m).wait=r:=by
     show((Hm.aE T m S1).2.nd m).wait=r;rw[t,<-hS1];show((Hm.up S m λd=>{d with wait:=r}).nd m).wait=r;rw[az]
    have e3:pn T m (Kz T m i (Hm.write T "answers" i (Hm.aE T m S1).2) ((Hm.write T "answers" i (Hm.aE T m S1).2).nd m))=wB T*(r.length*(dp T m+2))+2+3*T.length:=by
     have C:((Hm.write T "answers" i (Hm.aE T m S1).2).nd m).asked=false:=b;unfold pn tk nu Kz;dsimp only;rw[C,W,er (λz=>absurd (show("turning":Str)="down" from z.1) ∅),er (show ¬("turning":Str)="off" by decide),er l6,eE rfl]
     rfl
    rw[e2,e3] at a;have a:gT T (kO T m i (Hm.write T "answers" i (Hm.aE T m S1).2))+(wB T*(r.length*(dp T m+2))+2)=gT T S1+(wB T*(r.length*(dp T m+2))+2+3*T.length):=a;have:wB T*1<=wB T*(dp T m+2):=afX _ ();have:wB T=3*T.length+4:=rfl
    lia
 exact P
def Nr(h:gx T)(j:Jv T S){m i:Nat}{r:List Nat}(o:m<T.length)(t:fm T m=false)(B:i<T.length)(G:par T i=some m)(l:(S.nd m).wait=i::r)(a:(S.nd m).st="on")(c:S.ends=[]):
  Jv T (cQ T m i r S)/\tM T S (cQ T m i r S)/\((cQ T m i r S).ends≠[]->((cQ T m i r S).nd m).st≠"on"):=by
 have ok:=gx.tok h
 have x:(S.nd m).asked=false:=by
  cases z:(S.nd m).asked with
  |false=>rfl
  |true=>rcases j.ask m z with y|y|y<;>rw[a] at y<;>exact absurd y ∅
 have C:Jv T (Hm.up S m λd=>{d with wait:=r}):=j.same (iB λd=>⟨rfl,rfl,rfl,rfl⟩) rfl;have e1:(Hm.up S m λd=>{d with wait:=r}).ends=[]:=c;have f:=wV (T:=T) (S:=S) (i:=m) (g:=λd=>{d with wait:=r}) o c
 have nm:∀w:List Nat,pn T m {S.nd m with wait:=w}=wB T*(w.length*(dp T m+2))+2:=λw=>by
  unfold pn tk nu;dsimp only;rw[a,x,er (λz=>absurd z.1 ∅),er ∅,er l6,er (show ¬("on":Str)="turning" by decide)]
  rfl
 have H:pn T m (S.nd m)=wB T*((r.length+1)*(dp T m+2))+2:=by
  have:=nm (S.nd m).wait;rw[l] at this;have e:({S.nd m with wait:=i::r}:Nd)=S.nd m:=by rw[<- l]
  rw[e] at this;exact this
 have F:=nm r
 have sp:wB T*((r.length+1)*(dp T m+2))=wB T*(r.length*(dp T m+2))+wB T*(dp T m+2):=by
  rw[agx,agK,agZ]
 have f:gT T (Hm.up S m λd=>{d with wait:=r})+wB T*(dp T m+2)=gT T S:=by
  have f:gT T (Hm.up S m λd=>{d with wait:=r})+pn T m (S.nd m)=gT T S+pn T m {S.nd m with wait:=r}:=f;rw[H,F,sp] at f
  lia
 unfold cQ;by_cases n:toBe T m i (Hm.up S m λd=>{d with wait:=r})=true
 .rw[eE n];obtain⟨D,s,E,I⟩:=Xz h j o t B G l a c n;have b:(Hm.up S m λd=>{d with wait:=r}).book=S.book:=rfl;rw[kn];obtain⟨v,u,A⟩:=vS h 9 m _ o t E D s;have q:=vO (T:=T) m i (Hm.up S m λd=>{d with wait:=r});refine⟨v,⟨?_,?_⟩,A⟩
  .have:=u.p;rw[q,b] at this
   lia
  .have:=u.e;rw[s,q,b] at this;rw[c];have z:([]:List (Nat×Str)).length=0:=rfl
   lia
 .rw[er n];erw[⟨C,⟨?_,fC _⟩,λz=>absurd e1 z⟩];show gT T _+S.book.length<=_
  lia
end
section
variable{T:List Row}{S:HS}
theorem DT(h:gx T):∀(f m:Nat) (S:HS),m<T.length->fm T m=false->Wf T S->Jv T S->((S.nd m).st="on"->S.ends=[])->Jv T (bf T f m S)/\tM T S (bf T f m S)
 |0,_,S,_,_,_,j,_=>⟨j,tM.refl T S⟩
 |f+1,m,S,hm,hl,w,j,he=>by
  have ok:=gx.tok h;unfold bf;by_cases g:(S.nd m).st="on"
  .rw[eE g];cases hw:(S.nd m).wait with
   |nil=>exact⟨j,tM.refl T S⟩
   |cons i r=>
    obtain⟨n,l⟩:=w.wt m i (by rw[hw];exact ov);obtain⟨a,b,c⟩:=Nr h j hm hl n l hw g (he g)
    obtain⟨d,e⟩:=DT h f m (cQ T m i r S) hm hl (w.cQ ok hm hl hw).1 a (λz=>by
     cases y:(cQ T m i r S).ends with
     |nil=>rfl
     |cons u v=>exact absurd z (c (by rw[y];exact λz=>by cases z)))
    exact⟨d,b.trans e⟩
  .rw[er g];exact⟨j,tM.refl T S⟩
def aan(h:gx T)(w:Wf T S)(j:Jv T S){i m:Nat}{wd:Str}(c:S.ends=[(i,wd)])(f:par T i=some m):Jv T (bT T m i wd {S with ends:=[]})/\(bT T m i wd {S with ends:=[]}).ends=[]/\((bT T m i wd {S with ends:=[]}).nd m).st=(S.nd m).st:=by
 have a:Jv T {S with ends:=[]}:=⟨j.dl,j.dm,j.up,j.com,j.dwn,j.ask,λe b=>(by cases b),vr _⟩;unfold bT kR
 split
 .exact ⟨a,rfl,rfl⟩
 .split
  .exact ⟨a.same (iB λd=>⟨rfl,rfl,rfl,rfl⟩) rfl,rfl,by rw[az]⟩
  .split
   .exact ⟨a.same (iB λd=>⟨rfl,rfl,rfl,rfl⟩) rfl,rfl,by rw[az]⟩
   .exact ⟨a,rfl,rfl⟩
def M3(h:gx T)(w:Wf T S)(j:Jv T S){i:Nat}{wd:Str}(C:S.ends=[(i,wd)]):Jv T (ph T i wd {S with ends:=[]})/\gT T (ph T i wd {S with ends:=[]})+(ph T i wd {S with ends:=[]}).book.length<=gT T S+S.book.length∧
  (ph T i wd {S with ends:=[]}).ends.length+S.book.length<=(ph T i wd {S with ends:=[]}).book.length:=by
 have ok:=gx.tok h;obtain⟨l,W,f⟩:=j.pnd (i,wd) (by rw[C];exact ov);have l:i<T.length:=l;have f:∀m,par T i=some m->(S.nd m).st≠"off":=f;obtain⟨F,H,_,_⟩:=w.pop C;have o:Jv T {S with ends:=[]}:=⟨j.dl,j.dm,j.up,j.com,j.dwn,j.ask,λe O=>(by cases O),vr _⟩
 have t:gT T {S with ends:=[]}+(if (S.nd i).asked then 0 else wB T*(dp T i+1))=gT T S:=by
  unfold gT pe;rw[C]
  rfl
 cases hp:par T i with
 |none=>
  rw[sR hp];erw[⟨o,?_,?_⟩]
  .show gT T {S with ends:=[]}+S.book.length<=_
   lia
  .show 0+S.book.length<=S.book.length
   lia
 |some m=>
  rw[nH hp];obtain⟨mi,q⟩:=ok.cF l hp;have s:m<T.length:=by lia
  have E:=f m hp;have P:=(t9 h l hp).2.2;have Y:=F.bT (wd:=wd) l hp q (H m);have N:=F.dG ok (wd:=wd) l hp (H m)
  have R:Jv T (bT T m i wd {S with ends:=[]})/\(bT T m i wd {S with ends:=[]}).ends=[]/\((bT T m i wd {S with ends:=[]}).nd m).st=(S.nd m).st/\gT T (bT T m i wd {S with ends:=[]})<=gT T S:=by
   unfold bT;cases ha:(S.nd i).asked with
   |true=>
    rw[ha,eE rfl] at t;rw[eE rfl];exact⟨o,rfl,rfl,()⟩
   |false=>
    rw[ha,er l6] at t;rw[er l6];unfold kR
    split
    .refine ⟨o.same (iB λd=>⟨rfl,rfl,rfl,rfl⟩) rfl,rfl,?_,?_⟩
     .rw[az]
     .have e:gT T (up {S with ends:=[]} m λd=>{d with good:=d.good ||| 2^hH T i})=gT T {S with ends:=[]}:=by
       erw[Ip (λk _=>?_) rfl rfl];by_cases e:k=m
       .rw[e,az];rfl
       .rw[bF _ e]
      rw[e]
      lia
    .split
     .refine ⟨o.same (iB λd=>⟨rfl,rfl,rfl,rfl⟩) rfl,rfl,?_,?_⟩
      .rw[az]
      .have D:=wV (T:=T) (S:={S with ends:=[]}) (i:=m) (g:=λd=>{d with wait:=d.wait++[i]}) s rfl
       have e1:pn T m {S.nd m with wait:=(S.nd m).wait++[i]}=pn T m (S.nd m)+wB T*(dp T m+2):=by
        unfold pn
        have:tk T m {S.nd m with wait:=(S.nd m).wait++[i]}=tk T m (S.nd m)+(dp T m+2):=by
         unfold tk;show((S.nd m).wait++[i]).length*(dp T m+2)+(if (S.nd m).st="down"/\(S.nd m).asked=false then dp T m+1 else 0)=_;rw[js];show((S.nd m).wait.length+1)*(dp T m+2)+(if (S.nd m).st="down"/\(S.nd m).asked=false then dp T m+1 else 0)=_;rw[agx,agK]
         lia
        rw[this,agZ];show wB T*tk T m (S.nd m)+wB T*(dp T m+2)+nu (S.nd m)+(if (S.nd m).st="turning" then 3*T.length else 0)=wB T*tk T m (S.nd m)+nu (S.nd m)+(if (S.nd m).st="turning" then 3*T.length else 0)+wB T*(dp T m+2)
        lia
       have D:gT T (up {S with ends:=[]} m λd=>{d with wait:=d.wait++[i]})+pn T m (S.nd m)=gT T {S with ends:=[]}+pn T m {S.nd m with wait:=(S.nd m).wait++[i]}:=D;rw[e1] at D;rw[P] at t;have:wB T*(dp T m+1+1)=wB T*(dp T m+2):=rfl
       lia
     .exact ⟨o,rfl,rfl,()⟩
  obtain⟨r,B,U,X⟩:=R;have G:=Ae (T:=T) m i wd {S with ends:=[]}
  have L:Jv T (dG T m i wd {S with ends:=[]})/\tM T (bT T m i wd {S with ends:=[]}) (dG T m i wd {S with ends:=[]})/\(((dG T m i wd {S with ends:=[]}).nd m).st="on"->(dG T m i wd {S with ends:=[]}).ends=[]):=by
   unfold dG;by_cases z:((bT T m i wd {S with ends:=[]}).nd m).st="on"
   .rw[eE z];exact⟨r,tM.refl _ _,λ_=>B⟩
   .rw[er z,FU]
    have A:((bT T m i wd {S with ends:=[]}).nd m).st="turning"\/((bT T m i wd {S with ends:=[]}).nd m).st="down":=by
     rcases r.dm m q with y|y|y|y
     .rw[U] at y;exact absurd y E
     .exact absurd y z
     .exact .inl y
     .exact .inr y
    obtain⟨a,b,c⟩:=vS h 9 m _ s q A r B;erw[⟨a,b,λy=>?_⟩];cases x:(aJ T 9 m (bT T m i wd {S with ends:=[]})).ends with
    |nil=>rfl
    |cons u v=>exact absurd y (c (by rw[x];exact λz=>by cases z))
  obtain⟨K,I,J⟩:=L;obtain⟨Q,M⟩:=DT h ((dG T m i wd {S with ends:=[]}).nd m).wait.length m _ s q N K J;have n:=I.trans M;have G:(bT T m i wd {S with ends:=[]}).book.length=S.book.length:=by rw[G]
  erw[⟨Q,?_,?_⟩]
  .have:=n.p
   lia
  .have:=n.e;rw[B] at this;have z:([]:List (Nat×Str)).length=0:=rfl
   lia
def OC(j:Jv T S)(f:S.ends≠[]):∃i wd,S.ends=[(i,wd)]:=by
 have:=j.one;cases e:S.ends with
 |nil=>exact absurd e f
 |cons a r=>
  rw[e] at this;cases r with
  |nil=>exact⟨a.1,a.2,rfl⟩
  |cons b c=>exact absurd this (by show ¬c.length+1+1<=1;lia)
theorem yb(h:gx T):∀(f:Nat) (S:HS),gT T S+S.ends.length<=f->Wf T S->Jv T S->∃S',aX T f S=some S'/\Jv T S'/\gT T S'+S'.book.length<=gT T S+S.book.length
 |0,S,g,w,j=>by
  have e:S.ends=[]:=afH.mp ();erw[⟨S,?_,j,fC _⟩];unfold aX;rw[eE e]
 |f+1,S,g,w,j=>by
  by_cases e:S.ends=[]
  .refine ⟨S,?_,j,fC _⟩;unfold aX;rw[e]
  .obtain ⟨i,wd,e⟩:=OC j e;have ok:=gx.tok h;obtain⟨p,n,q,_⟩:=w.pop e;obtain⟨a,b,c⟩:=M3 h w j e;rw[e] at g;have g:gT T S+1<=f+1:=g;obtain⟨S',l,o,m⟩:=yb h f (ph T i wd {S with ends:=[]}) () (p.ph ok q n) a;erw[⟨S',?_,o,mf m b⟩];unfold aX;rwa[e]
theorem lh:∀(f g:Nat) (S S':HS),f<=g->aX T f S=some S'->aX T g S=some S'
 |0,g,S,S',_,h=>by
  unfold aX at h
  split at h
  .rename_i e
   cases h;cases g with
   |zero=>unfold aX;rw[eE e]
   |succ g=>unfold aX;rw[e]
  .cases h
 |f+1,0,_,_,hl,_=>absurd hl (Nat.not_succ_le_zero _)
 |f+1,g+1,S,S',hl,h=>by
  unfold aX at h ⊢
  split at h
  .exact h
  .exact lh f g _ S' () h
def cost(T:List Row):Nat:=9*wB T
def Sm(h:gx T)(w:Wf T S)(j:Jv T S)(c:S.ends=[]){i:Nat}(l:i<T.length):∃f S',(∀g,f<=g->eh T g i S=some S')/\Wf T S'/\Jv T S'/\S'.ends=[]/\gT T S'+S'.book.length<=gT T S+S.book.length+cost T:=by
 have ok:=gx.tok h;cases hs:bR T i S with
 |false=>
  erw[⟨0,S,λg _=>?_,w,j,c,()⟩];rw[rQ,hs]
  rfl
 |true=>
  have a:=hs;unfold bR at a;rw[oT,oT,afU] at a;have r:=a.1.1;have B:(S.nd i).st≠"off":=afk a.1.2;have q:=w.f9 l hs
  have E:∀k,k<T.length->par T k=some i->False:=λk p n=>by
   rw[(ok.cF p n).2] at r;cases r
  have o:∃g:Nd->Nd,(cu T i S).2=up S i g/\(∀d,(g d).st=d.st/\(g d).com=d.com/\(g d).dQ=d.dQ/\(g d).asked=d.asked)/\∀d,pn T i (g d)=pn T i d:=by
   unfold cu
   split
   .exact ⟨λd=>{d with need:=d.need-1,eQ:=d.eQ-1},rfl,λd=>⟨rfl,rfl,rfl,rfl⟩,λd=>rfl⟩
   .exact ⟨λd=>{d with steps:=d.steps+1},rfl,λd=>⟨rfl,rfl,rfl,rfl⟩,λd=>rfl⟩
  obtain⟨g,m,s,y⟩:=o;have x:Jv T (cu T i S).2:=by rw[m];exact j.same (iB s) rfl
  have e1:(cu T i S).2.ends=[]:=by rwa[m]
  have z:gT T (cu T i S).2=gT T S:=by
   rw[m];erw[Ip (λk _=>?_) c c];by_cases e:k=i
   .rw[e,az];exact y _
   .rw[bF _ e]
  have u:(cu T i S).2.book=S.book:=(step_same i S).1;have b:((cu T i S).2.nd i).st≠"off":=by rwa[m,(iB s i).1]
  have v:Jv T (f9 T i S):=x.aW ok l b (λk p n=>(E k p n).elim) e1
  have F:gT T (f9 T i S)+(f9 T i S).book.length<=gT T S+S.book.length+cost T:=by
   have:=N4 (T:=T) (S:=(cu T i S).2) l e1 (wd:=(cu T i S).1) b (RM h l);rw[z,u] at this;exact this
  obtain⟨S',t,C,G⟩:=yb h (gT T (f9 T i S)+(f9 T i S).ends.length) _ (fC _) q v;obtain⟨D,e2⟩:=Wf.settle ok _ _ _ t q;erw[⟨gT T (f9 T i S)+(f9 T i S).ends.length,S',λg A=>?_,D,C,e2,()⟩];rw[rQ,hs];exact lh _ g _ _ A t
theorem U7(h:gx T):∀(l:List Nat) (S:HS),(∀i∈l,i<T.length)->Wf T S->Jv T S->S.ends=[]->∃f S',(∀g,f<=g->l.foldlM (λS i=>eh T g i S) S=some S')/\Wf T S'/\Jv T S'/\S'.ends=[]/\gT T S'+S'.book.length<=gT T S+S.book.length+l.length*cost T
 |[],S,_,w,j,e=>⟨0,S,λ_ _=>rfl,w,j,e,by show _<=_+0*cost T;lia⟩
 |a::r,S,hl,w,j,e=>by
  obtain⟨v,y,q,n,s,p,z⟩:=Sm h w j e (hl a ov);obtain⟨u,t,b,x,m,c,B⟩:=U7 h r y (λi o=>hl i (ri _ o)) n s p;erw[⟨max v u,t,λg A=>?_,x,m,c,?_⟩]
  .rw[af6,q g ()];exact b g ()
  .rw[xl,agx,agK]
   lia
theorem Jv.tick(j:Jv T S)(c:Int):Jv T {S with clk:=c}:=⟨j.dl,j.dm,j.up,j.com,j.dwn,j.ask,j.pnd,j.one⟩
def aak(h:gx T)(w:Wf T S)(j:Jv T S)(m:S.ends=[]):∃f S',AY T f S=some S'/\Wf T S'/\Jv T S'/\S'.ends=[]/\gT T S'+S'.book.length<=gT T S+S.book.length+T.length*cost T:=by
 obtain⟨f,S',l,g,e,c,a⟩:=U7 h (List.range T.length) {S with clk:=S.clk+1} (λi b=>xc.mp b) (w.tick _) (j.tick _) m;rw[tG] at a;exact⟨f,S',l f (fC _),g,e,c,a⟩
def R5(h:gx T)(w:Wf T S)(j:Jv T S)(l:S.ends=[]){i:Nat}(a:i<T.length)(e:fm T i=true)(b:cg S i=false):∃f S',FA T f i S=some S'/\Wf T S'/\Jv T S'/\S'.ends=[]/\gT T S'+S'.book.length<=gT T S+S.book.length+cost T:=by
 have ok:=gx.tok h;have b:(S.nd i).st≠"off":=afk b;have c:Wf T (Hm.aW T i "fallen" S):=w.aW a λ_=>.inr (.inl rfl);have m:Jv T (Hm.aW T i "fallen" S):=j.aW ok a b (λk p q=>(by rw[(ok.cF p q).2] at e;cases e)) l;have s:=N4 (T:=T) (S:=S) a l (wd:="fallen") b (RM h a);obtain⟨S',g,n,r⟩:=yb h (gT T (Hm.aW T i "fallen" S)+(Hm.aW T i "fallen" S).ends.length) _ (fC _) c m;obtain⟨o,e2⟩:=Wf.settle ok _ _ _ g c;exact⟨_,S',g,o,n,e2,by show _<=_+9*wB T;lia⟩
def SD(h:gx T)(w:Wf T S)(j:Jv T S)(c:S.ends=[])(a:cg S 0=false):∃f S',DU T f S=some S'/\Wf T S'/\Jv T S'/\S'.ends=[]/\gT T S'+S'.book.length<=gT T S+S.book.length:=by
 have ok:=gx.tok h;have a:(S.nd 0).st≠"off":=afk a;unfold DU;cases ha:(S.nd 0).asked with
 |true=>exact⟨0,S,by rw[eE rfl],w,j,c,fC _⟩
 |false=>
  obtain⟨n,m⟩:=Bx h 10 0 S ok.n0 a ha j c;have e:=Wf.cz ok 10 0 S ok.n0 w;obtain⟨S',b,i,g⟩:=yb h (gT T (cz T 10 0 S)+(cz T 10 0 S).ends.length) _ (fC _) e n;obtain⟨l,e2⟩:=Wf.settle ok _ _ _ b e;exact⟨_,S',by rwa[er l6],l,i,e2,mf g m.p⟩
def abz(h:gx T):en T 0=T.length:=by
 have a:0<T.length:=af5.mpr h.ne;obtain⟨e1,e2,e3,e4⟩:=iP a;rcases e4 with z|z
 .exact z
 .by_cases y:en T 0=T.length
  .exact y
  .obtain ⟨m,m1,m2,m3,m4,m5⟩:=xA h e1 (show en T 0<T.length by lia);have:=(Vs h).1
   lia
def C7(h:gx T):new T=jZ T 0 T.length ⟨0,[],[],λ_=>nd0⟩:=by
 have ok:=gx.tok h;unfold new;rw[CJ h 10 0 _ ok.n0 (gq (ok.deep 0 ok.n0)),abz h]
def Xu(h:gx T):Jv T (new T)/\gT T (new T)+(new T).book.length<=3*T.length:=by
 have o:gT T ⟨0,[],[],λ_=>nd0⟩=0:=by
  unfold gT;rw[xv rfl]
  have:∀n,uu (λk=>pn T k nd0) n=0:=λn=>by
   induction n with
   |zero=>rfl
   |succ n p=>
    show uu _ n+pn T n nd0=0;rw[p];show 0+(wB T*(0*(dp T n+2)+0)+0+0)=0;rw[ahh,ahM]
  exact this _
 have nd:∀k,(new T).nd k=if k<T.length then vw T 0 k nd0 else nd0:=λk=>by
  rw[C7 h];show(if 0<=k/\k<T.length then vw T 0 k nd0 else nd0)=_;by_cases e:k<T.length
  .rw[eE ⟨vr _,e⟩,eE e]
  .rw[er (λz=>e z.2),er e]
 have j:(new T).ends=[]:=by rw[C7 h];rfl
 have b:∀k,(vw T 0 k nd0).st="on"/\(vw T 0 k nd0).asked=false:=λk=>by
  unfold vw;cases fm T k<;>exact⟨rfl,rfl⟩
 have ok:=gx.tok h;erw[⟨⟨λk _=>?_,λk _=>?_,λk m f g _=>?_,λk m f g i _=>?_,λm hd=>?_,λk c=>?_,λe l=>?_,by rw[j];exact vr _⟩,?_⟩]
 .rw[nd]
  split
  .exact .inr (.inl (b k).1)
  .exact .inl rfl
 .rw[nd]
  split
  .exact .inr (.inl (b k).1)
  .exact .inl rfl
 .have:=(ok.cF f g).1;rw[nd,eE (),(b m).1]
  decide
 .have:=(ok.cF f g).1;rw[nd,eE (),(b m).1] at i;exact absurd i ∅
 .rw[nd] at hd
  split at hd
  .rw[(b m).1] at hd;exact absurd hd ∅
  .exact absurd (show("off":Str)="down" from hd) ∅
 .rw[nd] at c
  split at c
  .rw[(b k).2] at c;cases c
  .cases c
 .rw[j] at l;cases l
 .have:=Nn (T:=T) (S:=⟨0,[],[],λ_=>nd0⟩) (a:=0) (e:=T.length) rfl (fC _) (λ_ _ _=>rfl);rw[o,<-C7 h] at this;have q:([]:List Ent).length=0:=rfl;show _<=_;have:gT T (new T)+(new T).book.length<=0+0+3*(T.length-0):=this
  lia
end
end Hm
namespace L2
open PySem PySem.Spec PyProof.Rows
section
variable{X:Cx}
def Ze{t y:Str}{u:Value}(r:RelV (V.str y) u):F2 (V.str t) u=decide (y=t):=by
 obtain⟨k,rfl⟩:=r;show(y==t)=_;rw[L1,S4,qj]
def Nq:MtM X "list.index" (λx vs H Q=>∃(p:Addr) (xs:List Str) (t:Str) (j:Nat),x=.ref p/\vs=[.str t]/\fk X.K H p (xs.map V.str)/\xs[j]? =some t/\(∀m,m<j->xs[m]? ≠some t)/\Q (.int ((j:Nat):Int)) H):=by
 intro C s R H x vs v us Q I N O h;obtain⟨p,xs,t,j,rfl,rfl,P,B,i,q⟩:=h;cases N;obtain⟨u,rfl,G⟩:=O.one;obtain⟨its,r,⟨o,n,e,c,M,d2⟩,a⟩:=I.list P;obtain⟨T,J,L,os⟩:=o;dsimp only at c M d2;subst c d2;have S:its.length=xs.length:=by have:=r.length;rw[gm] at this;lia
 have U:=(uy.mp B).1
 have f:∀(m:Nat) (b:m<its.toArray.size) (y:Str),xs[m]? =some y->F2 (V.str t) its.toArray[m]=decide (y=t):=λm b y g=>by
  obtain⟨w,D,l⟩:=r.get (show(xs.map V.str)[m]? =some (V.str y) by rw[jl,g];rfl)
  have:its.toArray[m]=w:=by
   have A:m<its.length:=by rw[ki] at b;exact b
   rw[gy A] at D;exact iH D
  rw[this];exact Ze l
 have a:xs.length<=sizeLine:=by rw[gm] at a;exact a
 rw[af7] at a;have hsz:j<its.toArray.size:=by rw[ki];lia
 erw[agV F.slot_list_index ⟨_,e,rfl⟩ F.entry_list_index (F.args_list_index_2 _ _) (SeqAt.list_indexAt p its.toArray n J os u (F2 (V.str t)) j hsz () ?_ ?_) ⟨e,λy g=>sF G rfl r (afr.mpr λz a=>?_) y (by simpa using g),?_⟩]
 .rw[f j hsz t B];exact f7 rfl
 .intro m b hlt;rw[ki] at b;have E:xs[m]? =some (xs[m]'()):=gy ();rw[f m (by rw[ki];exact b) _ E];exact j0 λz=>i m hlt (by rw[E,z])
 .obtain ⟨w,_,rfl⟩:=C0.mp a
  rfl
 .exact ⟨.int j,H,I.tok _,⟨_,rfl⟩,q⟩
def ya{K0:PySem.W.Frag}(h:X.K=K0):sY X (.builtin "isinstance") (λxs H Q=>∃(e C:Addr) (c:V) (a:Value) (b:Bool),xs=[.ref e,c]/\H e=some (XOb e C none)/\XIn K0 C/\IsC K0 C/\RelV c a/\PySem.W.kitOne K0 (.ref C) a=some b/\Q (.bl b) H):=by
 subst h;exact Xk
end
end L2
namespace Hm
open PySem Shp Tr Hs
def Why(T:List Row)(S:HS)(i:Nat):Prop:=i=0\/∃m,m<T.length/\fm T m=false/\cn T m S=some i/\((S.nd m).st="turning"\/(S.nd m).st="down")
inductive Stp(T:List Row):HS->HS->Prop
 |aay {S:HS} {i:Nat}:i<T.length->fm T i=true->(S.nd i).st≠"off"->(S.nd i).asked=false->S.ends=[]->Why T S i->Stp T S (aW T i (dP ((bB T i (write T "told" i S)).nd i)) (bB T i (write T "told" i S)))
 |aaP {S:HS} {i:Nat}:i<T.length->fm T i=false->(S.nd i).st≠"off"->(S.nd i).asked=false->S.ends=[]->Why T S i->Stp T S (bB T i (write T "told" i S))
 |over {S:HS} {m:Nat}:m<T.length->fm T m=false->(S.nd m).st="down"->cn T m S=none->S.ends=[]->Stp T S (aW T m (gf (S.nd m)) S)
 |back {S:HS} {m:Nat}:m<T.length->fm T m=false->(S.nd m).st="turning"->cn T m S=none->S.ends=[]->Stp T S (aR T m S)
 |skip {S:HS} {m i:Nat} {r:List Nat}:m<T.length->fm T m=false->(S.nd m).st="on"->(S.nd m).wait=i::r->i<T.length->par T i=some m->S.ends=[]->toBe T m i (up S m λd=>{d with wait:=r})=false->Stp T S (up S m λd=>{d with wait:=r})
 |ans {S:HS} {m i:Nat} {r:List Nat}:m<T.length->fm T m=false->(S.nd m).st="on"->(S.nd m).wait=i::r->i<T.length->par T i=some m->S.ends=[]->toBe T m i (up S m λd=>{d with wait:=r})=true->Stp T S (bI T m i (up S m λd=>{d with wait:=r}))
 |aau {S:HS} {m i:Nat} {wd:Str}:i<T.length->par T i=some m->S.ends=[(i,wd)]->(S.nd m).st≠"off"->(S.nd i).st="off"->isWord wd->Stp T S (bT T m i wd {S with ends:=[]})
 |Ol {S:HS} {i:Nat} {wd:Str}:i<T.length->par T i=none->S.ends=[(i,wd)]->Stp T S {S with ends:=[]}
inductive vJ(T:List Row):HS->HS->Prop
 |refl (S:HS):vJ T S S
 |step {S S1 S':HS}:Wf T S->Jv T S->Stp T S S1->vJ T S1 S'->vJ T S S'
def vJ.trans{T:List Row}{S e c:HS}(a:vJ T S e)(b:vJ T e c):vJ T S c:=by
 induction a with
 |refl _=>exact b
 |step w j s _ f=>exact .step w j s (f b)
section
variable{T:List Row}
theorem zr(h:gx T)(d:Nat)(a:∀(i:Nat) (S:HS),i<T.length->(S.nd i).st≠"off"->(S.nd i).asked=false->bW T d i->Why T S i->Wf T S->Jv T S->S.ends=[]->vJ T S (cz T d i S)):∀(m:Nat) (S:HS),m<T.length->fm T m=false->(S.nd m).st="turning"\/(S.nd m).st="down"->bW T (d+1) m->Wf T S->Jv T S->S.ends=[]->vJ T S (aJ T d m S)
 |m,S,hm,hl,hst,hd,w,j,he=>by
  unfold aJ;cases hL:cn T m S with
  |none=>
   dsimp only;rcases hst with z|z
   .exact .step w j (.back hm hl z hL he) (.refl _)
   .unfold aR;rw[eE z];exact .step w j (.over hm hl z hL he) (.refl _)
  |some k=>
   obtain⟨k1,k2,k3⟩:=Sk hL;dsimp only;cases ha:(S.nd k).asked with
   |true=>
    rw[eE rfl];exact .refl _
   |false=>
    rw[er l6];exact a k S k1 k3 ha (hd k (kW hL)) (.inr ⟨m,hm,hl,hL,hst⟩) w j he
theorem Dm(h:gx T):∀(d i:Nat) (S:HS),i<T.length->(S.nd i).st≠"off"->(S.nd i).asked=false->bW T d i->Why T S i->Wf T S->Jv T S->S.ends=[]->vJ T S (cz T d i S)
 |0,_,_,_,_,_,hd,_,_,_,_=>hd.elim
 |d+1,i,S,hi,hon,ha,hd,why,w,j,he=>by
  have ok:=gx.tok h;rw[eY];cases hl:fm T i with
  |true=>
   rw[eE rfl];exact .step w j (.aay hi hl hon ha he why) (.refl _)
  |false=>
   rw[er l6];obtain⟨b,_⟩:=OA ok j hi hon ha he;have c:=(w.write (T:=T) "told" i).bB (i:=i)
   have a:((bB T i (write T "told" i S)).nd i).st="down":=by
    unfold bB;rw[az,hl]
    rfl
   exact .step w j (.aaP hi hl hon ha he why) (zr h d (Dm h d) i _ hi hl (.inr a) hd c b he)
theorem Bl(h:gx T)(d:Nat):∀(m:Nat) (S:HS),m<T.length->fm T m=false->(S.nd m).st="turning"\/(S.nd m).st="down"->bW T (d+1) m->Wf T S->Jv T S->S.ends=[]->vJ T S (aJ T d m S):=zr h d (Dm h d)
theorem AR(h:gx T):∀(f m:Nat) (S:HS),m<T.length->fm T m=false->Wf T S->Jv T S->((S.nd m).st="on"->S.ends=[])->vJ T S (bf T f m S)
 |0,_,S,_,_,_,_,_=>.refl S
 |f+1,m,S,hm,hl,w,j,he=>by
  have ok:=gx.tok h;unfold bf;by_cases e:(S.nd m).st="on"
  .rw[eE e];cases hw:(S.nd m).wait with
   |nil=>exact .refl S
   |cons i r=>
    obtain⟨l,n⟩:=w.wt m i (by rw[hw];exact ov);obtain⟨a,b,c⟩:=Nr h j hm hl l n hw e (he e);obtain⟨p,t⟩:=w.cQ ok hm hl hw
    have one:vJ T S (cQ T m i r S):=by
     unfold cQ;by_cases g:toBe T m i (up S m λd=>{d with wait:=r})=true
     .rw[eE g,kn];have x:Jv T (up S m λd=>{d with wait:=r}):=j.same (iB λd=>⟨rfl,rfl,rfl,rfl⟩) rfl;obtain⟨q,o,s,_⟩:=Xz h j hm hl l n hw e (he e) g;exact .step w j (.ans hm hl e hw l n (he e) g) (Bl h 9 m _ hm hl s (gq (ok.deep m hm)) (t.bI hl) q o)
     .rw[er g];exact .step w j (.skip hm hl e hw l n (he e) (by cases z:toBe T m i (up S m λd=>{d with wait:=r}) with|true=>exact absurd z g|false=>rfl)) (.refl _)
    exact one.trans (AR h f m (cQ T m i r S) hm hl p a (λz=>by
     cases y:(cQ T m i r S).ends with
     |nil=>rfl
     |cons u v=>exact absurd z (c (by rw[y];exact λz=>by cases z))))
  .rw[er e];exact .refl S
def Uv(h:gx T){S:HS}(w:Wf T S)(j:Jv T S){i:Nat}{wd:Str}(o:S.ends=[(i,wd)]):vJ T S (ph T i wd {S with ends:=[]}):=by
 have ok:=gx.tok h;obtain⟨e,r,f⟩:=j.pnd (i,wd) (by rw[o];exact ov);have e:i<T.length:=e;have r:(S.nd i).st="off":=r;have f:∀m,par T i=some m->(S.nd m).st≠"off":=f;obtain⟨B,A,_,t⟩:=w.pop o;have t:isWord wd:=t;cases hp:par T i with
 |none=>
  rw[sR hp];exact .step w j (.Ol e hp o) (.refl _)
 |some m=>
  rw[nH hp];obtain⟨mi,n⟩:=ok.cF e hp;have p:m<T.length:=by lia
  have l:=f m hp;have E:=B.bT (wd:=wd) e hp n (A m);have G:=B.dG ok (wd:=wd) e hp (A m);obtain⟨q,s,C⟩:=aan h w j o hp;erw[.step w j (.aau e hp o l r t) ?_]
  have D:vJ T (bT T m i wd {S with ends:=[]}) (dG T m i wd {S with ends:=[]})/\Jv T (dG T m i wd {S with ends:=[]})/\(((dG T m i wd {S with ends:=[]}).nd m).st="on"->(dG T m i wd {S with ends:=[]}).ends=[]):=by
   unfold dG;by_cases z:((bT T m i wd {S with ends:=[]}).nd m).st="on"
   .rw[eE z];exact⟨.refl _,q,λ_=>s⟩
   .rw[er z,FU]
    have g:((bT T m i wd {S with ends:=[]}).nd m).st="turning"\/((bT T m i wd {S with ends:=[]}).nd m).st="down":=by
     rcases q.dm m n with y|y|y|y
     .rw[C] at y;exact absurd y l
     .exact absurd y z
     .exact .inl y
     .exact .inr y
    obtain⟨a,b,c⟩:=vS h 9 m _ p n g q s;erw[⟨Bl h 9 m _ p n g (gq (ok.deep m p)) E q s,a,λy=>?_⟩];cases x:(aJ T 9 m (bT T m i wd {S with ends:=[]})).ends with
    |nil=>rfl
    |cons u v=>exact absurd y (c (by rw[x];exact λz=>by cases z))
  obtain⟨I,H,F⟩:=D;exact I.trans (AR h _ m _ p n G H F)
theorem pT(h:gx T):∀(f:Nat) (S S':HS),aX T f S=some S'->Wf T S->Jv T S->vJ T S S'
 |0,S,S',hs,w,j=>by
  unfold aX at hs
  split at hs
  .cases hs;exact .refl S
  .cases hs
 |f+1,S,S',hs,w,j=>by
  by_cases e:S.ends=[]
  .unfold aX at hs;rw[e] at hs;cases hs;exact .refl S
  .obtain ⟨i,wd,e⟩:=OC j e;have ok:=gx.tok h;obtain⟨b,a,c,_⟩:=w.pop e;unfold aX at hs;rw[e] at hs;exact(Uv h w j e).trans (pT h f _ S' hs (b.ph ok c a) (M3 h w j e).1)
end
inductive Dk
 |lB (i:Nat)
 |stop
 |turns (k:Nat)
def yO(n:Nat)(cell:Int):Dk:=if cell%12=9\/cell%12=10 then .lB (cell/12%(n:Int)).toNat else if cell%12=11/\cell/12%5=3 then .stop else .turns (1+cell/12%2).toNat
inductive G6(T:List Row):Nat->HS->HS->Prop
 |zero (S:HS):G6 T 0 S S
 |succ {k:Nat} {S S1 S':HS}:G6 T k S S1->(∃f,AY T f S1=some S')->G6 T (k+1) S S'
def aaI(T:List Row)(d:Dk)(S S':HS)(wd:Str):Prop:=match d with
 |.lB i=>(fm T i=false/\S'=S/\wd="leaf")\/(fm T i=true/\cg S i=true/\S'=S/\wd="off")\/(fm T i=true/\cg S i=false/\(∃f,FA T f i S=some S')/\wd="")
 |.stop=>(cg S 0=true/\S'=S/\wd="off")\/(cg S 0=false/\(∃f,DU T f S=some S')/\wd="")
 |.turns k=>G6 T k S S'/\wd=""
end Hm
namespace Lw
open PySem Shp Tr Hs Hm
structure LS where
 on:Nat->Bool
 told:Nat->Int
 AB:Nat->Int
structure En where
 t:Int
 wd:Str
 i:Nat
def jg{a:Type}(f:Nat->a)(i:Nat)(v:a):Nat->a:=λj=>if j=i then v else f j
theorem dC{a:Type}(f:Nat->a)(i:Nat)(v:a):jg f i v i=v:=eE rfl
theorem nB{a:Type}{f:Nat->a}{i j:Nat}{v:a}(h:j≠i):jg f i v j=f j:=er h
section
variable(T:List Row)
def lastOf(ls:LS)(i:Nat):Int:=if 0<=ls.told i then ls.told i+min (sh T i).ba (sh T i).bZ else if (sh T i).kind=0 then -1 else ls.AB i+(sh T i).many+1
def Bg(k:Nat):Str:=if k=1 then "done" else if k=2 then "fallen" else ""
def plain(wd:Str):Prop:=wd="begun"\/wd="told"\/wd="answers"\/wd="gives up"
def wA(a:Bool)(ls:LS)(e:En):Prop:=if fm T e.i=false then e.wd="ended"\/e.wd="gave up" else if a=true then e.wd="fallen" else
 if 0<=ls.told e.i then (e.wd="ended"\/e.wd="cut")/\e.t<=lastOf T ls e.i else e.t=lastOf T ls e.i/\e.wd=Bg (sh T e.i).kind
def Rx(a:Bool)(ls:LS)(e:En):Prop:=plain e.wd\/(isWord e.wd/\wA T a ls e)
end
def wC(ls:LS)(e:En):LS:=if e.wd="begun" then ⟨jg ls.on e.i true,jg ls.told e.i (-1),jg ls.AB e.i e.t⟩ else if e.wd="told" then {ls with told:=jg ls.told e.i e.t} else
 if e.wd="answers"\/e.wd="gives up" then ls else {ls with on:=jg ls.on e.i false}
def run(ls:LS)(es:List En):LS:=es.foldl wC ls
section
variable{T:List Row}
def B3(T:List Row):LS->List En->Prop
 |_,[]=>True
 |ls,e::es=>Rx T false ls e/\B3 T (wC ls e) es
theorem zJ(ls:LS)(a b:List En):run ls (a++b)=run (run ls a) b:=agz ..
theorem t7:∀{a b:List En} {ls:LS},B3 T ls a->B3 T (run ls a) b->B3 T ls (a++b)
 |[],_,_,_,h=>h
 |_::_,_,_,h,k=>⟨h.1,t7 h.2 k⟩
structure Lk(T:List Row)(S:HS)(pos:Nat)(ls:LS)(k:Nat):Prop where
 on:ls.on k= !cg S k
 lf:fm T k=true->(S.nd k).st≠"off"→
  ((S.nd k).st="on"/\ls.told k= -1/\ls.AB k=(S.nd k).beg/\(S.nd k).beg<=S.clk/\(S.nd k).steps=(if (S.nd k).beg=S.clk then 0 else (if k<pos then S.clk else S.clk-1)-(S.nd k).beg))∨
  ((S.nd k).st="told"/\∃s:Int,0<=s/\(S.nd k).need=(sh T k).bZ-s/\(S.nd k).eQ=(sh T k).ba-s/\0<(S.nd k).need/\0<(S.nd k).eQ/\0<=ls.told k/\ls.told k<=S.clk/\(S.nd k).beg<=ls.told k/\(if k<pos then S.clk else S.clk-1)-ls.told k<=s)
def jH(T:List Row)(S:HS)(a:Nat)(ls:LS):Prop:=0<=S.clk/\∀k,k<T.length->Lk T S a ls k
def Qs(T:List Row)(e:En):Ent:=ent T e.t e.wd e.i
structure Go(T:List Row)(p p':Nat)(S S':HS)(es:List En):Prop where
 lt:∀e∈es,e.i<T.length/\e.t=S.clk
 clk:S'.clk=S.clk
 bk:S'.book=S.book++es.map (Qs T)
 go:∀ls,jH T S p ls->B3 T ls es/\jH T S' p' (run ls es)
theorem Go.refl(p:Nat)(S:HS):Go T p p S S []:=⟨λe h=>(by cases h),rfl,(su _).symm,λ_ h=>⟨trivial,h⟩⟩
def Go.trans{p i c:Nat}{S g f:HS}{a b:List En}(x:Go T p i S g a)(y:Go T i c g f b):Go T p c S f (a++b):=by
 erw[⟨λe j=>?_,y.clk.trans x.clk,by rw[y.bk,x.bk,ni,T1],λls h=>?_⟩]
 .rcases wH.mp j with z|z
  .exact x.lt e z
  .exact ⟨(y.lt e z).1,(y.lt e z).2.trans x.clk⟩
 .obtain ⟨x1,x2⟩:=x.go ls h;obtain⟨l,m⟩:=y.go _ x2;exact⟨t7 x1 l,by rwa[zJ]⟩
def Lk.AG{S S':HS}{p:Nat}{ls ls':LS}{k:Nat}(h:Lk T S p ls k)(c:S'.clk=S.clk)(n:S'.nd k=S.nd k)(o:ls'.on k=ls.on k)(t:ls'.told k=ls.told k)(b:ls'.AB k=ls.AB k):Lk T S' p ls' k:=by
 have a:=h.on;have e:=h.lf;erw[⟨?_,?_⟩]
 .unfold cg at a ⊢;rwa[o,n]
 .rwa[n,c,t,b]
theorem Lk.zZ{S S':HS}{p a:Nat}{ls ls':LS}{k:Nat}(h:Lk T S p ls k)(m:fm T k=false)(n:cg S' k=cg S k)(o:ls'.on k=ls.on k):Lk T S' a ls' k:=
 ⟨by rw[o,n];exact h.on,λz=>by rw[m] at z;cases z⟩
theorem jH.of{S S':HS}{p:Nat}{ls ls':LS}(h:jH T S p ls)(c:S'.clk=S.clk)(i:Nat)(o:∀k,k≠i->S'.nd k=S.nd k/\ls'.on k=ls.on k/\ls'.told k=ls.told k/\ls'.AB k=ls.AB k)(b:i<T.length->Lk T S' p ls' i):jH T S' p ls':=
 ⟨by rw[c];exact h.1,λk a=>by
  by_cases e:k=i
  .subst e;exact b a
  .obtain ⟨o1,o2,o3,o4⟩:=o k e;exact(h.2 k a).AG c o1 o2 o3 o4⟩
theorem Go.KC{S S':HS}{p m:Nat}(c:S'.clk=S.clk)(b:S'.book=S.book)(o:∀k,k≠m->S'.nd k=S.nd k)(l:fm T m=false)(f:cg S' m=cg S m):Go T p p S S' []:=
 ⟨λe h=>(by cases h),c,by rw[b];exact(su _).symm,λls h=>⟨trivial,h.of c m (λk g=>⟨o k g,rfl,rfl,rfl⟩) λa=>(h.2 m a).zZ l f rfl⟩⟩
theorem Go.one{S S':HS}{p a:Nat}{wd:Str}{i:Nat}(f:i<T.length)(c:S'.clk=S.clk)(b:S'.book=S.book++[ent T S.clk wd i])(g:∀ls,jH T S p ls->Rx T false ls ⟨S.clk,wd,i⟩/\jH T S' a (wC ls ⟨S.clk,wd,i⟩)):Go T p a S S' [⟨S.clk,wd,i⟩]:=
 ⟨λe h=>by rw[ro.mp h];exact⟨f,rfl⟩,c,b,λls h=>⟨⟨(g ls h).1,trivial⟩,(g ls h).2⟩⟩
theorem Uj(ls:LS)(t:Int)(i:Nat):wC ls ⟨t,"told",i⟩={ls with told:=jg ls.told i t}:=rfl
def Bo{wd:Str}(h:isWord wd)(ls:LS)(t:Int)(i:Nat):wC ls ⟨t,wd,i⟩={ls with on:=jg ls.on i false}:=by
 rcases h with rfl|rfl|rfl|rfl|rfl<;>rfl
theorem BD{S:HS}{k:Nat}:cg S k=true↔(S.nd k).st="off":=qj
def Ln{S S':HS}{k:Nat}(a:(S.nd k).st≠"off")(b:(S'.nd k).st≠"off"):cg S' k=cg S k:=by
 unfold cg;rw[j0 a,j0 b]
def Go.word{S S':HS}{p m i:Nat}{wd:Str}(g:i<T.length)(a:wd="answers"\/wd="gives up")(c:S'.clk=S.clk)(b:S'.book=S.book++[ent T S.clk wd i])(o:∀k,k≠m->S'.nd k=S.nd k)(l:fm T m=false)(f:cg S' m=cg S m):Go T p p S S' [⟨S.clk,wd,i⟩]:=by
 erw[Go.one g c b λls h=>?_];have e:wC ls ⟨S.clk,wd,i⟩=ls:=by rcases a with rfl|rfl<;>rfl
 erw[⟨.inl (.inr (.inr a)),?_⟩];rw[e];exact h.of c m (λk n=>⟨o k n,rfl,rfl,rfl⟩) λj=>(h.2 m j).zZ l f rfl
theorem Kx(t:Int):∀(n a:Nat) (ls:LS),let r:=run ls ((List.range' a n).map λi=>⟨t,"begun",i⟩)
  (∀k,a<=k->k<a+n->r.on k=true/\r.told k= -1/\r.AB k=t)/\(∀k,¬(a<=k/\k<a+n)->r.on k=ls.on k/\r.told k=ls.told k/\r.AB k=ls.AB k)
 |0,a,ls=>⟨λk c h=>(),λ_ _=>⟨rfl,rfl,rfl⟩⟩
 |n+1,a,ls=>by
  have g:=Kx t n (a+1) (wC ls ⟨t,"begun",a⟩);obtain⟨f,b⟩:=g;erw[⟨λk c h=>?_,λk c=>?_⟩]
  .by_cases e:k=a
   .subst e;obtain⟨x,y,z⟩:=b k ();exact⟨x.trans (dC ..),y.trans (dC ..),z.trans (dC ..)⟩
   .exact f k () ()
  .obtain ⟨x,y,z⟩:=b k ();have ne:k≠a:=by lia
   exact⟨x.trans (nB ne),y.trans (nB ne),z.trans (nB ne)⟩
theorem Ei(t:Int):∀(l:List Nat) (ls:LS),B3 T ls (l.map λi=>⟨t,"begun",i⟩)
 |[],_=>trivial
 |_::l,_=>⟨.inl (.inl rfl),Ei t l _⟩
def SE{S:HS}{p a e:Nat}(j:a<=e)(l:e<=T.length):Go T p p S (jZ T a e S) ((List.range' a (e-a)).map λi=>⟨S.clk,"begun",i⟩):=by
 erw[⟨λx f=>?_,rfl,?_,λls h=>⟨Ei _ _ _,h.1,λk g=>?_⟩⟩]
 .obtain ⟨i,hi,rfl⟩:=C0.mp f;obtain⟨_,_,z⟩:=List.mem_range'.mp hi;exact⟨by show i<_;lia,rfl⟩
 .unfold jZ;rw[agF]
  rfl
 .obtain ⟨r1,r2⟩:=Kx S.clk (e-a) a ls;have nd:(jZ T a e S).nd k=if a<=k/\k<e then vw T S.clk k (S.nd k) else S.nd k:=rfl;by_cases z:a<=k/\k<e
  .obtain ⟨o,t,b⟩:=r1 k z.1 ();rw[eE z] at nd;refine⟨?_,λc _=>.inl ?_⟩
   .rw[o];unfold cg;rw[nd];unfold vw
    split<;>rfl
   .rw[nd,t,b];unfold vw;rw[eE c];exact⟨rfl,rfl,rfl,afS _,(eE rfl).symm⟩
  .obtain ⟨o,t,b⟩:=r2 k ();rw[er z] at nd;exact(h.2 k g).AG rfl nd o t b
end
section
variable{T:List Row}
theorem Gs(i:Nat)(S:HS):aW T i "" S=S:=eE rfl
def oA{i:Nat}{wd:Str}(h:wd≠"")(S:HS):(aW T i wd S).clk=S.clk/\(aW T i wd S).book=S.book++[ent T S.clk wd i]/\(∀k,k≠i->(aW T i wd S).nd k=S.nd k)/\((aW T i wd S).nd i).st="off":=by
 unfold aW;rw[er h];exact⟨rfl,rfl,λk a=>er a,by show(ite (i=i) _ _:Nd).st=_;rw[eE rfl]⟩
def Ll{wd:Str}(h:isWord wd):wd≠"":=by rcases h with rfl|rfl|rfl|rfl|rfl<;>decide
def FC{S a:HS}{p l i:Nat}{wd:Str}(m:i<T.length)(j:isWord wd)(c:a.clk=S.clk)(b:a.book=S.book)(o:∀k,k≠i->a.nd k=S.nd k)(q:∀k,k≠i->(k<p↔k<l))(g:∀ls,jH T S p ls->wA T false ls ⟨S.clk,wd,i⟩):Go T p l S (aW T i wd a) [⟨S.clk,wd,i⟩]:=by
 obtain⟨e1,e2,e3,e4⟩:=oA (T:=T) (i:=i) (Ll j) a;erw[Go.one m (e1.trans c) (by rw[e2,b,c]) λls h=>⟨.inr ⟨j,g ls h⟩,?_⟩];rw[Bo j];erw[⟨by rw[e1,c];exact h.1,λk n=>?_⟩];by_cases e:k=i
 .subst e;exact⟨by show jg ls.on k false k=_;rw[dC,BD.mpr e4];rfl,λ_ z=>absurd e4 z⟩
 .have hs:=(h.2 k n).AG (S':=aW T i wd a) (ls':={ls with on:=jg ls.on i false}) (e1.trans c) ((e3 k e).trans (o k e)) (nB e) rfl rfl;erw[⟨hs.on,λx y=>?_⟩];have:=hs.lf x y;have f:=q k e;by_cases z:k<p
  .rw[eE z] at this;rwa[eE (f.mp z)]
  .rw[er z] at this;rwa[er (λw=>z (f.mpr w))]
def Qm(h:gx T){i:Nat}(a:i<T.length):0<=(sh T i).ba/\0<=(sh T i).bZ/\0<=(sh T i).many:=by
 have:=h.sh T[i] (M5 a)
 have e:sh T i=T[i].sh:=by
  unfold sh;rw[ry,gy a]
  rfl
 rw[e];exact⟨this.g0,this.s0,this.m0⟩
def qT(d:Nd):(dP d="ended"/\d.need=0)\/(dP d="cut"/\d.eQ=0)\/(dP d=""/\d.need≠0/\d.eQ≠0):=by
 unfold dP;by_cases a:d.need=0
 .rw[eE a];exact .inl ⟨rfl,a⟩
 .rw[er a];by_cases b:d.eQ=0
  .rw[eE b];exact .inr (.inl ⟨rfl,b⟩)
  .rw[er b];exact .inr (.inr ⟨rfl,a,b⟩)
def NO(h:gx T){S:HS}{p i:Nat}(e:i<T.length)(on:(S.nd i).st≠"off")(l:fm T i=true->dP ((bB T i (write T "told" i S)).nd i)=""):Go T p p S (bB T i (write T "told" i S)) [⟨S.clk,"told",i⟩]:=by
 erw[Go.one e rfl rfl λls k=>⟨.inl (.inr (.inl rfl)),?_⟩];rw[Uj];erw[k.of rfl i (λx j=>⟨er j,rfl,nB j,rfl⟩) λ_=>?_];have f:(bB T i (write T "told" i S)).nd i=if fm T i then {S.nd i with st:="told",asked:=true,need:=(sh T i).bZ,eQ:=(sh T i).ba} else goDown T i {S.nd i with asked:=true}:=az ..
 have m:((bB T i (write T "told" i S)).nd i).st≠"off":=by
  rw[f]
  split<;>exact(by decide:("told":Str)≠"off"/\("down":Str)≠"off").casesOn λa b=>by first|exact a|exact b
 have g:=k.2 i e;erw[⟨?_,λc _=>.inr ?_⟩]
 .rw[Ln (S:=S) on m];exact g.on
 .have hz:=l c;rw[f,eE c] at hz;obtain⟨q,t,_⟩:=Qm h e;rcases qT {S.nd i with st:="told",asked:=true,need:=(sh T i).bZ,eQ:=(sh T i).ba} with⟨a,_⟩|⟨a,_⟩|⟨_,a,b⟩
  .rw[hz] at a;exact absurd a ∅
  .rw[hz] at a;exact absurd a ∅
  .rw[f,eE c];have a:(sh T i).bZ≠0:=a;have b:(sh T i).ba≠0:=b
   have n:(S.nd i).beg<=S.clk:=by
    rcases g.lf c on with⟨_,_,_,z,_⟩|⟨_,s,_,_,_,_,_,_,o,r,_⟩
    .exact z
    .lia
   erw[⟨rfl,0,afS _,(Int.sub_zero _).symm,(Int.sub_zero _).symm,by show 0<(sh T i).bZ;lia,by show 0<(sh T i).ba;lia,?_,?_,?_,?_⟩]
   .show 0<=jg ls.told i S.clk i;rw[dC];exact k.1
   .show jg ls.told i S.clk i<=S.clk;rw[dC];exact afS _
   .show (S.nd i).beg<=jg ls.told i S.clk i;rwa[dC]
   .show (if i<p then S.clk else S.clk-1)-jg ls.told i S.clk i<=0;rw[dC]
    split<;>lia
def ON(h:gx T){S a:HS}{p i:Nat}{wd:Str}(l:i<T.length)(n:fm T i=true)(m:wd="ended"\/wd="cut")(c:a.clk=S.clk)(b:a.book=S.book++[ent T S.clk "told" i])(o:∀k,k≠i->a.nd k=S.nd k):Go T p p S (aW T i wd a) [⟨S.clk,"told",i⟩,⟨S.clk,wd,i⟩]:=by
 have g:isWord wd:=by rcases m with rfl|rfl<;>simp[isWord]
 obtain⟨e1,e2,e3,e4⟩:=oA (T:=T) (i:=i) (Ll g) a;obtain⟨s,q,_⟩:=Qm h l;erw[⟨λe j=>?_,e1.trans c,by rw[e2,b,c,T1];rfl,λls k=>⟨⟨.inl (.inr (.inl rfl)),.inr ⟨g,?_⟩,trivial⟩,?_⟩⟩]
 .rcases ti.mp j with rfl|j
  .exact ⟨l,rfl⟩
  .rw[ro.mp j];exact⟨l,rfl⟩
 .have t:(wC ls ⟨S.clk,"told",i⟩).told i=S.clk:=dC ..;unfold wA;rw[er (by show ¬fm T i=false;rw[n];decide),er ∅];show if 0<=(wC ls ⟨S.clk,"told",i⟩).told i then _ else _;rw[t,eE k.1];erw[⟨m,?_⟩];show S.clk<=lastOf T (wC ls ⟨S.clk,"told",i⟩) i;unfold lastOf;rw[t,eE k.1]
  lia
 .have r:run ls [⟨S.clk,"told",i⟩,⟨S.clk,wd,i⟩]={ls with on:=jg ls.on i false,told:=jg ls.told i S.clk}:=by
   show wC (wC ls ⟨S.clk,"told",i⟩) ⟨S.clk,wd,i⟩=_;rw[Bo g]
   rfl
  rw[r];exact k.of (e1.trans c) i (λx f=>⟨(e3 x f).trans (o x f),nB f,nB f,rfl⟩) λ_=>⟨by show jg ls.on i false i=_;rw[dC,BD.mpr e4];rfl,λ_ z=>absurd e4 z⟩
def abJ(h:gx T){S S':HS}(st:Stp T S S')(j:Jv T S)(p:Nat):∃es,Go T p p S S' es:=by
 have ok:=gx.tok h;cases st with
 |@aay i hi c on _ _ _=>
  rcases qT ((bB T i (write T "told" i S)).nd i) with⟨a,_⟩|⟨a,_⟩|⟨a,_⟩
  .rw[a];exact⟨_,ON h hi c (.inl rfl) rfl rfl λk b=>er b⟩
  .rw[a];exact⟨_,ON h hi c (.inr rfl) rfl rfl λk b=>er b⟩
  .have g:=NO h (p:=p) hi on λ_=>a;rw[a,Gs];exact⟨_,g⟩
 |@aaP i hi c on _ _ _=>exact⟨_,NO h hi on λz=>by rw[c] at z;cases z⟩
 |@over m hm c _ _ _=>
  have n:gf (S.nd m)="ended"\/gf (S.nd m)="gave up":=by
   unfold gf
   split
   .exact .inr rfl
   .exact .inl rfl
  erw[⟨_,FC hm (by rcases n with z|z<;>rw[z]<;>simp[isWord]) rfl rfl (λ_ _=>rfl) (λ_ _=>Iff.rfl) λls _=>?_⟩]
  unfold wA;rwa[eE c]
 |@back m hm c ht _ _=>
  unfold aR;rw[er (by rw[ht];decide)];have q:Go T p p S (up S m bb) []:=Go.KC (m:=m) rfl rfl (λk b=>bF _ b) c (Ln (by rw[ht];decide) (by rw[az];exact(by decide:("on":Str)≠"off")))
  exact D9 h hm S (λ_ S'=>∃es,Go T p p S S' es) (λk S' b _ _ l=>by
   obtain⟨es,g⟩:=l;obtain⟨u,s,_,_⟩:=iP b;exact⟨_,g.trans (SE (afC u) s)⟩) (λ_ _ _ _ l=>l) _ ⟨_,q⟩
 |@skip m i r hm c hon _ _ _ _ _=>exact⟨_,Go.KC (m:=m) rfl rfl (λk b=>bF _ b) c (by unfold cg;rw[az])⟩
 |@ans m i r hm c hon n hi hp he tb=>
  have en:∀f:HS,(aE T m f).2.clk=f.clk/\(aE T m f).2.book=f.book/\(∀k,k≠m->(aE T m f).2.nd k=f.nd k):=by
   intro f;unfold aE
   split
   .exact ⟨rfl,rfl,λ_ _=>rfl⟩
   .exact ⟨rfl,rfl,λk b=>er b⟩
  obtain⟨e1,e2,e3⟩:=en (up S m λd=>{d with wait:=r});have o:(S.nd m).st≠"off":=by rw[hon];decide
  unfold bI
  split
  .refine ⟨_,Go.word (m:=m) hm (.inr rfl) e1 ?_ (λk b=>?_) c (Ln o ?_)⟩
   .show (aE T m (up S m λd=>{d with wait:=r})).2.book++_=_;rw[e2,e1]
    rfl
   .exact (bF _ b).trans ((e3 k b).trans (bF _ b))
   .unfold giveUp;rw[az];exact(by decide:("down":Str)≠"off")
  .refine ⟨_,Go.word (m:=m) hi (.inl rfl) e1 ?_ (λk b=>?_) c (Ln o ?_)⟩
   .show (aE T m (up S m λd=>{d with wait:=r})).2.book++_=_;rw[e2,e1]
    rfl
   .exact (bF _ b).trans ((e3 k b).trans (bF _ b))
   .unfold kO;rw[az];exact(by decide:("turning":Str)≠"off")
 |@aau m i wd hi hp he _ _ _=>
  have c:=(ok.cF hi hp).2;unfold bT
  split
  .exact ⟨_,Go.KC (m:=m) rfl rfl (λ_ _=>rfl) c rfl⟩
  .unfold kR
   split
   .exact ⟨_,Go.KC (m:=m) rfl rfl (λk b=>bF _ b) c (by unfold cg;rw[az])⟩
   .split
    .exact ⟨_,Go.KC (m:=m) rfl rfl (λk b=>bF _ b) c (by unfold cg;rw[az])⟩
    .exact ⟨_,Go.KC (m:=m) rfl rfl (λ_ _=>rfl) c rfl⟩
 |@Ol i wd hi _ _=>
  erw[⟨[],λe h=>(by cases h),rfl,(su _).symm,λls k=>⟨trivial,k.1,λx t=>(k.2 x t).AG rfl rfl rfl rfl rfl⟩⟩]
def Lm(h:gx T){S S':HS}(m:vJ T S S')(p:Nat):∃es,Go T p p S S' es:=by
 induction m with
 |refl S=>exact⟨_,Go.refl p S⟩
 |step w j s _ e=>
  obtain⟨a,f⟩:=abJ h s j p;obtain⟨b,c⟩:=e;exact⟨_,f.trans c⟩
end
section
variable{T:List Row}
def Qi{f g i:Nat}{S S':HS}(a:f<=g)(h:eh T f i S=some S'):eh T g i S=some S':=by
 unfold eh at h ⊢;by_cases z:bR T i S=true
 .rw[eE z] at h ⊢;exact lh _ _ _ _ a h
 .rw[er z] at h ⊢;exact h
def JY(h:gx T){S g:HS}(w:Wf T S)(j:Jv T S)(n:S.ends=[]){f i:Nat}(m:i<T.length)(hs:eh T f i S=some g):Wf T g/\Jv T g/\g.ends=[]:=by
 obtain⟨l,S',a,b,c,d,_⟩:=Sm h w j n m;have e:=Qi (Nat.le_max_left f l) hs;rw[a _ (Nat.le_max_right f l)] at e;cases e;exact⟨b,c,d⟩
def M6{S:HS}{i:Nat}(hs:bR T i S=true):fm T i=true/\(S.nd i).st≠"off"/\(S.nd i).beg<S.clk:=by
 unfold bR at hs;rw[oT,oT,afU] at hs;exact⟨hs.1.1,afk hs.1.2,hI hs.2⟩
def Yw(h:gx T){S:HS}(j:Jv T S)(m:S.ends=[]){i:Nat}(p:i<T.length)(hs:bR T i S=true):Jv T (f9 T i S):=by
 have ok:=gx.tok h;obtain⟨e,q,_⟩:=M6 hs
 have b:∃g:Nd->Nd,(cu T i S).2=up S i g/\(∀d,(g d).st=d.st/\(g d).com=d.com/\(g d).dQ=d.dQ/\(g d).asked=d.asked):=by
  unfold cu
  split
  .exact ⟨λd=>{d with need:=d.need-1,eQ:=d.eQ-1},rfl,λd=>⟨rfl,rfl,rfl,rfl⟩⟩
  .exact ⟨λd=>{d with steps:=d.steps+1},rfl,λd=>⟨rfl,rfl,rfl,rfl⟩⟩
 obtain⟨g,c,f⟩:=b;have l:Jv T (cu T i S).2:=by rw[c];exact j.same (iB f) rfl
 have e1:(cu T i S).2.ends=[]:=by rwa[c]
 have a:((cu T i S).2.nd i).st≠"off":=by rwa[c,(iB f i).1]
 exact l.aW ok p a (λk n o=>(by rw[(ok.cF n o).2] at e;cases e)) e1
def Go.gK{S a:HS}{i:Nat}(c:a.clk=S.clk)(b:a.book=S.book)(o:∀k,k≠i->a.nd k=S.nd k)(g:∀ls,jH T S i ls->i<T.length->Lk T a (i+1) ls i):Go T i (i+1) S a []:=by
 erw[⟨λe h=>(by cases h),c,by rw[b];exact(su _).symm,λls h=>⟨trivial,by rw[c];exact h.1,λk f=>?_⟩⟩];by_cases e:k=i
 .subst e;exact g ls h f
 .have hs:=(h.2 k f).AG (S':=a) (ls':=ls) c (o k e) rfl rfl rfl;erw[⟨hs.on,λx y=>?_⟩];have:=hs.lf x y;by_cases z:k<i
  .rw[eE z] at this;rwa[eE (show k<i+1 by lia)]
  .rw[er z] at this;rwa[er (show ¬k<i+1 by lia)]
def Vu(h:gx T){S:HS}{i:Nat}(j:i<T.length)(hs:bR T i S=true):∃es,Go T i (i+1) S (f9 T i S) es:=by
 obtain⟨x,C,w⟩:=M6 hs;have A:¬fm T i=false:=by rw[x];decide
 have g:∀k,k≠i->(k<i↔k<i+1):=λk f=>by lia
 unfold f9 cu;by_cases p:(S.nd i).st="told"
 .rw[eE p];have m:(up S i λd=>{d with need:=d.need-1,eQ:=d.eQ-1}).nd i={S.nd i with need:=(S.nd i).need-1,eQ:=(S.nd i).eQ-1}:=az ..
  have told:∀ls,jH T S i ls->∃s:Int,0<=s/\(S.nd i).need=(sh T i).bZ-s/\(S.nd i).eQ=(sh T i).ba-s/\0<(S.nd i).need/\0<(S.nd i).eQ/\0<=ls.told i/\ls.told i<=S.clk/\(S.nd i).beg<=ls.told i/\S.clk-1-ls.told i<=s:=λls k=>by
   rcases(k.2 i j).lf x C with⟨z,_⟩|⟨_,s,a⟩
   .rw[p] at z;exact absurd z ∅
   .rw[er (afK i)] at a;exact⟨s,a⟩
  have o:∀wd:Str,(wd="ended"\/wd="cut")->∀ls,jH T S i ls->wA T false ls ⟨S.clk,wd,i⟩:=λwd H ls k=>by
   obtain⟨s,G,r,q,u,v,t,y,D,I⟩:=told ls k;unfold wA;rw[er A,er ∅,eE t];erw[⟨H,?_⟩];show S.clk<=lastOf T ls i;unfold lastOf;rw[eE t]
   lia
  dsimp only;rcases qT ((up S i λd=>{d with need:=d.need-1,eQ:=d.eQ-1}).nd i) with⟨a,_⟩|⟨a,_⟩|⟨a,b,c⟩
  .rw[a];exact⟨_,FC j (.inr (.inr (.inr (.inl rfl)))) rfl rfl (λk f=>bF _ f) g (o _ (.inl rfl))⟩
  .rw[a];exact⟨_,FC j (.inr (.inr (.inr (.inr rfl)))) rfl rfl (λk f=>bF _ f) g (o _ (.inr rfl))⟩
  .rw[a,Gs];rw[m] at b c;have b:(S.nd i).need-1≠0:=b;have c:(S.nd i).eQ-1≠0:=c;erw[⟨_,Go.gK rfl rfl (λk f=>bF _ f) λls k _=>?_⟩];obtain⟨s,G,r,q,u,v,t,y,D,I⟩:=told ls k;refine⟨?_,λ_ _=>.inr ?_⟩
   .rw[(k.2 i j).on];unfold cg;rw[m]
   .rw[m,eE (afn i)];exact⟨p,s+1,(),by show(S.nd i).need-1=_;lia,by show(S.nd i).eQ-1=_;lia,by show 0<(S.nd i).need-1;lia,by show 0<(S.nd i).eQ-1;lia,t,y,D,by show S.clk-ls.told i<=s+1;lia⟩
 .rw[er p];have m:(up S i λd=>{d with steps:=d.steps+1}).nd i={S.nd i with steps:=(S.nd i).steps+1}:=az ..
  have l:∀ls,jH T S i ls->(S.nd i).st="on"/\ls.told i= -1/\ls.AB i=(S.nd i).beg/\(S.nd i).steps=S.clk-1-(S.nd i).beg:=λls k=>by
   rcases(k.2 i j).lf x C with⟨a,b,c,d,e⟩|⟨z,_⟩
   .rw[er (Int.ne_of_lt w),er (afK i)] at e;exact⟨a,b,c,e⟩
   .exact absurd z p
  have o:∀n:Nat,(sh T i).kind=n->n≠0->(S.nd i).steps=(sh T i).many->∀ls,jH T S i ls->wA T false ls ⟨S.clk,Bg n,i⟩:=λn E F J ls k=>by
   obtain⟨r,q,u,v⟩:=l ls k;unfold wA;have B:¬0<=ls.told i:=by rw[q];decide
   rw[er A,er ∅,er B];erw[⟨?_,by rw[show (sh T i).kind=n from E]⟩];show S.clk=lastOf T ls i;unfold lastOf;rw[er B,er (by rw[E];exact F)]
   lia
  dsimp only;by_cases k1:(sh T i).kind=1/\(S.nd i).steps=(sh T i).many
  .have e:endAt (sh T i) (S.nd i).steps=Bg 1:=by unfold endAt;rw[eE k1];rfl
   rw[e];exact⟨_,FC j (.inl rfl) rfl rfl (λk f=>bF _ f) g (o 1 k1.1 ∅ k1.2)⟩
  .by_cases k2:(sh T i).kind=2/\(S.nd i).steps=(sh T i).many
   .have e:endAt (sh T i) (S.nd i).steps=Bg 2:=by unfold endAt;rw[er k1,eE k2];rfl
    rw[e];exact⟨_,FC j (.inr (.inl rfl)) rfl rfl (λk f=>bF _ f) g (o 2 k2.1 ∅ k2.2)⟩
   .have e:endAt (sh T i) (S.nd i).steps="":=by unfold endAt;rw[er k1,er k2]
    rw[e,Gs];erw[⟨_,Go.gK rfl rfl (λk f=>bF _ f) λls k _=>?_⟩];obtain⟨r,q,u,v⟩:=l ls k;erw[⟨?_,λ_ _=>.inl ?_⟩]
    .rw[(k.2 i j).on];unfold cg;rw[m]
    .rw[m];erw[⟨r,q,u,Int.le_of_lt w,?_⟩];show(S.nd i).steps+1=if (S.nd i).beg=S.clk then 0 else (if i<i+1 then S.clk else S.clk-1)-(S.nd i).beg;rw[er (Int.ne_of_lt w),eE (afn i)]
     lia
def YM(h:gx T){S l:HS}(w:Wf T S)(j:Jv T S)(u:S.ends=[]){f i:Nat}(g:i<T.length)(hs:eh T f i S=some l):∃es,Go T i (i+1) S l es:=by
 unfold eh at hs;cases z:bR T i S with
 |true=>
  rw[eE z] at hs;obtain⟨a,A⟩:=Vu h g z;obtain⟨b,r⟩:=Lm h (pT h f _ l hs (w.f9 g z) (Yw h j u g z)) (i+1);exact⟨_,A.trans r⟩
 |false=>
  rw[er (by rw[z];decide)] at hs;cases hs;erw[⟨_,Go.gK rfl rfl (λ_ _=>rfl) λls k _=>?_⟩];have o:=k.2 i g;erw[⟨o.on,λn m=>?_⟩]
  have F:¬(S.nd i).beg<S.clk:=λy=>by
   unfold bR cg at z;rw[n,j0 m,f7 y] at z;cases z
  rcases o.lf n m with⟨a,b,c,d,e⟩|⟨a,s,p,B,t,D,v,C,x,E,G⟩
  .have q:(S.nd i).beg=S.clk:=by lia
   rw[eE q] at e;exact .inl ⟨a,b,c,d,by rwa[eE q]⟩
  .exact .inr ⟨a,s,p,B,t,D,v,C,x,E,by rw[eE (afn i)];lia⟩
theorem Wv(h:gx T){f:Nat}:∀(n a:Nat) (S S':HS),a+n<=T.length->(List.range' a n).foldlM (λS i=>eh T f i S) S=some S'->Wf T S->Jv T S->S.ends=[]->∃es,Go T a (a+n) S S' es
 |0,a,S,S',_,hs,_,_,_=>by
  cases hs;exact⟨_,Go.refl a S⟩
 |n+1,a,S,S',hn,hs,w,j,he=>by
  rw[agH,af6] at hs;cases z:eh T f a S with
  |none=>rw[z] at hs;cases hs
  |some g=>
   rw[z] at hs;obtain⟨l,c,e1⟩:=JY h w j he () z;obtain⟨x,e⟩:=YM h w j he () z;obtain⟨y,b⟩:=Wv h n (a+1) g S' () hs l c e1;rw[show a+1+n=a+(n+1) by lia] at b;exact⟨_,e.trans b⟩
def SW{S:HS}{ls:LS}(h:jH T S T.length ls):jH T {S with clk:=S.clk+1} 0 ls:=by
 erw[⟨by have:=h.1;show 0<=S.clk+1;lia,λk f=>⟨(h.2 k f).on,λr j=>?_⟩⟩];rcases(h.2 k f).lf r j with⟨a,b,c,d,e⟩|⟨a,s,g,n,i,p,l,o,u,t,m⟩
 .rw[eE f] at e;erw[.inl ⟨a,b,c,by show(S.nd k).beg<=S.clk+1;lia,?_⟩];show(S.nd k).steps=if (S.nd k).beg=S.clk+1 then 0 else (if k<0 then S.clk+1 else S.clk+1-1)-(S.nd k).beg;rw[er (),er (afm k)];by_cases q:(S.nd k).beg=S.clk
  .rw[eE q] at e;lia
  .rw[er q] at e;lia
 .rw[eE f] at m;exact .inr ⟨a,s,g,n,i,p,l,o,by show ls.told k<=S.clk+1;lia,t,by show(if k<0 then S.clk+1 else S.clk+1-1)-ls.told k<=s;rw[er (afm k)];lia⟩
end
def turnsOf:Dk->Nat
 |.turns k=>k
 |_=>0
def qN(T:List Row)(S:HS):Dk->Option Nat
 |.lB i=>if fm T i=true/\cg S i=false then some i else none
 |_=>none
def LM(lB:Option Nat)(a:Bool)(e:En):Bool:=decide (lB=some e.i)&&(decide (e.wd="fallen")&& !a)
def xP(T:List Row)(lB:Option Nat):Bool->LS->List En->Prop
 |dn,_,[]=>dn=true\/lB=none
 |dn,ls,e::es=>Rx T (LM lB dn e) ls e/\xP T lB (dn||LM lB dn e) (wC ls e) es
section
variable{T:List Row}
def uG{lB:Option Nat}:∀{es:List En} {a:Bool} {ls:LS},(a=true\/lB=none)->B3 T ls es->xP T lB a ls es
 |[],_,_,h,_=>h
 |e::es,a,ls,h,r=>by
  have z:LM lB a e=false:=by
   unfold LM;rcases h with h|h
   .rw[h];simp
   .rw[h];simp
  unfold xP;rw[z,agg];exact⟨r.1,uG h r.2⟩
structure VB(T:List Row)(S S':HS)(k:Nat)(es:List En):Prop where
 clk:S'.clk=S.clk+(k:Int)
 bk:S'.book=S.book++es.map (Qs T)
 lt:∀e∈es,e.i<T.length/\S.clk+((min 1 k:Nat):Int)<=e.t/\e.t<=S.clk+(k:Int)
 srt:es.Pairwise λa b=>a.t<=b.t
def Bf{c:Int}{es:List En}(h:∀e∈es,e.t=c):es.Pairwise λa b=>a.t<=b.t:=by
 induction es with
 |nil=>exact .nil
 |cons a r g=>
  erw[.cons (λb f=>?_) (g λe i=>h e (ri _ i))];rw[h a ov,h b (ri _ f)];exact afS _
theorem Go.acG{p b:Nat}{S S':HS}{es:List En}(g:Go T p b S S' es):VB T S S' 0 es:=
 ⟨by rw[g.clk];exact(agb _).symm,g.bk,λe a=>⟨(g.lt e a).1,by rw[(g.lt e a).2];exact⟨agT (agb _),agT (agb _).symm⟩⟩,Bf λe a=>(g.lt e a).2⟩
def SJ(h:gx T){S b:HS}(w:Wf T S)(j:Jv T S)(m:S.ends=[]){f:Nat}(hs:AY T f S=some b):Wf T b/\Jv T b/\b.ends=[]:=by
 have ok:=gx.tok h;erw[⟨Wf.turn ok hs w,?_,TL ok hs w m⟩]
 have:∀(l:List Nat) (S b:HS),(∀i∈l,i<T.length)->l.foldlM (λS i=>eh T f i S) S=some b->Wf T S->Jv T S->S.ends=[]->Jv T b:=by
  intro l
  induction l with
  |nil=>intro S b _ hs _ j _;cases hs;exact j
  |cons a r p=>
   intro S b g hs w j e;rw[af6] at hs;cases z:eh T f a S with
   |none=>rw[z] at hs;cases hs
   |some n=>
    rw[z] at hs;obtain⟨q,o,e1⟩:=JY h w j e (g a ov) z;exact p n b (λi c=>g i (ri _ c)) hs q o e1
 exact this _ _ _ (λi c=>xc.mp c) hs (w.tick _) (j.tick _) m
def Zt(h:gx T){S b:HS}(w:Wf T S)(j:Jv T S)(a:S.ends=[]){f:Nat}(hs:AY T f S=some b):
  ∃es,VB T S b 1 es/\∀ls,jH T S T.length ls->B3 T ls es/\jH T b T.length (run ls es):=by
 unfold AY at hs;rw[List.range_eq_range'] at hs;obtain⟨es,g⟩:=Wv h T.length 0 _ b () hs (w.tick _) (j.tick _) a;rw[ahE] at g;exact⟨es,⟨g.clk,g.bk,λe a=>⟨(g.lt e a).1,by rw[(g.lt e a).2];exact⟨afS _,afS _⟩⟩,Bf λe a=>(g.lt e a).2⟩,λls k=>g.go ls (SW k)⟩
def WL(h:gx T):∀{k:Nat} {S S':HS},G6 T k S S'->Wf T S->Jv T S->S.ends=[]→
  ∃es,VB T S S' k es/\(∀ls,jH T S T.length ls->B3 T ls es/\jH T S' T.length (run ls es))/\(∀e∈es,S.clk+1<=e.t)/\Wf T S'/\Jv T S'/\S'.ends=[]:=by
 intro k S S' t w j c
 induction t with
 |zero S=>exact⟨[],⟨(agb _).symm,(su _).symm,λe c=>(by cases c),.nil⟩,λls k=>⟨trivial,k⟩,λe c=>(by cases c),w,j,c⟩
 |@succ k S S1 S' t x ih=>
  obtain⟨a,i,v,m,p,q,e1⟩:=ih w j c;obtain⟨f,o⟩:=x;obtain⟨b,g,s⟩:=Zt h p q e1 o;obtain⟨D,r,e2⟩:=SJ h p q e1 o;have A:=i.clk;have E:=g.clk;erw[⟨a++b,⟨by rw[E,A];lia,by rw[g.bk,i.bk,ni,T1],λe c=>?_,?_⟩,λls k=>?_,λe c=>?_,D,r,e2⟩]
  .rcases wH.mp c with z|z
   .obtain ⟨z1,z2,l⟩:=i.lt e z;have:=m e z;exact⟨z1,(),()⟩
   .obtain ⟨z1,z2,l⟩:=g.lt e z;exact⟨z1,(),()⟩
  .refine List.pairwise_append.mpr ⟨i.srt,g.srt,λx u y C=>?_⟩;obtain⟨_,_,l⟩:=i.lt x u;obtain⟨_,n,_⟩:=g.lt y C
   lia
  .obtain ⟨x1,x2⟩:=v ls k;obtain⟨B,n⟩:=s _ x2;exact⟨t7 x1 B,by rwa[zJ]⟩
  .rcases wH.mp c with z|z
   .exact m e z
   .obtain ⟨z1,z2,l⟩:=g.lt e z
    lia
def BO{f g:Nat}{S c e:HS}(a:aX T f S=some c)(b:aX T g S=some e):c=e:=by
 have x:=lh _ _ _ _ (Nat.le_max_left f g) a;rw[lh _ _ _ _ (Nat.le_max_right f g) b] at x;cases x
 rfl
def ZU(h:gx T){d:Dk}{S S':HS}{wd:Str}(w:Wf T S)(j:Jv T S)(l:S.ends=[])(p:∀i,d=.lB i->i<T.length)(r:aaI T d S S' wd):
  ∃es,VB T S S' (turnsOf d) es/\(∀ls,jH T S T.length ls->xP T (qN T S d) false ls es/\jH T S' T.length (run ls es))/\Wf T S'/\Jv T S'/\S'.ends=[]:=by
 have ok:=gx.tok h
 have none:∀{S:HS} {s:Option Nat},s=none->Wf T S->Jv T S->S.ends=[]->∃es,VB T S S 0 es/\(∀ls,jH T S T.length ls->xP T s false ls es/\jH T S T.length (run ls es))/\Wf T S/\Jv T S/\S.ends=[]:=
  λ{S} {_} z w j l=>⟨[],(Go.refl T.length S).acG,λls k=>⟨.inr z,k⟩,w,j,l⟩
 cases d with
 |turns k=>
  obtain⟨es,a,b,_,c⟩:=WL h r.1 w j l;exact⟨es,a,λls k=>⟨uG (.inr rfl) (b ls k).1,(b ls k).2⟩,c⟩
 |stop=>
  rcases r with⟨_,rfl,_⟩|⟨m,⟨f,n⟩,_⟩
  .exact none rfl w j l
  .obtain ⟨f2,S2,s1,s2,s3,s4,_⟩:=SD h w j l m;have m:(S.nd 0).st≠"off":=afk m;unfold DU at n s1;by_cases q:(S.nd 0).asked=true
   .rw[eE q] at n;cases n;exact none rfl w j l
   .rw[er q] at n s1;obtain rfl:=BO n s1;have q:(S.nd 0).asked=false:=by cases z:(S.nd 0).asked with|true=>exact absurd z q|false=>rfl
    have C:=Dm h 10 0 S ok.n0 m q (gq (ok.deep 0 ok.n0)) (.inl rfl) w j l;have D:=pT h f _ S' n (Wf.cz ok 10 0 S ok.n0 w) (Bx h 10 0 S ok.n0 m q j l).1;obtain⟨es,g⟩:=Lm h (C.trans D) T.length;exact⟨es,g.acG,λls k=>⟨uG (.inr rfl) (g.go ls k).1,(g.go ls k).2⟩,s2,s3,s4⟩
 |lB i=>
  have p:=p i rfl;rcases r with⟨o,rfl,_⟩|⟨o,m,rfl,_⟩|⟨o,m,⟨f,n⟩,_⟩
  .exact none (by show(if _ then _ else _)=_;rw[er (λz=>by rw[o] at z;cases z.1)]) w j l
  .exact none (by show(if _ then _ else _)=_;rw[er (λz=>by rw[m] at z;cases z.2)]) w j l
  .obtain ⟨f2,S2,s1,s2,s3,s4,_⟩:=R5 h w j l p o m;have s:qN T S (.lB i)=some i:=eE ⟨o,m⟩;unfold FA at n s1;obtain rfl:=BO n s1;have on:(S.nd i).st≠"off":=afk m;have t:isWord "fallen":= .inr (.inl rfl);obtain⟨e1,e2,e3,e4⟩:=oA (T:=T) (i:=i) (Ll t) S;obtain⟨es,g⟩:=Lm h (pT h f _ S' n (w.aW p λ_=>t) (j.aW ok p on (λk A B=>(by rw[(ok.cF A B).2] at o;cases o)) l)) T.length;refine⟨⟨S.clk,"fallen",i⟩::es,⟨by rw[g.clk,e1];exact(agb _).symm,by rw[g.bk,e2,T1];rfl,λe l=>?_,Bf (c:=S.clk) λe l=>?_⟩,λls k=>?_,s2,s3,s4⟩
   .rcases ti.mp l with rfl|l
    .exact ⟨p,agT (agb _),agT (agb _).symm⟩
    .obtain ⟨a,b⟩:=g.lt e l;rw[b,e1];exact⟨a,agT (agb _),agT (agb _).symm⟩
   .rcases ti.mp l with rfl|l
    .rfl
    .rw[(g.lt e l).2,e1]
   .have hb:LM (qN T S (.lB i)) false ⟨S.clk,"fallen",i⟩=true:=by rw[s];unfold LM;rw[f7 rfl];rfl
    have lk:jH T (aW T i "fallen" S) T.length (wC ls ⟨S.clk,"fallen",i⟩):=by
     rw[Bo t];exact k.of e1 i (λx u=>⟨e3 x u,nB u,rfl,rfl⟩) λ_=>⟨by show jg ls.on i false i=_;rw[dC,BD.mpr e4];rfl,λ_ z=>absurd e4 z⟩
    obtain⟨v,y⟩:=g.go _ lk;erw[⟨⟨.inr ⟨t,?_⟩,?_⟩,y⟩]
    .unfold wA;rw[er (by show ¬fm T i=false;rw[o];decide),eE hb]
    .rw[hb];exact uG (.inl rfl) v
def Ub(h:gx T){S:HS}{ls:LS}(w:Wf T S)(k:jH T S T.length ls){i:Nat}(f:i<T.length)(j:fm T i=true)(on:ls.on i=true):¬(0<=lastOf T ls i/\lastOf T ls i<=S.clk):=by
 have l:=k.2 i f;have g:(S.nd i).st≠"off":=λz=>by rw[l.on,BD.mpr z] at on;cases on
 unfold lastOf;rcases l.lf j g with⟨a,b,c,d,e⟩|⟨a,s,p,v,r,x,t,o,u,y,n⟩
 .rw[er (by rw[b];decide)];by_cases z:(sh T i).kind=0
  .rw[eE z];lia
  .rw[er z];obtain⟨_,m⟩:=w.st i j g (by rw[a];decide);have m:=m z;rw[eE f] at e;have:=(Qm h f).2.2;by_cases q:(S.nd i).beg=S.clk
   .lia
   .rw[er q] at e;lia
 .rw[eE o];rw[eE f] at n
  lia
def ls0:LS:=⟨λ_=>false,λ_=> -1,λ_=>0⟩
def abU(h:gx T):∃es,(new T).clk=0/\(new T).book=es.map (Qs T)/\(∀e∈es,e.i<T.length/\e.t=0)/\xP T none false ls0 es/\jH T (new T) T.length (run ls0 es):=by
 have g:=SE (T:=T) (S:=⟨0,[],[],λ_=>nd0⟩) (p:=T.length) (vr T.length) (fC _);rw[<- C7 h] at g;obtain⟨a,b⟩:=g.go ls0 ⟨afS _,λk c=>⟨rfl,λ_ z=>absurd rfl z⟩⟩;exact⟨_,g.clk,g.bk.trans (NC _),g.lt,uG (.inr rfl) a,b⟩
end
open L2 Nm PySem.NumText
theorem rE{n i:Nat}{f:Nat->V}(h:i<n):sq ((List.range n).map f) (i:Int)=some (f i):=bX (by rw[jl,afz h];rfl)
def Hu{n i:Nat}(h:i<n):ixN n (i:Int)=some i:=by
 unfold ixN;rw[eE (),eE ()]
 rfl
def set_range{n i:Nat}{f:Nat->V}{v:V}:((List.range n).map f).set i v=(List.range n).map (jg f i v):=by
 erw[List.ext_getElem? λk=>?_];rw[List.getElem?_set,jl,jl,gm,tG];by_cases e:i=k
 .subst e;rw[eE rfl];by_cases h:i<n
  .rw[eE h,afz h];exact ix some (dC ..).symm
  .rw[er h,agd (by rw[tG];lia)]
   rfl
 .rw[er e];by_cases h:k<n
  .rw[afz h];exact ix some (nB (λz=>e z.symm)).symm
  .rw[agd (by rw[tG];lia)]
   rfl
def Gv{a:Type}(g:a->V)(f:Nat->a)(i:Nat)(v:a):jg (λk=>g (f k)) i (g v)=λk=>g (jg f i v k):=by
 funext k
 unfold jg
 split<;>rfl
def C2(H:Hp)(f:Addr)(T:List Row):Prop:=∃(dp e b c:Addr) (a:List Addr),H f=some (.tup [.ref dp,.ref e,.ref b,.ref c])/\H b=some (.lst (a.map V.ref))/\a.length=T.length/\(∀i x,a[i]? =some x->H x=some (.lst ((words (sh T i)).map V.str)))/\H c=some (.lst (T.map λr=>V.str r.sh.name))
def XA{T:List Row}{i:Nat}(h:i<T.length):sh T i=T[i].sh:=by
 unfold sh;rw[ry,gy h]
 rfl
def C2.of{H:Hp}{q dp b e a:Addr}{T:List Row}(h:H q=some (.tup [.ref dp,.ref b,.ref e,.ref a]))(t:KG H dp b e a T):C2 H q T:=by
 obtain⟨l,m,c,j⟩:=t.w;rw[gm] at c;erw[⟨dp,b,e,a,l,h,m,c,λi x f=>?_,t.n⟩];have g:i<T.length:=by rw[<- c];exact(uy.mp f).1
 rw[XA g];exact j i x _ f (by rw[jl,gy g];rfl)
def C2.same{H H':Hp}{g:Addr}{T:List Row}(e:aO H H')(h:C2 H g T):C2 H' g T:=by
 obtain⟨dp,n,j,m,o,a,b,c,d,f⟩:=h;exact⟨dp,n,j,m,o,e _ _ a,e _ _ b,c,λi x l=>e _ _ (d i x l),e _ _ f⟩
structure l2(H:Hp)(st:Addr)(n:Nat)(ls:LS)(a b c:Addr):Prop where
 d:H st=some (.dK [(.inr "on",.ref a),(.inr "told",.ref b),(.inr "born",.ref c)])
 on:H a=some (.lst ((List.range n).map λk=>V.bl (ls.on k)))
 tl:H b=some (.lst ((List.range n).map λk=>V.int (ls.told k)))
 bo:H c=some (.lst ((List.range n).map λk=>V.int (ls.AB k)))
 ab:a≠b
 ac:a≠c
 bc:b≠c
def iJ(a b c:Addr)(H H':Hp):Prop:=∀x o,x≠a->x≠b->x≠c->H x=some o->H' x=some o
theorem iJ.of_same{a b c:Addr}{H H':Hp}(h:aO H H'):iJ a b c H H':=λx o _ _ _ e=>h x o e
theorem iJ.trans{a b c:Addr}{H g j:Hp}(h:iJ a b c H g)(k:iJ a b c g j):iJ a b c H j:=λx o i f l e=>k x o i f l (h x o i f l e)
theorem iJ.upd{a b c p:Addr}{H:Hp}{o:HO}(h:p=a\/p=b\/p=c):iJ a b c H (L2.upd H p o):=λx u g f i e=>by
 rw[ai (λz=>by rcases h with q|q|q<;>rw[q] at z<;>contradiction)]
 exact e
section
variable{H H':Hp}{st a b c:Addr}{n:Nat}{ls:LS}
theorem l2.same(h:l2 H st n ls a b c)(e:aO H H'):l2 H' st n ls a b c:=⟨e _ _ h.d,e _ _ h.on,e _ _ h.tl,e _ _ h.bo,h.ab,h.ac,h.bc⟩
theorem l2.gon(h:l2 H st n ls a b c):qE H st (.str "on") (some (.ref a)):=qE.k (k:= .inr "on") h.d
theorem l2.gtl(h:l2 H st n ls a b c):qE H st (.str "told") (some (.ref b)):=qE.k (k:= .inr "told") h.d
theorem l2.gbo(h:l2 H st n ls a b c):qE H st (.str "born") (some (.ref c)):=qE.k (k:= .inr "born") h.d
theorem l2.ne(h:l2 H st n ls a b c):st≠a/\st≠b/\st≠c:=⟨Hg h.d h.on (λz=>by cases z),Hg h.d h.tl (λz=>by cases z),Hg h.d h.bo (λz=>by cases z)⟩
def l2.aaw(h:l2 H st n ls a b c)(i:Nat)(v:Bool):l2 (upd H a (.lst (((List.range n).map λk=>V.bl (ls.on k)).set i (.bl v)))) st n {ls with on:=jg ls.on i v} a b c:=by
 obtain⟨e,f,g⟩:=h.ne;exact⟨by rw[ai e];exact h.d,by rw[ae,set_range,Gv V.bl],by rw[ai h.ab.symm];exact h.tl,by rw[ai h.ac.symm];exact h.bo,h.ab,h.ac,h.bc⟩
def l2.aaB(h:l2 H st n ls a b c)(i:Nat)(v:Int):l2 (upd H b (.lst (((List.range n).map λk=>V.int (ls.told k)).set i (.int v)))) st n {ls with told:=jg ls.told i v} a b c:=by
 obtain⟨f,e,g⟩:=h.ne;exact⟨by rw[ai e];exact h.d,by rw[ai h.ab];exact h.on,by rw[ae,set_range,Gv V.int],by rw[ai h.bc.symm];exact h.bo,h.ab,h.ac,h.bc⟩
def l2.adD(h:l2 H st n ls a b c)(i:Nat)(v:Int):l2 (upd H c (.lst (((List.range n).map λk=>V.int (ls.AB k)).set i (.int v)))) st n {ls with AB:=jg ls.AB i v} a b c:=by
 obtain⟨g,f,e⟩:=h.ne;exact⟨by rw[ai e];exact h.d,by rw[ai h.ac];exact h.on,by rw[ai h.bc];exact h.tl,by rw[ae,set_range,Gv V.int],h.ab,h.ac,h.bc⟩
def l2.apart(h:l2 H st n ls a b c)(l:0<n){x:Addr}{o:HO}(e:H x=some o)(z:∀xs,o=.lst xs->(∀y∈xs.head?,(∃r,y=V.ref r)\/∃s,y=V.str s)):x≠a/\x≠b/\x≠c:=by
 have g:∀(p:Addr) (f:Nat->V),H p=some (.lst ((List.range n).map f))->(∀k,(∀r,f k≠ .ref r)/\∀s,f k≠ .str s)->x≠p:=by
  intro p f i j e2;subst e2;rw[e] at i
  have:=z _ (iH i) (f 0) (by
   obtain⟨m,rfl⟩:∃m,n=m+1:=⟨n-1,()⟩;rw[agv]
   rfl)
  rcases this with⟨r,w⟩|⟨r,w⟩
  .exact (j 0).1 r w
  .exact (j 0).2 r w
 exact⟨g a _ h.on λk=>⟨λr z=>(by cases z),λr z=>(by cases z)⟩,g b _ h.tl λk=>⟨λr z=>(by cases z),λr z=>(by cases z)⟩,g c _ h.bo λk=>⟨λr z=>(by cases z),λr z=>(by cases z)⟩⟩
def head_map{e:Type}{f:e->V}{l:List e}{y:V}(h:y∈(l.map f).head?):∃x,y=f x:=by
 cases l with
 |nil=>cases h
 |cons x r=>exact⟨x,(iH h).symm⟩
theorem l2.rows(h:l2 H st n ls a b c)(g:0<n){q:Addr}{i:List Addr}(e:H q=some (.lst (i.map V.ref))):q≠a/\q≠b/\q≠c:=
 h.apart g e λxs z y f=>by cases z;obtain⟨r,rfl⟩:=head_map f;exact .inl ⟨r,rfl⟩
theorem l2.strs(h:l2 H st n ls a b c)(j:0<n){q:Addr}{g:Type}{f:g->Str}{l:List g}(e:H q=some (.lst (l.map λx=>V.str (f x)))):q≠a/\q≠b/\q≠c:=
 h.apart j e λxs z y i=>by cases z;obtain⟨r,rfl⟩:=head_map i;exact .inr ⟨_,rfl⟩
theorem l2.tup(h:l2 H st n ls a b c)(f:0<n){q:Addr}{l:List V}(e:H q=some (.tup l)):q≠a/\q≠b/\q≠c:=h.apart f e λxs z=>by cases z
def C2.but{q:Addr}{T:List Row}(t:C2 H q T)(h:l2 H st n ls a b c)(g:0<n)(e:iJ a b c H H'):C2 H' q T:=by
 obtain⟨dp,y,u,w,A,t1,p,v,j,l⟩:=t;have k:∀{x:Addr} {o:HO},H x=some o->(x≠a/\x≠b/\x≠c)->H' x=some o:=λe1 r=>by obtain⟨z,s,B⟩:=r;exact e _ _ z s B e1
 exact⟨dp,y,u,w,A,k t1 (h.tup g t1),k p (h.rows g p),v,λi x m=>k (j i x m) (h.strs g (f:=id) (j i x m)),k l (h.strs g l)⟩
def l2.sqT{K:PySem.W.Frag}(h:l2 H st n ls a b c)(e:iJ a b c H H'){p:Addr}{xs:List V}(s:l5 K H p xs):l5 K H' p xs:=by
 have k:∀{x:Addr} {o:HO},H x=some o->(∀xs,o≠ .lst xs)->H' x=some o:=λ{x o} e1 z=>e _ _ (Hg e1 h.on (z _)) (Hg e1 h.tl (z _)) (Hg e1 h.bo (z _)) e1;rcases s with(s|⟨o,s⟩)|s
 .exact .inl (.inl (k s λ_ z=>by cases z))
 .exact .inl (.inr ⟨o,k s λ_ z=>by cases z⟩)
 .exact .inr s
end
def tO{T:List Row}{i:Nat}(a:fm T i=true):(words (sh T i))[0]? =some ("leaf":Str)/\(words (sh T i))[2]? =some (cG (sh T i).ba)/\(words (sh T i))[3]? =some (cG (sh T i).bZ)∧
  (((sh T i).kind=0/\(words (sh T i))[4]? =some ("idle":Str))\/((sh T i).kind=1/\(words (sh T i))[4]? =some ("steady":Str)/\(words (sh T i))[5]? =some (cG (sh T i).many))\/((sh T i).kind=2/\(words (sh T i))[4]? =some ("falls":Str)/\(words (sh T i))[5]? =some (cG (sh T i).many))):=by
 have k:(sh T i).kind<3:=hI a;have:(sh T i).kind=0\/(sh T i).kind=1\/(sh T i).kind=2:=by lia
 unfold words;rcases this with z|z|z<;>rw[z]
 .exact ⟨rfl,rfl,rfl,.inl ⟨rfl,rfl⟩⟩
 .exact ⟨rfl,rfl,rfl,.inr (.inl ⟨rfl,rfl,rfl⟩)⟩
 .exact ⟨rfl,rfl,rfl,.inr (.inr ⟨rfl,rfl,rfl⟩)⟩
def ud{T:List Row}{i:Nat}(a:fm T i=false):(words (sh T i))[0]? =some ("minder":Str):=by
 have k:¬(sh T i).kind<3:=afk a;unfold words
 split<;>first|lia|rfl
theorem ly{a:List Str}{j:Nat}{x:Str}(h:a[j]? =some x):sq (a.map V.str) (j:Int)=some (V.str x):=bX (by rw[jl,h];rfl)
def yR(F:FS)(H a:Hp):Prop:=aO a H/\∀x,F x->a x=none
section
variable{F F':FS}{H H' H0:Hp}{st a b c:Addr}{n:Nat}{ls ls':LS}
theorem yR.same(h:yR F H H0)(e:aO H H'):yR F H' H0:=⟨λx o z=>e _ _ (h.1 x o z),h.2⟩
def yR.moved{S:Type}{R:HR S}{x:Addr}{s:S}(h:yR F H H0)(m:Moved R H F x s H' F'):yR F' H' H0:=by
 erw[⟨λy o z=>m.1 y o (λf=>by rw[h.2 y f] at z;cases z) (h.1 y o z),λy f=>?_⟩];rcases m.2.1 y f with g|g
 .exact h.2 y g
 .cases z:H0 y with
  |none=>rfl
  |some o=>rw[h.1 y o z] at g;cases g
def yR.put(h:yR F H H0)(l:l2 H0 st n ls a b c)(e:iJ a b c H H')(i:l2 H' st n ls' a b c):∃j,yR F H' j/\l2 j st n ls' a b c/\iJ a b c H0 j/\∀x,F x->x≠a/\x≠b/\x≠c:=by
 obtain⟨s,u,t⟩:=l.ne;have g:∀{x o},H0 x=some o->¬F x:=λz f=>by rw[h.2 _ f] at z;cases z
 erw[⟨λx=>if x=a\/x=b\/x=c then H' x else H0 x,⟨λx o z=>?_,λx f=>?_⟩,⟨?_,?_,?_,?_,l.ab,l.ac,l.bc⟩,λx o r p m z=>?_,λx f=>?_⟩]
 .have z:(if x=a\/x=b\/x=c then H' x else H0 x)=some o:=z;by_cases q:x=a\/x=b\/x=c
  .rw[eE q] at z;exact z
  .rw[er q] at z;exact e x o (λy=>q (.inl y)) (λy=>q (.inr (.inl y))) (λy=>q (.inr (.inr y))) (h.1 x o z)
 .have q:¬(x=a\/x=b\/x=c):=λq=>by
   rcases q with rfl|rfl|rfl
   .exact g l.on f
   .exact g l.tl f
   .exact g l.bo f
  show(if x=a\/x=b\/x=c then H' x else H0 x)=none;rw[er q];exact h.2 x f
 .show (if st=a\/st=b\/st=c then H' st else H0 st)=_;rw[er (λq=>by rcases q with q|q|q<;>contradiction)]
  exact l.d
 .show (if a=a\/a=b\/a=c then H' a else H0 a)=_;rw[eE (.inl rfl)];exact i.on
 .show (if b=a\/b=b\/b=c then H' b else H0 b)=_;rw[eE (.inr (.inl rfl))];exact i.tl
 .show (if c=a\/c=b\/c=c then H' c else H0 c)=_;rw[eE (.inr (.inr rfl))];exact i.bo
 .show (if x=a\/x=b\/x=c then H' x else H0 x)=_;rw[er (λq=>by rcases q with q|q|q<;>contradiction)]
  exact z
 .exact ⟨λq=>by subst q;exact g l.on f,λq=>by subst q;exact g l.tl f,λq=>by subst q;exact g l.bo f⟩
end
def w9(cell:Int):Int:=if (cell%12=9\/cell%12=10)\/(cell%12=11/\cell/12%5=3) then 0 else 1+cell/12%2
def Wl(n:Nat)(cell:Int):((turnsOf (yO n cell):Nat):Int)=w9 cell:=by
 unfold yO w9;by_cases h:cell%12=9\/cell%12=10
 .rw[eE h,eE (.inl h)];rfl
 .rw[er h];by_cases g:cell%12=11/\cell/12%5=3
  .rw[eE g,eE (.inr g)];rfl
  .rw[er g,er (λz=>by rcases z with z|z<;>contradiction)]
   show(((1+cell/12%2).toNat:Nat):Int)=_
   lia
def OB{rows:List Row}(h:gx rows):(written rows).length<=100000:=by
 have j:=Df [10] (lZ rows)
 have s:((lZ rows).map (·.length)).sum<=83*(lZ rows).length:=by
  have:=QW (n:=83) (l:=(lZ rows).map (·.length)) λx c=>by
   obtain⟨l,e,rfl⟩:=C0.mp c;obtain⟨r,b,rfl⟩:=C0.mp e;obtain⟨i,a,rfl⟩:=agI.mp b;have d:=RM h a;unfold dp at d;rw[ry,gy a] at d;have d:rows[i].dep<=8:=d;have:=MH (h.sh _ b) rows[i].dep
   lia
  rw[gm] at this;exact this
 rw[Tr.plain_len] at s j;have:=h.len;unfold written;simp only[xl,agM] at j
 lia
def Th(xs:List V)(a:Nat):HM xs (some (a:Int)) none=xs.drop a:=by
 unfold HM HT.tL;dsimp only;rw[er ()];by_cases h:(a:Int) > xs.length
 .rw[List.drop_eq_nil_of_le (show xs.length<=a by lia)];exact afH.mp (by rw[XP,agm];lia)
 .rw[agw (by rw[agm];lia)]
  congr 1
  lia
def UK(c:List Int)(a b:Nat)(h:a<=b):∃e:List Int,HM (c.map V.int) (some (a:Int)) (some (b:Int))=e.map V.int/\e.length<=b-a:=by
 unfold HM;erw[⟨(c.drop (HT.tL (c.map V.int).length 0 (some (a:Int)))).take (HT.tL (c.map V.int).length (c.map V.int).length (some (b:Int))-HT.tL (c.map V.int).length 0 (some (a:Int))),by rw[ahu,List.map_drop],?_⟩];rw[XP,agm,HT.Rn,HT.Rn,gm];omega
def oM{H:Hp}{y z:Addr}{o:HO}(h:upd H y o z=none):z≠y/\H z=none:=by
 by_cases e:z=y
 .rw[e,ae] at h;cases h
 .rw[ai e] at h;exact⟨e,h⟩
def yR.upd{F:FS}{H a:Hp}{y:Addr}{o:HO}(h:yR F H a)(n:¬F y):yR F (L2.upd H y o) (L2.upd a y o):=by
 erw[⟨λz u e=>?_,λz f=>?_⟩]
 .by_cases q:z=y
  .rw[q,ae] at e ⊢;exact e
  .rw[ai q] at e ⊢;exact h.1 _ _ e
 .rw[ai (λq=>n (by rw[<- q];exact f))];exact h.2 z f
def l2.start{H:Hp}{p a b c:Addr}{n:Nat}(e:a≠p)(f:b≠p)(ab:b≠a)(j:c≠p)(g:c≠a)(bc:c≠b)(i h:HO):
  l2 (upd (upd (upd (upd (upd (upd H p i) a (.lst ((List.range n).map λ_=>V.bl false))) b (.lst ((List.range n).map λ_=>V.int (-1)))) p h) c (.lst ((List.range n).map λ_=>V.int 0))) p (.dK [(.inr "on",.ref a),(.inr "told",.ref b),(.inr "born",.ref c)])) p n ls0 a b c:=by
 erw[⟨ae,?_,?_,?_,Ne.symm ab,Ne.symm g,Ne.symm bc⟩]
 .rw[ai e,ai (Ne.symm g),ai e,ai (Ne.symm ab),ae];rfl
 .rw[ai f,ai (Ne.symm bc),ai f,ae];rfl
 .rw[ai j,ae];rfl
def fk.ad9{K:PySem.W.Frag}{H H':Hp}{a b c p:Addr}{xs:List V}(s:fk K H p xs)(n:∀o,H p=some o->p≠a/\p≠b/\p≠c)(e:iJ a b c H H'):fk K H' p xs:=by
 have k:∀o,H p=some o->H' p=some o:=λo z=>e _ _ (n o z).1 (n o z).2.1 (n o z).2.2 z;rcases s with(s|⟨o,s⟩)|s
 .exact .inl (.inl (k _ s))
 .exact .inl (.inr ⟨o,k _ s⟩)
 .exact .inr s
end Lw
namespace K12
local macro_rules | `(tactic| lk) => `(tactic| repeat (first | refine L2.jx rfl ?_ | refine ⟨rfl, ?_⟩ | refine ⟨_, _, rfl, rfl, ?_⟩ | refine ⟨_, _, rfl, ?_⟩ | (refine ⟨?_, ?_⟩; focus ((with_reducible show (0 : Int) < _); decide)) | (refine ⟨L2.acN ?_, ?_⟩; focus (exact rfl)) | (refine ⟨L2.cpowB ?_, ?_⟩; focus (exact rfl))))
local macro_rules | `(tactic| kt_ors) => `(tactic| exact ⟨rfl, rfl, rfl, by decide +kernel, rfl, by decide +kernel, by decide +kernel⟩)
local macro_rules | `(tactic| fin2) => `(tactic| try dsimp only [L2.vi, L2.Cx.i1])
open PySem L2 Shp Nm Tr PySem.NumText
seal L2.PE L2.PA L2.PT L2.PW L2.PS L2.qx L2.PG L2.PGs L2.PI L2.PF L2.PJ L2.PH L2.PO L2.PC L2.acp L2.PIp
def top(i:Nat):Stmt:=PySem.Challenge.pw_minders_k12_whole_work_at_its_turn.main.body.getD i (.Pass ⟨0,0,0,0⟩)
abbrev VZ:Stmt:=top 11
abbrev Mi:Stmt:=top 12
abbrev Cq:Stmt:=top 13
abbrev G8:Stmt:=top 15
abbrev Aq:Stmt:=top 16
abbrev gN:Stmt:=aS (top 18) 0
abbrev jQ:Stmt:=aS (top 18) 1
abbrev eT:Stmt:=aS (top 19) 0
abbrev fU:Stmt:=aS (top 19) 1
abbrev hX:Stmt:=aS (top 19) 2
abbrev eF:Stmt:=aS (top 19) 3
abbrev eN:Stmt:=aS (top 19) 4
abbrev gP:Stmt:=aS (top 19) 5
abbrev du:Stmt:=aS (top 20) 0
abbrev cC:Stmt:=aS (top 20) 1
abbrev fE:Stmt:=aS (top 20) 2
abbrev eW:Stmt:=aS (top 20) 3
abbrev dq:Stmt:=aS (top 20) 4
abbrev dY:Stmt:=aS (top 20) 5
abbrev dU:Stmt:=aS (top 20) 6
abbrev fB:Stmt:=aS (top 20) 7
abbrev dX:Stmt:=aS (top 20) 8
abbrev cW:Stmt:=aS (top 20) 9
abbrev dw:Stmt:=aS (top 20) 10
abbrev cO:Stmt:=aS (top 20) 11
abbrev dA:Stmt:=aS (top 20) 12
abbrev cZ:Stmt:=aS (top 20) 13
abbrev cY:Stmt:=aS (top 20) 14
abbrev cc:Stmt:=aS (top 20) 15
abbrev qU:Stmt:=top 21
abbrev n9:Stmt:=top 22
abbrev kG:Stmt:=aS (top 24) 0
abbrev uc:Stmt:=aS (top 24) 1
abbrev tQ:Stmt:=aS (top 24) 2
abbrev ua:Stmt:=aS (top 24) 3
abbrev uH:Stmt:=aS (top 24) 6
abbrev eI:Stmt:=aS (top 24) 7
abbrev qy:Stmt:=aS (top 24) 8
abbrev qK:Stmt:=aS (top 24) 9
abbrev tq:Stmt:=aS (top 24) 10
abbrev nV:Stmt:=aS (top 24) 11
abbrev ow:Stmt:=aS (top 24) 12
abbrev ju:Stmt:=aS (top 24) 13
abbrev eU:Stmt:=aS (top 24) 14
abbrev nM:Stmt:=aS (top 24) 15
abbrev kF:Stmt:=aS (top 24) 16
abbrev gZ:Stmt:=aS (top 24) 17
abbrev Mq:Stmt:=top 25
abbrev DJ:Stmt:=top 30
abbrev n8:Stmt:=top 31
abbrev vM:Stmt:=top 32
abbrev Dz:Stmt:=top 36
abbrev kD:Stmt:=aS (top 39) 0
abbrev gW:Stmt:=aS (top 39) 1
abbrev lQ:Stmt:=aS (top 40) 0
abbrev vZ:Stmt:=aS (top 40) 1
abbrev tZ:Stmt:=aS (top 40) 2
abbrev jI:Stmt:=aS (top 40) 3
abbrev qo:Stmt:=aS (top 40) 4
abbrev jo:Stmt:=aS (top 41) 0
abbrev gI:Stmt:=aS (top 41) 1
abbrev gS:Stmt:=aS (top 42) 0
abbrev lE:Stmt:=aS (top 42) 1
abbrev gO:Stmt:=aS (top 43) 0
abbrev lD:Stmt:=aS (top 43) 1
abbrev jk:Stmt:=aS (top 44) 0
abbrev qw:Stmt:=aS (top 44) 1
abbrev nT:Stmt:=aS (top 44) 2
abbrev tV:Stmt:=aS (top 44) 3
abbrev lW:Stmt:=aS (top 44) 4
abbrev lz:Stmt:=aS (top 45) 0
abbrev iC:Stmt:=aS (top 45) 1
abbrev kr:Stmt:=aS (top 46) 0
abbrev gH:Stmt:=aS (top 46) 1
abbrev Co:Stmt:=top 50
abbrev wz:Stmt:=top 51
abbrev lG:Stmt:=top 52
abbrev Av:Stmt:=top 53
abbrev lS:Stmt:=aS (top 57) 0
abbrev uF:Stmt:=aS (top 57) 1
abbrev wm:Stmt:=aS (top 57) 2
abbrev xx:Stmt:=aS (top 57) 3
abbrev g8:Stmt:=aS (top 57) 4
abbrev qP:Stmt:=top 58
abbrev zL:Stmt:=top 59
abbrev nZ:Stmt:=top 60
abbrev rm:Stmt:=top 61
abbrev oK:Stmt:=top 62
abbrev PZ:Stmt:=top 63
abbrev DC:Stmt:=top 65
abbrev Gi:Stmt:=top 66
abbrev oO:Stmt:=top 67
abbrev jn:Stmt:=top 68
abbrev Az:Stmt:=top 69
abbrev Pg:Stmt:=top 70
abbrev KL:Stmt:=top 71
abbrev CL:Stmt:=top 72
abbrev QT:Stmt:=top 73
abbrev PD:Stmt:=top 74
abbrev Pw:Stmt:=top 75
abbrev KW:Stmt:=top 76
abbrev MD:Stmt:=top 77
abbrev GW:Stmt:=top 78
abbrev Np:Stmt:=top 79
structure Txt(mg:Str->Option Value):Prop where
 b_ValueError:mg "ValueError"=none
 ade:mg "all"=none
 DZ:mg "enumerate"=none
 J9:mg "int"=none
 jR:mg "isinstance"=none
 fN:mg "len"=none
 abZ:mg "list"=none
 Vc:mg "min"=none
 ng:mg "range"=none
 rY:mg "str"=none
 adn:mg "sum"=none
abbrev Um:List Str:=["_law_script","_law_k"]
abbrev JT:List Str:=["_law_script","_law_k"]
def P8:ao Um JT (ak DC):=by kt_ors
abbrev Vi:List Str:=["_law_k","_law_mark","_law_signs","_law_two"]
abbrev VY:List Str:=["_law_k","_law_mark"]
def LX:ao Vi VY (ak Gi):=by kt_ors
abbrev GC:List Str:=["_law_cell","_law_other","_law_keep","_law_way","_law_most"]
abbrev xM:List Str:=["_law_cell","_law_other"]
def iA:ao GC xM (ak oO):=by kt_ors
abbrev AK:List Str:=["_law_cell","_law_other","_law_keep","_law_work","_law_numbers","_law_words"]
abbrev Ba:List Str:=["_law_cell","_law_other"]
def fA:ao AK Ba (ak jn):=by kt_ors
abbrev Pe:List Str:=["_law_script","_law_first","_law_count","_law_mark","_law_depths","_law_elders","_law_words","_law_path","_law_k","_law_cell","_law_other","_law_names"]
abbrev Yb:List Str:=["_law_script","_law_first","_law_count","_law_mark"]
def jL:ao Pe Yb (ak Az):=by kt_ors
abbrev abF:List Str:=["_law_tree_here","_law_depths","_law_elders","_law_words","_law_names","_law_rows"]
abbrev WG:List Str:=["_law_tree_here"]
def x8:ao abF WG (ak Pg):=by kt_ors
abbrev aam:List Str:=["_law_house","_law_name_here","_law_found","error"]
abbrev Su:List Str:=["_law_house","_law_name_here"]
def FX:ao aam Su (ak KL):=by kt_ors
abbrev US:List Str:=["_law_house","_law_found"]
abbrev Kf:List Str:=["_law_house"]
def FK:ao US Kf (ak CL):=by kt_ors
abbrev aa7:List Str:=["_law_house","_law_names","_law_cell","_law_k"]
abbrev X9:List Str:=["_law_house","_law_names","_law_cell"]
def Q7:ao aa7 X9 (ak QT):=by kt_ors
abbrev abi:List Str:=["_law_tree_here","_law_state","_law_at","_law_words"]
abbrev XU:List Str:=["_law_tree_here","_law_state","_law_at"]
def Sg:ao abi XU (ak PD):=by kt_ors
abbrev acb:List Str:=["_law_tree_here","_law_state","_law_entry_here","_law_at","_law_tripped","_law_words","_law_until"]
abbrev VT:List Str:=["_law_tree_here","_law_state","_law_entry_here","_law_at","_law_tripped"]
def Mh:ao acb VT (ak Pw):=by kt_ors
abbrev YH:List Str:=["_law_tree_here","_law_state","_law_entry_here","_law_tripped","_law_at"]
abbrev Rm:List Str:=["_law_tree_here","_law_state","_law_entry_here","_law_tripped"]
def NK:ao YH Rm (ak KW):=by kt_ors
abbrev aae:List Str:=["_law_cell"]
abbrev Rq:List Str:=["_law_cell"]
def WR:ao aae Rq (ak MD):=by kt_ors
abbrev Ym:List Str:=["_law_tree_here","_law_state","_law_rows","_law_low","_law_high","_law_tripped","_law_done","_law_entry_here","_law_at","_law_hit"]
abbrev NT:List Str:=["_law_tree_here","_law_state","_law_rows","_law_low","_law_high","_law_tripped"]
def iR:ao Ym NT (ak GW):=by kt_ors
abbrev aav:List Str:=["_law_script","_law_count","_law_tree_here","_law_house","_law_state","_law_met","_law_clock","_law_cell","_law_tripped","_law_turns_here","_law_low","_law_rows","_law_k"]
abbrev aaE:List Str:=["_law_script"]
def gL:ao aav aaE (ak Np):=by kt_ors
theorem au{H:Hp}{q:Addr}{o:HO}(h:H q=none):aO H (upd H q o):=λb u e=>by rwa[ai (aq e h)]
theorem K7{a b:Int}(h:decide (V.int a=V.int b)=true):a=b:=V.int.inj (hI h)
theorem PK{a b:Int}(h:¬decide (V.int a=V.int b)=true):a≠b:=λz=>h (f7 (ix V.int z))
theorem fq{n:Nat}(h:n<=1000):n<=sizeLine:=afC (aV h)
def cS{i:Int}(a:0<=i)(b:i<=1000001):i.natAbs.log2<1920:=by
 have h:i.natAbs<2^20:=by lia
 by_cases z:i.natAbs=0
 .rw[z];decide
 .have:=(ahP z).mpr h
  lia
section
variable{P:Program}{w:World}{K:PySem.W.Frag}{mg:Str->Option Value}{dH:Heap}{f:Addr}{fd:FuncData}{dV:Value}
def QE(K:PySem.W.Frag):Sp:=λvs H Q _=>∃(a:Addr) (k:Int) (b:List Int),vs=[.ref a,.int k]/\fk K H a (b.map V.int)/\0<=k/\Q (.int (b.getD k.toNat 0)) H
def YQ{cm:Bool}(F:aI K "_law_cell_at" "_law_cell_at" DC dV f fd)(T:Txt mg):aC P w K mg dH (fw P w) cm 1 f fd JT (QE K):=by
 erw[F.br P8 λvs H Q E h=>?_];obtain⟨a,k,b,rfl,g,i,q⟩:=h
 refine⟨rfl,λl A dN s m=>⟨_,(aa (aL (iw oW (pv 1) (aQ aP (by rfl) T.fN cJ (aj (pv 0) ag))) (af (av (hD aD (pv 0) (pv 1)))) ay)
   (af (av ah))),?_⟩⟩
 fin2
 obtain⟨j,rfl⟩:=afT i;lk;erw[iE a _ (mE rfl (.inl g) ?_)];lk;erw[bp (λe=>?_) (λe=>?_)]
 .have e:(j:Int)<((b.map V.int).length:Int):=hI e;rw[gm] at e;have c:j<b.length:=by lia
  lk;erw[hY a _ _ (V.int (b.getD j 0)) (fT rfl rfl g (bX ?_) q)];rw[jl,gy c,ry,gy c]
  rfl
 .have e:¬(j:Int)<((b.map V.int).length:Int):=λz=>e (f7 z);rw[gm] at e;have z:b.getD j 0=0:=by rw[ry,agd ()];rfl
  have q:Q (.int (b.getD j 0)) H:=q;rw[z] at q;exact q
def Xb:Sp:=λvs H Q _=>∃(k:Nat) (mark:Int),vs=[.int (k:Int),.int mark]/\k<64/\Q (.str (nameOf k mark)) H
def Zx(F:aI K "_law_name" "_law_name" Gi dV f fd)(T:Txt mg):aC P w K mg dH (fw P w) true 1 f fd VY Xb:=by
 erw[F.br LX λvs H Q E v=>?_];obtain⟨k,mark,rfl,J,q⟩:=v;erw[⟨rfl,λm A dN s G=>?_⟩]
 have C:∃t,qx (vi true (fw P w) P w K mg dH Vi "_law_name" (ak Gi) f m A dN s H E).i1 ((cB Gi).drop 2) t/\(¬(mark%11=5/\k<36)->t {nx:=λ_ H'=>Q .non H',rt:=Q} [some (.int (k:Int)),some (.int mark),some (.str "abcdefghijklmnopqrstuvwxyz0123456789"),none] H):=by
  refine⟨_,(aa (bq (i:=3) LX.nd (aA oB (p9 (pv 2) (aA bj (pv 0) ah) (λ_ _=>rfl)) (p9 (pv 2) (aA bj (aA di (aA cj (pv 0) ah) (pv 1)) ah) (λ_ _=>rfl))))
   (af (av (aA oB (aA oB (aA Am ar (aA bj (pv 1) ah)) (pv 3)) (aA Am ar (aA bj (aA cj (pv 1) ah) ah)))))),?_⟩
  fin2
  intro l;lk;have k1:((k:Int)%36)=((k%36:Nat):Int):=by lia
  erw[pw _ _ (sgn (k%36)) (l7 rfl (ix V.int k1) () (by show((k%36:Nat):Int)<9223372036854775808;lia) (by show((k%36:Nat):Int)<36;lia) (Qe (show k%36<36 by lia)) ?_)];have b:=cP (((k/36:Nat):Int)+mark) (n:=36) ∅;obtain⟨j,o⟩:=afT b.1;have k2:((k:Int)/36+mark)%36=(j:Int):=by rw[<- o];rfl
  lk;erw[pw _ _ (sgn j) (l7 rfl (ix V.int k2) () (by show(j:Int)<9223372036854775808;lia) (by show(j:Int)<36;lia) (Qe (show j<36 by lia)) ?_)];lk;erw[⟨(by show 1+1<=_;exact fq ∅),?_⟩];lk;have D:=cP mark (n:=7) ∅;have y:=cP (mark/7) (n:=5) ∅;obtain⟨c,g⟩:=afT D.1;obtain⟨a,h⟩:=afT y.1;have r:fx ⟨(List.replicate c ("q":Str).cps).foldl (·++·) #[]⟩=List.replicate c 113:=by rw[yc];exact M8 c 113
  have u:fx ⟨(List.replicate a ("q":Str).cps).foldl (·++·) #[]⟩=List.replicate a 113:=by rw[yc];exact M8 a 113
  have p:(⟨(List.replicate c ("q":Str).cps).foldl (·++·) #[]⟩:Str).length=c:=by rw[<- bC,r,afA]
  have B:(⟨(List.replicate a ("q":Str).cps).foldl (·++·) #[]⟩:Str).length=a:=by rw[<- bC,u,afA]
  erw[iE ("q") c (rz rfl (ix V.int g) (by show 1*c<=_;lia) () (by show 1<=_;decide) ?_)];lk;erw[⟨(by rw[p];show _+2<=_;exact fq ()),?_⟩];lk;erw[iE ("q") a (rz rfl (ix V.int h) (by show 1*a<=_;lia) () (by show 1<=_;decide) ?_)];erw[iE _ _ (mq rfl rfl (by rw[Sx,p,B];show _+2+_<=_;exact fq ()) ?_)]
  have en:nameOf k mark=(⟨(List.replicate c ("q":Str).cps).foldl (·++·) #[]⟩:Str)++((⟨#[sgn (k%36)]⟩:Str)++(⟨#[sgn j]⟩:Str))++(⟨(List.replicate a ("q":Str).cps).foldl (·++·) #[]⟩:Str):=by
   erw[tJ ?_];rw[kj,kj,kj,r,u];unfold nameOf uZ;rw[er l,Cd,o,g,h]
   rfl
  rw[en] at q;exact q
 obtain⟨I,x,l⟩:=C
 refine⟨_,(aa (bq (i:=2) LX.nd ar)
   (aa (aL (PW.pt (iD (iw bQ (aA bj (pv 1) ah) ah) (iy (iw oW (pv 0) ah)))) (af (av (p9 (pv 2) (pv 0) (λ_ _=>rfl)))) ay)
   x)),?_⟩
 fin2
 lk;erw[bp (λe=>?_) (λe=>?_)]
 .have e:mark%11=5:=K7 e;lk;refine bp (λe2=>?_) (λe2=>?_)
  .have e2:(k:Int)<36:=hI e2;lk;refine pw _ _ (sgn k) (l7 rfl rfl () (by show(k:Int)<9223372036854775808;lia) (by show(k:Int)<36;lia) (Qe (show k<36 by lia)) ?_)
   have en:nameOf k mark=⟨#[sgn k]⟩:=by
    unfold nameOf uZ;rw[eE ⟨e,()⟩]
    rfl
   rw[en] at q;exact q
  .have e2:¬(k:Int)<36:=λz=>e2 (f7 z);exact l λz=>by lia
 .have e:=PK e;exact l λz=>e z.1
def NH:Sp:=λvs H Q _=>∃(cell other:Int),vs=[.int cell,.int other]/\∀(q:Addr) (H':Hp),aO H H'->H q=none->H' q=some (.lst ((words (bD cell other "")).map V.str))->Q (.ref q) H'
def Nl:Sp:=λvs H Q _=>∃(cell other:Int),vs=[.int cell,.int other]/\∀(q:Addr) (H':Hp),aO H H'->H q=none->H' q=some (.lst ((words (leafOf cell other "")).map V.str))->Q (.ref q) H'
def wL(cell other:Int)(nm:Str):words (bD cell other nm)=[("minder":Str),oE (cell/5%4),WE (cell/20%3),cG (bD cell other nm).ba,cG (bD cell other nm).bZ]:=by
 have a:=cP (cell/20) (n:=3) ∅;have:cell/20%3=0\/cell/20%3=1\/cell/20%3=2:=by lia
 unfold words bD;rcases this with z|z|z<;>rw[z]<;>rfl
def MK(cell other:Int)(nm:Str):words (leafOf cell other nm)=[("leaf":Str),oE (cell/5%4),cG (leafOf cell other nm).ba,cG (leafOf cell other nm).bZ,JQ (cell/20%4)]++(if cell/20%4=1 then [] else [cG (leafOf cell other nm).many]):=by
 have a:=cP (cell/20) (n:=4) ∅;have:cell/20%4=0\/cell/20%4=1\/cell/20%4=2\/cell/20%4=3:=by lia
 unfold words Tr.leafOf;rcases this with z|z|z|z<;>rw[z]<;>rfl
def Tw(F:aI K "_law_minder_words" "_law_minder_words" oO dV f fd)(T:Txt mg):aC P w K mg dH (fw P w) true 1 f fd xM NH:=by
 erw[F.br iA λvs H Q E m=>?_];obtain⟨cell,other,rfl,k⟩:=m
 refine⟨rfl,λr A dN s x=>⟨_,(aa (bq (i:=2) iA.nd (hD aD (bw (aj ar (aj ar (aj ar (aj ar ag))))) (aA bj (aA cj (pv 0) ah) ah)))
   (aa (bq (i:=3) iA.nd (hD aD (bw (aj ar (aj ar (aj ar ag)))) (aA bj (aA cj (pv 0) ah) ah)))
   (aa (aL (iw bQ (aA bj (pv 1) ah) ah) (af (av (bw (aj ar (aj (pv 2) (aj (pv 3) (aj (bK bJ (by rfl) T.rY kq (aj (aA bj (pv 1) ah) ag)) (aj (bK bJ (by rfl) T.rY kq (aj (aA di ah (aA bj (aA cj (pv 1) ah) ah)) ag)) ag)))))))) ay)
   (aa (bq (i:=4) iA.nd (hD aD (bw (J8 rfl)) (aA bj (pv 1) ah)))
   (af (av (bw (aj ar (aj (pv 2) (aj (pv 3) (aj (bK bJ (by rfl) T.rY kq (aj (pv 4) ag)) (aj (bK bJ (by rfl) T.rY kq (aj (aA di ah (aA bj (aA cj (pv 1) ah) ah)) ag)) ag)))))))))))),?_⟩⟩
 fin2
 have I:=cP (cell/5) (n:=4) ∅;have G:=cP (cell/20) (n:=3) ∅;have C:=cP other (n:=8) ∅;have B:=cP other (n:=1000001) ∅;have v:=cP (other/3) (n:=1000000) ∅;have D:=cP (other/8) (n:=5) ∅;rw[wL] at k
 have e4:sq [V.str "always",V.str "fallen",V.str "always",V.str "never"] (cell/5%4)=some (V.str (oE (cell/5%4))):=by
  have:cell/5%4=0\/cell/5%4=1\/cell/5%4=2\/cell/5%4=3:=by lia
  rcases this with z|z|z|z<;>rw[z]<;>rfl
 have e3:sq [V.str "one",V.str "all",V.str "rest"] (cell/20%3)=some (V.str (WE (cell/20%3))):=by
  have:cell/20%3=0\/cell/20%3=1\/cell/20%3=2:=by lia
  rcases this with z|z|z<;>rw[z]<;>rfl
 have e8:sq [V.int 9,V.int 2,V.int 30,V.int 1,V.int 3,V.int 0,V.int 9,V.int 2] (other%8)=some (V.int (Bm (other%8))):=by
  have:other%8=0\/other%8=1\/other%8=2\/other%8=3\/other%8=4\/other%8=5\/other%8=6\/other%8=7:=by lia
  rcases this with z|z|z|z|z|z|z|z<;>rw[z]<;>rfl
 have y:0<=Bm (other%8)/\Bm (other%8)<=30:=by unfold Bm;(repeat' split)<;>decide
 lk;erw[⟨fq (by show 4<=1000;decide),λt g=>?_⟩];lk;erw[hY t _ _ _ (fT rfl rfl (fk.of ae) e4 ?_)];lk;erw[⟨fq (by show 3<=1000;decide),λp c=>?_⟩];lk;erw[hY p _ _ _ (fT rfl rfl (fk.of ae) e3 ?_)];have h:=(au (o:= .lst [V.str "always",V.str "fallen",V.str "always",V.str "never"]) g).trans (au (o:= .lst [V.str "one",V.str "all",V.str "rest"]) c);lk;erw[bp (λe=>?_) (λe=>?_)]
 .have e:other%29=7:=K7 e;have b:(bD cell other "").ba=other%1000001:=eE e;have es:(bD cell other "").bZ=1+other/3%1000000:=eE e;rw[b,es] at k;lk;erw[⟨cS () (),?_⟩];lk;erw[⟨cS () (),?_⟩];lk;erw[⟨fq (by show 5<=1000;decide),λq a=>?_⟩];exact k q _ (h.trans (au a)) (h.free a) ae
 .have e:=PK e;have b:(bD cell other "").ba=Bm (other%8):=er e;have es:(bD cell other "").bZ=1+other/8%5:=er e;rw[b,es] at k;lk;erw[⟨fq (by show 8<=1000;decide),λu j=>?_⟩];lk;erw[hY u _ _ _ (fT rfl rfl (fk.of ae) e8 ?_)];have l:=h.trans (au (o:= .lst [V.int 9,V.int 2,V.int 30,V.int 1,V.int 3,V.int 0,V.int 9,V.int 2]) j);lk;erw[⟨cS () (),?_⟩];lk;erw[⟨cS () (),?_⟩];lk;erw[⟨fq (by show 5<=1000;decide),λq a=>?_⟩];exact k q _ (l.trans (au a)) (l.free a) ae
def S5(F:aI K "_law_leaf_words" "_law_leaf_words" jn dV f fd)(T:Txt mg):aC P w K mg dH (fw P w) true 1 f fd Ba Nl:=by
 erw[F.br fA λvs H Q E I=>?_];obtain⟨cell,other,rfl,k⟩:=I;erw[⟨rfl,λm A dN s X=>?_⟩];have h4:=cP (cell/5) (n:=4) ∅;have h3:=cP (cell/20) (n:=4) ∅;rw[MK] at k
 have e4:sq [V.str "always",V.str "fallen",V.str "always",V.str "never"] (cell/5%4)=some (V.str (oE (cell/5%4))):=by
  have:cell/5%4=0\/cell/5%4=1\/cell/5%4=2\/cell/5%4=3:=by lia
  rcases this with z|z|z|z<;>rw[z]<;>rfl
 have e3:sq [V.str "falls",V.str "idle",V.str "steady",V.str "falls"] (cell/20%4)=some (V.str (JQ (cell/20%4))):=by
  have:cell/20%4=0\/cell/20%4=1\/cell/20%4=2\/cell/20%4=3:=by lia
  rcases this with z|z|z|z<;>rw[z]<;>rfl
 have B:JQ (cell/20%4)="idle"↔cell/20%4=1:=by
  have:cell/20%4=0\/cell/20%4=1\/cell/20%4=2\/cell/20%4=3:=by lia
  rcases this with z|z|z|z<;>rw[z]<;>decide
 have M:∃t,qx (vi true (fw P w) P w K mg dH AK "_law_leaf_words" (ak jn) f m A dN s H E).i1 ((cB jn).drop 4) t/\(∀(g:Hp) (p:Addr) (x y z:Int),aO H g->g p=some (.lst [V.int x,.int y,.int z])->x=(leafOf cell other "").ba->y=(leafOf cell other "").bZ->(cell/20%4≠1->z=(leafOf cell other "").many)->
   t {nx:=λ_ H'=>Q .non H',rt:=Q} [some (.int cell),some (.int other),some (.str (oE (cell/5%4))),some (.str (JQ (cell/20%4))),some (.ref p),none] g):=by
  refine⟨_,(aa (bq (i:=5) fA.nd (bw (aj ar (aj (pv 2) (aj (bK bJ (by rfl) T.rY kq (aj (hD aD (pv 4) ah) ag)) (aj (bK bJ (by rfl) T.rY kq (aj (hD aD (pv 4) ah) ag)) (aj (pv 3) ag)))))))
   (aa (aL (iw wu (pv 3) ar) (af (aB (fg Bn ae3 ae4 cD (pv 5) (aj (bK bJ (by rfl) T.rY kq (aj (hD aD (pv 4) ah) ag)) ag)))) ay)
   (af (av (pv 5))))),?_⟩
  fin2
  intro g p x y z h u ex j v;have ok:=RU (cell:=cell) (other:=other) (nm:="qa") (by decide +kernel);have N:0<=x:=by rw[ex];exact ok.g0
  have g1:x<=1000000:=by rw[ex];exact ok.g1
  have R:0<=y:=by rw[j];exact ok.s0
  have Z:y<=1000000:=by rw[j];exact ok.s1
  rw[<- ex,<-j] at k;lk;erw[hY p _ 0 _ (fT rfl rfl (fk.of u) rfl ?_)];lk;erw[⟨cS N (),?_⟩];lk;erw[hY p _ 1 _ (fT rfl rfl (fk.of u) rfl ?_)];lk;erw[⟨cS R (),?_⟩];lk;erw[⟨fq (by show 5<=1000;decide),λq c=>?_⟩];lk;erw[bp (λe=>?_) (λe=>?_)]
  .have e:cell/20%4≠1:=λz=>by
    rw[f7 (ix V.str (B.mpr z))] at e;exact absurd e ∅
   have O:0<=z:=by rw[v e];exact ok.m0
   have W:z<=1000000:=by rw[v e];exact ok.m1
   rw[er e,<-v e] at k;have a:=(au (o:= .lst [V.str "leaf",.str (oE (cell/5%4)),.str (cG x),.str (cG y),.str (JQ (cell/20%4))]) c) _ _ u;lk;erw[⟨.inl ⟨rfl,_,fk.of ae⟩,?_⟩];lk;erw[hY p _ 2 _ (fT rfl rfl (fk.of a) rfl ?_)];lk;erw[⟨cS O (),?_⟩];lk;erw[pw q _ _ (fT rfl rfl ae (aV (by show 5<=1000;decide)) ?_)];rw[aU];lk;exact k q _ (h.trans (au c)) (h.free c) ae
  .have e:cell/20%4=1:=B.mp (by
    have e:=e;cases z:decide (V.str (JQ (cell/20%4))=V.str "idle") with
    |true=>exact V.str.inj (hI z)
    |false=>rw[z] at e;exact absurd rfl e)
   rw[eE e] at k;lk;exact k q _ (h.trans (au c)) (h.free c) ae
 obtain⟨Y,J,D⟩:=M
 refine⟨_,(aa (bq (i:=2) fA.nd (hD aD (bw (aj ar (aj ar (aj ar (aj ar ag))))) (aA bj (aA cj (pv 0) ah) ah)))
   (aa (bq (i:=3) fA.nd (hD aD (bw (aj ar (aj ar (aj ar (aj ar ag))))) (aA bj (aA cj (pv 0) ah) ah)))
   (aa (bq (i:=4) fA.nd (bw (aj (aA bj (pv 1) ah) (aj (aA bj (aA cj (pv 1) ah) ah) (aj (aA bj (aA cj (pv 1) ah) ah) ag)))))
   (aa (aL (iw bQ (aA bj (pv 1) ah) ah) (af (bq (i:=4) fA.nd (bw (aj (aA bj (pv 1) ah) (aj (aA bj (aA cj (pv 1) ah) ah) (aj (aA bj (aA cj (pv 1) ah) ah) ag)))))) ay)
   J)))),?_⟩
 fin2
 lk;erw[⟨fq (by show 4<=1000;decide),λS r=>?_⟩];lk;erw[hY S _ _ _ (fT rfl rfl (fk.of ae) e4 ?_)];lk;erw[⟨fq (by show 4<=1000;decide),λL a=>?_⟩];lk;erw[hY L _ _ _ (fT rfl rfl (fk.of ae) e3 ?_)];have C:=(au (o:= .lst [V.str "always",V.str "fallen",V.str "always",V.str "never"]) r).trans (au (o:= .lst [V.str "falls",V.str "idle",V.str "steady",V.str "falls"]) a);lk;erw[⟨fq (by show 3<=1000;decide),λU b=>?_⟩];lk;erw[bp (λe=>?_) (λe=>?_)]
 .have e:other%29=7:=K7 e;lk;erw[⟨fq (by show 3<=1000;decide),λG l=>?_⟩];refine D _ G _ _ _ ((C.trans (au b)).trans (au l)) ae ?_ ?_ ?_
  .exact (eE e).symm
  .exact (eE e).symm
  .intro z;show _=ite _ _ _;rw[er z,eE e]
 .have e:=PK e;refine D _ U _ _ _ (C.trans (au b)) ae ?_ ?_ ?_
  .exact (er e).symm
  .exact (er e).symm
  .intro z;show _=ite _ _ _;rw[er z,er e]
def Vn(K:PySem.W.Frag):Sp:=λvs H Q _=>∃(q dp b c a:Addr) (rows:List Row),vs=[.ref q]/\H q=some (.tup [.ref dp,.ref b,.ref c,.ref a])/\KG H dp b c a rows/\gx rows/\∀H',aO H H'->Q (.str (ofC (written rows))) H'
def aac(F:aI K "_law_text" "_law_text" Pg dV f fd)(T:Txt mg):aC P w K mg dH (fw P w) true 1 f fd WG (Vn K):=by
 erw[F.br x8 λvs H Q E L=>?_];obtain⟨q,dp,ep,O,I,rows,rfl,hq,D,ok,k⟩:=L
 refine⟨rfl,λX A dN s a=>⟨_,(aa (AE (pv 0) (PL rfl (k7 (c9 (i:=1) x8.nd rfl (by first|exact Or.inl rfl|exact Or.inr rfl)) (k7 (c9 (i:=2) x8.nd rfl (by first|exact Or.inl rfl|exact Or.inr rfl)) (k7 (c9 (i:=3) x8.nd rfl (by first|exact Or.inl rfl|exact Or.inr rfl)) (k7 (c9 (i:=4) x8.nd rfl (by first|exact Or.inl rfl|exact Or.inr rfl)) Mm))))))
   (aa (Gr (j:=5) x8.nd rfl (by first|exact Or.inl rfl|exact Or.inr rfl) (x:="_law_k") (fr:=[("_law_depths",1),("_law_words",3),("_law_names",4)]) (by exact⟨rfl,rfl,by decide +kernel,by decide +kernel,rfl,by decide +kernel,(by repeat (first|exact True.intro|erw[⟨rfl,?_⟩])),by repeat (first|exact True.intro|erw[⟨(by first|exact λ_=>⟨_,rfl⟩|(intro z;cases z)),?_⟩]),(by repeat (first|exact True.intro|erw[⟨⟨rfl,.inl rfl,rfl,rfl⟩,?_⟩]))⟩) rfl (kx (by rfl) T.ng (aj (aQ aP (by rfl) T.fN cJ (aj (pv 4) ag)) ag)) (λ_ _ _ _=>Aw) (λ_ _ _ _=>(aA oB (aA Am ar (hD (Gu (K0:=K) rfl) (pv 1) (pv 0))) (abM (K0:=K) rfl afN PySem.F.slot_str_join PySem.F.type_str_join (K4 (K0:=K)) ar (aj (aA P2 (hD (Gu (K0:=K) rfl) (pv 2) (pv 0)) (bw (aj (hD (Gu (K0:=K) rfl) (pv 3) (pv 0)) ag))) ag)))))
   (af (av (fg afN PySem.F.slot_str_join PySem.F.type_str_join DR ar (aj (pv 5) ag)))))),?_⟩⟩
 fin2
 have c:(rows.map λr=>V.str r.sh.name).length=rows.length:=gm _;have ab:=ok.len;lk;erw[iE q _ (mq rfl (l5.of hq) rfl ?_)];lk;erw[iE I _ (mE rfl (.inl (fk.of D.n)) ?_)];rw[c];lk;erw[⟨(),(),eZ (n:=rows.length) (λi ys H'=>aO H H'/\∃xs:List Str,ys=xs.map V.str/\xs.map fx=(lZ rows).take i) ⟨aO.refl _,[],rfl,rfl⟩ (λi ys H' b _=>b) (λys H' _=>fC _) ?_ ?_⟩]
 .rintro i ys H' v H2 b ⟨s1,xs,rfl,hx⟩ ⟨rfl,rfl⟩;have a:rows[i]? =some rows[i]:=gy b;have h:=ok.sh rows[i] (M5 b);have C:=D.mono s1
  have m:xs.length=i:=by
   have:=ix List.length hx;rw[gm,XP,Tr.plain_len] at this
   lia
  have t:(0:Int)+(i:Int)=((i:Nat):Int):=Int.zero_add _
  have M:sq (rows.map λr=>V.int (r.dep:Int)) (0+(i:Int))=some (V.int (rows[i].dep:Int)):=by
   rw[t];erw[bX ?_];rw[jl,a]
   rfl
  have S:sq (rows.map λr=>V.str r.sh.name) (0+(i:Int))=some (V.str rows[i].sh.name):=by
   rw[t];erw[bX ?_];rw[jl,a]
   rfl
  obtain⟨l,U,w2,w3⟩:=id C.w;rw[gm] at w2;have J:l[i]? =some (l[i]'()):=gy ()
  have W:sq (l.map V.ref) (0+(i:Int))=some (V.ref (l[i]'())):=by
   rw[t];erw[bX ?_];rw[jl,J]
   rfl
  have R:=w3 i _ (words rows[i].sh) J (by rw[jl,a];rfl)
  have g:rows[i].dep<=8:=by
   have:=ok.fit i b;rw[ry,a] at this;unfold Tr.fits at this
   split at this
   .have:rows[i].dep=0:=this.1
    lia
   .exact this.2.1
  have wb:=Ea h;have cd:fx (⟨(List.replicate rows[i].dep ("  ":Str).cps).foldl (·++·) #[]⟩:Str)=List.replicate (2*rows[i].dep) 32:=by rw[yc];exact Oi _ 32
  have ld:(⟨(List.replicate rows[i].dep ("  ":Str).cps).foldl (·++·) #[]⟩:Str).length=2*rows[i].dep:=by rw[<- bC,cd,afA]
  lk;erw[hY dp _ _ _ (fT rfl rfl (fk.of C.d) M ?_)];erw[iE ("  ") (rows[i].dep) (rz rfl rfl (by show 2*_<=_;lia) () (by show 2<=_;decide) ?_)];lk;erw[hY O _ _ _ (fT rfl rfl (fk.of U) W ?_)];lk;erw[hY I _ _ _ (fT rfl rfl (fk.of C.n) S ?_)];erw[⟨fq (by show 1<=1000;decide),λu N=>?_⟩];have G:=au (o:= .lst [V.str rows[i].sh.name]) N;have wl:((words rows[i].sh).map V.str).length<=7:=by rw[gm];have:=wb.2;rw[js] at this;lia
  erw[hY (l[i]'()) u _ _ (rz rfl rfl (G _ _ R) ae (by show _+1<=_;exact fq ()) (λz B=>?_))];have sz:=G.trans (au (o:= .lst ((words rows[i].sh).map V.str++[V.str rows[i].sh.name])) B);have ez:(words rows[i].sh).map V.str++[V.str rows[i].sh.name]=(words rows[i].sh++[rows[i].sh.name]).map V.str:=by rw[ni];rfl
  erw[pw (" ") z (words rows[i].sh++[rows[i].sh.name]) (fT rfl rfl (by rw[<- ez];exact fk.of ae) (by show _+_*1<=_;lia) ?_)];have rc:=Xl rows[i].dep rows[i].sh;have rl:=MH h rows[i].dep;rw[<- rc,bC,Sx] at rl;erw[iE _ _ (mq rfl rfl (fq ()) ?_)];erw[⟨by rw[gm,m];exact aV (),s1.trans sz,xs++[_],by rw[ni];rfl,?_⟩];rw[ni,hx,aft]
  congr 1
  show [fx _]=_;rw[rc];unfold lZ;rw[jl,a]
  rfl
 .rintro ys H' ⟨s1,xs,rfl,hx⟩;rw[<- Tr.plain_len,afx] at hx
  have m:xs.length=rows.length:=by
   have:=ix List.length hx;rwa [gm,Tr.plain_len] at this
  erw[⟨by rw[gm,m];exact fq (),λp hp=>?_⟩];lk
  have g:∀r∈rows,(Au r.dep 0 0 r.sh).length<=83:=λr a=>by
   obtain⟨i,b,rfl⟩:=List.getElem_of_mem a;have h2:=MH (ok.sh _ a) rows[i].dep
   have:rows[i].dep<=8:=by
    have:=ok.fit i b;rw[ry,gy b] at this;unfold Tr.fits at this
    split at this
    .have:rows[i].dep=0:=this.1
     lia
    .exact this.2.1
   lia
  have sm:(xs.map (·.length)).sum<=83*xs.length:=by
   erw[mf (QW (n:=83) λy Z=>?_) (by rw[gm];exact fC _)];obtain⟨z,B,rfl⟩:=C0.mp Z;have:fx z∈lZ rows:=by rw[<- hx];exact C0.mpr ⟨z,B,rfl⟩
   obtain⟨r,a,e⟩:=C0.mp this;rw[<- bC,<-e];exact g r a
  erw[pw ("\n") p xs (fT rfl rfl (fk.of ae) (by show _+_*1<=_;lia) ?_)]
  have Y:Txt.join "\n" xs=ofC (written rows):=by
   erw[tJ ?_];rw[Gj,hx,Cd]
   rfl
  rw[Y];exact k _ (s1.trans (au hp))
open PySem L2 Shp Nm Tr PySem.NumText
def W2(K:PySem.W.Frag):Sp:=λvs H Q _=>∃(a:Addr) (h:List Int) (g mark:Int) (ct:Nat),vs=[.ref a,.int g,.int (ct:Int),.int mark]/\fk K H a (h.map V.int)/\0<=g/\1<=ct/\ct<=64∧
 ∀(q dp c e b:Addr) (H':Hp) (rows:List Row),aO H H'->H' q=some (.tup [.ref dp,.ref c,.ref e,.ref b])->KG H' dp c e b rows->lJ rows mark->rows.length=ct->Q (.ref q) H'
def Z6(F:aI K "_law_tree" "_law_tree" Az dV f fd)(T:Txt mg)(fz:jm P w K mg dH true 1 "_law_cell_at" (QE K) [])(PV:jm P w K mg dH true 1 "_law_name" Xb [])
  (jF:jm P w K mg dH true 1 "_law_minder_words" NH []) (ur:jm P w K mg dH true 1 "_law_leaf_words" Nl []):aC P w K mg dH (fw P w) true 3 f fd Yb (W2 K):=by
 erw[F.br jL λvs H Q E y0=>?_];obtain⟨a,ns,fi,mark,ct,rfl,hS,hf,h1,bP,k⟩:=y0;erw[⟨rfl,λa5 A dN s hr=>?_⟩]
 have t6:∃t,qx (vi true (fw P w) P w K mg dH Pe "_law_tree" (ak Az) f a5 A dN s H E).i1 ((cB Az).drop 6) t/\(∀(B:Hp) (dp g c:Addr) (rows:List Row) (v1 v2 v3 v4:Option V),aO H B->H dp=none->H g=none->H c=none→
   B dp=some (.lst (rows.map λr=>V.int (r.dep:Int)))->B g=some (.lst ((List.range rows.length).map λk=>V.int (cA rows k)))->KX B c (rows.map λr=>words r.sh)->lJ rows mark->rows.length=ct→
   t {nx:=λ_ H'=>Q .non H',rt:=Q} [some (.ref a),some (.int fi),some (.int (ct:Int)),some (.int mark),some (.ref dp),some (.ref g),some (.ref c),v1,v2,v3,v4,none] B):=by
  refine⟨_,(aa (Gr (j:=11) jL.nd rfl (by first|exact Or.inl rfl|exact Or.inr rfl) (x:="_law_k") (fr:=[("_law_mark",3)]) (by exact⟨rfl,rfl,by decide +kernel,by decide +kernel,rfl,by decide +kernel,(by repeat (first|exact True.intro|erw[⟨rfl,?_⟩])),by repeat (first|exact True.intro|erw[⟨(by first|exact λ_=>⟨_,rfl⟩|(intro z;cases z)),?_⟩]),(by repeat (first|exact True.intro|erw[⟨⟨rfl,.inl rfl,rfl,rfl⟩,?_⟩]))⟩) rfl (kx (by rfl) T.ng (aj (pv 2) ag)) (λ_ _ _ _=>Aw) (λ_ _ _ _=>(Fz PV (hr.mono (by omega)) (by rfl) yp (aj (pv 0) (aj (pv 1) ag)))))
   (af (av (lL (aj (pv 4) (aj (pv 5) (aj (pv 6) (aj (pv 11) ag)))))))),?_⟩
  fin2
  intro B dp g c rows v1 v2 v3 v4 s1 hd he hw h4 h5 h6 X hl;lk;erw[⟨(),(),eZ (n:=ct) (λi ys H'=>H'=B/\ys=(List.range i).map λk=>V.str (nameOf k mark)) ⟨rfl,rfl⟩ (λi ys H' hi _=>hi) (λys H' _=>fC _) ?_ ?_⟩]
  .rintro i ys H' v O hi ⟨rfl,rfl⟩ ⟨rfl,rfl⟩;lk;erw[⟨(by rw[ahE];lia),by rw[gm,tG];exact aV (),rfl,?_⟩];rw[afR,ni,ahE]
   rfl
  .rintro ys H' ⟨rfl,rfl⟩;erw[⟨by rw[gm,tG];exact fq (),λnp bE=>?_⟩];lk;erw[⟨fq (by show 4<=1000;decide),λq hq=>?_⟩];have R:aO H' (upd (upd H' np (.lst ((List.range ct).map λk=>V.str (nameOf k mark)))) q (.tup [.ref dp,.ref g,.ref c,.ref np])):=(au bE).trans (au hq);erw[k q dp g c np _ rows (s1.trans R) ae ⟨R _ _ h4,R _ _ h5,h6.mono R,?_⟩ X hl];rw[X.names,hl];exact au hq _ _ ae
 obtain⟨tt,ht,hn⟩:=t6
 have t4:∃t,qx (vi true (fw P w) P w K mg dH Pe "_law_tree" (ak Az) f a5 A dN s H E).i1 ((cB Az).drop 4) t/\(∀(B:Hp) (dp g c:Addr) (rows:List Row),aO H B->H dp=none->H g=none->H c=none->dp≠g->dp≠c->g≠c→
   B dp=some (.lst (rows.map λr=>V.int (r.dep:Int)))->B g=some (.lst ((List.range rows.length).map λk=>V.int (cA rows k)))->KX B c (rows.map λr=>words r.sh)->lJ rows mark->rows.length=1→
   t {nx:=λ_ H'=>Q .non H',rt:=Q} [some (.ref a),some (.int fi),some (.int (ct:Int)),some (.int mark),some (.ref dp),some (.ref g),some (.ref c),none,none,none,none,none] B):=by
  refine⟨_,(aa (bq (i:=7) jL.nd (bw (aj ah ag)))
   (aa (oH afv rfl (TU (by rfl) T.ng (aj ah (aj (pv 2) ag))) (c9 (i:=8) jL.nd rfl (by first|exact Or.inl rfl|exact Or.inr rfl)) (aa (bq (i:=9) jL.nd (aA di (cb fz (aj (pv 0) (aj (aA di (pv 1) (pv 8)) ag))) (aA abR ah (pv 8))))
   (aa (bq (i:=10) jL.nd (aA di (cb fz (aj (pv 0) (aj (aA di (aA di (pv 1) (pv 8)) ah) ag))) (pv 8)))
   (aa (aL (iw oW (aA bj (pv 3) ah) ah) (af (bq (i:=7) jL.nd (B5 Fu (pv 7) Sa (yj (aA di ah (aA bj (aA cj (pv 9) ah) (aQ aP (by rfl) T.fN cJ (aj (pv 7) ag)))))))) ay)
   (aa (aB (fg Bn ae3 ae4 cD (pv 4) (aj (aQ aP (by rfl) T.fN cJ (aj (pv 7) ag)) ag)))
   (aa (aB (fg Bn ae3 ae4 cD (pv 5) (aj (hD aD (pv 7) (oF jM ah)) ag)))
   (af (aL (PW.pt (ze (iw oW (aA bj (pv 9) ah) ah) (xJ (PW.pt (iD (iw bQ (aA bj (pv 3) ah) ah) (iy (iw oW (aQ aP (by rfl) T.fN cJ (aj (pv 7) ag)) ah))))))) (aa (aB (fg Bn ae3 ae4 cD (pv 6) (aj (cb jF (aj (pv 9) (aj (pv 10) ag))) ag)))
   (af (aL (iw oW (aQ aP (by rfl) T.fN cJ (aj (pv 7) ag)) ah) (af (bq (i:=7) jL.nd (aA P2 (pv 7) (bw (aj (pv 8) ag))))) ay))) (af (aB (fg Bn ae3 ae4 cD (pv 6) (aj (cb ur (aj (pv 9) (aj (pv 10) ag))) ag))))))))))))
   ht)),?_⟩
  fin2
  intro B dp g c rows s1 hd he hw n1 n2 n3 h4 h5 h6 X hl;erw[⟨fq (by show 1<=1000;decide),λZ a2=>?_⟩];have sn:=au (o:= .lst [V.int 0]) a2
  have bx:eG rows [0]:=by
   obtain⟨r,rfl⟩:∃r,rows=[r]:=by
    match rows,hl with
    |[r],_=>exact⟨r,rfl⟩
   erw[eG.first ?_];have:=X.fit 0 Nat.zero_lt_one;unfold Tr.fits at this;rw[eE rfl] at this;exact this.2
  lk;erw[⟨⟨∅,(),(),()⟩,?_⟩];have bt:((ct:Int)-1).toNat=ct-1:=by lia
  refine yq (lo:=1) (n:=((ct:Int)-1).toNat) (λi σ O=>∃(rows:List Row) (Z:Addr) (lp:List Nat) (v1 v2 v3:Option V),σ=[some (.ref a),some (.int fi),some (.int (ct:Int)),some (.int mark),some (.ref dp),some (.ref g),some (.ref c),some (.ref Z),v1,v2,v3,none]/\aO H O∧
    O dp=some (.lst (rows.map λr=>V.int (r.dep:Int)))/\O g=some (.lst ((List.range rows.length).map λk=>V.int (cA rows k)))/\KX O c (rows.map λr=>words r.sh)/\lJ rows mark/\rows.length=1+i/\O Z=some (.lst (lp.map λj:Nat=>V.int (j:Int)))/\eG rows lp/\Z≠dp/\Z≠g)
   ⟨rows,Z,[0],none,none,none,rfl,s1.trans sn,sn _ _ h4,sn _ _ h5,h6.mono sn,X,(),ae,bx,(aq h4 a2).symm,(aq h5 a2).symm⟩ ?_ ?_
  .rintro i σ O hi ⟨rows,Z,lp,v1,v2,v3,rfl,R,g4,g5,g6,X,hl,gp,hP,m1,m2⟩;rw[bt] at hi;have r1:=X.ne;have wn:=ab8 r1;refine W4 (M:=λbv H'=>∃(h:Addr) (b:List Nat) (cl C:Int),bv=[some (.ref a),some (.int fi),some (.int (ct:Int)),some (.int mark),some (.ref dp),some (.ref g),some (.ref c),some (.ref h),some (.int (1+(i:Int))),some (.int cl),some (.int C),none]/\aO O H'/\H' h=some (.lst (b.map λj:Nat=>V.int (j:Int)))/\eG rows b/\h≠dp/\h≠g) (λN hN=>?_) ?_
   .lk;erw[pw a _ ns (mq rfl (R.seq hS) () ?_)];lk;erw[⟨.inl ⟨∅,∅⟩,?_⟩];lk;erw[pw a _ ns (mq rfl (R.seq hS) () ?_)];lk;have bd:(lp.map λj:Nat=>V.int (j:Int)).length=lp.length:=gm _;have b1:=hP.l1;refine bp (λe=>?_) (λe=>?_)
    .lk;erw[iE Z _ (mE rfl (.inl (fk.of gp)) ?_)];lk;erw[⟨(by show(0:Int)<_;rw[bd];lia),?_⟩];lk;erw[iE Z _ (mE rfl (fk.of gp) (λp2 a4=>?_))];obtain⟨m,em⟩:=afT (cP ((ns.getD (fi+(1+(i:Int))).toNat 0+3*(1+(i:Int)))/80) (n:=(lp.length:Int)) ()).1;have bN:=(cP ((ns.getD (fi+(1+(i:Int))).toNat 0+3*(1+(i:Int)))/80) (n:=(lp.length:Int)) ()).2;erw[hN _ _ ⟨p2,lp.take (1+m),_,_,rfl,au a4,?_,hP.take () (),(aq g4 a4).symm,(aq g5 a4).symm⟩];rw[ae,bd,em,show(1+(m:Int))=((1+m:Nat):Int) from rfl,Z0,ahu]
    .lk;exact hN _ _ ⟨Z,lp,_,_,rfl,λ_ _ z=>z,gp,hP,m1,m2⟩
   .rintro σ3 H3 ⟨h,b,cl,C,rfl,sn2,kp,hP3,q1,q2⟩;have s3:=R.trans sn2;have k4:=sn2 _ _ g4;have k5:=sn2 _ _ g5;have k6:=g6.mono sn2;have c1:=hP3.l1;have c8:=hP3.l8;have D:(b.map λj:Nat=>V.int (j:Int)).length=b.length:=gm _;have rl:rows.length<64:=by lia
    lk;erw[⟨.inl ⟨rfl,_,fk.of k4⟩,?_⟩];lk;erw[iE h _ (mE rfl (.inl (fk.of kp)) ?_)];rw[D];lk;erw[pw dp _ _ (fT rfl rfl k4 (by rw[gm];exact aV ()) ?_)];have a0:(upd H3 dp (.lst ((rows.map λr=>V.int (r.dep:Int))++[V.int (b.length:Int)]))) h=some (.lst (b.map λj:Nat=>V.int (j:Int))):=(ai q1).trans kp;have am:(upd H3 dp (.lst ((rows.map λr=>V.int (r.dep:Int))++[V.int (b.length:Int)]))) g=some (.lst ((List.range rows.length).map λk=>V.int (cA rows k))):=(ai n1.symm).trans k5;lk;erw[⟨.inl ⟨rfl,_,fk.of am⟩,?_⟩];lk
    have aF:sq (b.map λj:Nat=>V.int (j:Int)) (-1)=some (V.int ((b[b.length-1]'():Nat):Int)):=by
     rw[Vt (),D,jl,gy ()]
     rfl
    erw[hY h _ _ _ (fT rfl rfl (fk.of a0) aF ?_)];lk;erw[pw g _ _ (fT rfl rfl am (by rw[gm,tG];exact aV ()) ?_)];obtain⟨H4,L⟩:∃H4,H4=upd (upd H3 dp (.lst ((rows.map λr=>V.int (r.dep:Int))++[V.int (b.length:Int)]))) g (.lst (((List.range rows.length).map λk=>V.int (cA rows k))++[V.int ((b[b.length-1]'():Nat):Int)])):=⟨_,rfl⟩;rw[<- L];have s4:aO H H4:=by rw[L];exact xb (xb s3 hd) he
    have j4:H4 dp=some (.lst ((rows.map λr=>V.int (r.dep:Int))++[V.int (b.length:Int)])):=by rw[L,ai n1];exact ae
    have j5:H4 g=some (.lst (((List.range rows.length).map λk=>V.int (cA rows k))++[V.int ((b[b.length-1]'():Nat):Int)])):=by rw[L];exact ae
    have jp:H4 h=some (.lst (b.map λj:Nat=>V.int (j:Int))):=by rwa[L,ai q2]
    have j6:KX H4 c (rows.map λr=>words r.sh):=by
     obtain⟨x1,y1,z1⟩:=Ka r1 (λr=>(r.dep:Int));obtain⟨x2,y2,z2⟩:=GU r1 (λk=>cA rows k);rw[L];erw[KX.upd (i:=x2) (xs:=y2) (KX.upd (i:=x1) (xs:=y1) k6 ?_ wn (Lu rows)) ?_ wn (Lu rows)]
     .rw[k4,z1]
     .rw[am,z2]
    have ac:∀sh:Sh,fits (b6 rows rows.length) rows.length ⟨b.length,sh⟩:=λsh=>hP3.fits (r:=⟨b.length,sh⟩) () c1 (fC _);have a3:∀sh:Sh,cA (rows++[⟨b.length,sh⟩]) rows.length=((b[b.length-1]'():Nat):Int):=λsh=>hP3.cA (r:=⟨b.length,sh⟩) () c1 (fC _)
    have be:∀sh:Sh,eG (rows++[⟨b.length,sh⟩]) b:=λsh=>by
     have:=hP3.next (r:=⟨b.length,sh⟩) c1 (fC _);rwa [afx] at this
    clear L a0 am aF
    have a8:c≠dp:=by
     obtain⟨x1,y1,z1⟩:=Ka r1 (λr=>(r.dep:Int));exact j6.ne (i:=x1) (xs:=y1++[V.int (b.length:Int)]) (by rw[j4,z1];rfl) wn
    have a7:c≠g:=by
     obtain⟨x1,y1,z1⟩:=GU r1 (λk=>cA rows k);exact j6.ne (i:=x1) (xs:=y1++[V.int ((b[b.length-1]'():Nat):Int)]) (by rw[j5,z1];rfl) wn
    have a6:c≠h:=by
     obtain⟨x,y,z⟩:∃x y,b=x::y:=by
      match b,c1 with
      |x::y,_=>exact⟨x,y,rfl⟩
     exact j6.ne (i:=(x:Int)) (xs:=y.map λj:Nat=>V.int (j:Int)) (by rw[jp,z];rfl) wn
    obtain⟨bL,w1,_⟩:=id j6;dsimp only;erw[aco (decide (cl%5<2)||(decide (mark%5=4)&&decide ((b.length:Int)<8))) (λN hN=>?_) ?_]
    .lk;refine bp (λe1=>?_) (λe1=>?_)
     .rw[show decide (cl%5<2)=true from e1,ahA] at hN;exact hN
     .rw[show decide (cl%5<2)=false from j0 λz=>e1 (f7 z),aht] at hN;lk;refine bp (λe2=>?_) (λe2=>?_)
      .rw[f7 (show mark%5=4 from V.int.inj (hI e2)),afB] at hN;lk;erw[iE h _ (mE rfl (.inl (fk.of jp)) ?_)];rw[D];lk;exact hN
      .rw[j0 (show ¬mark%5=4 from λz=>e2 (f7 (ix V.int z))),afM] at hN;exact hN
    .refine bp (λ_=>?_) (λ_=>?_)
     .lk;erw[⟨.inl ⟨rfl,_,fk.of w1⟩,?_⟩];lk;erw[λq H5 s5 a1 G=>?_];obtain⟨aK,w2,wl,j7⟩:=(j6.mono s5).push G wn (Lu rows) (CP _);lk;erw[pw c _ _ (fT rfl rfl w2 (by rw[gm,wl,gm];exact aV ()) ?_)];obtain⟨W,l⟩:∃W,W=upd H5 c (.lst (aK.map V.ref++[.ref q])):=⟨_,rfl⟩;rw[<- l] at j7 ⊢;have s6:aO H W:=by rw[l];exact xb (s4.trans s5) hw
      have Y:W dp=some (.lst ((rows.map λr=>V.int (r.dep:Int))++[V.int (b.length:Int)])):=by rw[l,ai a8.symm];exact s5 _ _ j4
      have ad:W g=some (.lst (((List.range rows.length).map λk=>V.int (cA rows k))++[V.int ((b[b.length-1]'():Nat):Int)])):=by rw[l,ai a7.symm];exact s5 _ _ j5
      have ab:W h=some (.lst (b.map λj:Nat=>V.int (j:Int))):=by rw[l,ai a6.symm];exact s5 _ _ jp
      have ln:∀r:Row,(rows++[r]).length=1+(i+1):=λr=>by rw[js];show rows.length+1=_;lia
      lk;erw[iE h _ (mE rfl (.inl (fk.of ab)) ?_)];rw[D];lk;erw[bp (λe4=>?_) (λe4=>?_)]
      .have e4:(b.length:Int)<8:=hI e4;lk;erw[⟨fq (by show 1<=1000;decide),λu hu=>?_⟩];erw[hY h u _ _ (rz rfl rfl ((au hu) _ _ ab) ae (by rw[D];show _+1<=_;exact fq ()) (λz hz=>?_))];have sz:=(au (o:= .lst [V.int (1+(i:Int))]) hu).trans (au (o:= .lst ((b.map λj:Nat=>V.int (j:Int))++[V.int (1+(i:Int))])) hz);refine⟨rows++[⟨b.length,bD cl C (nameOf rows.length mark)⟩],z,b++[rows.length],_,_,_,rfl,s6.trans sz,?_,?_,?_,X.next rl (ac _) (DE (Fq rl)) rfl,ln _,?_,?_,?_,?_⟩
       .rw[ni];exact sz _ _ Y
       .rw[vQ (a3 _)];exact sz _ _ ad
       .rw[ni];exact j7.mono sz
       .rw[ae,ni,hl]
        rfl
       .have:=hP3.more (r:=⟨b.length,bD cl C (nameOf rows.length mark)⟩) c1 (fC _) (by show b.length<8;lia) (f7 (agp _ _));rw[afx] at this;exact this
       .exact (aq ((au hu) _ _ Y) hz).symm
       .exact (aq ((au hu) _ _ ad) hz).symm
      .refine ⟨rows++[⟨b.length,bD cl C (nameOf rows.length mark)⟩],h,b,_,_,_,rfl,s6,?_,?_,?_,X.next rl (ac _) (DE (Fq rl)) rfl,ln _,ab,be _,q1,q2⟩
       .rwa[ni]
       .rwa[vQ (a3 _)]
       .rwa[ni]
     .lk;erw[⟨.inl ⟨rfl,_,fk.of w1⟩,?_⟩];lk;erw[λq H5 s5 a1 G=>?_];obtain⟨aK,w2,wl,j7⟩:=(j6.mono s5).push G wn (Lu rows) (CP _);lk;erw[pw c _ _ (fT rfl rfl w2 (by rw[gm,wl,gm];exact aV ()) ?_)];obtain⟨W,l⟩:∃W,W=upd H5 c (.lst (aK.map V.ref++[.ref q])):=⟨_,rfl⟩;rw[<- l] at j7 ⊢;have s6:aO H W:=by rw[l];exact xb (s4.trans s5) hw
      have Y:W dp=some (.lst ((rows.map λr=>V.int (r.dep:Int))++[V.int (b.length:Int)])):=by rw[l,ai a8.symm];exact s5 _ _ j4
      have ad:W g=some (.lst (((List.range rows.length).map λk=>V.int (cA rows k))++[V.int ((b[b.length-1]'():Nat):Int)])):=by rw[l,ai a7.symm];exact s5 _ _ j5
      have ab:W h=some (.lst (b.map λj:Nat=>V.int (j:Int))):=by rw[l,ai a6.symm];exact s5 _ _ jp
      have ln:∀r:Row,(rows++[r]).length=1+(i+1):=λr=>by rw[js];show rows.length+1=_;lia
      erw[⟨rows++[⟨b.length,Tr.leafOf cl C (nameOf rows.length mark)⟩],h,b,_,_,_,rfl,s6,?_,?_,?_,X.next rl (ac _) (RU (Fq rl)) rfl,ln _,ab,be _,q1,q2⟩]
      .rwa[ni]
      .rwa[vQ (a3 _)]
      .rwa[ni]
  .rintro σ O ⟨rows,Z,lp,v1,v2,v3,rfl,R,g4,g5,g6,X,hl,gp,hP,m1,m2⟩;exact hn O dp g c rows _ _ _ _ R hd he hw g4 g5 g6 X ()
 obtain⟨tt,ht,hn⟩:=t4
 refine⟨_,(aa (bq (i:=4) jL.nd (bw (aj ah ag)))
   (aa (bq (i:=5) jL.nd (bw (aj (oF jM ah) ag)))
   (aa (bq (i:=6) jL.nd (bw (aj (cb jF (aj (cb fz (aj (pv 0) (aj (pv 1) ag))) (aj (cb fz (aj (pv 0) (aj (aA di (pv 1) ah) ag))) ag))) ag)))
   (aa (aL (iw oW (aA bj (aA cj (pv 3) ah) ah) ah) (af (AE ar (CM (hD aD (pv 6) ah) ah set_list))) ay)
   ht)))),?_⟩
 fin2
 erw[⟨fq (by show 1<=1000;decide),λdp as=>?_⟩];lk;erw[⟨fq (by show 1<=1000;decide),λg I=>?_⟩];have sA:=(au (o:= .lst [V.int 0]) as).trans (au (o:= .lst [V.int (-1)]) I);lk;erw[pw a _ ns (mq rfl (sA.seq hS) () ?_)];lk;erw[pw a _ ns (mq rfl (sA.seq hS) () ?_)];lk;erw[λq B s1 a1 G=>?_];obtain⟨cl,C,G⟩:∃cl C,B q=some (.lst ((words (bD cl C "")).map V.str)):=⟨_,_,G⟩;erw[⟨fq (by show 1<=1000;decide),λc U=>?_⟩];have R:=s1.trans (au (o:= .lst [V.ref q]) U);have sB:=sA.trans R;have al:(upd B c (.lst [V.ref q])) dp=some (.lst [V.int 0]):=R _ _ ((au I) _ _ ae);have an:(upd B c (.lst [V.ref q])) g=some (.lst [V.int (-1)]):=R _ _ ae;have J:(upd B c (.lst [V.ref q])) q=some (.lst ((words (bD cl C "")).map V.str)):=(au U) _ _ G;have aN:(upd B c (.lst [V.ref q])) c=some (.lst [V.ref q]):=ae;have ax:H g=none:=(au (o:= .lst [V.int 0]) as).free I;have aG:H c=none:=(sA.trans s1).free U;have n1:dp≠g:=λz=>by rw[z] at I;rw[ae] at I;cases I
 have n2:dp≠c:=aq (s1 _ _ ((au (o:= .lst [V.int (-1)]) I) _ _ (ae (H:=H) (a:=dp)))) U;have n3:g≠c:=aq (s1 _ _ (ae (a:=g))) U
 have one:∀sh:Sh,zw sh->3<=sh.kind->sh.name=nameOf 0 mark->lJ [⟨0,sh⟩] mark:=λsh hs hk bg=>by
  erw[⟨fC _,by show 1<=64;decide,?_,?_,?_⟩]
  .intro j hj;obtain rfl:j=0:=by have:j<1:=hj;lia
   unfold Tr.fits;rw[eE rfl];exact⟨rfl,f7 hk⟩
  .intro r hr;obtain rfl:r=⟨0,sh⟩:=by simpa using hr
   exact hs
  .intro j hj;obtain rfl:j=0:=by have:j<1:=hj;lia
   exact bg
 have p:=DE (cell:=cl) (other:=C) (Fq (k:=0) (mark:=mark) ∅);lk;erw[bp (λe=>?_) (λe=>?_)]
 .lk;erw[hY c _ 0 _ (fT rfl rfl (fk.of aN) rfl ?_)];lk;have ew:(words (bD cl C "")).map V.str=[V.str "minder",V.str (oE (cl/5%4)),V.str (WE (cl/20%3)),V.str (cG (bD cl C "").ba),V.str (cG (bD cl C "").bZ)]:=by rw[wL];rfl
  rw[ew] at J;erw[hY q _ 3 3 (fT rfl rfl J rfl ?_)];obtain⟨O,S⟩:∃O,O=upd (upd B c (.lst [V.ref q])) q (.lst [V.str "minder",V.str (oE (cl/5%4)),V.str (WE (cl/20%3)),V.str "100",V.str (cG (bD cl C "").bZ)]):=⟨_,rfl⟩;have bm:H q=none:=sA.free a1;obtain⟨sh,ap⟩:∃sh:Sh,sh={bD cl C (nameOf 0 mark) with ba:=100}:=⟨_,rfl⟩;have bn:dp≠q:=λz=>by rw[z] at al;rw[al] at J;cases J
  have bo:g≠q:=λz=>by rw[z] at an;rw[an] at J;cases J
  have bA:c≠q:=(aq G U).symm
  have bi:(words sh).map V.str=[V.str "minder",V.str (oE (cl/5%4)),V.str (WE (cl/20%3)),V.str "100",V.str (cG (bD cl C "").bZ)]:=by
   have h3:=cP (cl/20) (n:=3) ∅;have:cl/20%3=0\/cl/20%3=1\/cl/20%3=2:=by lia
   rw[ap];unfold words bD;rcases this with z|z|z<;>rw[z]<;>rfl
  have hok:zw sh:=by
   rw[ap];exact⟨p.kd,p.kp,p.m0,p.m1,p.m2,by show(0:Int)<=100;decide,by show(100:Int)<=1000000;decide,p.s0,p.s1,p.s2,p.nm⟩
  have z:=hn O dp g c [⟨0,sh⟩] (by rw[S];exact xb sB bm) as ax aG n1 n2 n3 (by rwa[S,ai bn]) (by rwa[S,ai bo])
   ⟨[q],by rwa[S,ai bA],rfl,λj x ws g1 g2=>?_⟩ (one sh hok (by rw[ap];exact agp _ _) (by rw[ap];rfl)) rfl
  .rw[S] at z;exact z
  .have hj:j=0:=by have:=(uy.mp g1).1;have:j<1:=this;lia
   subst hj;obtain rfl:q=x:=iH g1;obtain rfl:words sh=ws:=iH g2;rw[S,ae,bi]
 .refine hn _ dp g c [⟨0,bD cl C (nameOf 0 mark)⟩] sB as ax aG n1 n2 n3 al an ⟨[q],aN,rfl,λj x ws g1 g2=>?_⟩ (one _ p (agp _ _) rfl) rfl;have hj:j=0:=by have:=(uy.mp g1).1;have:j<1:=this;lia
  subst hj;obtain rfl:q=x:=iH g1;obtain rfl:words (bD cl C (nameOf 0 mark))=ws:=iH g2;exact J
end
open PySem L2 Shp
abbrev Cp:List Str:=["self","name","keep"]
abbrev kB:List Str:=["self","name","keep"]
def Bv:ao Cp kB (ak kD):=by kt_ors
abbrev ED:List Str:=["self","name","keep","grace","slow"]
abbrev fv:List Str:=["self","name","keep","grace","slow"]
def C1:ao ED fv (ak lQ):=by kt_ors
abbrev BX:List Str:=["self","name","keep","many","grace","slow"]
abbrev bY:List Str:=["self","name","keep","many","grace","slow"]
def Ao:ao BX bY (ak jo):=by kt_ors
abbrev BB:List Str:=["self","name","keep","most","span"]
abbrev dM:List Str:=["self","name","keep","most","span"]
def AD:ao BB dM (ak jk):=by kt_ors
abbrev yI:List Str:=["self","word"]
abbrev g9:List Str:=["self","word"]
def vN:ao yI g9 (ak gW):=by kt_ors
abbrev Og:List Str:=["self"]
abbrev wO:List Str:=["self"]
def KZ:ao Og wO (ak vZ):=by kt_ors
abbrev IB:List Str:=["self"]
abbrev qq:List Str:=["self"]
def GA:ao IB qq (ak qw):=by kt_ors
abbrev JA:List Str:=["self","steps"]
abbrev qB:List Str:=["self","steps"]
def Ho:ao JA qB (ak qo):=by kt_ors
abbrev Er:List Str:=["self","steps"]
abbrev lR:List Str:=["self","steps"]
def CC:ao Er lR (ak lE):=by kt_ors
abbrev E1:List Str:=["self","steps"]
abbrev lT:List Str:=["self","steps"]
def Cf:ao E1 lT (ak lD):=by kt_ors
abbrev yz:List Str:=["self","steps"]
abbrev hZ:List Str:=["self","steps"]
def xr:ao yz hZ (ak gI):=by kt_ors
abbrev AJ:List Str:=["self"]
abbrev jy:List Str:=["self"]
def Aj:ao AJ jy (ak jI):=by kt_ors
abbrev yN:List Str:=["self"]
abbrev g7:List Str:=["self"]
def wZ:ao yN g7 (ak gS):=by kt_ors
abbrev yG:List Str:=["self"]
abbrev gJ:List Str:=["self"]
def wo:ao yG gJ (ak gO):=by kt_ors
abbrev MB:List Str:=["self"]
abbrev uq:List Str:=["self"]
def Jz:ao MB uq (ak tZ):=by kt_ors
abbrev MZ:List Str:=["self"]
abbrev tP:List Str:=["self"]
def Jp:ao MZ tP (ak tV):=by kt_ors
abbrev G9:List Str:=["self"]
abbrev oV:List Str:=["self"]
def E7:ao G9 oV (ak nT):=by kt_ors
abbrev EM:List Str:=["self"]
abbrev ma:List Str:=["self"]
def DL:ao EM ma (ak lz):=by kt_ors
abbrev Dl:List Str:=["self"]
abbrev kH:List Str:=["self"]
def AX:ao Dl kH (ak kr):=by kt_ors
abbrev Ez:List Str:=["self","place","count","on","good"]
abbrev lI:List Str:=["self","place","count","on","good"]
def Ck:ao Ez lI (ak lW):=by kt_ors
abbrev zM:List Str:=["self","place","count","on","good"]
abbrev iI:List Str:=["self","place","count","on","good"]
def yB:ao zM iI (ak iC):=by kt_ors
abbrev yA:List Str:=["self","place","count","on","good","put_away","begun"]
abbrev gR:List Str:=["self","place","count","on","good"]
def fZ:ao yA gR (ak gH):=by kt_ors
abbrev adB:List Str:=["place"]
abbrev aaQ:List Str:=["place"]
def abn:ao adB aaQ (ak VZ):=by kt_ors
abbrev ZH:List Str:=["place"]
abbrev So:List Str:=["place"]
def Xq:ao ZH So (ak Mi):=by kt_ors
abbrev TJ:List Str:=["bits","others"]
abbrev Km:List Str:=["bits","others"]
def Q0:ao TJ Km (ak Cq):=by kt_ors
structure CF(K:PySem.W.Frag)(C:Addr):Prop where
 cl:tW K C
 n1:aY K C "name"
 n2:aY K C "keep"
 n3:aY K C "grace"
 n4:aY K C "slow"
 n5:aY K C "many"
 n6:aY K C "most"
 n7:aY K C "span"
def uD(s:Sh):List (Str×V):=match s.kind with
 |0=>[("name",.str s.name),("keep",.str s.keep),("grace",.int s.ba),("slow",.int s.bZ)]
 |1=>[("name",.str s.name),("keep",.str s.keep),("grace",.int s.ba),("slow",.int s.bZ),("many",.int s.many)]
 |2=>[("name",.str s.name),("keep",.str s.keep),("grace",.int s.ba),("slow",.int s.bZ),("many",.int s.many)]
 |_=>[("name",.str s.name),("keep",.str s.keep),("most",.int s.ba),("span",.int s.bZ)]
structure Pl where
 c:Nat->Addr
 pr:Nat->Prop
 inj:∀i j,pr i->pr j->c i=c j->i=j
def Pl.rep(p:Pl):Rep:=λH a s=>OkS s/\p.pr s.kind/\∃b:Addr,H a=some (.ins (p.c s.kind) b (uD s))
def Pl.cl(p:Pl)(j:Nat)(C:Addr):Prop:=p.pr j/\C=p.c j
def Pl.mono{p:Pl}{H H':Hp}{a:Addr}{s:Sh}(e:aO H H')(h:p.rep H a s):p.rep H' a s:=by
 obtain⟨g,c,b,f⟩:=h;exact⟨g,c,b,e _ _ f⟩
def ke{p:Pl}{H:Hp}{a l:Addr}{fs:List (Str×V)}{s:Sh}{j:Nat}(f:p.pr j)(b:p.rep H a s)(i:H a=some (.ins (p.c j) l fs)):s.kind=j/\fs=uD s/\OkS s:=by
 obtain⟨ok,g,h,e⟩:=b;rw[i] at e;have e:=HO.ins.inj (iH e);exact⟨p.inj _ _ g f e.1.symm,e.2.2,ok⟩
def Fv(s:Sh):(uD s).lookup ("keep":Str)=some (.str s.keep):=by
 unfold uD
 split<;>rfl
def Fs(s:Sh):(uD s).lookup ("name":Str)=some (.str s.name):=by
 unfold uD
 split<;>rfl
def OV{s:Sh}(h:s.kind<3):(uD s).lookup ("grace":Str)=some (.int s.ba):=by
 unfold uD;have:s.kind=0\/s.kind=1\/s.kind=2:=by lia
 rcases this with z|z|z<;>rw[z]<;>rfl
def Rb{s:Sh}(h:s.kind<3):(uD s).lookup ("slow":Str)=some (.int s.bZ):=by
 unfold uD;have:s.kind=0\/s.kind=1\/s.kind=2:=by lia
 rcases this with z|z|z<;>rw[z]<;>rfl
def LA{s:Sh}(h:s.kind=1\/s.kind=2):(uD s).lookup ("many":Str)=some (.int s.many):=by
 unfold uD;rcases h with z|z<;>rw[z]<;>rfl
def Kn{s:Sh}(h:3<=s.kind)(ok:OkS s):uD s=([("name",V.str s.name),("keep",V.str s.keep),("most",V.int s.ba),("span",V.int s.bZ)]:List (Str×V)):=by
 unfold uD;have:s.kind=3\/s.kind=4\/s.kind=5:=by have:=ok.kd;lia
 rcases this with z|z|z<;>rw[z]<;>rfl
section
variable{P:Program}{w:World}{K:PySem.W.Frag}{mg:Str->Option Value}{dH:Heap}{f:Addr}{fd:FuncData}{dV:Value}{p:Pl}
theorem l8{n:Nat}(h:n<=100):n<=sizeLine:=afC (aV ())
def Fy(K:PySem.W.Frag):Sp:=λvs H Q _=>∃(x C a:Addr) (nm b:V),vs=[.ref x,nm,b]/\CF K C/\H x=some (.ins C a [])/\Q .non (upd H x (.ins C a [("name",nm),("keep",b)]))
def Xr(F:aI K "__init__" "Child.__init__" kD dV f fd):aC P w K mg dH (fw P w) true 1 f fd kB (Fy K):=by
 erw[F.br Bv λvs H Q E b=>?_];obtain⟨x,C,i,nm,g,rfl,a,c,k⟩:=b
 refine⟨rfl,λe A dN s h=>⟨_,(aa (aH (pv 0) (pv 1) rfl)
   (af (aH (pv 0) (pv 2) rfl))),?_⟩⟩
 fin2
 lk;erw[bV c a.cl a.n1 ∅ ?_];lk;erw[bV ae a.cl a.n2 (by show 1<1000;decide) ?_];rwa[aU]
theorem made{x c C:Addr}{a H:Hp}{fs:List (Str×V)}(g:a x=none)(h:a c=none)(e:H=upd (upd a c (.own x)) x (.ins C c [])):aO a (upd H x (.ins C c fs)):=λb o z=>by
 rwa[ai (aq z g),e,ai (aq z g),ai (aq z h)]
def Fi(K:PySem.W.Frag):Sp:=λvs H Q _=>∃(x C a:Addr) (nm b:V) (g l:V),vs=[.ref x,nm,b,g,l]/\CF K C/\H x=some (.ins C a [])/\Q .non (upd H x (.ins C a [("name",nm),("keep",b),("grace",g),("slow",l)]))
def OS(F:aI K "__init__" "Leaf.__init__" lQ dV f fd)(a:Cmt P w K mg dH true 1 "Child" "__init__" (Fy K) []):aC P w K mg dH (fw P w) true 2 f fd fv (Fi K):=by
 erw[F.br C1 λvs H Q E c=>?_];obtain⟨x,C,j,nm,e,g,l,rfl,b,h,k⟩:=c
 refine⟨rfl,λm A dN s i=>⟨_,(aa (aB (Ga a (i.mono (by omega)) (by rfl) cq (aj (pv 0) (aj (pv 1) (aj (pv 2) ag)))))
   (aa (aH (pv 0) (pv 3) rfl)
   (af (aH (pv 0) (pv 4) rfl)))),?_⟩⟩
 fin2
 lk;erw[pq x C j nm e (mq rfl b h ?_)];lk;erw[bV ae b.cl b.n3 (by show 2<1000;decide) ?_];lk;erw[bV ae b.cl b.n4 (by show 3<1000;decide) ?_];rwa[aU,aU]
def Y8(j:CF K (p.c 0))(i:p.pr 0)(F:aC P w K mg dH (fw P w) true 2 f fd fv (Fi K)):aC P w K mg dH (fw P w) true 2 f fd fv (Jq p.rep (p.c 0) Wh):=by
 erw[F.imp λvs H Q E h=>?_];obtain⟨x,a,o,us,s,rfl,⟨nm,n,g,l,rfl,rfl,ok⟩,m,b,ne,e,k⟩:=h;erw[pf x (p.c 0) a _ _ _ _ (mq rfl j (by rw[e];exact ae) (k _ (made m b e) ⟨ok,i,a,?_⟩))];rw[ae]
 rfl
def K1(K:PySem.W.Frag):Sp:=λvs H Q _=>∃(x C a:Addr) (nm b:V) (m g l:V),vs=[.ref x,nm,b,m,g,l]/\CF K C/\H x=some (.ins C a [])/\Q .non (upd H x (.ins C a [("name",nm),("keep",b),("grace",g),("slow",l),("many",m)]))
def O1(F:aI K "__init__" "Worker.__init__" jo dV f fd)(a:Cmt P w K mg dH true 2 "Leaf" "__init__" (Fi K) []):aC P w K mg dH (fw P w) true 3 f fd bY (K1 K):=by
 erw[F.br Ao λvs H Q E c=>?_];obtain⟨x,C,j,nm,e,m,g,l,rfl,b,h,k⟩:=c
 refine⟨rfl,λn A dN s i=>⟨_,(aa (aB (Ga a (i.mono (by omega)) (by rfl) cq (aj (pv 0) (aj (pv 1) (aj (pv 2) (aj (pv 4) (aj (pv 5) ag)))))))
   (af (aH (pv 0) (pv 3) rfl))),?_⟩⟩
 fin2
 lk;erw[pf x C j nm e g l (mq rfl b h ?_)];lk;erw[bV ae b.cl b.n5 (by show 4<1000;decide) ?_];rwa[aU]
def U5(j:CF K (p.c 1))(i:p.pr 1)(F:aC P w K mg dH (fw P w) true 3 f fd bY (K1 K)):aC P w K mg dH (fw P w) true 3 f fd bY (Jq p.rep (p.c 1) Ow):=by
 erw[F.imp λvs H Q E h=>?_];obtain⟨x,a,q,us,s,rfl,⟨nm,o,m,g,l,rfl,rfl,ok⟩,n,b,ne,e,k⟩:=h;erw[ex8 x (p.c 1) a _ _ _ _ _ (mq rfl j (by rw[e];exact ae) (k _ (made n b e) ⟨ok,i,a,?_⟩))];rw[ae]
 rfl
def T7(j:CF K (p.c 2))(i:p.pr 2)(F:aC P w K mg dH (fw P w) true 3 f fd bY (K1 K)):aC P w K mg dH (fw P w) true 3 f fd bY (Jq p.rep (p.c 2) O9):=by
 erw[F.imp λvs H Q E h=>?_];obtain⟨x,a,q,us,s,rfl,⟨nm,o,m,g,l,rfl,rfl,ok⟩,n,b,ne,e,k⟩:=h;erw[ex8 x (p.c 2) a _ _ _ _ _ (mq rfl j (by rw[e];exact ae) (k _ (made n b e) ⟨ok,i,a,?_⟩))];rw[ae]
 rfl
def RS(K:PySem.W.Frag):Sp:=λvs H Q _=>∃(x C a:Addr) (nm b:V) (g l:V),vs=[.ref x,nm,b,g,l]/\CF K C/\H x=some (.ins C a [])/\Q .non (upd H x (.ins C a [("name",nm),("keep",b),("most",g),("span",l)]))
def Ia(F:aI K "__init__" "Minder.__init__" jk dV f fd)(a:Cmt P w K mg dH true 1 "Child" "__init__" (Fy K) []):aC P w K mg dH (fw P w) true 2 f fd dM (RS K):=by
 erw[F.br AD λvs H Q E c=>?_];obtain⟨x,C,j,nm,e,g,l,rfl,b,h,k⟩:=c
 refine⟨rfl,λm A dN s i=>⟨_,(aa (aB (Ga a (i.mono (by omega)) (by rfl) cq (aj (pv 0) (aj (pv 1) (aj (pv 2) ag)))))
   (aa (aH (pv 0) (pv 3) rfl)
   (af (aH (pv 0) (pv 4) rfl)))),?_⟩⟩
 fin2
 lk;erw[pq x C j nm e (mq rfl b h ?_)];lk;erw[bV ae b.cl b.n6 (by show 2<1000;decide) ?_];lk;erw[bV ae b.cl b.n7 (by show 3<1000;decide) ?_];rwa[aU,aU]
def DA{j:Nat}(b:3<=j)(i:CF K (p.c j))(n:p.pr j)(F:aC P w K mg dH (fw P w) true 2 f fd dM (RS K)):aC P w K mg dH (fw P w) true 2 f fd dM (Jq p.rep (p.c j) (B0 j)):=by
 erw[F.imp λvs H Q E h=>?_];obtain⟨x,a,r,us,s,rfl,⟨nm,q,g,l,rfl,rfl,ok⟩,o,m,ne,e,k⟩:=h;erw[pf x (p.c j) a _ _ _ _ (mq rfl i (by rw[e];exact ae) (k _ (made o m e) ⟨ok,n,a,?_⟩))];rw[ae,Kn b ok]
def sr{j:Nat}{g:Addr}(F:aI K "begun_again" "Child.begun_again" gW dV f fd)(i:p.pr j)(b:CF K (p.c j))(l:mg "FALLS"=some (.ref g))(n:∀H:Hp,l5 K H g [V.str "fallen",V.str "gave up"]):
  aC P w K mg dH (fw P w) true 1 f fd g9 (Lr p.rep (p.c j)):=by
 erw[F.okN vN (λvs H Q E h=>?_) (λm A dN s H vs Q E o h=>?_)]
 .obtain ⟨a,dx,fs,s,wd,rfl,_⟩:=h
  rfl
 .obtain ⟨a,dx,fs,s,wd,rfl,hR,hi,hw,k⟩:=h;obtain⟨_,rfl,_⟩:=ke i hR hi;have k:=k _ (aO.refl _);refine⟨_,(af (av (VL (wx bQ (aw (pv 0) rfl) ar) (lM (qk (wx bQ (aw (pv 0) rfl) ar) (lM (wx kE (pv 1) (yh (by rfl) l)))))))),?_⟩
  fin2
  erw[⟨_,rfl,a,p.c j,dx,_,_,rfl,hi,b.cl,b.n2,Fv _,rfl,_,rfl,?_⟩];unfold begun at k;erw[bp (λe=>?_) (λe=>?_)]
  .have e:s.keep="always":=V.str.inj (hI e);rw[f7 e] at k;exact k
  have e:s.keep≠"always":=λz=>e (f7 (ix V.str z));rw[j0 e] at k;erw[⟨_,rfl,a,p.c j,dx,_,_,rfl,hi,b.cl,b.n2,Fv _,rfl,_,rfl,?_⟩];erw[bp (λe2=>?_) (λe2=>?_)]
  .have e2:s.keep="fallen":=V.str.inj (hI e2);refine jx rfl (iE g _ (fT rfl (.inr (n _)) rfl rfl ?_))
   have e3:inV (V.str wd) [V.str "fallen",V.str "gave up"]=(decide (wd="fallen")||decide (wd="gave up")):=by
    rw[L1];simp only[inV,vc,agJ,List.any_nil,afQ,S4,qj,agg];exact⟨λz=>z.imp Eq.symm Eq.symm,λz=>z.imp Eq.symm Eq.symm⟩
   rw[f7 e2,aht,afB,<-e3] at k;exact k
  .have e2:s.keep≠"fallen":=λz=>e2 (f7 (ix V.str z));rw[j0 e2] at k;exact k
def He{j:Nat}(F:aI K "leaf" "Leaf.leaf" vZ dV f fd)(b:p.pr j)(l:j<3):aC P w K mg dH (fw P w) true 1 f fd wO (w6 p.rep (p.c j)):=by
 erw[F.okN KZ (λvs H Q E h=>?_) (λg A dN s H vs Q E i h=>?_)]
 .obtain ⟨a,dx,fs,s,rfl,_⟩:=h
  rfl
 .obtain ⟨a,dx,fs,s,rfl,hR,hi,k⟩:=h;obtain⟨e,rfl,ok⟩:=ke b hR hi;refine⟨_,(af (av eo)),?_⟩
  fin2
  have k:=k _ (aO.refl _);rw[f7 ()] at k;exact k
def FH{j:Nat}(F:aI K "leaf" "Minder.leaf" qw dV f fd)(b:p.pr j)(l:3<=j):aC P w K mg dH (fw P w) true 1 f fd qq (w6 p.rep (p.c j)):=by
 erw[F.okN GA (λvs H Q E h=>?_) (λg A dN s H vs Q E i h=>?_)]
 .obtain ⟨a,dx,fs,s,rfl,_⟩:=h
  rfl
 .obtain ⟨a,dx,fs,s,rfl,hR,hi,k⟩:=h;obtain⟨e,rfl,ok⟩:=ke b hR hi;refine⟨_,(af (av eo)),?_⟩
  fin2
  have k:=k _ (aO.refl _);rw[j0 ()] at k;exact k
def Ed(s:Sh):List Str:=match s.kind with
 |0=>["idle"]
 |1=>["steady",cG s.many]
 |_=>["falls",cG s.many]
def Ak(R:Rep)(C:Addr):Sp:=λvs H Q _=>∃(a b:Addr) (fs:List (Str×V)) (s:Sh),vs=[.ref a]/\R H a s/\H a=some (.ins C b fs)/\s.kind<3∧
 ∀(q:Addr) (H':Hp),aO H H'->H q=none->H' q=some (.lst ((Ed s).map V.str))->Q (.ref q) H'
def Vd(F:aI K "work_words" "Leaf.work_words" jI dV f fd)(g:p.pr 0):aC P w K mg dH (fw P w) true 1 f fd jy (Ak p.rep (p.c 0)):=by
 erw[F.okN Aj (λvs H Q E h=>?_) (λi A dN s H vs Q E j h=>?_)]
 .obtain ⟨a,dx,fs,s,rfl,_⟩:=h
  rfl
 .obtain ⟨a,dx,fs,s,rfl,hR,hi,h3,k⟩:=h;obtain⟨e,rfl,ok⟩:=ke g hR hi;refine⟨_,(af (av (bw (aj ar ag)))),?_⟩
  fin2
  erw[⟨l8 (show 1<=100 by decide),λq b=>k q _ (au b) b ?_⟩];rw[ae];unfold Ed;rw[e]
  rfl
def VD(F:aI K "work_words" "Steady.work_words" gS dV f fd)(T:Txt mg)(i:p.pr 1)(g:CF K (p.c 1)):aC P w K mg dH (fw P w) true 1 f fd g7 (Ak p.rep (p.c 1)):=by
 erw[F.okN wZ (λvs H Q E h=>?_) (λj A dN s H vs Q E l h=>?_)]
 .obtain ⟨a,dx,fs,s,rfl,_⟩:=h
  rfl
 .obtain ⟨a,dx,fs,s,rfl,hR,hi,h3,k⟩:=h;obtain⟨e,rfl,ok⟩:=ke i hR hi;refine⟨_,(af (av (bw (aj ar (aj (bK bJ (by rfl) T.rY kq (aj (aw (pv 0) rfl) ag)) ag))))),?_⟩
  fin2
  erw[⟨_,rfl,a,p.c 1,dx,_,_,rfl,hi,g.cl,g.n5,LA (.inl e),_,rfl,cS ok.m0 ok.m1,l8 (show 2<=100 by decide),λq b=>k q _ (au b) b ?_⟩];rw[ae];unfold Ed;rw[e]
  rfl
def XJ(F:aI K "work_words" "Faller.work_words" gO dV f fd)(T:Txt mg)(i:p.pr 2)(g:CF K (p.c 2)):aC P w K mg dH (fw P w) true 1 f fd gJ (Ak p.rep (p.c 2)):=by
 erw[F.okN wo (λvs H Q E h=>?_) (λj A dN s H vs Q E l h=>?_)]
 .obtain ⟨a,dx,fs,s,rfl,_⟩:=h
  rfl
 .obtain ⟨a,dx,fs,s,rfl,hR,hi,h3,k⟩:=h;obtain⟨e,rfl,ok⟩:=ke i hR hi;refine⟨_,(af (av (bw (aj ar (aj (bK bJ (by rfl) T.rY kq (aj (aw (pv 0) rfl) ag)) ag))))),?_⟩
  fin2
  erw[⟨_,rfl,a,p.c 2,dx,_,_,rfl,hi,g.cl,g.n5,LA (.inr e),_,rfl,cS ok.m0 ok.m1,l8 (show 2<=100 by decide),λq b=>k q _ (au b) b ?_⟩];rw[ae];unfold Ed;rw[e]
  rfl
def QJ{s:Sh}(h:s.kind<3):words s=[("leaf":Str),s.keep,cG s.ba,cG s.bZ]++Ed s:=by
 unfold words Ed;have:s.kind=0\/s.kind=1\/s.kind=2:=by lia
 rcases this with z|z|z<;>rw[z]<;>rfl
def Yh(s:Sh):(Ed s).length<=2:=by
 unfold Ed
 split<;>simp
def Dh{j:Nat}(F:aI K "words" "Leaf.words" tZ dV f fd)(T:Txt mg)(t:p.pr j)(i:j<3)(g:CF K (p.c j))(hs:aT P w K mg dH 1 "work_words" (Ak p.rep) λC=>C=p.c j):
  aC P w K mg dH (fw P w) true 2 f fd uq (Mv p.rep (p.c j)):=by
 erw[F.okN Jz (λvs H Q E h=>?_) (λz A dN s H vs Q E D h=>?_)]
 .obtain ⟨a,dx,fs,s,rfl,_⟩:=h
  rfl
 .obtain ⟨a,dx,fs,s,rfl,hR,hi,k⟩:=h;have b:=hs.d;obtain⟨e,rfl,ok⟩:=ke t hR hi;have i:s.kind<3:=by lia
  erw[⟨_,(af (av (aA P2 (bw (aj ar (aj (aw (pv 0) rfl) (aj (bK bJ (by rfl) T.rY kq (aj (aw (pv 0) rfl) ag)) (aj (bK bJ (by rfl) T.rY kq (aj (aw (pv 0) rfl) ag)) ag))))) (jd (pv 0) b)))),?_⟩]
  fin2
  refine⟨_,rfl,a,p.c j,dx,_,_,rfl,hi,g.cl,g.n2,Fv _,_,rfl,a,p.c j,dx,_,_,rfl,hi,g.cl,g.n3,OV i,_,rfl,cS ok.g0 ok.g1,_,rfl,a,p.c j,dx,_,_,rfl,hi,g.cl,g.n4,Rb i,_,rfl,cS ok.s0 ok.s1,
   l8 (show 4<=100 by decide),λu v=>?_⟩
  have l:aO H (upd H u (.lst [V.str "leaf",.str s.keep,.str (cG s.ba),.str (cG s.bZ)])):=au v;erw[⟨_,rfl,a,p.c j,dx,_,_,_,rfl,l _ _ hi,⟨rfl,rfl,rfl⟩,(by unfold uD;split<;>rfl),a,dx,_,s,rfl,Pl.mono l hR,l _ _ hi,i,λq B m x o=>?_⟩]
  have n:=m _ _ (ae (H:=H) (a:=u));erw[hY u q _ _ (rz rfl rfl n o ?_ (λy r=>?_))]
  .rw[gm];have:=Yh s;exact l8 (by show 4+_<=100;lia)
  .refine k y _ ((l.trans m).trans (au r)) ((l.trans m).free r) ?_;rw[ae,QJ i,ni]
   rfl
def Y4(F:aI K "end_at" "Leaf.end_at" qo dV f fd)(b:p.pr 0):aC P w K mg dH (fw P w) true 1 f fd qB (JW p.rep (p.c 0)):=by
 erw[F.okN Ho (λvs H Q E h=>?_) (λg A dN s H vs Q E i h=>?_)]
 .obtain ⟨a,dx,fs,s,n,rfl,_⟩:=h
  rfl
 .obtain ⟨a,dx,fs,s,n,rfl,hR,hi,h3,h0,hm,k⟩:=h;obtain⟨e,rfl,ok⟩:=ke b hR hi;refine⟨_,(af (av ar)),?_⟩
  fin2
  have k:=k _ (aO.refl _);unfold endAt at k;rw[er (),er ()] at k;exact k
def Nc(R:Rep)(C:Addr):Sp:=λvs H Q _=>∃(a b:Addr) (fs:List (Str×V)) (s:Sh) (n:Int),vs=[.ref a,.int n]/\R H a s/\H a=some (.ins C b fs)/\Q (.bl (decide (s.many<=n))) H
def Yo{j:Nat}(F:aI K "worked_out" "Worker.worked_out" gI dV f fd)(g:p.pr j)(l:j=1\/j=2)(b:CF K (p.c j)):aC P w K mg dH (fw P w) true 1 f fd hZ (Nc p.rep (p.c j)):=by
 erw[F.okN xr (λvs H Q E h=>?_) (λi A dN s H vs Q E m h=>?_)]
 .obtain ⟨a,dx,fs,s,n,rfl,_⟩:=h
  rfl
 .obtain ⟨a,dx,fs,s,n,rfl,hR,hi,k⟩:=h;obtain⟨e,rfl,ok⟩:=ke g hR hi;refine⟨_,(af (av (wx XX (pv 1) (aw (pv 0) rfl)))),?_⟩
  fin2
  erw[jx rfl (jx rfl (pq a (p.c j) dx _ _ (rz rfl hi b.cl b.n5 (LA ()) ?_)))];lk;exact k
def YJ(F:aI K "end_at" "Steady.end_at" lE dV f fd)(i:p.pr 1)(hs:aT P w K mg dH 1 "worked_out" (Nc p.rep) λC=>C=p.c 1):aC P w K mg dH (fw P w) true 2 f fd lR (JW p.rep (p.c 1)):=by
 erw[F.okN CC (λvs H Q E h=>?_) (λj A dN s H vs Q E l h=>?_)]
 .obtain ⟨a,dx,fs,s,n,rfl,_⟩:=h
  rfl
 .obtain ⟨a,dx,fs,s,n,rfl,hR,hi,h3,h0,g,k⟩:=h;have b:=hs.d;obtain⟨e,rfl,ok⟩:=ke i hR hi;refine⟨_,(af (av (nO (bM (nt (pv 0) b (aj (pv 1) ag))) ar ar))),?_⟩
  fin2
  erw[⟨_,rfl,a,p.c 1,dx,_,_,_,rfl,hi,⟨rfl,rfl,rfl⟩,(by unfold uD;split<;>rfl),_,rfl,a,dx,_,s,n,rfl,hR,hi,?_⟩]
  have k:=k _ (aO.refl _);have g:=g ();unfold endAt at k;lk;erw[bp (λe1=>?_) (λe1=>?_)]
  .have e1:s.many<=n:=hI e1;rw[eE ⟨e,()⟩] at k;exact k
  .have e1:¬s.many<=n:=λz=>e1 (f7 z);rw[er (),er ()] at k;exact k
def Zn(F:aI K "end_at" "Faller.end_at" lD dV f fd)(i:p.pr 2)(hs:aT P w K mg dH 1 "worked_out" (Nc p.rep) λC=>C=p.c 2):aC P w K mg dH (fw P w) true 2 f fd lT (JW p.rep (p.c 2)):=by
 erw[F.okN Cf (λvs H Q E h=>?_) (λj A dN s H vs Q E l h=>?_)]
 .obtain ⟨a,dx,fs,s,n,rfl,_⟩:=h
  rfl
 .obtain ⟨a,dx,fs,s,n,rfl,hR,hi,h3,h0,g,k⟩:=h;have b:=hs.d;obtain⟨e,rfl,ok⟩:=ke i hR hi;refine⟨_,(af (av (nO (bM (nt (pv 0) b (aj (pv 1) ag))) ar ar))),?_⟩
  fin2
  erw[⟨_,rfl,a,p.c 2,dx,_,_,_,rfl,hi,⟨rfl,rfl,rfl⟩,(by unfold uD;split<;>rfl),_,rfl,a,dx,_,s,n,rfl,hR,hi,?_⟩]
  have k:=k _ (aO.refl _);have g:=g ();unfold endAt at k;lk;erw[bp (λe1=>?_) (λe1=>?_)]
  .have e1:s.many<=n:=hI e1;rw[er (),eE ⟨e,()⟩] at k;exact k
  .have e1:¬s.many<=n:=λz=>e1 (f7 z);rw[er (),er ()] at k;exact k
def XD:Nat->Str
 |3=>"one"
 |4=>"all"
 |_=>"rest"
def HG(R:Rep)(C:Addr):Sp:=λvs H Q _=>∃(a b:Addr) (fs:List (Str×V)) (s:Sh),vs=[.ref a]/\R H a s/\H a=some (.ins C b fs)/\Q (.str (XD s.kind)) H
def ZZ(F:aI K "way" "Minder.way" tV dV f fd)(b:p.pr 3):aC P w K mg dH (fw P w) true 1 f fd tP (HG p.rep (p.c 3)):=by
 erw[F.okN Jp (λvs H Q E h=>?_) (λg A dN s H vs Q E i h=>?_)]
 .obtain ⟨a,dx,fs,s,rfl,_⟩:=h
  rfl
 .obtain ⟨a,dx,fs,s,rfl,hR,hi,k⟩:=h;obtain⟨e,rfl,ok⟩:=ke b hR hi;refine⟨_,(af (av ar)),?_⟩
  fin2
  rw[e] at k;exact k
def Yz(F:aI K "way" "AllMinder.way" lz dV f fd)(b:p.pr 4):aC P w K mg dH (fw P w) true 1 f fd ma (HG p.rep (p.c 4)):=by
 erw[F.okN DL (λvs H Q E h=>?_) (λg A dN s H vs Q E i h=>?_)]
 .obtain ⟨a,dx,fs,s,rfl,_⟩:=h
  rfl
 .obtain ⟨a,dx,fs,s,rfl,hR,hi,k⟩:=h;obtain⟨e,rfl,ok⟩:=ke b hR hi;refine⟨_,(af (av ar)),?_⟩
  fin2
  rw[e] at k;exact k
def ZY(F:aI K "way" "RestMinder.way" kr dV f fd)(b:p.pr 5):aC P w K mg dH (fw P w) true 1 f fd kH (HG p.rep (p.c 5)):=by
 erw[F.okN AX (λvs H Q E h=>?_) (λg A dN s H vs Q E i h=>?_)]
 .obtain ⟨a,dx,fs,s,rfl,_⟩:=h
  rfl
 .obtain ⟨a,dx,fs,s,rfl,hR,hi,k⟩:=h;obtain⟨e,rfl,ok⟩:=ke b hR hi;refine⟨_,(af (av ar)),?_⟩
  fin2
  rw[e] at k;exact k
def MA{s:Sh}(h:3<=s.kind)(ok:OkS s):words s=[("minder":Str),s.keep,XD s.kind,cG s.ba,cG s.bZ]:=by
 unfold words XD;have:s.kind=3\/s.kind=4\/s.kind=5:=by have:=ok.kd;lia
 rcases this with z|z|z<;>rw[z]<;>rfl
def Cy{j:Nat}(F:aI K "words" "Minder.words" nT dV f fd)(T:Txt mg)(n:p.pr j)(l:3<=j)(g:CF K (p.c j))(hs:aT P w K mg dH 1 "way" (HG p.rep) λC=>C=p.c j):
  aC P w K mg dH (fw P w) true 2 f fd oV (Mv p.rep (p.c j)):=by
 erw[F.okN E7 (λvs H Q E h=>?_) (λo A dN s H vs Q E r h=>?_)]
 .obtain ⟨a,dx,fs,s,rfl,_⟩:=h
  rfl
 .obtain ⟨a,dx,fs,s,rfl,hR,hi,k⟩:=h;have b:=hs.d;obtain⟨e,rfl,ok⟩:=ke n hR hi;have l:3<=s.kind:=by lia
  have i:=Kn l ok;erw[⟨_,(af (av (bw (aj ar (aj (aw (pv 0) rfl) (aj (jd (pv 0) b) (aj (bK bJ (by rfl) T.rY kq (aj (aw (pv 0) rfl) ag)) (aj (bK bJ (by rfl) T.rY kq (aj (aw (pv 0) rfl) ag)) ag)))))))),?_⟩]
  fin2
  refine⟨_,rfl,a,p.c j,dx,_,_,rfl,hi,g.cl,g.n2,Fv _,_,rfl,a,p.c j,dx,_,_,_,rfl,hi,⟨rfl,rfl,rfl⟩,(by rw[i];rfl),a,dx,_,s,rfl,hR,hi,_,rfl,a,p.c j,dx,_,.int s.ba,rfl,hi,g.cl,g.n6,(by rw[i];rfl),_,rfl,cS ok.g0 ok.g1,
   _,rfl,a,p.c j,dx,_,.int s.bZ,rfl,hi,g.cl,g.n7,(by rw[i];rfl),_,rfl,cS ok.s0 ok.s1,l8 (show 5<=100 by decide),λq m=>k q _ (au m) m ?_⟩
  rw[ae,MA l ok]
  rfl
def JM:Sp:=λvs H Q _=>∃n:Nat,vs=[.int n]/\n<=1000000/\Q (.int ((2^n:Nat):Int)) H
def abC(F:aI K "bit" "bit" VZ dV f fd):aC P w K mg dH (fw P w) true 1 f fd aaQ JM:=by
 erw[F.br abn λvs H Q E h=>?_];obtain⟨n,rfl,b,k⟩:=h;erw[⟨rfl,λa A dN s c=>⟨_,(af (av (aA VX ah (pv 0)))),?_⟩⟩]
 fin2
 lk;erw[⟨⟨(),(),∅⟩,?_⟩];rw[<- Rf] at k;exact k
def Fg:Sp:=λvs H Q _=>∃n:Nat,vs=[.int n]/\n<=1000000/\Q (.int ((2^n-1:Nat):Int)) H
def Wo(F:aI K "below" "below" Mi dV f fd):aC P w K mg dH (fw P w) true 1 f fd So Fg:=by
 erw[F.br Xq λvs H Q E h=>?_];obtain⟨n,rfl,b,k⟩:=h;erw[⟨rfl,λa A dN s c=>⟨_,(af (av (aA CI (aA VX ah (pv 0)) ah))),?_⟩⟩]
 fin2
 lk;erw[⟨⟨(),(),∅⟩,?_⟩];lk;rw[<- SO] at k;exact k
def x9:Sp:=λvs H Q _=>∃a b:Nat,vs=[.int a,.int b]/\Q (.int ((a &&& (a ^^^ b):Nat):Int)) H
def QF(F:aI K "without" "without" Cq dV f fd):aC P w K mg dH (fw P w) true 1 f fd Km x9:=by
 erw[F.br Q0 λvs H Q E c=>?_];obtain⟨a,b,rfl,k⟩:=c;erw[⟨rfl,λe A dN s g=>⟨_,(af (av (aA Gh (pv 0) (oF ab2 (pv 1))))),?_⟩⟩]
 fin2
 lk;rw[<- Jn] at k;exact k
def uw(n m:Nat)(h:n<=m):2^n-1=cy (λk=>decide (k<n)) m:=by
 erw[AU λk=>?_];rw[Nat.testBit_two_pow_sub_one,L1];simp only[oT,qj]
 lia
def nc(f g:Nat->Bool)(n:Nat):cy f n &&& (cy f n ^^^ cy g n)=cy (λk=>f k&& !g k) n:=by
 erw[AU λk=>?_];rw[afE,af2,bz,bz];cases decide (k<n)<;>cases f k<;>cases g k<;>rfl
def Wm{k n:Nat}(h:k<n):2^k=cy (λj=>decide (j=k)) n:=by
 erw[AU λj=>?_];rw[ahm,L1];simp only[oT,qj]
 lia
def AF{f g:Nat->Bool}{n:Nat}(h:∀k,k<n->f k=g k):cy f n=cy g n:=by
 erw[AU λk=>?_];rw[bz];by_cases z:k<n
 .rw[h k z]
 .rw[j0 z,afM,afM]
def Qu(F:aI K "chosen" "Minder.chosen" lW dV f fd)(i:p.pr 3)(j:jm P w K mg dH true 1 "bit" JM []):aC P w K mg dH (fw P w) true 2 f fd lI (xX p.rep (p.c 3)):=by
 erw[F.okN Ck (λvs H Q E h=>?_) (λl A dN s H vs Q E m h=>?_)]
 .obtain ⟨a,dx,fs,s,pl,ct,f,g,rfl,_⟩:=h
  rfl
 .obtain ⟨a,dx,fs,s,pl,ct,f,g,rfl,hR,hi,h3,hp,hc,hf,hg,k⟩:=h;obtain⟨e,rfl,ok⟩:=ke i hR hi;refine⟨_,(af (av (lL (aj ah (aj (cb j (aj (pv 1) ag)) ag))))),?_⟩
  fin2
  lk;erw[⟨(),?_⟩];lk;erw[⟨l8 (show 2<=100 by decide),λq b=>k q _ (au b) b ?_⟩];rw[ae,e,Wm hp]
  rfl
def QX(F:aI K "chosen" "AllMinder.chosen" iC dV f fd)(i:p.pr 4)(o:jm P w K mg dH true 1 "below" Fg [])(j:jm P w K mg dH true 1 "without" x9 []):
  aC P w K mg dH (fw P w) true 2 f fd iI (xX p.rep (p.c 4)):=by
 erw[F.okN yB (λvs H Q E h=>?_) (λl A dN s H vs Q E r h=>?_)]
 .obtain ⟨a,dx,fs,s,pl,ct,f,g,rfl,_⟩:=h
  rfl
 .obtain ⟨a,dx,fs,s,pl,ct,f,g,rfl,hR,hi,h3,hp,hc,hf,hg,k⟩:=h;obtain⟨e,rfl,ok⟩:=ke i hR hi;refine⟨_,(af (av (lL (aj (pv 3) (aj (cb j (aj (cb o (aj (pv 2) ag)) (aj (pv 4) ag))) ag))))),?_⟩
  fin2
  lk;erw[⟨(),?_⟩];lk;erw[⟨l8 (show 2<=100 by decide),λq b=>k q _ (au b) b ?_⟩];rw[ae,e,uw ct ct (fC _),nc];have n:cy (λk=>decide (k<ct)&& !g k) ct=cy (λk=> !g k) ct:=AF λk m=>by rw[f7 m,afB]
  rw[n]
  rfl
def Qw(F:aI K "chosen" "RestMinder.chosen" gH dV f fd)(n:p.pr 5)(j:jm P w K mg dH true 1 "below" Fg [])(b:jm P w K mg dH true 1 "without" x9 []):
  aC P w K mg dH (fw P w) true 2 f fd gR (xX p.rep (p.c 5)):=by
 erw[F.okN fZ (λvs H Q E h=>?_) (λo A dN s H vs Q E r h=>?_)]
 .obtain ⟨a,dx,fs,s,pl,ct,f,g,rfl,_⟩:=h
  rfl
 .obtain ⟨a,dx,fs,s,pl,ct,f,g,rfl,hR,hi,h3,hp,hc,hf,hg,k⟩:=h;obtain⟨e,rfl,ok⟩:=ke n hR hi
  refine⟨_,(aa (bq (i:=5) fZ.nd (cb b (aj (pv 3) (aj (cb j (aj (aA di (pv 1) ah) ag)) ag))))
   (aa (bq (i:=6) fZ.nd (cb b (aj (cb j (aj (pv 2) ag)) (aj (cb j (aj (pv 1) ag)) ag))))
   (af (av (lL (aj (pv 5) (aj (cb b (aj (pv 6) (aj (pv 4) ag))) ag))))))),?_⟩
  fin2
  lk;erw[⟨(by show pl+1<=1000000;lia),?_⟩];lk;erw[⟨(),?_⟩];lk;erw[⟨(),?_⟩];lk;erw[⟨l8 (show 2<=100 by decide),λq m=>k q _ (au m) m ?_⟩];rw[ae,e,uw (pl+1) ct (),uw ct ct (fC _),uw pl ct (),nc,nc,nc]
  have e1:cy (λk=>f k&& !decide (k<pl+1)) ct=cy (λk=>f k&&decide (pl<k)) ct:=AF λk l=>by
   have:(!decide (k<pl+1))=decide (pl<k):=by
    by_cases z:pl<k
    .rw[f7 z,j0 ()];rfl
    .rw[j0 z,f7 ()];rfl
   rw[this]
  have e2:cy (λk=>(decide (k<ct)&& !decide (k<pl))&& !g k) ct=cy (λk=>decide (pl<=k)&& !g k) ct:=AF λk l=>by
   have:(!decide (k<pl))=decide (pl<=k):=by
    by_cases z:pl<=k
    .rw[f7 z,j0 ()];rfl
    .rw[j0 z,f7 ()];rfl
   rw[this,f7 l,afB]
  rw[e1,e2]
  rfl
open PySem L2 Shp Nm Tr Hs PySem.NumText
abbrev Tg:List Str:=["text","signs"]
abbrev Ko:List Str:=["text","signs"]
def Px:ao Tg Ko (ak DJ):=by kt_ors
abbrev Ht:List Str:=["text"]
abbrev wX:List Str:=["text"]
def Eo:ao Ht wX (ak n8):=by kt_ors
abbrev NI:List Str:=["text","most","bound"]
abbrev xj:List Str:=["text","most"]
def BL:ao NI xj (ak vM):=by kt_ors
abbrev Ue:List Str:=["text"]
abbrev Kr:List Str:=["text"]
def QK:ao Ue Kr (ak Dz):=by kt_ors
abbrev Ux:List Str:=["words","name","keep","grace","slow","work","many"]
abbrev Ki:List Str:=["words"]
def iK:ao Ux Ki (ak Co):=by kt_ors
abbrev Oz:List Str:=["words","name","keep","way","most","span"]
abbrev Ee:List Str:=["words"]
def gk:ao Oz Ee (ak wz):=by kt_ors
abbrev Eu:List Str:=["words"]
abbrev uR:List Str:=["words"]
def Cr:ao Eu uR (ak lG):=by kt_ors
abbrev Qt:List Str:=["words"]
abbrev Gm:List Str:=["words"]
def Nh:ao Qt Gm (ak Av):=by kt_ors
abbrev ET:List Str:=["self"]
abbrev lU:List Str:=["self"]
def CA:ao ET lU (ak lS):=by kt_ors
abbrev L8:List Str:=["self"]
abbrev B2:List Str:=["self"]
def IM:ao L8 B2 (ak uF):=by kt_ors
abbrev Oh:List Str:=["self","name"]
abbrev DW:List Str:=["self","name"]
def Md:ao Oh DW (ak wm):=by kt_ors
abbrev NX:List Str:=["self","child","blanks","above"]
abbrev D8:List Str:=["self","child","blanks","above"]
def L9:ao NX D8 (ak xx):=by kt_ors
abbrev yV:List Str:=["self","blanks","place","fits"]
abbrev mI:List Str:=["self","blanks"]
def gj:ao yV mI (ak g8):=by kt_ors
abbrev Jg:List Str:=["row","rest"]
abbrev zi:List Str:=["row"]
def vY:ao Jg zi (ak qP):=by kt_ors
abbrev QD:List Str:=["row"]
abbrev HQ:List Str:=["row"]
def NV:ao QD HQ (ak zL):=by kt_ors
abbrev FQ:List Str:=["row"]
abbrev xt:List Str:=["row"]
def Fb:ao FQ xt (ak nZ):=by kt_ors
abbrev IZ:List Str:=["tree","child","blanks","above"]
abbrev zg:List Str:=["tree","child","blanks","above"]
def Ih:ao IZ zg (ak rm):=by kt_ors
abbrev HJ:List Str:=["tree","row","number","child","blanks","above"]
abbrev Gy:List Str:=["tree","row","number"]
def qg:ao HJ Gy (ak oK):=by kt_ors
abbrev abS:List Str:=["text","tree","number","row"]
abbrev XZ:List Str:=["text"]
def Fp:ao abS XZ (ak PZ):=by kt_ors
def qd{n:Nat}(h:n<=100010):n<=sizeLine:=by rw[af7];lia
def Ij:Sp:=λvs H Q _=>∃x y:Str,vs=[.str x,.str y]/\x.length<=100000/\∀H',aO H H'->Q (.bl ((fx x).all λc=>(fx y).contains c)) H'
def TK(F:aI K "made_of" "made_of" DJ dV f fd)(T:Txt mg):aC P w K mg dH (fw P w) true 1 f fd Ko Ij:=by
 erw[F.br Px λvs H Q E e=>?_];obtain⟨x,y,rfl,l,k⟩:=e;erw[⟨rfl,λg A dN s m=>⟨_,(af (av (aQ (Xo rfl) (by rfl) T.ade abq (aj (m9 (x:="sign") (fr:=[("signs",1)]) (by exact⟨rfl,rfl,by decide +kernel,by decide +kernel,rfl,by decide +kernel,(by repeat (first|exact True.intro|refine⟨rfl,?_⟩)),by repeat (first|exact True.intro|refine⟨(by first|exact λ_=>⟨_,rfl⟩|(intro z;cases z)),?_⟩),(by repeat (first|exact True.intro|refine⟨⟨rfl,.inl rfl,rfl,rfl⟩,?_⟩))⟩) rfl (aa4 (pv 0)) (λ_ _ _ _=>Aw) (λ_ _ _ _=>(Rc Us (pv 0) (pv 1) (by with_unfolding_all rfl)))) ag)))),?_⟩⟩]
 fin2
 have h:=bC x;lk;erw[eZ (J:=Its x) (n:=x.length) (λi ys H'=>H'=H/\ys=((fx x).take i).map λc=>V.bl ((fx y).contains c)) ⟨rfl,rfl⟩ (λi ys H' b _=>b) (λys H' _=>rfl) ?_ ?_]
 .rintro i ys H' v H2 b ⟨rfl,rfl⟩ ⟨rfl,c,a,rfl⟩;have a:(fx x)[i]? =some c:=by rw[<- a];exact ag4
  lk;rw[ace];erw[⟨?_,rfl,?_⟩]
  .rw[gm,XP,af7]
   lia
  .rw[aft,a,ni]
   rfl
 .rintro ys H' ⟨rfl,rfl⟩;rw[show x.length=(fx x).length from h.symm,afx];erw[⟨qd (by rw[gm];lia),λq j=>?_⟩];refine⟨q,(fx x).map λc=>(fx y).contains c,rfl,?_,?_⟩
  .rw[agF];exact fk.of ae
  .rw[List.all_map];exact k _ (au j)
def nmB(x:Str):Bool:=decide (1<=x.length)&&decide (x.length<=12)&&(fx x).all Li
def NF:Sp:=λvs H Q _=>∃x:Str,vs=[.str x]/\x.length<=100000/\∀H',aO H H'->Q (.bl (nmB x)) H'
def acC:("abcdefghijklmnopqrstuvwxyz":Str)++("0123456789":Str)="abcdefghijklmnopqrstuvwxyz0123456789":=by decide +kernel
def TM{b q g:Tok}(F:aI K "is_name" "is_name" Dz dV f fd)(T:Txt mg)(n:mg "LETTERS"=some (.str "abcdefghijklmnopqrstuvwxyz" b))(j:mg "LONGEST"=some (.int 12 q))(i:mg "FIGURES"=some (.str "0123456789" g))
  (o:jm P w K mg dH true 1 "made_of" Ij []):aC P w K mg dH (fw P w) true 2 f fd Kr NF:=by
 erw[F.br QK λvs H Q E h=>?_];obtain⟨x,rfl,e,k⟩:=h;erw[⟨rfl,λl A dN s t=>⟨_,(af (av (qk (V9 oW NU ah (aQ nE (by rfl) T.fN cJ (aj (pv 0) ag)) (uv (by rfl) j)) (lM (cb o (aj (pv 0) (aj (aA oB (MW (by rfl) n) (MW (by rfl) i)) ag))))))),?_⟩⟩]
 fin2
 have a:Q (.bl (nmB x)) H:=k _ (aO.refl _);lk;erw[⟨qd (),?_⟩];lk;erw[bp (λe1=>?_) (λe1=>?_)]
 .have e1:(0:Int)<(x.length:Int):=hI e1;lk;refine bp (λe2=>?_) (λe2=>?_)
  .have e2:(x.length:Int)<=12:=hI e2;lk;erw[⟨by decide +kernel,?_⟩];lk;erw[⟨e,λr m=>?_⟩];rw[acC]
   have:nmB x=(fx x).all λc=>(fx "abcdefghijklmnopqrstuvwxyz0123456789").contains c:=by
    unfold nmB;rw[f7 (show 1<=x.length by lia),f7 (show x.length<=12 by lia),afB,afB]
    congr 1
    funext c
    exact(abT c).symm
   rw[<- this];exact k _ m
  .have e2:¬(x.length:Int)<=12:=λz=>e2 (f7 z)
   have:nmB x=false:=by
    unfold nmB;rw[j0 (show ¬x.length<=12 by lia),agD,afM]
   rw[this] at a;lk;exact a
 .have e1:¬(0:Int)<(x.length:Int):=λz=>e1 (f7 z)
  have:nmB x=false:=by
   unfold nmB;rw[j0 (show ¬1<=x.length by lia),afM,afM]
  rw[this] at a;lk;exact a
def Ys:Sp:=λvs H Q _=>∃x:Str,vs=[.str x]/\x.length<=100000/\∀H',aO H H'->Q (.bl (Ax x)) H'
def Yy{v t:Tok}(F:aI K "told_plainly" "told_plainly" n8 dV f fd)(T:Txt mg)(u:mg "MOST_FIGURES"=some (.int 7 v))(o:mg "FIGURES"=some (.str "0123456789" t))
  (B:jm P w K mg dH true 1 "made_of" Ij []):aC P w K mg dH (fw P w) true 2 f fd wX Ys:=by
 erw[F.br Eo λvs H Q E h=>?_];obtain⟨x,rfl,m,k⟩:=h
 refine⟨rfl,λq A dN s D=>⟨_,(aa (aL (PW.pt (ze (iw bQ (pv 0) ar) (xJ (iw OK (aQ nE (by rfl) T.fN cJ (aj (pv 0) ag)) (uv (by rfl) u))))) (af (av eo)) ay)
   (aa (aL (PW.pt (iD (iw bQ (p9 (pv 0) ah (λ_ _=>rfl)) ar) (iy (iw wu (pv 0) ar)))) (af (av eo)) ay)
   (af (av (cb B (aj (pv 0) (aj (MW (by rfl) o) ag))))))),?_⟩⟩
 fin2
 have j:Ax x=false->Q (.bl false) H:=λz=>by
  have:=k H (aO.refl _);rw[z] at this;exact this
 lk;erw[bp (λe=>?_) (λe=>?_)]
 .have e:x="":=V.str.inj (hI e);erw[j ?_];subst e
  rfl
 have e:x≠"":=λz=>e (f7 (ix V.str z));have ne:fx x≠[]:=λz=>e (tJ z);lk;erw[⟨qd (),?_⟩];lk;erw[bp (λe2=>?_) (λe2=>?_)]
 .have e2:(7:Int)<(x.length:Int):=hI e2;erw[j ?_];unfold Ax;rw[j0 (show ¬x.length<=7 by lia),agD,afM,afM]
 have e2:¬(7:Int)<(x.length:Int):=λz=>e2 (f7 z)
 obtain⟨c,r,b⟩:∃c r,fx x=c::r:=by
  cases z:fx x with
  |nil=>exact absurd z ne
  |cons c r=>exact⟨c,r,rfl⟩
 have n:x.cps[0]? =some c:=by rw[<- ag4];show(fx x)[0]? =_;rw[b];rfl
 have C:0<x.length:=by rw[<- bC,b];exact ahg _
 lk;erw[pw _ _ c (l7 rfl rfl () () (by show(0:Int)<(x.length:Int);lia) n ?_)]
 have a:((fx x).head? =some 48->fx x=[48])->∀H',aO H H'->Q (.bl ((fx x).all λc=>(fx "0123456789").contains c)) H':=λz H' y=>by
  have:=k H' y;unfold Ax at this;rw[f7 ne,f7 (show x.length<=7 by lia),f7 z,afB,afB,afB] at this;have e:(λc=>(fx "0123456789").contains c)=wc:=funext YG;rwa[e]
 lk;erw[bp (λe3=>?_) (λe3=>?_)]
 .have e3:c=48:=by
   have z:=V.str.inj (hI e3);have z:=ix fx z;exact List.head_eq_of_cons_eq z
  subst e3;lk;erw[bp (λe4=>?_) (λe4=>?_)]
  .refine j ?_
   have e4:x≠"0":=λz=>by
    rw[z] at e4;exact absurd e4 ∅
   have i:¬((fx x).head? =some 48->fx x=[48]):=λz=>e4 (tJ (z (by rw[b];rfl)));unfold Ax;rw[j0 i,agD,afM]
  .have e4:x="0":=by
    by_cases z:x="0"
    .exact z
    .exact absurd (by simpa using z) e4
   lk;exact⟨m,λg l=>a (λ_=>by rw[e4];rfl) g l⟩
 .have e3:c≠48:=λz=>e3 (by subst z;exact f7 rfl);lk;exact⟨m,λg l=>a (λz=>by rw[b] at z;exact absurd (iH z) e3) g l⟩
def Sn:Sp:=λvs H Q _=>∃(x:Str) (v:Int),vs=[.str x,.int 1000000]/\numOf x=some v/\∀H',aO H H'->Q (.int v) H'
def ab0{c:Tok}(F:aI K "number_in" "number_in" vM dV f fd)(T:Txt mg)(m:mg "GREATEST"=some (.int 1000000 c))
  (g:jm P w K mg dH true 2 "told_plainly" Ys []):aC P w K mg dH (fw P w) true 3 f fd xj Sn:=by
 erw[F.br BL λvs H Q E b=>?_];obtain⟨x,v,rfl,n,k⟩:=b
 refine⟨rfl,λh A dN s t=>⟨_,(aa (bq (i:=2) BL.nd (aQ (CV rfl) (by rfl) T.Vc Qh (aj (pv 1) (aj (uv (by rfl) m) ag))))
   (aa (aL (PW.pt (ze (fD (bM (cb g (aj (pv 0) ag)))) (xJ (iw OK (bK h7 (by rfl) T.J9 DI (aj (pv 0) ag)) (pv 2))))) (af vX) ay)
   (af (av (bK h7 (by rfl) T.J9 DI (aj (pv 0) ag)))))),?_⟩⟩
 fin2
 obtain⟨l,a,o,r,u⟩:=i6 n;lk;erw[⟨(),λq j=>?_⟩];rw[l];lk;erw[iE x v (mq rfl a () ?_)];lk;erw[bp (λe=>?_) (λe=>?_)]
 .exact absurd (hI e) ()
 .lk;exact⟨x,v,rfl,a,(),k _ j⟩
structure MkT(P:Program)(w:World)(K:PySem.W.Frag)(mg:Str->Option Value)(dH:Heap)(p:Pl)(k:Nat):Prop where
 leaf:Mak P w K mg dH true k "Leaf" (p.c 0) (Jq p.rep (p.c 0) Wh) []
 aca:Mak P w K mg dH true k "Steady" (p.c 1) (Jq p.rep (p.c 1) Ow) []
 aa9:Mak P w K mg dH true k "Faller" (p.c 2) (Jq p.rep (p.c 2) O9) []
 one:Mak P w K mg dH true k "Minder" (p.c 3) (Jq p.rep (p.c 3) (B0 3)) []
 all:Mak P w K mg dH true k "AllMinder" (p.c 4) (Jq p.rep (p.c 4) (B0 4)) []
 rest:Mak P w K mg dH true k "RestMinder" (p.c 5) (Jq p.rep (p.c 5) (B0 5)) []
def DS(K:PySem.W.Frag)(p:Pl)(b:Option Bool):Sp:=λvs H Q _=>∃(q:Addr) (c:List Str) (s:Sh),vs=[.ref q]/\fk K H q (c.map V.str)/\rowOf c=some s/\(b=some true->c.head? =some ("leaf":Str))/\(b=some false->c.head? ≠some ("leaf":Str))/\(∀x∈c,x.length<=100000)/\∀a H',aO H H'->H a=none->p.rep H' a s->Q (.ref a) H'
def jG{H H':Hp}{a:Addr}(e:aO H H')(h:H' a=none):H a=none:=by
 cases z:H a with
 |none=>rfl
 |some o=>rw[e _ _ z] at h;cases h
theorem Kc(b:List Str):(b.map V.str).all gC=true:=afr.mpr λx a=>by
 obtain⟨y,_,rfl⟩:=C0.mp a
 rfl
def UQ(F:aI K "leaf_in" "leaf_in" Co dV f fd)(T:Txt mg)(M:MkT P w K mg dH p 3)(cx:jm P w K mg dH true 3 "number_in" Sn [.int 1000000]):aC P w K mg dH (fw P w) true 5 f fd Ki (DS K p (some true)):=by
 erw[F.okN iK (λvs H Q E h=>?_) (λab A dN s0 H vs Q E X h=>?_)]
 .obtain ⟨q,ws,s,rfl,_⟩:=h
  rfl
 .obtain ⟨q,ws,s,rfl,hS,hw,hd,_,hz,k⟩:=h;have n:=M.leaf;have j:=M.aca;have a:=M.aa9;have ok:=(XQ hw).okS
  refine⟨_,(aa (bq (i:=1) iK.nd (hD aD (pv 0) (oF jM ah)))
   (aa (bq (i:=2) iK.nd (hD aD (pv 0) ah))
   (aa (bq (i:=3) iK.nd (cb cx (aj (hD aD (pv 0) ah) ag)))
   (aa (bq (i:=4) iK.nd (cb cx (aj (hD aD (pv 0) ah) ag)))
   (aa (bq (i:=5) iK.nd (B5 Fu (pv 0) (yj ah) (yj (oF jM ah))))
   (aa (aL (iw (QZ (Qn X)) (pv 5) (bw (aj ar ag))) (af (av (uA n (X.mono (by omega)) (by rfl) cq (aj (pv 1) (aj (pv 2) (aj (pv 3) (aj (pv 4) ag))))))) ay)
   (aa (aL (iw wu (aQ aP (by rfl) T.fN cJ (aj (pv 5) ag)) ah) (af (av ff)) ay)
   (aa (bq (i:=6) iK.nd (cb cx (aj (hD aD (pv 5) ah) ag)))
   (aa (aL (iw bQ (hD aD (pv 5) ah) ar) (af (av (uA j (X.mono (by omega)) (by rfl) cq (aj (pv 1) (aj (pv 2) (aj (pv 6) (aj (pv 3) (aj (pv 4) ag)))))))) ay)
   (aa (aL (iw bQ (hD aD (pv 5) ah) ar) (af (av (uA a (X.mono (by omega)) (by rfl) cq (aj (pv 1) (aj (pv 2) (aj (pv 6) (aj (pv 3) (aj (pv 4) ag)))))))) ay)
   (af (av ff)))))))))))),?_⟩
  fin2
  rcases G3 hw (hd rfl) with⟨D,g,l,nm,G,I,rfl,c1,c2,Z,Y,rfl⟩|⟨D,g,l,v,m,nm,G,I,mi,kd,rfl,c1,c2,ck,Z,Y,em,rfl⟩
  .lk;erw[hY q _ _ (V.str nm) (fT rfl rfl hS rfl ?_)];lk;erw[hY q _ _ (V.str D) (fT rfl rfl hS rfl ?_)];lk;erw[hY q _ _ (V.str g) (fT rfl rfl hS rfl ?_)];erw[iE g G (mE rfl Z (λH1 B=>?_))];lk;erw[hY q _ _ (V.str l) (fT rfl rfl (hS.same B) rfl ?_)];erw[iE l I (mE rfl Y (λW R=>?_))];lk;erw[iE q _ (mE rfl ((hS.same B).same R) (λt y=>?_))];lk;erw[⟨l8 ∅,λN c=>?_⟩];lk;erw[hY t N ([V.str "idle"]) ([V.str "idle"]) (l7 rfl rfl (fk.of (au c _ _ ae)) (fk.of ae) rfl rfl ?_)];lk;intro x O u J U;have C:aO H (upd (upd W t (.lst [V.str "idle"])) N (.lst [V.str "idle"])):=λb o e=>au c _ _ (au y _ _ (R _ _ (B _ _ e)));exact⟨x,O,_,_,_,rfl,⟨nm,D,G,I,rfl,rfl,ok⟩,u,J,U,rfl,λH' S r=>⟨rfl,k x H' (λb o e=>S _ _ (C _ _ e)) (jG C u) r⟩⟩
  .lk;erw[hY q _ _ (V.str nm) (fT rfl rfl hS rfl ?_)];lk;erw[hY q _ _ (V.str D) (fT rfl rfl hS rfl ?_)];lk;erw[hY q _ _ (V.str g) (fT rfl rfl hS rfl ?_)];erw[iE g G (mE rfl Z (λH1 B=>?_))];lk;erw[hY q _ _ (V.str l) (fT rfl rfl (hS.same B) rfl ?_)];erw[iE l I (mE rfl Y (λW R=>?_))];lk;erw[iE q _ (mE rfl ((hS.same B).same R) (λt y=>?_))];have w1:∀{Hx:Hp},aO (upd W t (.lst [V.str v,V.str m])) Hx->Hx t=some (.lst [V.str v,V.str m]):=λz=>z _ _ ae;lk;erw[⟨l8 ∅,λN c=>?_⟩];lk;refine hY t N ([V.str v,V.str m]) ([V.str "idle"]) (l7 rfl rfl (fk.of (au c _ _ ae)) (fk.of ae) rfl rfl ?_)
   have ef:Ep [V.str v,V.str m] [V.str "idle"]=false:=by
    show(_&&false)=false;exact agD _
   erw[⟨_,rfl,?_⟩];erw[bp (λe=>?_) (λe=>?_)]
   .have e:Ep [V.str v,V.str m] [V.str "idle"]=true:=e;rw[ef] at e;cases e
   lk;have C:aO H (upd (upd W t (.lst [V.str v,V.str m])) N (.lst [V.str "idle"])):=λb o e=>au c _ _ (au y _ _ (R _ _ (B _ _ e)));erw[iE t _ (mE rfl (.inl (fk.of (w1 (au c)))) ?_)];lk;erw[hY t _ _ (V.str m) (fT rfl rfl (fk.of (w1 (au c))) rfl ?_)];erw[iE m mi (mE rfl em (λH3 L=>?_))];have w3:=w1 (λb o e=>L _ _ (au c _ _ e));lk;erw[hY t _ _ (V.str v) (fT rfl rfl (fk.of w3) rfl ?_)];rcases ck with⟨rfl,rfl⟩|⟨rfl,rfl⟩
   .lk;intro x O u J U;exact⟨x,O,_,_,_,rfl,⟨nm,D,mi,G,I,rfl,rfl,ok⟩,u,J,U,rfl,λH' S r=>⟨rfl,k x H' (λb o e=>S _ _ (L _ _ (C _ _ e))) (jG (λb o e=>L _ _ (C _ _ e)) u) r⟩⟩
   .lk;erw[hY t _ _ (V.str "falls") (fT rfl rfl (fk.of w3) rfl ?_)];lk;intro x O u J U;exact⟨x,O,_,_,_,rfl,⟨nm,D,mi,G,I,rfl,rfl,ok⟩,u,J,U,rfl,λH' S r=>⟨rfl,k x H' (λb o e=>S _ _ (L _ _ (C _ _ e))) (jG (λb o e=>L _ _ (C _ _ e)) u) r⟩⟩
def Ti{R:Tok}(F:aI K "minder_in" "minder_in" wz dV f fd)(T:Txt mg)(I:mg "FEWEST_WORDS"=some (.int 6 R))(M:MkT P w K mg dH p 3)(D:jm P w K mg dH true 3 "number_in" Sn [.int 1000000]):aC P w K mg dH (fw P w) true 5 f fd Ee (DS K p (some false)):=by
 erw[F.okN gk (λvs H Q E h=>?_) (λL A dN X H vs Q E B h=>?_)]
 .obtain ⟨q,ws,s,rfl,_⟩:=h
  rfl
 .obtain ⟨q,ws,s,rfl,hS,hw,_,hd,hz,k⟩:=h;have g:=M.one;have c:=M.all;have a:=M.rest;have ok:=(XQ hw).okS
  refine⟨_,(aa (bq (i:=1) gk.nd (hD aD (pv 0) (oF jM ah)))
   (aa (bq (i:=2) gk.nd (hD aD (pv 0) ah))
   (aa (bq (i:=3) gk.nd (hD aD (pv 0) ah))
   (aa (bq (i:=4) gk.nd (cb D (aj (hD aD (pv 0) ah) ag)))
   (aa (bq (i:=5) gk.nd (cb D (aj (hD aD (pv 0) ah) ag)))
   (aa (aL (PW.pt (ze (iw wu (aQ aP (by rfl) T.fN cJ (aj (pv 0) ag)) (uv (by rfl) I)) (xJ (iw bQ (pv 5) ah)))) (af (av ff)) ay)
   (aa (aL (iw bQ (pv 3) ar) (af (av (uA g (B.mono (by omega)) (by rfl) cq (aj (pv 1) (aj (pv 2) (aj (pv 4) (aj (pv 5) ag))))))) ay)
   (aa (aL (iw bQ (pv 3) ar) (af (av (uA c (B.mono (by omega)) (by rfl) cq (aj (pv 1) (aj (pv 2) (aj (pv 4) (aj (pv 5) ag))))))) ay)
   (aa (aL (iw bQ (pv 3) ar) (af (av (uA a (B.mono (by omega)) (by rfl) cq (aj (pv 1) (aj (pv 2) (aj (pv 4) (aj (pv 5) ag))))))) ay)
   (af (av ff))))))))))),?_⟩
  fin2
  obtain⟨y,O,m,sp,nm,mi,z,kd,rfl,Y,Z,S,U,es,N,rfl⟩:=Bh hw (hd rfl);lk;erw[hY q _ _ (V.str nm) (fT rfl rfl hS rfl ?_)];lk;erw[hY q _ _ (V.str y) (fT rfl rfl hS rfl ?_)];lk;erw[hY q _ _ (V.str O) (fT rfl rfl hS rfl ?_)];lk;erw[hY q _ _ (V.str m) (fT rfl rfl hS rfl ?_)];erw[iE m mi (mE rfl U (λW C=>?_))];lk;erw[hY q _ _ (V.str sp) (fT rfl rfl (hS.same C) rfl ?_)];erw[iE sp z (mE rfl es (λJ G=>?_))];lk;erw[iE q _ (mE rfl (.inl ((hS.same C).same G)) ?_)];lk;erw[bp (λe=>?_) (λe=>?_)]
  .exact absurd (V.int.inj (hI e)) N
  have l:aO H J:=λb o e=>G _ _ (C _ _ e);rcases S with⟨rfl,rfl⟩|⟨rfl,rfl⟩|⟨rfl,rfl⟩
  .lk;intro x t j n v;exact⟨x,t,_,_,_,rfl,⟨nm,y,mi,z,rfl,rfl,ok⟩,j,n,v,rfl,λH' u r=>⟨rfl,k x H' (λb o e=>u _ _ (l _ _ e)) (jG l j) r⟩⟩
  .lk;intro x t j n v;exact⟨x,t,_,_,_,rfl,⟨nm,y,mi,z,rfl,rfl,ok⟩,j,n,v,rfl,λH' u r=>⟨rfl,k x H' (λb o e=>u _ _ (l _ _ e)) (jG l j) r⟩⟩
  .lk;intro x t j n v;exact⟨x,t,_,_,_,rfl,⟨nm,y,mi,z,rfl,rfl,ok⟩,j,n,v,rfl,λH' u r=>⟨rfl,k x H' (λb o e=>u _ _ (l _ _ e)) (jG l j) r⟩⟩
def Pq(F:aI K "by_first_word" "by_first_word" lG dV f fd)(T:Txt mg)(b:jm P w K mg dH true 5 "leaf_in" (DS K p (some true)) [])(c:jm P w K mg dH true 5 "minder_in" (DS K p (some false)) []):aC P w K mg dH (fw P w) true 6 f fd uR (DS K p none):=by
 erw[F.okN Cr (λvs H Q E h=>?_) (λg A dN l H vs Q E m h=>?_)]
 .obtain ⟨q,ws,s,rfl,_⟩:=h
  rfl
 .obtain ⟨q,ws,s,rfl,hS,hw,_,_,hz,k⟩:=h
  refine⟨_,(aa (aL (iw bQ (hD aD (pv 0) ah) ar) (af (av (cb b (aj (pv 0) ag)))) ay)
   (aa (aL (iw bQ (hD aD (pv 0) ah) ar) (af (av (cb c (aj (pv 0) ag)))) ay)
   (af (av ff)))),?_⟩
  fin2
  obtain⟨a,r,rfl⟩:∃a r,ws=a::r:=by
   cases ws with
   |nil=>cases hw
   |cons a r=>exact⟨a,r,rfl⟩
  lk;erw[hY q _ _ (V.str a) (fT rfl rfl hS (bX (j:=0) rfl) ?_)];lk;erw[bp (λe=>?_) (λe=>?_)]
  .have e:a="leaf":=V.str.inj (hI e);lk;exact⟨q,_,s,rfl,hS,hw,λ_=>ix some e,λz=>(by cases z),hz,k⟩
  .have e:a≠"leaf":=λz=>e (f7 (ix V.str z))
   have i:a="minder":=by
    obtain⟨_,_,_,_,_,_,_,_,e1,_⟩:=Bh hw (λz=>e (iH z));exact(ag1 e1).1
   lk;erw[hY q _ _ (V.str a) (fT rfl rfl hS (bX (j:=0) rfl) ?_)];subst i;lk;exact⟨q,_,s,rfl,hS,hw,λz=>(by cases z),λ_ z=>e (iH z),hz,k⟩
def adx{x:Str}(h:lF x):nmB x=true:=by
 unfold nmB;rw[f7 h.1,f7 h.2.1,h.2.2]
 rfl
def ZO{x:Str}(h:dW x):inV (.str x) [V.str "always",V.str "fallen",V.str "never"]=true:=by
 rcases h with rfl|rfl|rfl<;>rfl
def QM{Y:Tok}{v:Addr}(F:aI K "child_in" "child_in" Av dV f fd)(T:Txt mg)(J:mg "FEWEST_WORDS"=some (.int 6 Y))(M:mg "KEEPS"=some (.ref v))(X:∀H:Hp,l5 K H v [V.str "always",V.str "fallen",V.str "never"])
  {B:Addr} (O:mg "NoNumber"=some (.ref B)) (S:DK K B) (G:jm P w K mg dH true 2 "is_name" NF []) (C:jm P w K mg dH true 6 "by_first_word" (DS K p none) []):aC P w K mg dH (fw P w) true 7 f fd Gm (DS K p none):=by
 erw[F.okN Nh (λvs H Q E h=>?_) (λR A dN s0 H vs Q E L h=>?_)]
 .obtain ⟨q,ws,s,rfl,_⟩:=h
  rfl
 .obtain ⟨q,ws,s,rfl,hS,hw,_,_,hz,k⟩:=h
  refine⟨_,(aa (aL (PW.pt (ze (iw oW (aQ aP (by rfl) T.fN cJ (aj (pv 0) ag)) (uv (by rfl) J)) (ze (iw K2 (hD aD (pv 0) ah) (yh (by rfl) M)) (xJ (fD (bM (cb G (aj (hD aD (pv 0) (oF jM ah)) ag)))))))) (af (av ff)) ay)
   (af (QY ⟨rfl,rfl,rfl⟩ (λD U E' I hP=>(af (av (Fz C (L.mono (by omega)) (by rfl) (passes I) (aj (pv 0) ag)))))
    ay
    (Wz ⟨rfl,rfl,rfl⟩ (by rfl) O S (λe=>(af (av ff)))
    MS)))),?_⟩
  fin2
  have Z:6<=ws.length:=by
   rcases C6 hw with⟨a,b,c,d,e,g,rfl⟩|⟨a,b,c,d,e,g,i,rfl⟩
   .exact fC _
   .show 6<=7
    decide
  obtain⟨a,t,r,nm,e1,e2,x,u⟩:∃(a t:Str) (r:List Str) (nm:Str),ws=a::t::r/\sq (ws.map V.str) (-1)=some (V.str nm)/\dW t/\nm∈ws/\lF nm:=by
   by_cases z:ws.head? =some ("leaf":Str)
   .rcases G3 hw z with⟨t,g,l,nm,gi,li,rfl,c1,c2,_⟩|⟨t,g,l,wk,m,nm,gi,li,mi,kd,rfl,c1,c2,_⟩
    .exact ⟨_,t,_,nm,rfl,rfl,c1,by simp,c2⟩
    .exact ⟨_,t,_,nm,rfl,rfl,c1,by simp,c2⟩
   .obtain ⟨t,wy,m,sp,nm,mi,si,kd,rfl,c1,c2,_⟩:=Bh hw z;exact⟨_,t,_,nm,rfl,rfl,c1,by simp,c2⟩
  have N:inV (.str t) [V.str "always",V.str "fallen",V.str "never"]=true:=ZO x;lk;erw[iE q _ (mE rfl (.inl hS) ?_)];lk;erw[bp (λe=>?_) (λe=>?_)]
  .have e:=hI e;rw[gm] at e;exact absurd e ()
  lk;erw[hY q _ _ (V.str t) (fT rfl rfl hS (bX (j:=1) (by rw[e1];rfl)) ?_)];lk;erw[iE v _ (fT rfl (.inr (X _)) rfl rfl ?_)];erw[⟨_,rfl,?_⟩];erw[bp (λe=>?_) (λe=>?_)]
  .have e:(!inV (.str t) [V.str "always",V.str "fallen",V.str "never"])=true:=e;rw[N] at e;cases e
  lk;erw[hY q _ _ (V.str nm) (fT rfl rfl hS e2 ?_)];lk;erw[⟨hz nm u.1,λH1 y=>?_⟩];rw[adx u.2];lk;exact⟨q,ws,s,rfl,hS.same y,hw,λz=>(by cases z),λz=>(by cases z),hz,λa H' W n r=>k a H' (λb o e=>W _ _ (y _ _ e)) (jG y n) r⟩
open PySem L2 Shp Nm Tr Hs PySem.NumText
def kA(rows:List Row):List V:=(List.range rows.length).map λi=>if i=0 then V.non else V.int (cA rows i)
def cw(rows:List Row):List (Key×V):=(List.range rows.length).map λi=>(.inr (rows.getD i default).sh.name,V.int (i:Int))
def de(rows:List Row):List V:=rows.map λr=>V.int ((2*r.dep:Nat):Int)
def fsT(c b a d:Addr):List (Str×V):=[("children",.ref c),("blanks",.ref b),("above",.ref a),("places",.ref d)]
structure yw(cT:Addr)(p:Pl)(H:Hp)(t:Addr)(rows:List Row)(c b a d:Addr)(as:List Addr):Prop where
 ob:∃dx,H t=some (.ins cT dx (fsT c b a d))
 ch:H c=some (.lst (as.map V.ref))
 ln:as.length=rows.length
 rp:∀(i:Nat) (x:Addr),as[i]? =some x->p.rep H x (rows.getD i default).sh
 bl:H b=some (.lst (de rows))
 ab:H a=some (.lst (kA rows))
 pl:H d=some (.dK (cw rows))
 n1:c≠b
 n2:c≠a
 n3:b≠a
theorem yw.same{g:Addr}{H H':Hp}{t:Addr}{rows:List Row}{c b a d:Addr}{j:List Addr}(h:yw g p H t rows c b a d j)(e:aO H H'):yw g p H' t rows c b a d j:=
 ⟨h.ob.imp λ_ z=>e _ _ z,e _ _ h.ch,h.ln,λi x z=>Pl.mono e (h.rp i x z),e _ _ h.bl,e _ _ h.ab,e _ _ h.pl,h.n1,h.n2,h.n3⟩
def getD_snoc(rows:List Row)(r:Row)(i:Nat):(rows++[r]).getD i default=if i<rows.length then rows.getD i default else if i=rows.length then r else default:=by
 by_cases h:i<rows.length
 .rw[eE h,oC _ _ _ h]
 .rw[er h];by_cases e:i=rows.length
  .rw[eE e,e,h9 rows r [] default]
  .rw[er e,ry,agd (by rw[js];show rows.length+1<=i;lia)]
   rfl
def Im{a:Type}(n:Nat)(g:Nat->a):(List.range (n+1)).map g=(List.range n).map g++[g n]:=by
 rw[afR,ni]
 rfl
def Nv(rows:List Row)(r:Row):kA (rows++[r])=kA rows++[if rows.length=0 then V.non else V.int (cA (rows++[r]) rows.length)]:=by
 unfold kA;rw[js];show(List.range (rows.length+1)).map _=_;rw[Im]
 congr 1
 erw[agL λi a=>?_];rw[J6 rows [r] (xc.mp a)]
def My(rows:List Row)(r:Row):cw (rows++[r])=cw rows++[(.inr r.sh.name,V.int (rows.length:Int))]:=by
 unfold cw;rw[js];show(List.range (rows.length+1)).map _=_;rw[Im,h9 rows r [] default]
 congr 1
 erw[agL λi a=>?_];rw[oC _ _ _ (xc.mp a)]
theorem LG(rows:List Row)(r:Row):de (rows++[r])=de rows++[V.int ((2*r.dep:Nat):Int)]:=ni
def Ec{rows:List Row}{x:Str}(h:x∉rows.map (·.sh.name)):xB (cw rows) (.inr x)=none:=by
 unfold xB;rw[ahq.mpr]
 .rfl
 .intro kv hk z;obtain⟨i,a,rfl⟩:=C0.mp hk;have z:=ahN (hI z);have a:=xc.mp a;erw[h (C0.mpr ⟨rows[i],M5 a,?_⟩)];rw[<- z,ry,gy a]
  rfl
def Pb{rows:List Row}{r:Row}(h:r.sh.name∉rows.map (·.sh.name)):putK (cw rows) (.inr r.sh.name) (V.int (rows.length:Int))=cw (rows++[r]):=by
 unfold putK;rw[er,My];intro z;obtain⟨a,b,z⟩:=List.any_eq_true.mp z;have n:=Ec h;unfold xB at n;cases f:(cw rows).find? λa=>decide (a.1=(.inr r.sh.name:Key)) with
 |none=>exact ahq.mp f a b z
 |some w=>rw[f] at n;cases n
def ym{H:Hp}{x q C a:Addr}{o:HO}{fs gs:List (Str×V)}(h:H x=some (.ins C a fs))(g:H q=none):(upd (upd H q o) x (.ins C a gs)) x=some (.ins C a gs)/\(upd (upd H q o) x (.ins C a gs)) q=some o/\(∀b u,b≠x->H b=some u->(upd (upd H q o) x (.ins C a gs)) b=some u)∧
  (∀b,b≠x->(upd (upd H q o) x (.ins C a gs)) b=none->H b=none/\b≠q)/\q≠x/\(upd H q o) x=some (.ins C a fs):=by
 have nx:q≠x:=λz=>by rw[z,h] at g;cases g
 erw[⟨ae,by rw[ai nx];exact ae,λb u c e=>?_,λb c e=>?_,nx,by rw[ai (Ne.symm nx)];exact h⟩]
 .rwa[ai c,ai (aq e g)]
 .rw[ai c] at e;by_cases z:b=q
  .rw[z,ae] at e;cases e
  .rw[ai z] at e;exact⟨e,z⟩
structure CT(K:PySem.W.Frag)(C:Addr):Prop where
 cl:tW K C
 n1:aY K C "children"
 n2:aY K C "blanks"
 n3:aY K C "above"
 n4:aY K C "places"
def FG(h:Addr)(p:Pl):Sp:=λvs H Q _=>∃(x g:Addr) (e:Hp),vs=[.ref x]/\e x=none/\e g=none/\g≠x/\H=upd (upd e g (.own x)) x (.ins h g [])∧
 ∀(H':Hp) (c b a d:Addr),aO e H'->e c=none->e b=none->e a=none->e d=none->yw h p H' x [] c b a d []->Q .non H'
def O4{g:Addr}(F:aI K "__init__" "Tree.__init__" lS dV f fd)(j:CT K g):aC P w K mg dH (fw P w) true 1 f fd lU (FG g p):=by
 erw[F.br CA λvs H Q E y0=>?_];obtain⟨x,h,Y,rfl,W,h1,h2,M,k⟩:=y0
 refine⟨rfl,λab A dN s hr=>⟨_,(aa (aH (pv 0) (bw ag) rfl)
   (aa (aH (pv 0) (bw ag) rfl)
   (aa (aH (pv 0) (bw ag) rfl)
   (af (aH (pv 0) WA rfl))))),?_⟩⟩
 fin2
 have hx:H x=some (.ins g h []):=by rw[M];exact ae
 have s0:∀b u,Y b=some u->H b=some u/\b≠x:=λb u e=>⟨by rwa[M,ai (aq e W),ai (aq e h1)],aq e W⟩
 have B:∀b,b≠x->H b=none->Y b=none:=λb hb e=>by
  rw[M,ai hb] at e;by_cases z:b=h
  .rwa[z]
  .rw[ai z] at e;exact e
 erw[⟨l8 ∅,λc q=>?_⟩];obtain⟨Z,S,p3,m,D,p6⟩:=ym (o:= .lst []) (gs:=[("children",.ref c)]) hx q;erw[jx rfl (bV p6 j.cl j.n1 ∅ ?_)]
 change jf _ _ _ _ (upd (upd H c (.lst [])) x (.ins g h [("children",.ref c)]))
 generalize upd (upd H c (.lst [])) x (.ins g h [("children",.ref c)])=H1 at Z S p3 m;erw[⟨l8 ∅,λb l=>?_⟩];obtain⟨O,R,L,I,n,q6⟩:=ym (o:= .lst []) (gs:=[("children",.ref c),("blanks",.ref b)]) Z l;erw[jx rfl (bV q6 j.cl j.n2 (by show 1<1000;decide) ?_)]
 change jf _ _ _ _ (upd (upd H1 b (.lst [])) x (.ins g h [("children",.ref c),("blanks",.ref b)]))
 generalize upd (upd H1 b (.lst [])) x (.ins g h [("children",.ref c),("blanks",.ref b)])=H2 at O R L I;erw[⟨l8 ∅,λa t=>?_⟩];obtain⟨T,X,y,U,G,r6⟩:=ym (o:= .lst []) (gs:=[("children",.ref c),("blanks",.ref b),("above",.ref a)]) O t;erw[jx rfl (bV r6 j.cl j.n3 (by show 2<1000;decide) ?_)];dsimp only
 change adk _ _ _ _ _ _ (upd (upd H2 a (.lst [])) x (.ins g h [("children",.ref c),("blanks",.ref b),("above",.ref a)]))
 generalize upd (upd H2 a (.lst [])) x (.ins g h [("children",.ref c),("blanks",.ref b),("above",.ref a)])=H3 at T X y U;intro d r;obtain⟨t1,t2,v,t4,C,t6⟩:=ym (o:= .dK []) (gs:=fsT c b a d) T r;erw[jx rfl (bV t6 j.cl j.n4 (by show 3<1000;decide) ?_)]
 change Q .non (upd (upd H3 d (.dK [])) x (.ins g h (fsT c b a d)))
 generalize upd (upd H3 d (.dK [])) x (.ins g h (fsT c b a d))=H4 at t1 t2 v t4;have J:c≠b:=Ne.symm (m b n l).2;have z2:=I a G t;have N:=m a G z2.1;have y3:=U d C r;have y2:=I d C y3.1;have y1:=m d C y2.1;have gc:H4 c=some (.lst []):=v c _ D (y c _ D (L c _ D S));have gb:H4 b=some (.lst []):=v b _ n (y b _ n R);erw[k H4 c b a d (λe u z=>?_) (B c D q) (B b n (m b n l).1) (B a G N.1) (B d C y1.1) ⟨⟨h,t1⟩,gc,rfl,λi x e=>(by cases e),gb,v a _ G X,t2,J,Ne.symm N.2,Ne.symm z2.2⟩];obtain⟨e1,e2⟩:=s0 e u z;exact v e u e2 (y e u e2 (L e u e2 (p3 e u e2 e1)))
def MX{rows:List Row}{i:Nat}(h:i<rows.length):rows[i]? =some (rows.getD i default):=by
 rw[ry,gy h]
 rfl
def namesOf(rows:List Row):List Str:=rows.map (·.sh.name)
def Fn(p:Pl)(C:Addr):Sp:=λvs H Q _=>∃(t:Addr) (rows:List Row) (c b a d:Addr) (e:List Addr),vs=[.ref t]/\yw C p H t rows c b a d e/\rows.length<=1000∧
 ∀(q:Addr) (H':Hp),aO H H'->H q=none->H' q=some (.lst ((namesOf rows).map V.str))->Q (.ref q) H'
def XG{r:Addr}(F:aI K "names" "Tree.names" uF dV f fd)(u:CT K r)(m:∀j,p.pr j->CF K (p.c j)):aC P w K mg dH (fw P w) true 1 f fd B2 (Fn p r):=by
 erw[F.br IM λvs H Q E D=>?_];obtain⟨t,rows,c,b,a,d,o,rfl,e,G,k⟩:=D;erw[⟨rfl,λI A dN s O=>⟨_,(af (av (m9 (x:="child") (fr:=[]) (by exact⟨rfl,rfl,by decide +kernel,by decide +kernel,rfl,by decide +kernel,(by repeat (first|exact True.intro|refine⟨rfl,?_⟩)),by repeat (first|exact True.intro|refine⟨(by first|exact λ_=>⟨_,rfl⟩|(intro z;cases z)),?_⟩),(by repeat (first|exact True.intro|refine⟨⟨rfl,.inl rfl,rfl,rfl⟩,?_⟩))⟩) rfl (kP (aw (pv 0) rfl)) (λ_ _ _ _=>Aw) (λ_ _ _ _=>(KO (K0:=K) rfl (pv 0) (by rfl)))))),?_⟩⟩]
 fin2
 obtain⟨R,l⟩:=e.ob;lk;erw[aZ l u.cl u.n1 rfl ?_];lk;erw[⟨⟨_,fk.of e.ch⟩,eZ (J:=Itl K c) (n:=rows.length) (λi ys H'=>H'=H/\ys=((namesOf rows).take i).map V.str) ⟨rfl,rfl⟩ ?_ ?_ ?_ ?_⟩]
 .rintro i ys H' hi ⟨rfl,rfl⟩;exact⟨_,V.ref (o[i]'(by rw[e.ln];exact hi)),fk.of e.ch,by rw[jl,gy (by rw[e.ln];exact hi)];rfl⟩
 .rintro ys H' ⟨rfl,rfl⟩;exact⟨_,fk.of e.ch,by rw[gm,e.ln];exact fC _⟩
 .rintro i ys H' v H2 hi ⟨rfl,rfl⟩ ⟨rfl,h⟩;have g:i<o.length:=by rwa[e.ln]
  have h:=h _ (fk.of e.ch);rw[jl,gy g] at h;obtain rfl:V.ref o[i]=v:=iH h;obtain⟨N,L,M,C⟩:=e.rp i _ (gy g);have B:=m _ L;lk;erw[aZ C B.cl B.n1 (Fs _) ?_];erw[⟨?_,rfl,?_⟩]
  .rw[gm,XP];exact aV ()
  .have:(namesOf rows)[i]? =some (rows.getD i default).sh.name:=by
    unfold namesOf;rw[jl,MX hi]
    rfl
   rw[aft,this,ni]
   rfl
 .rintro ys H' ⟨rfl,rfl⟩;have:(namesOf rows).length=rows.length:=gm _;rw[<- this,afx];erw[⟨?_,λq y=>k q _ (au y) y ae⟩];rw[gm,this];exact afC (aV G)
def abH(p:Pl)(C:Addr):Sp:=λvs H Q _=>∃(t:Addr) (rows:List Row) (c b a d:Addr) (e:List Addr) (i:Nat),vs=[.ref t,.str (rows.getD i default).sh.name]/\yw C p H t rows c b a d e/\i<rows.length/\(rows.map (·.sh.name)).Nodup∧
 ∀H',aO H H'->Q (.int (i:Int)) H'
def Nx{rows:List Row}{i:Nat}(g:i<rows.length)(nd:(rows.map (·.sh.name)).Nodup):xB (cw rows) (.inr (rows.getD i default).sh.name)=some (V.int (i:Int)):=by
 unfold xB;cases f:(cw rows).find? λa=>decide (a.1=(.inr (rows.getD i default).sh.name:Key)) with
 |none=>
  exact absurd (f7 rfl) (ahq.mp f (.inr (rows.getD i default).sh.name,V.int (i:Int)) (C0.mpr ⟨i,xc.mpr g,rfl⟩))
 |some a=>
  have c:a.1=.inr (rows.getD i default).sh.name:=hI (List.find?_some (p:=λa:Key×V=>decide (a.1=.inr (rows.getD i default).sh.name)) f);obtain⟨j,b,rfl⟩:=C0.mp (List.mem_of_find?_eq_some f);have b:=xc.mp b;have c:=ahN c
  have e:j=i:=by
   have h:(rows.map (·.sh.name))[j]? =some (rows.getD j default).sh.name:=by rw[jl,MX b];rfl
   have l:(rows.map (·.sh.name))[i]? =some (rows.getD i default).sh.name:=by rw[jl,MX g];rfl
   rw[c] at h;exact(List.getElem?_inj (by rwa[gm]) nd).mp (h.trans l.symm)
  rw[e]
  rfl
def Z8{h:Addr}(F:aI K "find" "Tree.find" wm dV f fd)(g:CT K h):aC P w K mg dH (fw P w) true 1 f fd DW (abH p h):=by
 erw[F.br Md λvs H Q E l=>?_];obtain⟨t,rows,c,b,a,d,r,i,rfl,j,m,nd,k⟩:=l
 refine⟨rfl,λo A dN s n=>⟨_,(aa (aL (abw (JX (Ku n) (pv 1) (aw (pv 0) rfl))) (af vX) ay)
   (af (av (zdg (aw (pv 0) rfl) (pv 1))))),?_⟩⟩
 fin2
 obtain⟨q,e⟩:=j.ob
 have dg:qE H d (V.str (rows.getD i default).sh.name) (some (V.int (i:Int))):=by
  have:=qE.k (k:= .inr (rows.getD i default).sh.name) j.pl;rw[Nx m nd] at this;exact this
 lk;erw[aZ e g.cl g.n4 rfl ?_];lk;erw[iE d (some (V.int (i:Int))) (mE rfl dg ?_)];lk;erw[aZ e g.cl g.n4 rfl ?_];lk;exact⟨d,_,rfl,dg,k _ (aO.refl _)⟩
theorem wj{H:Hp}{x y:Addr}{o u:HO}(b:H x=some o)(a:H y=some u)(h:o≠u):x≠y:=λz=>h (iH (b.symm.trans (by rwa[z])))
def XE(p:Pl)(C:Addr):Sp:=λvs H Q _=>∃(t x:Addr) (rows:List Row) (r:Row) (c b a d:Addr) (g:List Addr) (ab:V),vs=[.ref t,.ref x,.int ((2*r.dep:Nat):Int),ab]/\yw C p H t rows c b a d g/\p.rep H x r.sh/\rows.length<=1000/\r.sh.name∉rows.map (·.sh.name)∧
 ab=(if rows.length=0 then V.non else V.int (cA (rows++[r]) rows.length))/\∀H',(∀e u,e≠c->e≠b->e≠a->e≠d->H e=some u->H' e=some u)->yw C p H' t (rows++[r]) c b a d (g++[x])->Q .non H'
def ZE{o:Addr}(F:aI K "take" "Tree.take" xx dV f fd)(T:Txt mg)(m:CT K o)(N:∀j,p.pr j->CF K (p.c j)):aC P w K mg dH (fw P w) true 1 f fd D8 (XE p o):=by
 erw[F.br L9 λvs H Q E y0=>?_];obtain⟨t,x,rows,r,c,b,a,d,l,ab,rfl,g,hR,I,hn,Y,k⟩:=y0
 refine⟨rfl,λad A dN s hr=>⟨_,(aa (R3 (Ku hr) (aw (pv 0) rfl) (aw (pv 1) rfl) (aQ aP (by rfl) T.fN cJ (aj (aw (pv 0) rfl) ag)) rfl)
   (aa (aB (fg Bn ae3 ae4 cD (aw (pv 0) rfl) (aj (pv 1) ag)))
   (aa (aB (fg Bn ae3 ae4 cD (aw (pv 0) rfl) (aj (pv 2) ag)))
   (af (aB (fg Bn ae3 ae4 cD (aw (pv 0) rfl) (aj (pv 3) ag))))))),?_⟩⟩
 fin2
 obtain⟨q,h⟩:=g.ob;obtain⟨r1,r2,al,r3⟩:=id hR;have cf:=N _ r2;lk;erw[aZ h m.cl m.n1 rfl ?_];lk;erw[iE c _ (mE rfl (.inl (fk.of g.ch)) ?_)];lk;erw[aZ h m.cl m.n4 rfl ?_];erw[jx rfl (aZ r3 cf.cl cf.n1 (Fs _) ?_)];have ln:((l.map V.ref).length:Int)=(rows.length:Int):=by rw[gm,g.ln]
 rw[ln];erw[iE d _ (mE rfl (TH.k (k:= .inr r.sh.name) g.pl (by unfold cw;rw[gm,tG];exact aV I)) ?_)];rw[Pb hn];have ac:t≠d:=wj h g.pl (λz=>by cases z);have D:c≠d:=wj g.ch g.pl (λz=>by cases z);have G:b≠d:=wj g.bl g.pl (λz=>by cases z);have B:a≠d:=wj g.ab g.pl (λz=>by cases z);have R:t≠c:=wj h g.ch (λz=>by cases z);have W:t≠b:=wj h g.bl (λz=>by cases z);have L:t≠a:=wj h g.ab (λz=>by cases z);have e1:(upd H d (.dK (cw (rows++[r])))) t=some (.ins o q (fsT c b a d)):=by rwa[ai ac]
 have e2:(upd H d (.dK (cw (rows++[r])))) c=some (.lst (l.map V.ref)):=by rw[ai D];exact g.ch
 have e3:(upd H d (.dK (cw (rows++[r])))) b=some (.lst (de rows)):=by rw[ai G];exact g.bl
 have e4:(upd H d (.dK (cw (rows++[r])))) a=some (.lst (kA rows)):=by rw[ai B];exact g.ab
 have e5:(upd H d (.dK (cw (rows++[r])))) d=some (.dK (cw (rows++[r]))):=ae;have e6:∀e u,e≠d->H e=some u->(upd H d (.dK (cw (rows++[r])))) e=some u:=λe u n z=>by rwa[ai n]
 generalize upd H d (.dK (cw (rows++[r])))=H1 at e1 e2 e3 e4 e5 e6;erw[jx rfl (pq t o q _ _ (l7 rfl e1 m.cl m.n1 rfl (.inl ⟨rfl,_,fk.of e2⟩) ?_))];lk;erw[pw c _ _ (fT rfl rfl e2 (by rw[gm,g.ln];exact aV I) ?_)];have O:(upd H1 c (.lst (l.map V.ref++[V.ref x]))) t=some (.ins o q (fsT c b a d)):=by rwa[ai R]
 have S:(upd H1 c (.lst (l.map V.ref++[V.ref x]))) b=some (.lst (de rows)):=by rwa[ai (Ne.symm g.n1)]
 have f4:(upd H1 c (.lst (l.map V.ref++[V.ref x]))) a=some (.lst (kA rows)):=by rwa[ai (Ne.symm g.n2)]
 have f2:(upd H1 c (.lst (l.map V.ref++[V.ref x]))) c=some (.lst (l.map V.ref++[V.ref x])):=ae;have f5:(upd H1 c (.lst (l.map V.ref++[V.ref x]))) d=some (.dK (cw (rows++[r]))):=by rwa[ai (Ne.symm D)]
 have f6:∀e u,e≠d->e≠c->H e=some u->(upd H1 c (.lst (l.map V.ref++[V.ref x]))) e=some u:=λe u n C z=>by rw[ai C];exact e6 e u n z
 generalize upd H1 c (.lst (l.map V.ref++[V.ref x]))=H2 at O f2 S f4 f5 f6;erw[jx rfl (pq t o q _ _ (l7 rfl O m.cl m.n2 rfl (.inl ⟨rfl,_,fk.of S⟩) ?_))];lk;erw[pw b _ _ (fT rfl rfl S (by unfold de;rw[gm];exact aV I) ?_)];have bs:de rows++[V.int ((2*r.dep:Nat):Int)]=de (rows++[r]):=(LG rows r).symm;rw[bs];have Z:(upd H2 b (.lst (de (rows++[r])))) t=some (.ins o q (fsT c b a d)):=by rwa[ai W]
 have g2:(upd H2 b (.lst (de (rows++[r])))) c=some (.lst (l.map V.ref++[V.ref x])):=by rwa[ai g.n1]
 have g3:(upd H2 b (.lst (de (rows++[r])))) b=some (.lst (de (rows++[r]))):=ae;have U:(upd H2 b (.lst (de (rows++[r])))) a=some (.lst (kA rows)):=by rwa[ai (Ne.symm g.n3)]
 have g5:(upd H2 b (.lst (de (rows++[r])))) d=some (.dK (cw (rows++[r]))):=by rwa[ai (Ne.symm G)]
 have g6:∀e u,e≠d->e≠c->e≠b->H e=some u->(upd H2 b (.lst (de (rows++[r])))) e=some u:=λe u n C n3 z=>by rw[ai n3];exact f6 e u n C z
 generalize upd H2 b (.lst (de (rows++[r])))=H3 at Z g2 g3 U g5 g6;erw[jx rfl (pq t o q _ _ (l7 rfl Z m.cl m.n3 rfl (.inl ⟨rfl,_,fk.of U⟩) ?_))];lk;erw[pw a _ _ (fT rfl rfl U (by unfold kA;rw[gm,tG];exact aV I) ?_)];have J:kA rows++[ab]=kA (rows++[r]):=by rw[Y];exact(Nv rows r).symm
 rw[J];have keep:∀e u,e≠c->e≠b->e≠a->e≠d->H e=some u->(upd H3 a (.lst (kA (rows++[r])))) e=some u:=λe u n1 C n3 n4 z=>by rw[ai n3];exact g6 e u n4 n1 C z
 have rk:∀(y:Addr) (X:Sh),p.rep H y X->p.rep (upd H3 a (.lst (kA (rows++[r])))) y X:=λy X z=>by
  obtain⟨z1,z2,dz,v⟩:=z;exact⟨z1,z2,dz,keep _ _ (wj v g.ch (λz=>by cases z)) (wj v g.bl (λz=>by cases z)) (wj v g.ab (λz=>by cases z)) (wj v g.pl (λz=>by cases z)) v⟩
 erw[k _ keep ⟨⟨q,by rwa[ai L]⟩,by rw[ai g.n2,g2,ni];rfl,by rw[js,js,g.ln];rfl,λi y e=>?_,by rwa[ai g.n3],ae,by rwa[ai (Ne.symm B)],g.n1,g.n2,g.n3⟩];rw[getD_snoc];by_cases hi:i<l.length
 .rw[ae1 hi] at e;rw[eE (by rw[<- g.ln];exact hi)];exact rk _ _ (g.rp i y e)
 .rw[ae2 ()] at e
  have M:i-l.length=0:=by
   have:=(uy.mp e).1;have:i-l.length<1:=this
   lia
  rw[M] at e;have e:x=y:=iH e;subst e;have:i=rows.length:=by have:=g.ln;lia
  rw[er (),eE this];exact rk _ _ hR
def Rk(p:Pl)(C:Addr):Sp:=λvs H Q _=>∃(t:Addr) (rows:List Row) (c b a d:Addr) (e:List Addr) (dp:Nat),vs=[.ref t,.int ((2*dp:Nat):Int)]/\yw C p H t rows c b a d e/\rows.length<=1000∧
 ((rows=[]/\Q .non H)\/∃j,j<rows.length/\(rows.getD j default).dep+1=dp/\(rows.getD j default).isM=true/\(∀i,j<i->i<rows.length->dp<=(rows.getD i default).dep)/\∀H',aO H H'->Q (.int (j:Int)) H')
def Xh{L:Addr}(F:aI K "minder_above" "Tree.minder_above" g8 dV f fd)(T:Txt mg)(m:CT K L)(I:If P w K mg dH 3 p.rep p.cl):aC P w K mg dH (fw P w) true 4 f fd mI (Rk p L):=by
 erw[F.br gj λvs H Q E y0=>?_];obtain⟨t,rows,c,b,a,d,D,dp,rfl,o,hl,k⟩:=y0
 have h:∀C s u,Dt (w6 p.rep) (λC=>∃j,p.cl j C) C s u->MethAt P w K mg dH (fw P w) true 3 "leaf" C s u:=by
  rintro C s u ⟨⟨j,z⟩,rfl,rfl⟩;exact I.leaf z
 refine⟨rfl,λX A dN s hr=>⟨_,(aa (oH afv rfl (YC (by rfl) T.ng (aj (aA CI (aQ aP (by rfl) T.fN cJ (aj (aw (pv 0) rfl) ag)) ah) (aj (oF jM ah) (aj (oF jM ah) ag)))) (c9 (i:=2) gj.nd rfl (by first|exact Or.inl rfl|exact Or.inr rfl)) (af (aL (iw oW (hD aD (aw (pv 0) rfl) (pv 2)) (pv 1)) (aa (bq (i:=3) gj.nd (qk (wx bQ (hD aD (aw (pv 0) rfl) (pv 2)) (aA CI (pv 1) ah)) (lM (QP (jd (hD aD (aw (pv 0) rfl) (pv 2)) h)))))
   (af (av (nO (bM (pv 3)) (pv 2) ff)))) ay)))
   (af (av ff))),?_⟩⟩
 fin2
 obtain⟨dx,g⟩:=o.ob;lk;erw[aZ g m.cl m.n1 rfl ?_];lk;erw[iE c _ (mE rfl (.inl (fk.of o.ch)) ?_)];lk;have R:(D.map V.ref).length=rows.length:=by rw[gm,o.ln]
 rw[R];erw[⟨(),?_⟩]
 have B:∀i,i<rows.length->(de rows)[i]? =some (V.int ((2*(rows.getD i default).dep:Nat):Int)):=λi r=>by
  unfold de;rw[jl,MX r]
  rfl
 rcases k with⟨e0,k⟩|⟨j,S,hd,Z,hb,k⟩
 .have n0:rows.length=0:=by rw[e0];rfl
  rw[n0];erw[tY (n:=0) (λ_ l H'=>H'=H) rfl (λi l H' r=>absurd r (afm _)) (λi l H' x U r=>absurd r (afm _)) (λl H' e=>⟨fC _,?_⟩)];subst e;exact k
 .refine tY (n:=rows.length) (λi l H'=>H'=H/\j+i<rows.length/\∃M N,l=[some (.ref t),some (.int ((2*dp:Nat):Int)),M,N]) ⟨rfl,S,none,none,rfl⟩ (λi l H' r _=>r) ?_ (λl H' z=>absurd z.2.1 ());rintro i l H' x U r ⟨rfl,ab,M,N,rfl⟩ ⟨rfl,rfl⟩;have pe:(rows.length:Int)-1-(i:Int)=((rows.length-1-i:Nat):Int):=by lia
  rw[pe];have y:rows.length-1-i<rows.length:=by lia
  generalize hq:rows.length-1-i=q at y;lk;erw[aZ g m.cl m.n2 rfl ?_];lk;erw[hY b _ _ _ (fT rfl rfl (fk.of o.bl) (bX (B q y)) ?_)];lk;erw[bp (λe=>?_) (λe=>?_)]
  .have e:(((2*(rows.getD q default).dep:Nat)):Int)<((2*dp:Nat):Int):=hI e
   have W:q=j:=by
    by_cases z:j<q
    .have:=hb q z y
     lia
    .lia
   subst W;have v:q<D.length:=by rwa[o.ln]
   have G:=o.rp q D[q] (gy v);obtain⟨r1,r2,ac,r3⟩:=id G;lk;erw[aZ g m.cl m.n2 rfl ?_];lk;erw[hY b _ _ _ (fT rfl rfl (fk.of o.bl) (bX (B q y)) ?_)];lk;have Y:V.int ((2*(rows.getD q default).dep:Nat):Int)=V.int (((2*dp:Nat):Int)-2):=by congr 1;lia
   erw[bp (λe2=>?_) (λe2=>?_)]
   .lk;erw[aZ g m.cl m.n1 rfl ?_];lk;erw[hY c _ _ (V.ref D[q]) (fT rfl rfl (fk.of o.ch) (bX (by rw[jl,gy v];rfl)) ?_)];lk;obtain⟨C',dy,J,O,i2,i3,i4,_⟩:=I.inst G;erw[dJ O ⟨⟨_,i2⟩,rfl,rfl⟩ i4 ?_];refine hY (D[q]) dy J _ (mq rfl G O (λH3 s3=>?_))
    have nl:decide ((rows.getD q default).sh.kind<3)=false:=by
     have:=hI Z;exact j0 ()
    rw[nl];lk;exact k _ s3
   .exact absurd (f7 Y) e2
  .have e:¬(((2*(rows.getD q default).dep:Nat)):Int)<((2*dp:Nat):Int):=λz=>e (f7 z);erw[⟨rfl,?_,_,_,rfl⟩];have:q≠j:=λz=>e (by rw[z];lia)
   lia
open PySem L2 Shp Nm Tr Hs PySem.NumText
abbrev nS:=Hp->Addr->List Row->FS->Prop
def ad7(x:Str):Prop:=x.length<=100000/\True
def Vx(TR:nS):Sp:=λvs H Q _=>∃(x:Str) (rows:List Row),vs=[.str x]/\ad7 x/\parse (fx x)=.ok rows/\gx rows/\∀(t:Addr) (H':Hp) (a:FS),aO H H'->(∀b,a b->H b=none)->TR H' t rows a->Q (.ref t) H'
def s32:Str.ofString " "=⟨#[32]⟩:=by decide +kernel
def s35:Str.ofString "#"=⟨#[35]⟩:=by decide +kernel
def s10:Str.ofString "\n"=⟨#[10]⟩:=by decide +kernel
def M7:Sp:=λvs H Q _=>∃x:Str,vs=[.str x]/\x.length<=100000/\Q (.bl (gK (fx x))) H
def UJ(F:aI K "passed_over" "passed_over" qP dV f fd)(T:Txt mg):aC P w K mg dH (fw P w) true 1 f fd zi M7:=by
 erw[F.br vY λvs H Q E h=>?_];obtain⟨x,rfl,j,k⟩:=h
 refine⟨rfl,λb A dN s l=>⟨_,(aa (bq (i:=1) vY.nd (fg afN PySem.F.slot_str_lstrip PySem.F.type_str_lstrip vK (pv 0) (aj ar ag)))
   (af (av (VL (wx bQ (pv 1) ar) (lM (fg afN PySem.F.slot_str_startswith PySem.F.type_str_startswith A6 (pv 1) (aj ar ag))))))),?_⟩⟩
 fin2
 have a:=B8 x 32;lk;erw[⟨qd (),?_⟩];rw[s32];unfold gK at k;rw[<- a] at k;generalize Txt.lstripChars x ⟨#[32]⟩=y at k;lk;erw[bp (λe=>?_) (λe=>?_)]
 .have e:y="":=V.str.inj (hI e);subst e;exact k
 .have e:y≠"":=λz=>e (f7 (ix V.str z));lk;rw[s35,Lf];cases hy:fx y with
  |nil=>exact absurd (tJ hy) e
  |cons c r=>
   rw[hy] at k
   have g:decide ((c::r).head? =some 35)=(c==35):=by
    show decide (some c=some 35)=_;rw[L1,qj,S4,Option.some.injEq]
   rwa[g]
def N2(x:Str):(cK (fx x)).map ofC=(Txt.split x ⟨#[32]⟩).filter λy:Str=>decide (y≠""):=by
 unfold cK;rw[<- pP x ∅,List.filter_map,agF];have:(ofC∘fx)=id:=funext λy=>Q9 y;rw[this,List.map_id]
 congr 1
 funext y
 show(!(fx y).isEmpty)=_;rw[L1,qj,afU,List.isEmpty_eq_false_iff];exact⟨λz e=>z (by rw[e];rfl),λz e=>z (tJ e)⟩
def Ky:Sp:=λvs H Q _=>∃x:Str,vs=[.str x]/\x.length<=100000/\∀(q:Addr) (H':Hp),aO H H'->H q=none->H' q=some (.lst (((cK (fx x)).map ofC).map V.str))->Q (.ref q) H'
def Pt(F:aI K "words_in" "words_in" zL dV f fd)(T:Txt mg):aC P w K mg dH (fw P w) true 1 f fd HQ Ky:=by
 erw[F.br NV λvs H Q E h=>?_];obtain⟨x,rfl,D,k⟩:=h;erw[⟨rfl,λB A dN s G=>⟨_,(af (av (m9 (x:="word") (fr:=[]) (by exact⟨rfl,rfl,by decide +kernel,by decide +kernel,rfl,by decide +kernel,(by repeat (first|exact True.intro|refine⟨rfl,?_⟩)),by repeat (first|exact True.intro|refine⟨(by first|exact λ_=>⟨_,rfl⟩|(intro z;cases z)),?_⟩),(by repeat (first|exact True.intro|refine⟨⟨rfl,.inl rfl,rfl,rfl⟩,?_⟩))⟩) rfl (kP (fg afN PySem.F.slot_str_split PySem.F.type_str_split y6 (pv 0) (aj ar ag))) (λ_ _ _ _=>(Mu (Fx wu (pv 0) ar (FO _)))) (λ_ _ _ _=>(pv 0))))),?_⟩⟩]
 fin2
 rw[N2] at k;have u:=split_len x (c:=32) ∅;have bl:=Eg x 32;rw[s32];lk;generalize hys:Txt.split x ⟨#[32]⟩=ys at k u;erw[⟨qd (),rfl,qd (mf bl ()),qd (),λq C=>?_⟩];erw[⟨q,rfl,⟨_,fk.of ae⟩,?_⟩];have l:fk K (upd H q (.lst (ys.map V.str))) q (ys.map V.str):=fk.of ae;have m:aO H (upd H q (.lst (ys.map V.str))):=au C;generalize upd H q (.lst (ys.map V.str))=H1 at l m;erw[eZ (J:=Itl K q) (n:=ys.length) (λi g H'=>H'=H1/\g=((ys.take i).filter λy:Str=>decide (y≠"")).map V.str) ⟨rfl,rfl⟩ ?_ ?_ ?_ ?_]
 .rintro i g H' hi ⟨rfl,rfl⟩;exact⟨_,V.str ys[i],l,by rw[jl,gy hi];rfl⟩
 .rintro g H' ⟨rfl,rfl⟩;exact⟨_,l,by rw[gm];exact fC _⟩
 .rintro i g H' v H2 hi ⟨rfl,rfl⟩ ⟨rfl,j⟩;have j:=j _ l;rw[jl,gy hi] at j;obtain rfl:V.str ys[i]=v:=iH j;have t:((ys.take i).filter λy:Str=>decide (y≠"")).length<=ys.length:=mf (afG _ _) (by rw[XP];lia);lk;refine bp (λe=>?_) (λe=>?_)
  .have e:ys[i]≠"":=λz=>by rw[z] at e;exact absurd e ∅
   lk;erw[⟨by rw[gm,af7];lia,rfl,?_⟩];rw[aft,gy hi,YP,ni];show _=_++(List.filter _ [ys[i]]).map V.str;rw[afh,eE (f7 e)]
   rfl
  .have e:ys[i]="":=by
    by_cases z:ys[i]=""
    .exact z
    .exact absurd (by simpa using z) e
   erw[⟨rfl,?_⟩];rw[aft,gy hi,YP,ni];show _=_++(List.filter _ [ys[i]]).map V.str;rw[afh,er (λz:decide (ys[i]≠"")=true=>(hI z) e)];exact(su _).symm
 .rintro g H' ⟨rfl,rfl⟩;rw[afx];have t:(ys.filter λy:Str=>decide (y≠"")).length<=ys.length:=afG _ _;erw[⟨qd (by rw[gm];lia),λr a=>k r _ (λb o z=>au a _ _ (m _ _ z)) ?_ ae⟩];cases z:H r with
  |none=>rfl
  |some o=>rw[m _ _ z] at a;cases a
def OY:Sp:=λvs H Q _=>∃x:Str,vs=[.str x]/\x.length<=100000/\Q (.int ((lead (fx x):Nat):Int)) H
def U1(F:aI K "blanks_ahead" "blanks_ahead" nZ dV f fd)(T:Txt mg):aC P w K mg dH (fw P w) true 1 f fd xt OY:=by
 erw[F.br Fb λvs H Q E h=>?_];obtain⟨x,rfl,c,k⟩:=h;erw[⟨rfl,λb A dN s i=>⟨_,(af (av (aA CI (aQ nE (by rfl) T.fN cJ (aj (pv 0) ag)) (aQ nE (by rfl) T.fN cJ (aj (fg afN PySem.F.slot_str_lstrip PySem.F.type_str_lstrip vK (pv 0) (aj ar ag)) ag))))),?_⟩⟩]
 fin2
 have a:=B8 x 32;have g:=QU x ⟨#[32]⟩
 have e:(x.length:Int)-((Txt.lstripChars x ⟨#[32]⟩).length:Int)=((lead (fx x):Nat):Int):=by
  have h:=ix List.length (List.takeWhile_append_dropWhile (p:=(·==32)) (l:=fx x));rw[js,bC,<-a,bC] at h;unfold lead
  lia
 lk;erw[⟨qd (),?_⟩];lk;erw[⟨qd (),?_⟩];rw[s32];lk;erw[⟨qd (),?_⟩];lk;show Q (.int ((x.length:Int)-((Txt.lstripChars x ⟨#[32]⟩).length:Int))) H;rwa[e]
def W5(e:Addr)(p:Pl):Sp:=λvs H Q _=>∃(t x:Addr) (rows:List Row) (r:Row) (c b a d:Addr) (g:List Addr) (ab:V),vs=[.ref t,.ref x,.int ((2*r.dep:Nat):Int),ab]/\yw e p H t rows c b a d g/\p.rep H x r.sh/\rows.length<=1000∧
 ((rows=[]/\r.dep=0/\r.isM=true)\/(rows≠[]/\(∃j:Int,ab=.int j)/\r.dep<=8/\r.sh.name∉rows.map (·.sh.name)))/\∀H',aO H H'->Q (.bl true) H'
def Zb{u:Addr}{tB:Tok}(F:aI K "stands_well" "stands_well" rm dV f fd)(T:Txt mg)(O:CT K u)(D:∀j,p.pr j->CF K (p.c j))(I:If P w K mg dH 3 p.rep p.cl)(qz:mg "MOST_BLANKS"=some (.int 16 tB))
  (hN:aT P w K mg dH 1 "names" (Fn p) λC=>C=u):aC P w K mg dH (fw P w) true 4 f fd zg (W5 u p):=by
 erw[F.br Ih λvs H Q E y0=>?_];obtain⟨t,x,rows,r,c,b,a,d,as,ab,rfl,G,n,hl,hk,k⟩:=y0;have g:=hN.d
 have h:∀C s i,Dt (w6 p.rep) (λC=>∃j,p.cl j C) C s i->MethAt P w K mg dH (fw P w) true 3 "leaf" C s i:=by
  rintro C s i ⟨⟨j,z⟩,rfl,rfl⟩;exact I.leaf z
 refine⟨rfl,λZ A dN s S=>⟨_,(aa (aL (iw (QZ (Qn S)) (jd (pv 0) g) (bw ag)) (af (av (qk (wx bQ (pv 2) ah) (lM (QP (jd (pv 1) h)))))) ay)
   (af (av (qk (wx R6 (pv 3) ff) (qk (wx NU (pv 2) (uv (by rfl) qz)) (lM (acj (JX (Ku S) (aw (pv 1) rfl) (aw (pv 0) rfl))))))))),?_⟩⟩
 fin2
 obtain⟨dx,B⟩:=G.ob;obtain⟨r1,r2,al,r3⟩:=id n;have U:=D _ r2;lk;erw[dJ B ⟨rfl,rfl,rfl⟩ rfl ?_];erw[pf t rows c b a d as (mq rfl G hl (λq W s1 hq M=>?_))];lk;erw[⟨l8 ∅,λN v=>?_⟩];have L:=au (o:= .lst []) v;lk;erw[hY q N _ ([]) (l7 rfl rfl (fk.of (L _ _ M)) (fk.of ae) (Kc _) rfl ?_)];generalize upd W N (.lst [])=H2 at L;have l:aO H H2:=λb o z=>L _ _ (s1 _ _ z);erw[⟨_,rfl,?_⟩];rcases hk with⟨rfl,Y,hm⟩|⟨hn,⟨j,rfl⟩,h8,y⟩
 .refine bp (λe=>?_) (λe=>absurd rfl e);lk;rw[Y];erw[bp (λe2=>?_) (λe2=>absurd (f7 rfl) e2)];lk;obtain⟨C',dy,J,R,i2,i3,i4,_⟩:=I.inst (I.mono l n);erw[dJ R ⟨⟨_,i2⟩,rfl,rfl⟩ i4 ?_];refine hY x dy J _ (mq rfl (I.mono l n) R (λH3 s3=>?_))
  have nl:decide (r.sh.kind<3)=false:=by
   have:=hI hm;exact j0 ()
  rw[nl];lk;exact k _ (λb o z=>s3 _ _ (l _ _ z))
 .refine bp (λe=>?_) (λe=>?_)
  .have e:Ep ((namesOf rows).map V.str) []=true:=e;cases rows with
   |nil=>exact absurd rfl hn
   |cons r0 rs=>exact absurd e (by show ¬(false=true);decide)
  .have T2:=G.same l;obtain⟨ad,m⟩:=T2.ob;obtain⟨_,_,ac,X⟩:=Pl.mono l n
   have dg:qE H2 d (V.str r.sh.name) none:=by
    have:=qE.k (k:= .inr r.sh.name) T2.pl;rw[Ec y] at this;exact this
   lk;erw[bp (λe2=>?_) (λe2=>absurd (f7 (show((2*r.dep:Nat):Int)<=16 by lia)) e2)];lk;erw[aZ X U.cl U.n1 (Fs _) ?_];lk;erw[aZ m O.cl O.n4 rfl ?_];lk;exact⟨d,none,rfl,dg,k _ l⟩
theorem LR(c:Nat):∀l:List Nat,∀y∈ot c l,y.length<=l.length
 |[],y,h=>by
  rw[ZR,ro] at h;rw[h];exact fC _
 |a::r,y,h=>by
  rw[vL] at h;by_cases e:a=c
  .rw[eE e] at h;rcases ti.mp h with rfl|h
   .exact vr _
   .exact mf (LR c r y h) (af8 _)
  .rw[er e] at h;have b:=LR c r;cases hz:ot c r with
   |nil=>exact absurd hz (Pc c r)
   |cons u v=>
    rw[hz] at h b;rcases ti.mp h with rfl|h
    .exact ahz (b u ov)
    .exact mf (b y (ri _ h)) (af8 _)
def Zq{x y:Str}(h:y∈(cK (fx x)).map ofC):y.length<=x.length:=by
 obtain⟨l,a,rfl⟩:=C0.mp h;have:=LR 32 (fx x) l (afP.mp a).1;rwa[<- bC,Cd,<-bC]
def JS(g:Addr)(p:Pl):Sp:=λvs H Q _=>∃(t:Addr) (x:Str) (n:Int) (rows:List Row) (r:Row) (c b a d:Addr) (h:List Addr),vs=[.ref t,.str x,.int n]/\yw g p H t rows c b a d h/\OkP rows/\rows.length<64/\x.length<=100000/\rg (fx x)=some r∧
 fits (b6 rows rows.length) rows.length r/\r.sh.name∉rows.map (·.sh.name)/\∀(H':Hp) (y:Addr),(∀e u,e≠c->e≠b->e≠a->e≠d->H e=some u->H' e=some u)->H y=none->yw g p H' t (rows++[r]) c b a d (h++[y])->Q .non H'
def QG{D:Addr}{tR:Tok}(F:aI K "take_row" "take_row" oK dV f fd)(T:Txt mg)(hc:CT K D)(xh:mg "MOST_ROWS"=some (.int 64 tR))(hN:aT P w K mg dH 1 "names" (Fn p) λC=>C=D)(hA:aT P w K mg dH 4 "minder_above" (Rk p) λC=>C=D)
  (hK:aT P w K mg dH 1 "take" (XE p) λC=>C=D) (zG:jm P w K mg dH true 7 "child_in" (DS K p none) []) (AH:jm P w K mg dH true 1 "words_in" Ky []) (oj:jm P w K mg dH true 1 "blanks_ahead" OY [])
  (qX:jm P w K mg dH true 4 "stands_well" (W5 D p) []):aC P w K mg dH (fw P w) true 8 f fd Gy (JS D p):=by
 erw[F.br qg λvs H Q E y0=>?_];obtain⟨t,x,n,rows,r,c,b,a,d,S,rfl,hT,hO,an,W,X,R,J,k⟩:=y0;erw[⟨rfl,λU A dN s hr=>?_⟩];obtain⟨ld,al⟩:=W7 X;have h:=hN.d;have g:=hA.d;have l:=hK.d;have wl:∀y∈(cK (fx x)).map ofC,y.length<=100000:=λy hy=>mf (Zq hy) W
 have t3:∃tt,qx (vi true (fw P w) P w K mg dH HJ "take_row" (ak oK) f U A dN s H E).i1 ((cB oK).drop 3) tt/\∀(y:Addr) (ab:V) (G:Hp),aO H G->H y=none->p.rep G y r.sh->ab=(if rows.length=0 then V.non else V.int (cA (rows++[r]) rows.length))→
   ((rows=[]/\r.dep=0/\r.isM=true)\/(rows≠[]/\(∃j:Int,ab=.int j)/\r.dep<=8/\r.sh.name∉rows.map (·.sh.name)))->tt {nx:=λ_ H'=>Q .non H',rt:=Q} [some (.ref t),some (.str x),some (.int n),some (.ref y),some (.int ((2*r.dep:Nat):Int)),some ab] G:=by
  refine⟨_,(aa (aL (PW.pt (ze (iw CY (pv 3) ff) (xJ (fD (bM (cb qX (aj (pv 0) (aj (pv 3) (aj (pv 4) (aj (pv 5) ag)))))))))) (af vX) ay)
   (aa (aL (iw bQ (aQ aP (by rfl) T.fN cJ (aj (jd (pv 0) h) ag)) (uv (by rfl) xh)) (af vX) ay)
   (af (aB (nt (pv 0) l (aj (pv 3) (aj (pv 4) (aj (pv 5) ag)))))))),?_⟩
  fin2
  intro y ab G N hy M ac hw;have T3:=hT.same N;have Z:rows.length<=1000:=by lia
  lk;erw[Zl t y rows r c b a d S ab (rz rfl T3 M Z hw (λH4 Y=>?_))];have T4:=T3.same Y;obtain⟨am,L⟩:=T4.ob;lk;erw[dJ L ⟨rfl,rfl,rfl⟩ rfl ?_];erw[pf t rows c b a d S (mq rfl T4 Z (λq H5 s5 hq B=>?_))];have T5:=T4.same s5;obtain⟨ap,O⟩:=T5.ob;lk;erw[iE q _ (mE rfl (.inl (fk.of B)) ?_)];lk;erw[bp (λe=>?_) (λe=>?_)]
  .have e:=V.int.inj (hI e);rw[gm] at e;have:(namesOf rows).length=rows.length:=gm _
   lia
  erw[jx rfl (dJ O ⟨rfl,rfl,rfl⟩ rfl ?_)];erw[jx rfl (jx rfl (jx rfl (Zl t y rows r c b a d S ab (l7 rfl T5 (Pl.mono s5 (Pl.mono Y M)) Z J ac (λH6 k6 T6=>?_)))))];exact k H6 y (λe u n1 n2 n3 n4 z=>k6 e u n1 n2 n3 n4 (s5 _ _ (Y _ _ (N _ _ z)))) hy T6
 obtain⟨tt,ht,hn⟩:=t3
 refine⟨_,(aa (bq (i:=3) qg.nd (cb zG (aj (cb AH (aj (pv 1) ag)) ag)))
   (aa (bq (i:=4) qg.nd (cb oj (aj (pv 1) ag)))
   (aa (bq (i:=5) qg.nd (nt (pv 0) g (aj (pv 4) ag)))
   ht))),?_⟩
 fin2
 lk;erw[⟨W,λq H1 s1 hq B=>?_⟩];lk;erw[pw q _ r.sh (l7 rfl (fk.of B) al (λz=>(by cases z)) (λz=>(by cases z)) wl (λy H2 s2 ad M=>?_))];lk;erw[⟨W,?_⟩];rw[ld];have v:aO H H2:=λb o z=>s2 _ _ (s1 _ _ z);have T2:=hT.same v;obtain⟨ax,I⟩:=T2.ob;have yn:H y=none:=jG s1 ad;lk;erw[dJ I ⟨rfl,rfl,rfl⟩ rfl ?_];erw[jx rfl (ex8 t rows c b a d S r.dep (mq rfl T2 () ?_))];by_cases m:rows=[]
 .have hf0:r.dep=0/\r.isM=true:=by
   unfold fits at R;rw[eE (by rw[m];rfl)] at R;exact R
  exact .inl ⟨m,hn y _ H2 v yn M (by rw[eE (by rw[m];rfl)]) (.inl ⟨m,hf0⟩)⟩
 .obtain ⟨j,j1,j2,j3,j4,j5,j6⟩:=Y5 hO m R;erw[.inr ⟨j,j1,j2,j3,j4,λG N=>?_⟩];exact hn y _ G (λb o z=>N _ _ (v _ _ z)) yn (Pl.mono N M) (by rw[er (λz=>m (afH.mp z)),j6]) (.inr ⟨m,⟨_,rfl⟩,j5,J⟩)
def m8(i:Addr)(p:Pl):nS:=λH t rows h=>∃(c b a d:Addr) (g:List Addr),yw i p H t rows c b a d g/\h=λe=>e=t\/e=c\/e=b\/e=a\/e=d\/e∈g
def YK{G:Addr}(F:aI K "read" "read" PZ dV f fd)(T:Txt mg)(hc:CT K G)(QN:Mak P w K mg dH true 1 "Tree" G (FG G p) [])(hN:aT P w K mg dH 1 "names" (Fn p) λC=>C=G)
  (qJ:jm P w K mg dH true 1 "passed_over" M7 []) (zY:jm P w K mg dH true 8 "take_row" (JS G p) []):aC P w K mg dH (fw P w) true 9 f fd XZ (Vx (m8 G p)):=by
 erw[F.br Fp λvs H Q E y0=>?_];obtain⟨x,l,rfl,⟨hx,_⟩,U,hO,k⟩:=y0;have j:=hN.d
 refine⟨rfl,λaG A dN s hr=>⟨_,(aa (bq (i:=1) Fp.nd (YF QN (hr.mono (by omega)) (by rfl) cq))
   (aa (oH afv rfl (X3 (by rfl) T.DZ (aj (fg afN PySem.F.slot_str_split PySem.F.type_str_split y6 (pv 0) (aj ar ag)) ag)) (PL rfl (k7 (c9 (i:=2) Fp.nd rfl (by first|exact Or.inl rfl|exact Or.inr rfl)) (k7 (c9 (i:=3) Fp.nd rfl (by first|exact Or.inl rfl|exact Or.inr rfl)) Mm))) (af (aL (fD (bM (cb qJ (aj (pv 3) ag)))) (af (aB (cb zY (aj (pv 1) (aj (pv 3) (aj (pv 2) ag)))))) ay)))
   (aa (aL (iw (QZ (Qn hr)) (jd (pv 1) j) (bw ag)) (af vX) ay)
   (af (av (pv 1)))))),?_⟩⟩
 fin2
 unfold parse at U;rw[<- pP x ∅] at U;have sl:=split_len x (c:=10) ∅;have bl:=Eg x 10
 have le:∀y∈Txt.split x ⟨#[10]⟩,y.length<=100000:=λy D=>by
  have:=LR 10 (fx x) (fx y) (by rw[<- pP x ∅];exact C0.mpr ⟨y,D,rfl⟩);rw[bC,bC] at this
  lia
 lk;intro t dx n1 n2 n3;erw[pw t dx H (rz rfl n1 n2 n3 rfl (λR c b a d s1 f1 f2 f3 f4 N=>⟨rfl,?_⟩))];lk;rw[s10];generalize Txt.split x ⟨#[10]⟩=lns at U sl le;erw[⟨qd (),rfl,qd (mf bl ()),qd (),λq m=>?_⟩];lk;have X:(upd R q (.lst (lns.map V.str))) q=some (.lst (lns.map V.str)):=ae;have s2:aO R (upd R q (.lst (lns.map V.str))):=au m;generalize upd R q (.lst (lns.map V.str))=H2 at X s2;erw[⟨⟨_,fk.of X⟩,?_⟩];have W:q≠c/\q≠b/\q≠a/\q≠d:=⟨λz=>(by rw[z,N.ch] at m;cases m),λz=>(by rw[z,N.bl] at m;cases m),λz=>(by rw[z,N.ab] at m;cases m),λz=>(by rw[z,N.pl] at m;cases m)⟩
 refine tY (n:=lns.length) (λi S H'=>H' q=some (.lst (lns.map V.str))/\aO H H'/\∃(g:List Row) (B:List Addr) (Y v3:Option V),yw G p H' t g c b a d B/\OkP g/\g.length<=64/\scan g i ((lns.drop i).map fx)=.ok l/\(∀y∈B,H y=none)/\S=[some (.str x),some (.ref t),Y,v3])
  ⟨X,λe u z=>s2 _ _ (s1 _ _ z),[],[],none,none,N.same s2,λi J=>absurd J (afm _),vr _,U,λy D=>(by cases D),rfl⟩ ?_ ?_ ?_
 .rintro i S H' J ⟨z,_⟩;exact⟨_,V.str lns[i],fk.of z,by rw[jl,gy J];rfl⟩
 .rintro i S H' v H3 J ⟨z1,z2,g,B,Y,v3,Tp,Op,l64,sc,fr,rfl⟩ ⟨q3,y,hq3,rfl,D,rfl⟩;have D:=D _ (fk.of z1);rw[jl,gy J] at D;obtain rfl:V.str lns[i]=y:=iH D;have M:=au (o:= .tup [.int ((1+i:Nat):Int),V.str lns[i]]) hq3;erw[iE q3 _ (mq rfl (l5.of ae) rfl ?_)];have dr:(lns.drop i).map fx=fx lns[i]::(lns.drop (i+1)).map fx:=by rw[agk J,M0]
  rw[dr] at sc;have lx:=le lns[i] (M5 J);have T3:=Tp.same M;lk;erw[⟨lx,?_⟩];rcases TV sc with⟨L,I⟩|⟨L,r,am,O,Z,aK,I⟩
  .rw[L];lk;exact⟨M _ _ z1,λe u z=>M _ _ (z2 _ _ z),g,B,_,_,T3,Op,l64,I,fr,rfl⟩
  .rw[L];lk;erw[Zl t (lns[i]) _ g r c b a d B (an9 rfl T3 Op () lx am O Z (λH4 y k4 an T4=>?_))];refine⟨k4 _ _ W.1 W.2.1 W.2.2.1 W.2.2.2 (M _ _ z1),λe u z=>?_,g++[r],B++[y],_,_,T4,Op.snoc O,by rw[js];show g.length+1<=64;lia,I,λy' ad=>?_,rfl⟩
   .exact k4 e u (aq z f1) (aq z f2) (aq z f3) (aq z f4) (M _ _ (z2 _ _ z))
   .rcases wH.mp ad with h|h
    .exact fr y' h
    .rw[ro.mp h];exact jG (λe u z=>M _ _ (z2 _ _ z)) an
 .rintro S H' ⟨z1,z2,g,B,Y,v3,Tp,Op,l64,sc,fr,rfl⟩;rw[List.drop_length] at sc;obtain⟨al,rfl⟩:=Xt sc;obtain⟨aN,ac⟩:=Tp.ob;erw[⟨⟨_,fk.of z1,by rw[gm];exact fC _⟩,?_⟩];lk;erw[dJ ac ⟨rfl,rfl,rfl⟩ rfl ?_];erw[pf t l c b a d B (mq rfl Tp () (λq5 H5 s5 aF ax=>?_))];lk;erw[⟨l8 ∅,λq6 ap=>?_⟩];have s6:=au (o:= .lst []) ap;lk;erw[hY q5 q6 _ ([]) (l7 rfl rfl (fk.of (s6 _ _ ax)) (fk.of ae) (Kc _) rfl ?_)];erw[⟨_,rfl,?_⟩];refine bp (λe=>?_) (λe=>?_)
  .have e:Ep ((namesOf l).map V.str) []=true:=e;cases l with
   |nil=>exact absurd rfl al
   |cons r0 rs=>exact absurd e (by show ¬(false=true);decide)
  .lk;erw[k t _ _ (λe u z=>s6 _ _ (s5 _ _ (z2 _ _ z))) (λe he=>?_) ⟨c,b,a,d,B,(Tp.same s5).same s6,rfl⟩];rcases he with rfl|rfl|rfl|rfl|rfl|he
   .exact n1
   .exact f1
   .exact f2
   .exact f3
   .exact f4
   .exact fr _ he
end
open PySem L2 Shp Nm Tr Hs Hm Hr PySem.NumText
abbrev yF:List Str:=["self","child"]
abbrev hJ:List Str:=["self","child"]
def wJ:ao yF hJ (ak gN):=by kt_ors
abbrev A0:List Str:=["self"]
abbrev jN:List Str:=["self"]
def Ap:ao A0 jN (ak jQ):=by kt_ors
abbrev rV:List Str:=["self","child"]
abbrev eO:List Str:=["self","child"]
def rn:ao rV eO (ak eT):=by kt_ors
abbrev xu:List Str:=["self","clock"]
abbrev fQ:List Str:=["self","clock"]
def vy:ao xu fQ (ak fU):=by kt_ors
abbrev yv:List Str:=["self"]
abbrev gX:List Str:=["self"]
def xQ:ao yv gX (ak hX):=by kt_ors
abbrev rR:List Str:=["self","clock"]
abbrev eK:List Str:=["self","clock"]
def qF:ao rR eK (ak eF):=by kt_ors
abbrev sG:List Str:=["self"]
abbrev iZ:List Str:=["self"]
def qM:ao sG iZ (ak eN):=by kt_ors
abbrev yu:List Str:=["self","word"]
abbrev gM:List Str:=["self"]
def k9:ao yu gM (ak gP):=by kt_ors
abbrev pJ:List Str:=["self","child"]
abbrev dh:List Str:=["self","child"]
def oJ:ao pJ dh (ak du):=by kt_ors
abbrev rD:List Str:=["self"]
abbrev eC:List Str:=["self"]
def ig:ao rD eC (ak cC):=by kt_ors
abbrev vE:List Str:=["self","standing"]
abbrev kg:List Str:=["self","standing"]
def uk:ao vE kg (ak fE):=by kt_ors
abbrev ue:List Str:=["self","clock"]
abbrev eV:List Str:=["self","clock"]
def sg:ao ue eV (ak eW):=by kt_ors
abbrev pI:List Str:=["self","clock"]
abbrev dj:List Str:=["self","clock"]
def oo:ao pI dj (ak dq):=by kt_ors
abbrev qW:List Str:=["self"]
abbrev ib:List Str:=["self"]
def o9:ao qW ib (ak dY):=by kt_ors
abbrev qv:List Str:=["self"]
abbrev ij:List Str:=["self"]
def pj:ao qv ij (ak dU):=by kt_ors
abbrev vF:List Str:=["self"]
abbrev fF:List Str:=["self"]
def ux:ao vF fF (ak fB):=by kt_ors
abbrev nP:List Str:=["self"]
abbrev fP:List Str:=["self"]
def nA:ao nP fP (ak cW):=by kt_ors
abbrev oy:List Str:=["self","left"]
abbrev fW:List Str:=["self"]
def fM:ao oy fW (ak cZ):=by kt_ors
section
variable{P:Program}{w:World}{K:PySem.W.Frag}{mg:Str->Option Value}{dH:Heap}{f:Addr}{fd:FuncData}{dV:Value}{R:Rep}{TR:Hr.nS}{ei:HC}{T:List Row}{L:Lo}{D:Dy}
structure CS(K:PySem.W.Frag)(C:Addr):Prop where
 cl:tW K C
 child:aY K C "child"
 state:aY K C "state"
 asked:aY K C "asked"
 zZ:aY K C "minder"
 place:aY K C "place"
 tS:aY K C "minded"
 Hv:aY K C "begun_at"
 steps:aY K C "steps"
 Lv:aY K C "needed"
 Fj:aY K C "granted"
 aG:aY K C "falls"
 good:aY K C "good"
 waiting:aY K C "waiting"
 leaving:aY K C "leaving"
 bU:aY K C "coming"
 Ff:aY K C "gave_up"
theorem BW(d:Nd)(i:Nat):(mu T L D d i).lookup ("child":Str)=some (.ref (L.ch i)):=rfl
theorem Va(d:Nd)(i:Nat):(mu T L D d i).lookup ("state":Str)=some (.str d.st):=rfl
theorem G7(d:Nd)(i:Nat):(mu T L D d i).lookup ("asked":Str)=some (.bl d.asked):=rfl
theorem GD(d:Nd)(i:Nat):(mu T L D d i).lookup ("minder":Str)=some (tw T L i):=rfl
theorem xp(d:Nd)(i:Nat):(mu T L D d i).lookup ("place":Str)=some (.int ((hH T i:Nat):Int)):=rfl
theorem U3(d:Nd)(i:Nat):(mu T L D d i).lookup ("minded":Str)=some (.ref (L.mi i)):=rfl
def RX{i:Nat}(h:fm T i=true)(d:Nd):mu T L D d i=pE T L d i++fsL d:=by
 unfold mu;rw[h]
 rfl
def yg{i:Nat}(h:fm T i=false)(d:Nd):mu T L D d i=pE T L d i++rx (D.fa i) (D.wa i) d:=by
 unfold mu;rw[h]
 rfl
def aeq(x y:Str):decide (V.str x=V.str y)=decide (x=y):=by
 by_cases h:x=y
 .rw[h,f7 rfl,f7 rfl]
 .rw[j0 h,j0 (λz=>h (V.str.inj z))]
def uI(R:Rep)(TR:Hr.nS)(ei:HC)(C:Addr):Sp:=λvs H Q _=>∃(T:List Row) (L:Lo) (a:FS) (D:Dy) (S:HS) (i:Nat),vs=[.ref (L.nd i)]/\Rp R TR ei T L a D S H/\i<T.length/\bu ei T i=C/\Q (.bl (cg S i)) H
def NQ(F:aI K "is_off" "Standing.is_off" jQ dV f fd){C:Addr}(a:CS K C):aC P w K mg dH (fw P w) true 1 f fd jN (uI R TR ei C):=by
 erw[F.br Ap λvs H Q E b=>?_];obtain⟨T,L,j,D,S,i,rfl,h,c,rfl,k⟩:=b;erw[⟨rfl,λe A dN s l=>⟨_,(af (av (wx bQ (aw (pv 0) rfl) ar))),?_⟩⟩]
 fin2
 have g:=h.cells (.nd i) c;lk;erw[aZ g a.cl a.state (Va _ _) ?_];lk;rwa[aeq]
def je(R:Rep)(TR:Hr.nS)(ei:HC)(b:Bool)(more:List Row->HS->Nat->List V->Prop)(next:List Row->Nat->HS->HS)(a:List Row->HS->Nat->V)(C:Addr):Sp:=λvs H Q _=>∃(T:List Row) (L:Lo) (c:FS) (D:Dy) (S:HS) (i:Nat) (us:List V),vs=.ref (L.nd i)::us/\more T S i us/\Rp R TR ei T L c D S H/\i<T.length∧
 fm T i=b/\bu ei T i=C/\∀D' H',Goes R TR ei T L c D H D' (next T i S) H'->Q (a T S i) H'
def tT:List Row->HS->Nat->List V->Prop:=λ_ _ _ us=>us=[]
def Ef:List Row->HS->Nat->List V->Prop:=λ_ S _ us=>us=[.int S.clk]
def nR:List Row->HS->Nat->V:=λ_ _ _=>.non
def nv{H:Hp}{S:HS}{c:FS}{i:Nat}(h:Rp R TR ei T L c D S H)(b:i<T.length)(a:fm T i=true):H (L.nd i)=some (.ins (bu ei T i) (L.dn i) (pE T L (S.nd i) i++fsL (S.nd i))):=by
 have:=h.cells (.nd i) b;rwa[<- RX (D:=D) a]
def bh{H:Hp}{S:HS}{c:FS}{i:Nat}(h:Rp R TR ei T L c D S H)(b:i<T.length)(a:fm T i=false):H (L.nd i)=some (.ins (bu ei T i) (L.dn i) (pE T L (S.nd i) i++rx (D.fa i) (D.wa i) (S.nd i))):=by
 have:=h.cells (.nd i) b;rwa[<- yg (D:=D) a]
def yo{H:Hp}{S:HS}{b:FS}{i:Nat}(a:jE TR)(h:Rp R TR ei T L b D S H)(c:i<T.length)(j:fm T i=true)(g:Nd->Nd)(e:(g (S.nd i)).aG=(S.nd i).aG)(l:(g (S.nd i)).wait=(S.nd i).wait):
  Goes R TR ei T L b D H D (up S i g) (upd H (L.nd i) (.ins (bu ei T i) (L.dn i) (pE T L (g (S.nd i)) i++fsL (g (S.nd i))))):=by
 have:=h.node a c g e l;rw[RX j] at this;exact this
def kJ{H:Hp}{S:HS}{b:FS}{i:Nat}(a:jE TR)(h:Rp R TR ei T L b D S H)(c:i<T.length)(j:fm T i=false)(g:Nd->Nd)(e:(g (S.nd i)).aG=(S.nd i).aG)(l:(g (S.nd i)).wait=(S.nd i).wait):
  Goes R TR ei T L b D H D (up S i g) (upd H (L.nd i) (.ins (bu ei T i) (L.dn i) (pE T L (g (S.nd i)) i++rx (D.fa i) (D.wa i) (g (S.nd i))))):=by
 have:=h.node a c g e l;rw[yg j] at this;exact this
def UA(c:jE TR)(F:aI K "begin" "LeafStanding.begin" fU dV f fd){C:Addr}(a:CS K C):aC P w K mg dH (fw P w) true 1 f fd fQ (je R TR ei true Ef nX nR C):=by
 erw[F.br vy λvs H Q E j=>?_];obtain⟨T,L,n,D,S,i,us,rfl,rfl,h,e,b,rfl,k⟩:=j
 refine⟨rfl,λl A dN s o=>⟨_,(aa (aH (pv 0) ar rfl)
   (aa (aH (pv 0) eo rfl)
   (aa (aH (pv 0) (pv 1) rfl)
   (af (aH (pv 0) ah rfl))))),?_⟩⟩
 fin2
 have m:=nv h e b;lk;erw[bV m a.cl a.state (by show 10<1000;decide) ?_];lk;erw[bV ae a.cl a.asked (by show 10<1000;decide) ?_];rw[aU];lk;erw[bV ae a.cl a.Hv (by show 10<1000;decide) ?_];rw[aU];lk;erw[bV ae a.cl a.steps (by show 10<1000;decide) ?_];rw[aU];have g:=yo c h e b (λd=>if fm T i then {d with st:="on",asked:=false,beg:=S.clk,steps:=0} else forget {d with st:="on",asked:=false}) (by rw[b];rfl) (by rw[b];rfl);erw[k D _ ?_];rw[b] at g;unfold nX;rwa[b]
def VC(p:jE TR)(r:∀{H:Hp} {a:Addr} {s:Sh},R H a s->∃m B fs,H a=some (.ins m B fs)/\CF K m/\(s.kind<3->fs.lookup ("grace":Str)=some (.int s.ba)/\fs.lookup ("slow":Str)=some (.int s.bZ)))
  (F:aI K "tell" "LeafStanding.tell" hX dV f fd) {C:Addr} (b:CS K C):aC P w K mg dH (fw P w) true 1 f fd gX (je R TR ei true tT bB nR C):=by
 erw[F.br xQ λvs H Q E v=>?_];obtain⟨T,L,O,D,S,i,us,rfl,rfl,h,e,c,rfl,k⟩:=v
 refine⟨rfl,λt A dN s U=>⟨_,(aa (aH (pv 0) ar rfl)
   (aa (aH (pv 0) eo rfl)
   (aa (aH (pv 0) (aw (aw (pv 0) rfl) rfl) rfl)
   (af (aH (pv 0) (aw (aw (pv 0) rfl) rfl) rfl))))),?_⟩⟩
 fin2
 have I:=nv h e c;obtain⟨N,n,u⟩:=h.ch i e;obtain⟨m,J,M,z,l,G⟩:=r (u H n);obtain⟨x,y⟩:=G (hI c);have q:L.ch i≠L.nd i:=Ne.symm ((h.far (.nd i) e).2.1 i e).2;have j:∀o,(upd H (L.nd i) o) (L.ch i)=some (.ins m J M):=λo=>by rwa[ai q]
 lk;erw[bV I b.cl b.state (by show 10<1000;decide) ?_];lk;erw[bV ae b.cl b.asked (by show 10<1000;decide) ?_];rw[aU];lk;erw[aZ ae b.cl b.child rfl ?_];lk;erw[aZ (j _) l.cl l.n4 y ?_];lk;erw[bV ae b.cl b.Lv (by show 10<1000;decide) ?_];rw[aU];lk;erw[aZ ae b.cl b.child rfl ?_];lk;erw[aZ (j _) l.cl l.n3 x ?_];lk;erw[bV ae b.cl b.Fj (by show 10<1000;decide) ?_];rw[aU];have g:=yo p h e c (λd=>if fm T i then {d with st:="told",asked:=true,need:=(sh T i).bZ,eQ:=(sh T i).ba} else goDown T i {d with asked:=true}) (by rw[c];rfl) (by rw[c];rfl);erw[k D _ ?_];rw[c] at g;unfold bB;rwa[c]
def Tq(n:aT P w K mg dH 1 "is_off" (uI R TR ei) λC=>C=ei.cL\/C=ei.cM)(F:aI K "steps_at" "LeafStanding.steps_at" eF dV f fd){C:Addr}(q:C=ei.cL)(c:CS K C)(l:jE TR):aC P w K mg dH (fw P w) true 2 f fd eK (je R TR ei true Ef (λ_ _ S=>S) (λT S i=>.bl (bR T i S)) C):=by
 erw[F.br qF λvs H Q E j=>?_];obtain⟨T,L,p,D,S,i,us,rfl,rfl,h,e,b,o,k⟩:=j;have a:=n.d;erw[⟨rfl,λm A dN s r=>⟨_,(af (av (qk (QP (jd (pv 0) a)) (lM (wx oW (aw (pv 0) rfl) (pv 1)))))),?_⟩⟩]
 fin2
 subst o;have g:=nv h e b;have k:Q (.bl (bR T i S)) H:=k D H (Goes.refl h);unfold bR at k;rw[b,afB] at k;lk;erw[kb (L.nd i) _ _ _ _ ([]) (fT rfl g ⟨.inl q,rfl,rfl⟩ rfl ?_)];erw[kb T L p D S i (fT rfl h e rfl ?_)];cases ho:cg S i with
 |true=>
  rw[ho] at k;lk;exact k
 |false=>
  rw[ho] at k;lk;erw[aZ g c.cl c.Hv rfl ?_];lk;exact k
def P4(F:aI K "told_end" "LeafStanding.told_end" eN dV f fd){C:Addr}(a:CS K C):aC P w K mg dH (fw P w) true 1 f fd iZ (je R TR ei true tT (λ_ _ S=>S) (λ_ S i=>.str (dP (S.nd i))) C):=by
 erw[F.br qM λvs H Q E c=>?_];obtain⟨T,L,m,D,S,i,us,rfl,rfl,h,g,j,rfl,k⟩:=c
 refine⟨rfl,λl A dN s n=>⟨_,(aa (aL (iw bQ (aw (pv 0) rfl) ah) (af (av ar)) ay)
   (af (av (nO (iw bQ (aw (pv 0) rfl) ah) ar ar)))),?_⟩⟩
 fin2
 have b:=nv h g j;have k:Q (.str (dP (S.nd i))) H:=k D H (Goes.refl h);unfold dP at k;lk;erw[aZ b a.cl a.Lv rfl ?_];lk;erw[bp (λe=>?_) (λe=>?_)]
 .have e:(S.nd i).need=0:=V.int.inj (hI e);rw[eE e] at k;exact k
 .have e:¬(S.nd i).need=0:=λz=>e (f7 (ix V.int z));rw[er e] at k;lk;erw[aZ b a.cl a.Fj rfl ?_];lk;refine bp (λe2=>?_) (λe2=>?_)
  .have e2:(S.nd i).eQ=0:=V.int.inj (hI e2);rw[eE e2] at k;exact k
  .have e2:¬(S.nd i).eQ=0:=λz=>e2 (f7 (ix V.int z));rw[er e2] at k;exact k
def X2(j:jE TR){y:Addr->Prop}(u:∀{H:Hp} {a:Addr} {s:Sh},R H a s->∃r Z fs,H a=some (.ins r Z fs)/\(s.kind<3->y r)/\fs.lookup ("end_at":Str)=none)
  (hE:aT P w K mg dH 3 "end_at" (JW R) y) (U:aT P w K mg dH 1 "told_end" (je R TR ei true tT (λ_ _ S=>S) (λ_ S i=>.str (dP (S.nd i)))) λC=>C=ei.cL)
  (F:aI K "step" "LeafStanding.step" gP dV f fd) {C:Addr} (X:C=ei.cL) (g:CS K C):aC P w K mg dH (fw P w) true 4 f fd gM (je R TR ei true (λT S i us=>us=[]/\((S.nd i).st≠"told"->0<=(S.nd i).steps/\((sh T i).kind≠0->(S.nd i).steps<=(sh T i).many))) (λT i S=>(cu T i S).2) (λT S i=>.str (cu T i S).1) C):=by
 erw[F.br k9 λvs H Q E O=>?_];obtain⟨T,L,B,D,S,i,us,rfl,⟨rfl,o⟩,h,n,m,e0,k⟩:=O;have b:=U.d;have c:=hE.d
 refine⟨rfl,λab A dN s hr=>⟨_,(aa (aL (iw bQ (aw (pv 0) rfl) ar) (aa (yi (pv 0) ah Vh)
   (aa (yi (pv 0) ah Vh)
   (af (av (jd (pv 0) b))))) ay)
   (aa (bq (i:=1) k9.nd (nt (aw (pv 0) rfl) c (aj (aw (pv 0) rfl) ag)))
   (aa (yi (pv 0) ah WV)
   (af (av (pv 1)))))),?_⟩⟩
 fin2
 subst e0;have q:=nv h n m;have k:∀D' H',Goes R TR ei T L B D H D' (cu T i S).2 H'->Q (.str (cu T i S).1) H':=k;unfold cu at k;lk;erw[aZ q g.cl g.state rfl ?_];lk;erw[bp (λe=>?_) (λe=>?_)]
 .have e:(S.nd i).st="told":=V.str.inj (hI e);rw[eE e] at k;lk;erw[aZ q g.cl g.Lv rfl ?_];lk;erw[⟨_,_,q,by show 10<1000;decide,?_⟩];lk;erw[aZ ae g.cl g.Fj rfl ?_];lk;erw[⟨_,_,ae,by show 10<1000;decide,?_⟩];rw[aU];have v:=yo j h n m (λd=>{d with need:=d.need-1,eQ:=d.eQ-1}) rfl rfl;have l:=nv v.rp n m;lk;erw[kb (L.nd i) _ _ _ _ ([]) (fT rfl l ⟨X,rfl,rfl⟩ rfl ?_)];exact⟨T,L,B,D,_,i,[],rfl,rfl,v.rp,n,m,rfl,λY W g2=>k Y W (v.trans g2)⟩
 .have e:¬(S.nd i).st="told":=λz=>e (f7 (ix V.str z));obtain⟨o,t⟩:=o e;rw[er e] at k;obtain⟨oc,p,x⟩:=h.ch i n;obtain⟨r,J,M,G,c2,c3⟩:=u (x H p);lk;erw[aZ q g.cl g.child rfl ?_];lk;erw[kb (L.ch i) r J M _ ([]) (fT rfl G ⟨c2 (hI m),rfl,rfl⟩ c3 ?_)];lk;erw[aZ q g.cl g.steps rfl ?_];erw[pq (L.ch i) J M (sh T i) _ (l7 rfl (x H p) G (hI m) o t (λH1 I=>?_))];have N:=h.same j I;have l:=nv N n m;lk;erw[aZ l g.cl g.steps rfl ?_];lk;erw[⟨_,_,l,by show 10<1000;decide,?_⟩];lk;exact k D _ ((Goes.same j h I).trans (yo j N n m (λd=>{d with steps:=d.steps+1}) rfl rfl))
def J4(S:HS)(i:Nat)(g g':Nd->Nd):up (up S i g) i g'=up S i λd=>g' (g d):=by
 unfold up
 congr 1
 funext j
 show(if j=i then g' (if j=i then g (S.nd j) else S.nd j) else if j=i then g (S.nd j) else S.nd j)=if j=i then g' (g (S.nd j)) else S.nd j;by_cases e:j=i
 .rw[eE e,eE e,eE e]
 .rw[er e,er e,er e]
def Ur(c:jE TR)(F:aI K "forget" "MinderStanding.forget" cC dV f fd){C:Addr}(a:CS K C):aC P w K mg dH (fw P w) true 1 f fd eC (je R TR ei false tT (λ_ i S=>up S i forget) nR C):=by
 erw[F.br ig λvs H Q E t=>?_];obtain⟨T,L,u,D,S,i,us,rfl,rfl,h,l,e,rfl,k⟩:=t
 refine⟨rfl,λx A dN s y=>⟨_,(aa (aH (pv 0) (bw ag) rfl)
   (aa (aH (pv 0) ah rfl)
   (aa (aH (pv 0) (bw ag) rfl)
   (aa (aH (pv 0) ah rfl)
   (aa (aH (pv 0) ah rfl)
   (af (aH (pv 0) eo rfl))))))),?_⟩⟩
 fin2
 have p:=bh h l e;erw[⟨l8 ∅,λq r=>?_⟩];have v:L.nd i≠q:=aq p r;erw[jx rfl (bV (by rwa[ai v]) a.cl a.aG (by show 12<1000;decide) ?_)];have b:=h.acH c l e r (λd=>{d with aG:=[],good:=0}) rfl;rw[yg e,show({D with fa:=eJ D.fa i q}:Dy).fa i=q from bG _ _ _] at b;lk;erw[bV ae a.cl a.good (by show 12<1000;decide) ?_];rw[aU]
 change jf _ _ _ _ (upd (upd H q (.lst [])) (L.nd i) (.ins (bu ei T i) (L.dn i) (pE T L (S.nd i) i++rx q (D.wa i) {S.nd i with aG:=[],good:=0})))
 have b:Goes R TR ei T L u D H {D with fa:=eJ D.fa i q} (up S i λd=>{d with aG:=[],good:=0}) (upd (upd H q (.lst [])) (L.nd i) (.ins (bu ei T i) (L.dn i) (pE T L (S.nd i) i++rx q (D.wa i) {S.nd i with aG:=[],good:=0}))):=b;have m:(upd (upd H q (.lst [])) (L.nd i) (.ins (bu ei T i) (L.dn i) (pE T L (S.nd i) i++rx q (D.wa i) {S.nd i with aG:=[],good:=0}))) (L.nd i)=some (.ins (bu ei T i) (L.dn i) (pE T L (S.nd i) i++rx q (D.wa i) {S.nd i with aG:=[],good:=0})):=ae;generalize upd (upd H q (.lst [])) (L.nd i) (.ins (bu ei T i) (L.dn i) (pE T L (S.nd i) i++rx q (D.wa i) {S.nd i with aG:=[],good:=0}))=H1 at b m;erw[⟨l8 ∅,λj g=>?_⟩];have n:L.nd i≠j:=aq m g;erw[jx rfl (bV (by rwa[ai n]) a.cl a.waiting (by show 12<1000;decide) ?_)];have o:=b.rp.aaN c l e g (λd=>{d with wait:=[],dQ:=0,com:=0,Em:=false}) rfl;rw[yg e,show({ ({D with fa:=eJ D.fa i q}:Dy) with wa:=eJ ({D with fa:=eJ D.fa i q}:Dy).wa i j}:Dy).wa i=j from bG _ _ _,show({ ({D with fa:=eJ D.fa i q}:Dy) with wa:=eJ ({D with fa:=eJ D.fa i q}:Dy).wa i j}:Dy).fa i=q from bG _ _ _,J4,az] at o;lk;erw[bV ae a.cl a.leaving (by show 12<1000;decide) ?_];rw[aU];lk;erw[bV ae a.cl a.bU (by show 12<1000;decide) ?_];rw[aU];lk;erw[bV ae a.cl a.Ff (by show 12<1000;decide) ?_];rw[aU];exact k _ _ (b.trans o)
def TC(j:jE TR)(u:aT P w K mg dH 1 "forget" (je R TR ei false tT (λ_ i S=>up S i forget) nR) λC=>C=ei.cM)(F:aI K "begin" "MinderStanding.begin" eW dV f fd){C:Addr}(x:C=ei.cM)(c:CS K C):
  aC P w K mg dH (fw P w) true 2 f fd eV (je R TR ei false Ef nX nR C):=by
 erw[F.br sg λvs H Q E t=>?_];obtain⟨T,L,v,D,S,i,us,rfl,rfl,h,g,b,r,k⟩:=t;have a:=u.d
 refine⟨rfl,λq A dN s B=>⟨_,(aa (aH (pv 0) ar rfl)
   (aa (aH (pv 0) eo rfl)
   (af (aB (jd (pv 0) a))))),?_⟩⟩
 fin2
 subst r;have z:=bh h g b;lk;erw[bV z c.cl c.state (by show 12<1000;decide) ?_];lk;erw[bV ae c.cl c.asked (by show 12<1000;decide) ?_];rw[aU];have m:=kJ j h g b (λd=>{d with st:="on",asked:=false}) rfl rfl;have l:=bh m.rp g b;erw[jx rfl (kb (L.nd i) _ _ _ _ ([]) (fT rfl l ⟨x,rfl,rfl⟩ rfl ?_))];erw[pf T L v D _ i ([]) (l7 rfl rfl m.rp g b rfl (λo n y=>?_))];erw[k o n ?_];have p:=m.trans y
 have e:up (up S i λd=>{d with st:="on",asked:=false}) i forget=nX T i S:=by
  rw[J4];unfold nX;rw[b]
  rfl
 rwa[<- e]
def SX(F:aI K "steps_at" "MinderStanding.steps_at" dq dV f fd){C:Addr}:aC P w K mg dH (fw P w) true 2 f fd dj (je R TR ei false Ef (λ_ _ S=>S) (λT S i=>.bl (bR T i S)) C):=by
 erw[F.br oo λvs H Q E a=>?_];obtain⟨T,L,g,D,S,i,us,rfl,rfl,h,e,b,rfl,k⟩:=a;erw[⟨rfl,λc A dN s j=>⟨_,(af (av eo)),?_⟩⟩]
 fin2
 have k:Q (.bl (bR T i S)) H:=k D H (Goes.refl h);unfold bR at k;rw[b] at k;exact k
def OF(F:aI K "last_word" "MinderStanding.last_word" cW dV f fd){C:Addr}(a:CS K C):aC P w K mg dH (fw P w) true 1 f fd fP (je R TR ei false tT (λ_ _ S=>S) (λ_ S i=>.str (gf (S.nd i))) C):=by
 erw[F.br nA λvs H Q E b=>?_];obtain⟨T,L,l,D,S,i,us,rfl,rfl,h,c,e,rfl,k⟩:=b;erw[⟨rfl,λg A dN s m=>⟨_,(af (av (nO (bM (aw (pv 0) rfl)) ar ar))),?_⟩⟩]
 fin2
 have j:=bh h c e;have k:Q (.str (gf (S.nd i))) H:=k D H (Goes.refl h);unfold gf at k;lk;erw[aZ j a.cl a.Ff rfl ?_];lk;cases hg:(S.nd i).Em with
 |true=>
  rw[hg] at k;lk;exact k
 |false=>
  rw[hg] at k;lk;exact k
def sj(U:List Row)(i:Nat):(kids U i).length<=U.length:=by
 unfold kids;exact mf (afG _ _) (by rw[tG];exact fC _)
def UD(e:jE TR)(T:Txt mg)(y:jm P w K mg dH true 1 "below" Fg [])(F:aI K "go_down" "MinderStanding.go_down" dU dV f fd){C:Addr}(a:CS K C):
  aC P w K mg dH (fw P w) true 2 f fd ij (je R TR ei false (λT _ _ us=>us=[]/\T.length<=64) (λT i S=>up S i (goDown T i)) nR C):=by
 erw[F.br pj λvs H Q E t=>?_];obtain⟨U,L,G,D,S,i,us,rfl,⟨rfl,x⟩,h,b,g,rfl,k⟩:=t
 refine⟨rfl,λq A dN s I=>⟨_,(aa (aH (pv 0) ar rfl)
   (aa (aH (pv 0) (bw ag) rfl)
   (aa (aH (pv 0) (cb y (aj (aQ aP (by rfl) T.fN cJ (aj (aw (pv 0) rfl) ag)) ag)) rfl)
   (af (aH (pv 0) ah rfl))))),?_⟩⟩
 fin2
 have z:=bh h b g;have B:=sj U i;lk;erw[bV z a.cl a.state (by show 12<1000;decide) ?_];have l:=kJ e h b g (λd=>{d with st:="down"}) rfl rfl;have n:=bh l.rp b g
 change jf _ _ _ _ (upd H (L.nd i) (.ins (bu ei U i) (L.dn i) (pE U L {S.nd i with st:="down"} i++rx (D.fa i) (D.wa i) {S.nd i with st:="down"})))
 generalize upd H (L.nd i) (.ins (bu ei U i) (L.dn i) (pE U L {S.nd i with st:="down"} i++rx (D.fa i) (D.wa i) {S.nd i with st:="down"}))=H1 at l n;rw[az] at n;erw[⟨l8 ∅,λm c=>?_⟩];have o:L.nd i≠m:=aq n c;erw[jx rfl (bV (by rwa[ai o]) a.cl a.waiting (by show 12<1000;decide) ?_)];have p:=l.rp.aaN e b g c (λd=>{d with wait:=[],dQ:=2^(kids U i).length-1,com:=0}) rfl;have u:=p.rp.mi i b;rw[yg g,show({D with wa:=eJ D.wa i m}:Dy).wa i=m from bG _ _ _,J4,az] at p;have j:=l.rp.mi i b;have v:L.mi i≠m:=aq j c;have r:L.mi i≠L.nd i:=Ne.symm ((h.far (.nd i) b).2.1 i b).1;lk;erw[aZ ae a.cl a.tS rfl ?_];lk;erw[iE (L.mi i) _ (mE rfl (.inl (fk.of (by rwa[ai r,ai v]))) ?_)];lk;rw[gm];erw[⟨(),?_⟩];lk;erw[bV ae a.cl a.leaving (by show 12<1000;decide) ?_];rw[aU];lk;erw[bV ae a.cl a.bU (by show 12<1000;decide) ?_];rw[aU];exact k _ _ (l.trans p)
def WH(g:jE TR)(u:aT P w K mg dH 2 "go_down" (je R TR ei false (λT _ _ us=>us=[]/\T.length<=64) (λT i S=>up S i (goDown T i)) nR) λC=>C=ei.cM)(F:aI K "tell" "MinderStanding.tell" fB dV f fd){C:Addr}(y:C=ei.cM)(n:CS K C):
  aC P w K mg dH (fw P w) true 3 f fd fF (je R TR ei false (λT _ _ us=>us=[]/\T.length<=64) bB nR C):=by
 erw[F.br ux λvs H Q E v=>?_];obtain⟨U,L,x,D,S,i,us,rfl,⟨rfl,l⟩,h,c,b,t,k⟩:=v;have a:=u.d
 refine⟨rfl,λr A dN s G=>⟨_,(aa (aH (pv 0) eo rfl)
   (af (aB (jd (pv 0) a)))),?_⟩⟩
 fin2
 subst t;have B:=bh h c b;lk;erw[bV B n.cl n.asked (by show 12<1000;decide) ?_];have m:=kJ g h c b (λd=>{d with asked:=true}) rfl rfl;have j:=bh m.rp c b;erw[jx rfl (kb (L.nd i) _ _ _ _ ([]) (fT rfl j ⟨y,rfl,rfl⟩ rfl ?_))];erw[pf U L x D _ i ([]) (l7 rfl ⟨rfl,l⟩ m.rp c b rfl (λp o z=>?_))];erw[k p o ?_];have q:=m.trans z
 have e:up (up S i λd=>{d with asked:=true}) i (goDown U i)=bB U i S:=by
  rw[J4];unfold bB;rw[b]
  rfl
 rwa[<- e]
open PySem L2 Shp Nm Tr Hs Hm Hr PySem.NumText
def HF(T:List Row)(m:Nat)(S:HS):Nat->Bool:=λk=>match (kids T m)[k]? with|some j=> !cg S j|none=>false
def Uk(p:jE TR)(T:Txt mg)(W:aT P w K mg dH 1 "is_off" (uI R TR ei) λC=>C=ei.cL\/C=ei.cM)(r:CS K ei.cL)(c:CS K ei.cM)(M:jm P w K mg dH true 1 "bit" JM [])(F:aI K "not_off" "MinderStanding.not_off" dY dV f fd){C:Addr}(y:C=ei.cM):
  aC P w K mg dH (fw P w) true 2 f fd ib (je R TR ei false (λT _ _ us=>us=[]/\T.length<=64) (λ_ _ S=>S) (λT S i=>.int ((bH T i S:Nat):Int)) C):=by
 erw[F.br o9 λvs H Q E G=>?_];obtain⟨U,L,I,D,S,i,us,rfl,⟨rfl,Y⟩,h,u,N,X,k⟩:=G;have a:=W.d;erw[⟨rfl,λO A dN s B=>⟨_,(af (av (aQ (Yd rfl) (by rfl) T.adn aa2 (aj (m9 (x:="each") (fr:=[]) (by exact⟨rfl,rfl,by decide +kernel,by decide +kernel,rfl,by decide +kernel,(by repeat (first|exact True.intro|refine⟨rfl,?_⟩)),by repeat (first|exact True.intro|refine⟨(by first|exact λ_=>⟨_,rfl⟩|(intro z;cases z)),?_⟩),(by repeat (first|exact True.intro|refine⟨⟨rfl,.inl rfl,rfl,rfl⟩,?_⟩))⟩) rfl (kP (aw (pv 0) rfl)) (λ_ _ _ _=>(Mu (fD (bM (iX (pv 0) a (B.mono (by omega)) yp))))) (λ_ _ _ _=>(Fz M (B.mono (by omega)) (by rfl) yp (aj (KO (K0:=K) rfl (pv 0) (by rfl)) ag)))) ag)))),?_⟩⟩]
 fin2
 subst X;have l:=bh h u N;have kl:=ZA U i;have mi:=h.mi i u
 have g:∀j,CS K (bu ei U j):=λj=>by
  unfold bu
  split
  .exact r
  .exact c
 lk;erw[aZ l ((y ▸ c).cl) ((y ▸ c).tS) rfl ?_];lk;erw[⟨⟨_,fk.of mi⟩,eZ (J:=Itl K (L.mi i)) (n:=(kids U i).length) (λt ys H'=>H'=H/\∃b:List Int,ys=b.map V.int/\(∀n∈b,0<=n)/\b.sum=((cy (HF U i S) t:Nat):Int)/\b.length<=t) ⟨rfl,[],rfl,λn l=>(by cases l),rfl,fC _⟩ ?_ ?_ ?_ ?_⟩]
 .rintro t ys H' ht ⟨rfl,_⟩;exact⟨_,V.ref (L.nd (kids U i)[t]),fk.of mi,by rw[jl,gy ht];rfl⟩
 .rintro ys H' ⟨rfl,_⟩;exact⟨_,fk.of mi,by rw[gm];exact fC _⟩
 .rintro t ys H' v H2 ht ⟨rfl,b,rfl,n0,nsum,nl⟩ ⟨rfl,m⟩;have m:=m _ (fk.of mi);rw[jl,gy ht] at m;obtain rfl:V.ref (L.nd (kids U i)[t])=v:=iH m;obtain⟨k1,k2,k3⟩:=Q2 (gy ht)
  have e:HF U i S t= !cg S (kids U i)[t]:=by
   unfold HF;rw[gy ht]
  have o:=h.cells (.nd (kids U i)[t]) k3;generalize (kids U i)[t]=j at k1 k2 k3 e o;lk;erw[kb (L.nd j) _ _ _ _ ([]) (fT rfl o ⟨?_,rfl,rfl⟩ (by unfold mu;cases fm U j<;>rfl) ?_)]
  .unfold bu
   split
   .exact .inl rfl
   .exact .inr rfl
  erw[kb U L I D S j (fT rfl h k3 rfl ?_)];have bs:cy (HF U i S) (t+1)=cy (HF U i S) t+if HF U i S t=true then 2^t else 0:=rfl;cases ho:cg S j with
  |true=>
   rw[ho] at e;lk;erw[⟨n0,?_,()⟩];rw[nsum,bs,e]
   rfl
  |false=>
   rw[ho] at e;lk;erw[aZ o ((g j).cl) ((g j).place) (xp _ _) ?_];rw[k1];lk;erw[⟨(),?_⟩];erw[⟨by rw[gm];exact aV (),rfl,b++[((2^t:Nat):Int)],by rw[ni];rfl,λn l=>?_,?_,by rw[js];show b.length+1<=t+1;lia⟩]
   .rcases wH.mp l with z|z
    .exact n0 n z
    .rw[ro.mp z];exact agR _
   .rw[ahe,nsum,bs,e];simp
 .rintro ys H' ⟨rfl,b,rfl,n0,nsum,nl⟩;erw[⟨by rw[gm];exact afC (aV ()),λq Z=>?_⟩];have lt:cy (HF U i S) (kids U i).length<2^63:=wh (oP _ _) (ahf ∅ ());erw[iE q b (fT rfl (fk.of ae) n0 (by rw[nsum];exact_mod_cast lt) ?_)];rw[nsum];exact k D _ (Goes.same p h (au Z))
theorem aa3{a n:Nat}(b:a≠0)(h:a<2^n):Nat.log2 a<n:=(ahP b).mpr h
def XS(a:Nat)(b:a≠0):Builtin.Int.intBits (a:Int)=Nat.log2 a+1:=by
 unfold Builtin.Int.intBits;rw[er (by rw[S4];lia),Int.natAbs_natCast]
def RW(T:List Row)(L:Lo)(S:HS)(m:Nat):V:=match cn T m S with
 |none=>.non
 |some j=>.ref (L.nd j)
def Yi(R:Rep)(TR:Hr.nS)(ei:HC)(C:Addr):Sp:=λvs H Q _=>∃(T:List Row) (L:Lo) (a:FS) (D:Dy) (S:HS) (i:Nat),vs=[.ref (L.nd i)]/\Rp R TR ei T L a D S H/\i<T.length/\T.length<=64/\fm T i=false/\bu ei T i=C/\∀D' H',Goes R TR ei T L a D H D' S H'->Q (RW T L S i) H'
def Ox(G:jE TR)(T:Txt mg)(I:aT P w K mg dH 2 "not_off" (je R TR ei false (λT _ _ us=>us=[]/\T.length<=64) (λ_ _ S=>S) (λT S i=>.int ((bH T i S:Nat):Int))) λC=>C=ei.cM)(j:CS K ei.cM)
  (F:aI K "last_left" "MinderStanding.last_left" cZ dV f fd) {C:Addr} (r:C=ei.cM):aC P w K mg dH (fw P w) true 3 f fd fW (Yi R TR ei C):=by
 erw[F.br fM λvs H Q E B=>?_];obtain⟨U,L,J,D,S,i,rfl,h,g,m,l,q,k⟩:=B;have a:=I.d
 refine⟨rfl,λv A dN s N=>⟨_,(aa (bq (i:=1) fM.nd (aA Gh (aw (pv 0) rfl) (jd (pv 0) a)))
   (af (av (nO (iw wu (pv 1) ah) (hD aD (aw (pv 0) rfl) (aA CI (abP PySem.F.plainAttrs_int PySem.F.slot_int_bit_length PySem.F.type_int_bit_length Bz (pv 1)) ah)) ff)))),?_⟩⟩
 fin2
 have c:CS K (bu ei U i):=by rwa[q,r]
 have t:=bh h g l;lk;erw[aZ t c.cl c.leaving rfl ?_];lk;erw[kb (L.nd i) _ _ _ _ ([]) (fT rfl t ⟨q.trans r,rfl,rfl⟩ rfl ?_)];erw[pf U L J D S i ([]) (l7 rfl ⟨rfl,m⟩ h g l rfl (λx o n=>?_))];have u:=bh n.rp g l;have mi:=n.rp.mi i g;lk;have lt:(S.nd i).dQ &&& bH U i S<2^(kids U i).length:=F6 ahD (oP _ _);have k:Q (RW U L S i) o:=k x o n;unfold RW cn at k;have b:=HD (S.nd i).dQ (bH U i S);generalize (S.nd i).dQ &&& bH U i S=left at k lt b;erw[bp (λe=>?_) (λe=>?_)]
 .have e:(!decide (V.int (Builtin.bitAnd ((S.nd i).dQ:Int) (bH U i S:Int))=V.int 0))=true:=e
  have e:left≠0:=λz=>by
   rw[f7 (show V.int (Builtin.bitAnd ((S.nd i).dQ:Int) (bH U i S:Int))=V.int 0 by rw[b,z];rfl)] at e;cases e
  rw[er e] at k;have p:=aa3 e lt;have M:(Builtin.Int.intBits (Builtin.bitAnd ((S.nd i).dQ:Int) (bH U i S:Int)):Int)-1=((Nat.log2 left:Nat):Int):=by rw[b,XS left e];lia
  lk;erw[aZ u c.cl c.tS rfl ?_];lk;erw[hY (L.mi i) _ _ (V.ref (L.nd (kids U i)[Nat.log2 left])) (fT rfl (ix V.int M) (fk.of mi) (bX (by rw[jl,gy p];rfl)) ?_)];rw[gy p] at k;exact k
 .have e:left=0:=by
   by_cases z:left=0
   .exact z
   .exact absurd (show(!decide (V.int (Builtin.bitAnd ((S.nd i).dQ:Int) (bH U i S:Int))=V.int 0))=true by
     rw[j0 (λy=>z (by have:=V.int.inj y;rw[b] at this;lia))]
     rfl) e
  rw[eE e] at k;exact k
open PySem L2 Shp Nm Tr Hs Hm Hr PySem.NumText
abbrev rf:List Str:=["self"]
abbrev ip:List Str:=["self"]
def pN:ao rf ip (ak dX):=by kt_ors
abbrev pK:List Str:=["self","standing","word","place"]
abbrev gz:List Str:=["self","standing","word"]
def fX:ao pK gz (ak dw):=by kt_ors
abbrev mV:List Str:=["self","clock","child"]
abbrev fJ:List Str:=["self","clock"]
def fh:ao mV fJ (ak cO):=by kt_ors
abbrev pL:List Str:=["self","standing","clock","pair"]
abbrev gB:List Str:=["self","standing","clock"]
def fS:ao pL gB (ak dA):=by kt_ors
abbrev oQ:List Str:=["self","coming"]
abbrev fO:List Str:=["self"]
def fL:ao oQ fO (ak cY):=by kt_ors
abbrev jY:List Str:=["self","standing"]
abbrev eu:List Str:=["self","standing"]
def jj:ao jY eu (ak cc):=by kt_ors
abbrev Vg:List Str:=["falls","clock","span"]
abbrev OZ:List Str:=["falls","clock","span"]
def UL:ao Vg OZ (ak G8):=by kt_ors
abbrev Ql:List Str:=["falls","clock","span","most"]
abbrev F8:List Str:=["falls","clock","span","most"]
def OX:ao Ql F8 (ak Aq):=by kt_ors
structure ShI(P:Program)(w:World)(K:PySem.W.Frag)(mg:Str->Option Value)(dH:Heap)(R:Rep)(Cl:Nat->Addr->Prop):Prop where
 I:If P w K mg dH 3 R Cl
 fld:∀{H:Hp} {a:Addr} {s:Sh},R H a s->∃Cc dx fs,H a=some (.ins Cc dx fs)/\CF K Cc/\fs.lookup ("name":Str)=some (.str s.name)/\(s.kind<3->fs.lookup ("grace":Str)=some (.int s.ba)/\fs.lookup ("slow":Str)=some (.int s.bZ))/\(3<=s.kind->fs.lookup ("most":Str)=some (.int s.ba)/\fs.lookup ("span":Str)=some (.int s.bZ))
 bg:aT P w K mg dH 3 "begun_again" (Lr R) λC=>∃j,Cl j C
 en:aT P w K mg dH 3 "end_at" (JW R) λC=>∃j,j<3/\Cl j C
 ch:aT P w K mg dH 3 "chosen" (xX R) λC=>∃j,3<=j/\Cl j C
def Tb(g:jE TR)(u:aT P w K mg dH 2 "go_down" (je R TR ei false (λT _ _ us=>us=[]/\T.length<=64) (λT i S=>up S i (goDown T i)) nR) λC=>C=ei.cM)(F:aI K "give_up" "MinderStanding.give_up" dX dV f fd){C:Addr}(y:C=ei.cM)(n:CS K C):
  aC P w K mg dH (fw P w) true 3 f fd ip (je R TR ei false (λT _ _ us=>us=[]/\T.length<=64) giveUp nR C):=by
 erw[F.br pN λvs H Q E v=>?_];obtain⟨U,L,x,D,S,i,us,rfl,⟨rfl,l⟩,h,b,c,t,k⟩:=v;have a:=u.d
 refine⟨rfl,λr A dN s G=>⟨_,(aa (aH (pv 0) eo rfl)
   (af (aB (jd (pv 0) a)))),?_⟩⟩
 fin2
 subst t;have B:=bh h b c;lk;erw[bV B n.cl n.Ff (by show 12<1000;decide) ?_];have m:=kJ g h b c (λd=>{d with Em:=true}) rfl rfl;have j:=bh m.rp b c;erw[jx rfl (kb (L.nd i) _ _ _ _ ([]) (fT rfl j ⟨y,rfl,rfl⟩ rfl ?_))];erw[pf U L x D _ i ([]) (l7 rfl ⟨rfl,l⟩ m.rp b c rfl (λp o z=>?_))];erw[k p o ?_];have q:=m.trans z
 have e:up (up S i λd=>{d with Em:=true}) i (goDown U i)=giveUp U i S:=by
  rw[J4]
  rfl
 rwa[<- e]
def Ou(R:Rep)(TR:Hr.nS)(ei:HC)(b:List Row->HS->Nat->Nat->List V->Prop)(next:List Row->Nat->Nat->HS->HS)(a:List Row->HS->Nat->Nat->V)(C:Addr):Sp:=λvs H Q _=>∃(T:List Row) (L:Lo) (c:FS) (D:Dy) (S:HS) (m i:Nat) (us:List V),vs=.ref (L.nd m):: .ref (L.nd i)::us/\b T S m i us/\Rp R TR ei T L c D S H/\m<T.length/\fm T m=false/\i<T.length/\par T i=some m/\T.length<=64∧
 bu ei T m=C/\∀D' H',Goes R TR ei T L c D H D' (next T m i S) H'->Q (a T S m i) H'
def ZL(a k:Nat):(a &&& 2^k=0)↔Nat.testBit a k=false:=by
 constructor
 .intro z;have:=ix (λx=>Nat.testBit x k) z;rw[afE,Nat.testBit_two_pow_self,Bool.and_true,agn] at this;exact this
 .intro z;erw[af1 λj=>?_];rw[afE,agn,ahm];by_cases e:k=j
  .rw[<- e,z]
   rfl
  .rw[j0 e,agD]
def MN(a k:Nat):Builtin.bitAnd (a:Int) ((2^k:Nat):Int)=0↔Nat.testBit a k=false:=by
 rw[HD,<-ZL]
 exact_mod_cast Iff.rfl
def FW(T:List Row){i m:Nat}(b:i<T.length)(a:par T i=some m):hH T i<(kids T m).length:=by
 unfold hH kids;rw[a]
 have:((List.range (i+1)).filter λj=>decide (par T j=some m)).length<=((List.range T.length).filter λj=>decide (par T j=some m)).length:=
  ((List.range_sublist.mpr b).filter _).length_le
 rw[afR,YP,js,afh,eE (f7 a)] at this;exact this
def Zk(p:jE TR)(T:Txt mg)(y:aT P w K mg dH 1 "is_off" (uI R TR ei) λC=>C=ei.cL\/C=ei.cM)(j:CS K ei.cL)(b:CS K ei.cM)(r:jm P w K mg dH true 1 "bit" JM [])(F:aI K "to_be_answered" "MinderStanding.to_be_answered" cc dV f fd){C:Addr}(t:C=ei.cM):
  aC P w K mg dH (fw P w) true 2 f fd eu (Ou R TR ei (λ_ _ _ _ us=>us=[]) (λ_ _ _ S=>S) (λT S m i=>.bl (toBe T m i S)) C):=by
 erw[F.br jj λvs H Q E o=>?_];obtain⟨U,L,q,D,S,m,i,us,rfl,rfl,h,x,u,g,G,I,B,k⟩:=o;have a:=y.d;erw[⟨rfl,λv A dN s N=>⟨_,(af (av (qk (jd (pv 1) a) (lM (wx bQ (aA Gh (aw (pv 0) rfl) (cb r (aj (aw (pv 1) rfl) ag))) ah))))),?_⟩⟩]
 fin2
 have n:CS K (bu ei U m):=by rwa[B,t]
 have c:CS K (bu ei U i):=by
  unfold bu
  split
  .exact j
  .exact b
 have J:=bh h x u;have l:=h.cells (.nd i) g;have pl:=FW U g G;have M:=sj U m;have k:Q (.bl (toBe U m i S)) H:=k D H (Goes.refl h);unfold toBe at k;lk;erw[kb (L.nd i) _ _ _ _ ([]) (fT rfl l ⟨?_,rfl,rfl⟩ (by unfold mu;cases fm U i<;>rfl) ?_)]
 .unfold bu
  split
  .exact .inl rfl
  .exact .inr rfl
 erw[kb U L q D S i (fT rfl h g rfl ?_)];cases ho:cg S i with
 |false=>
  rw[ho] at k;lk;exact k
 |true=>
  rw[ho] at k;lk;erw[aZ J n.cl n.good rfl ?_];lk;erw[aZ l c.cl c.place (xp _ _) ?_];lk;erw[⟨(),?_⟩];lk
  have e:decide (V.int (Builtin.bitAnd ((S.nd m).good:Int) ((2^hH U i:Nat):Int))=V.int 0)= !Nat.testBit (S.nd m).good (hH U i):=by
   have:=MN (S.nd m).good (hH U i);cases hb:Nat.testBit (S.nd m).good (hH U i) with
   |true=>exact j0 λz=>by rw[this.mp (V.int.inj z)] at hb;cases hb
   |false=>exact f7 (ix V.int (this.mpr hb))
  show Q (.bl (decide (V.int (Builtin.bitAnd ((S.nd m).good:Int) ((2^hH U i:Nat):Int))=V.int 0))) H;rwa[e]
theorem abx(a b:Nat):Builtin.bitOr (a:Int) (b:Int)=((a ||| b:Nat):Int):=Tf a b
def VW(R:Rep)(TR:Hr.nS)(ei:HC)(C:Addr):Sp:=λvs H Q E=>∃wd,isWord wd/\Ou R TR ei (λ_ S m _ us=>us=[.str wd]/\(S.nd m).wait.length<sizeLine) (λT m i S=>kR T m i wd S) (λ_ _ _ _=>.non) C vs H Q E
def Y9(g:jE TR)(T:Txt mg){Cl:Nat->Addr->Prop}(X:ShI P w K mg dH R Cl)(B:CS K ei.cL)(n:CS K ei.cM)(oN:jm P w K mg dH true 1 "bit" JM [])(F:aI K "note_end" "MinderStanding.note_end" dw dV f fd){C:Addr}(hC:C=ei.cM):
  aC P w K mg dH (fw P w) true 4 f fd gz (VW R TR ei C):=by
 erw[F.br fX λvs H Q E Y=>?_];obtain⟨wd,hw,U,L,FT,D,S,m,i,us,rfl,⟨rfl,x⟩,h,p,o,v,hp,ac,e0,k⟩:=Y;have a:=X.bg.d
 refine⟨rfl,λab A dN s hr=>⟨_,(aa (bq (i:=3) fX.nd (cb oN (aj (aw (pv 1) rfl) ag)))
   (af (aL (fD (bM (nt (aw (pv 1) rfl) a (aj (pv 2) ag)))) (af (aH (pv 0) (aA ac4 (aw (pv 0) rfl) (pv 3)) rfl)) (af (aL (PW.pt (iD (iw wu (aw (pv 0) rfl) ar) (iy (iw bQ (aA Gh (aw (pv 0) rfl) (pv 3)) ah)))) (af (aB (fg Bn ae3 ae4 cD (aw (pv 0) rfl) (aj (pv 1) ag)))) ay))))),?_⟩⟩
 fin2
 have c:CS K (bu ei U m):=by rwa[e0,hC]
 have l:CS K (bu ei U i):=by
  unfold bu
  split
  .exact B
  .exact n
 have hn:=bh h p o;have J:=h.cells (.nd i) v;have pl:=FW U v hp;have kl:=sj U m;obtain⟨oc,q,G⟩:=h.ch i v;obtain⟨Cc,dc,fc,M,c2,c3,c4,c5,c6,c7⟩:=X.I.inst (G H q);have k:∀D' H',Goes R TR ei U L FT D H D' (kR U m i wd S) H'->Q .non H':=k;unfold kR at k;lk;erw[aZ J l.cl l.place (xp _ _) ?_];lk;erw[⟨(),?_⟩];lk;erw[aZ J l.cl l.child (BW _ _) ?_];lk;erw[dJ M ⟨⟨_,c2⟩,rfl,rfl⟩ c5 ?_];erw[jx rfl (pq (L.ch i) dc fc (sh U i) wd (fT rfl (G H q) M hw (λZ W=>?_)))];have u:=h.same g W;have b:=bh u p o;have t:=Goes.same g h W;cases hb:begun (sh U i) wd with
 |false=>
  rw[eE hb] at k;lk;erw[aZ b c.cl c.good rfl ?_];lk;erw[bV b c.cl c.good (by show 12<1000;decide) ?_]
  change Q .non (upd Z (L.nd m) (.ins (bu ei U m) (L.dn m) (ku "good" (V.int (Builtin.bitOr ((S.nd m).good:Int) ((2^hH U i:Nat):Int))) (pE U L (S.nd m) m++rx (D.fa m) (D.wa m) (S.nd m)))))
  rw[abx];exact k D _ (t.trans (kJ g u p o (λd=>{d with good:=d.good ||| 2^hH U i}) rfl rfl))
 |true=>
  rw[er (by rw[hb];decide)] at k;lk;erw[aZ b c.cl c.state rfl ?_];lk;erw[bp (λe=>?_) (λe=>?_)]
  .have e:(S.nd m).st≠"down":=λz=>by
    have e:(!decide (V.str (S.nd m).st=V.str "down"))=true:=e;rw[f7 (ix V.str z)] at e;cases e
   lk;erw[aZ b c.cl c.bU rfl ?_];lk;have N:=MN (S.nd m).com (hH U i);erw[bp (λe2=>?_) (λe2=>?_)]
   .have e2:=N.mp (V.int.inj (hI e2));rw[eE ⟨e,e2⟩] at k;have r:=u.cells (.wa m) ⟨p,o⟩;lk;erw[pq (L.nd m) _ _ _ _ (l7 rfl b c.cl c.waiting rfl (.inl ⟨rfl,_,fk.of r⟩) ?_)];lk;erw[pw _ _ _ (fT rfl rfl r (by rwa[gm]) ?_)];have O:=u.aaL g p o ((S.nd m).wait++[i]);rw[ni] at O;erw[k D _ ?_];have g3:=t.trans O
    have e3:(up S m λd=>{d with wait:=d.wait++[i]})=up S m λd=>{d with wait:=(S.nd m).wait++[i]}:=by
     unfold up
     congr 1
     funext j
     by_cases z:j=m
     .rw[eE z,eE z,z]
     .rw[er z,er z]
    rwa[e3]
   .have e2:¬Nat.testBit (S.nd m).com (hH U i)=false:=λz=>e2 (f7 (ix V.int (N.mpr z)));rw[er (λz=>e2 z.2)] at k;exact k D _ t
  .have e:(S.nd m).st="down":=by
    by_cases z:(S.nd m).st="down"
    .exact z
    .exact absurd (show(!decide (V.str (S.nd m).st=V.str "down"))=true by rw[j0 (λy=>z (V.str.inj y))];rfl) e
   rw[er (λz=>z.1 e)] at k;exact k D _ t
def G1(K:PySem.W.Frag):Sp:=λvs H Q _=>∃(p:Addr) (c s:Int) (a:List Int),vs=[.ref p,.int c,.int s]/\fk K H p (a.map V.int)/\a.length<sizeLine/\∀(q:Addr) (H':Hp),aO H H'->H q=none->H' q=some (.lst ((dR c s a).map V.int))->Q (.ref q) H'
theorem zX(c sp:Int)(a:List Int):(dR c sp a).length<=a.length:=afG _ _
def UO(F:aI K "recent" "recent" G8 dV f fd)(T:Txt mg):aC P w K mg dH (fw P w) true 1 f fd OZ (G1 K):=by
 erw[F.br UL λvs H Q E j=>?_];obtain⟨p,c,sp,a,rfl,g,o,k⟩:=j;erw[⟨rfl,λl A dN s m=>⟨_,(af (av (m9 (x:="turn") (fr:=[("span",2),("clock",1)]) (by exact⟨rfl,rfl,by decide +kernel,by decide +kernel,rfl,by decide +kernel,(by repeat (first|exact True.intro|refine⟨rfl,?_⟩)),by repeat (first|exact True.intro|refine⟨(by first|exact λ_=>⟨_,rfl⟩|(intro z;cases z)),?_⟩),(by repeat (first|exact True.intro|refine⟨⟨rfl,.inl rfl,rfl,rfl⟩,?_⟩))⟩) rfl (kP (pv 0)) (λ_ _ _ _=>(Mu (Fx oW (aA CI (pv 2) (pv 0)) (pv 1) (FO _)))) (λ_ _ _ _=>(pv 0))))),?_⟩⟩]
 fin2
 lk;erw[⟨⟨_,g⟩,eZ (J:=Itl K p) (n:=a.length) (λi ys H'=>H'=H/\ys=(dR c sp (a.take i)).map V.int) ⟨rfl,rfl⟩ ?_ ?_ ?_ ?_⟩]
 .rintro i ys H' hi ⟨rfl,rfl⟩;exact⟨_,V.int a[i],g,by rw[jl,gy hi];rfl⟩
 .rintro ys H' ⟨rfl,rfl⟩;exact⟨_,g,by rw[gm];exact fC _⟩
 .rintro i ys H' v H2 hi ⟨rfl,rfl⟩ ⟨rfl,b⟩;have b:=b _ g;rw[jl,gy hi] at b;obtain rfl:V.int a[i]=v:=iH b
  have tk:dR c sp (a.take (i+1))=dR c sp (a.take i)++(if c-a[i]<sp then [a[i]] else []):=by
   unfold dR;rw[aft,gy hi,YP];by_cases z:c-a[i]<sp<;>simp[z]
  lk;erw[bp (λe=>?_) (λe=>?_)]
  .have e:c-a[i]<sp:=hI e;lk;refine⟨?_,?_⟩
   .have:=zX c sp (a.take i);rw[gm];rw[XP] at this
    lia
   .refine ⟨rfl,?_⟩;rw[tk,eE e,ni]
    rfl
  .have e:¬c-a[i]<sp:=λz=>e (f7 z);erw[⟨rfl,?_⟩];rw[tk,er e,su]
 .rintro ys H' ⟨rfl,rfl⟩;rw[afx];erw[⟨?_,λq h=>k q _ (au h) h ae⟩];have:=zX c sp a;rw[gm]
  lia
def Kw(K:PySem.W.Frag):Sp:=λvs H Q _=>∃(p:Addr) (c s m:Int) (a:List Int),vs=[.ref p,.int c,.int s,.int m]/\fk K H p (a.map V.int)/\a.length<sizeLine/\∀H',aO H H'->Q (.bl (decide (m<((dR c s a).length:Int)+1))) H'
def Pu(F:aI K "too_many" "too_many" Aq dV f fd)(T:Txt mg)(e:jm P w K mg dH true 1 "recent" (G1 K) []):aC P w K mg dH (fw P w) true 2 f fd F8 (Kw K):=by
 erw[F.br OX λvs H Q E b=>?_];obtain⟨p,c,sp,m,g,rfl,n,i,k⟩:=b;erw[⟨rfl,λj A dN s r=>⟨_,(af (av (wx OK (aA di (aQ aP (by rfl) T.fN cJ (aj (cb e (aj (pv 0) (aj (pv 1) (aj (pv 2) ag)))) ag)) ah) (pv 3)))),?_⟩⟩]
 fin2
 lk;erw[hY p c sp g (mq rfl n i (λq o l h a=>?_))];lk;erw[iE q _ (mE rfl (.inl (fk.of a)) ?_)];lk;rw[gm];exact k _ l
def LD(c sp:Int)(a:List Int):dR c sp (dR c sp a)=dR c sp a:=by
 unfold dR;rw[List.filter_filter]
 congr 1
 funext x
 cases decide (c-x<sp)<;>rfl
def Oj(R:Rep)(TR:Hr.nS)(ei:HC)(C:Addr):Sp:=λvs H Q _=>∃(T:List Row) (L:Lo) (a:FS) (D:Dy) (S:HS) (m:Nat),vs=[.ref (L.nd m),.int S.clk]/\(S.nd m).aG.length<sizeLine/\Rp R TR ei T L a D S H/\m<T.length/\fm T m=false/\bu ei T m=C/\∀D' H',Goes R TR ei T L a D H D' (aE T m S).2 H'->Q (.bl (aE T m S).1) H'
def Uc(n:jE TR)(T:Txt mg){Y:Nat->Addr->Prop}(hS:ShI P w K mg dH R Y)(y:CS K ei.cM)(sD:jm P w K mg dH true 1 "recent" (G1 K) [])(z7:jm P w K mg dH true 2 "too_many" (Kw K) [])(F:aI K "has_enough" "MinderStanding.has_enough" cO dV f fd){C:Addr}(hC:C=ei.cM):
  aC P w K mg dH (fw P w) true 3 f fd fJ (Oj R TR ei C):=by
 erw[F.br fh λvs H Q E X=>?_];obtain⟨U,L,FT,D,S,m,rfl,o,h,j,r,e0,k⟩:=X
 refine⟨rfl,λab A dN s hr=>⟨_,(aa (bq (i:=2) fh.nd (aw (pv 0) rfl))
   (aa (aL (iw oW (aQ aP (by rfl) T.fN cJ (aj (aw (pv 0) rfl) ag)) (aw (pv 2) rfl)) (af (av eo)) ay)
   (aa (aH (pv 0) (cb sD (aj (aw (pv 0) rfl) (aj (pv 1) (aj (aw (pv 2) rfl) ag)))) rfl)
   (af (av (cb z7 (aj (aw (pv 0) rfl) (aj (pv 1) (aj (aw (pv 2) rfl) (aj (aw (pv 2) rfl) ag)))))))))),?_⟩⟩
 fin2
 have a:CS K (bu ei U m):=by rwa[e0,hC]
 have u:=bh h j r;obtain⟨oc,J,W⟩:=h.ch m j;obtain⟨Cc,dc,fc,B,b,c3,c4,c5⟩:=hS.fld (W H J)
 have kd:3<=(sh U m).kind:=by
  have:¬(sh U m).kind<3:=afk r
  lia
 obtain⟨cm,N⟩:=c5 kd;have t:=h.cells (.fa m) ⟨j,r⟩;unfold aE at k;lk;erw[aZ u a.cl a.child rfl ?_];lk;erw[aZ u a.cl a.aG rfl ?_];lk;erw[iE (D.fa m) _ (mE rfl (.inl (fk.of t)) ?_)];lk;erw[aZ B b.cl b.n6 cm ?_];lk;rw[gm];erw[bp (λe=>?_) (λe=>?_)]
 .have e:((S.nd m).aG.length:Int)<(sh U m).ba:=hI e;rw[eE e] at k;exact k D H (Goes.refl h)
 .have e:¬((S.nd m).aG.length:Int)<(sh U m).ba:=λz=>e (f7 z);rw[er e] at k;dsimp only at k;lk;erw[aZ u a.cl a.aG rfl ?_];lk;erw[aZ B b.cl b.n7 N ?_];erw[hY (D.fa m) S.clk _ _ (mq rfl (fk.of t) o (λq g I O v=>?_))];have l:=h.acJ n j r O I (dR S.clk (sh U m).bZ (S.nd m).aG) v;rw[yg r,show({D with fa:=eJ D.fa m q}:Dy).fa m=q from bG _ _ _] at l;have G:=I _ _ u;lk;refine bV G a.cl a.aG (by show 12<1000;decide) ?_
  change jf _ _ _ _ (upd g (L.nd m) (.ins (bu ei U m) (L.dn m) (pE U L (S.nd m) m++rx q (D.wa m) (S.nd m))))
  have l:Goes R TR ei U L FT D H {D with fa:=eJ D.fa m q} (up S m λd=>{d with aG:=dR S.clk (sh U m).bZ (S.nd m).aG}) (upd g (L.nd m) (.ins (bu ei U m) (L.dn m) (pE U L (S.nd m) m++rx q (D.wa m) (S.nd m)))):=l;have M:(upd g (L.nd m) (.ins (bu ei U m) (L.dn m) (pE U L (S.nd m) m++rx q (D.wa m) (S.nd m)))) (L.nd m)=some (.ins (bu ei U m) (L.dn m) (pE U L (S.nd m) m++rx q (D.wa m) (S.nd m))):=ae;have x:L.ch m≠L.nd m:=Ne.symm ((h.far (.nd m) j).2.1 m j).2;have c:(upd g (L.nd m) (.ins (bu ei U m) (L.dn m) (pE U L (S.nd m) m++rx q (D.wa m) (S.nd m)))) (L.ch m)=some (.ins Cc dc fc):=by rw[ai x];exact I _ _ B
  have p:(upd g (L.nd m) (.ins (bu ei U m) (L.dn m) (pE U L (S.nd m) m++rx q (D.wa m) (S.nd m)))) q=some (.lst ((dR S.clk (sh U m).bZ (S.nd m).aG).map V.int)):=by rwa[ai (Ne.symm (aq u O))]
  generalize upd g (L.nd m) (.ins (bu ei U m) (L.dn m) (pE U L (S.nd m) m++rx q (D.wa m) (S.nd m)))=H2 at l M c p;lk;erw[aZ M a.cl a.aG rfl ?_];lk;erw[aZ c b.cl b.n7 N ?_];lk;erw[aZ c b.cl b.n6 cm ?_];erw[pq q S.clk _ _ _ (mq rfl (fk.of p) (F6 (zX _ _ _) o) (λH3 Z=>?_))];rw[LD];have e2:(up S m λd=>{d with aG:=dR S.clk (sh U m).bZ (S.nd m).aG})=up S m λd=>{d with aG:=dR S.clk (sh U m).bZ (S.nd m).aG}:=rfl;exact k _ H3 (l.trans (Goes.same n l.rp Z))
def JJ{n ct:Nat}(h:n<2^ct):cy (λk=>Nat.testBit n k) ct=n:=by
 refine(AU λk=>?_).symm;by_cases a:k<ct
 .rw[f7 a,afB]
 .rw[j0 a,afM];exact Nat.testBit_lt_two_pow (wh h (ahf ∅ ()))
def UE{S:HS}{m i:Nat}(b:i<T.length)(a:par T i=some m):Nat.testBit (bH T m S) (hH T i)= !cg S i:=by
 unfold bH;rw[bz,Ci b a,f7 (FW T b a)]
 rfl
def Qa(x:jE TR)(T:Txt mg){Cl:Nat->Addr->Prop}(hS:ShI P w K mg dH R Cl)(hN:aT P w K mg dH 2 "not_off" (je R TR ei false (λT _ _ us=>us=[]/\T.length<=64) (λ_ _ S=>S) (λT S i=>.int ((bH T i S:Nat):Int))) λC=>C=ei.cM)(Z:CS K ei.cL)(G:CS K ei.cM)
  (F:aI K "turn_for" "MinderStanding.turn_for" dA dV f fd) {C:Addr} (hC:C=ei.cM):
  aC P w K mg dH (fw P w) true 4 f fd gB (Ou R TR ei (λT S m i us=>us=[.int S.clk]/\(S.nd m).aG.length<sizeLine/\(S.nd m).good<2^(kids T m).length/\toBe T m i S=true) kO (λ_ _ _ _=>.non) C):=by
 erw[F.br fS λvs H Q E y0=>?_];obtain⟨U,L,FT,D,S,m,i,us,rfl,⟨rfl,O,ac,p⟩,h,e,r,Y,hp,ab,e0,k⟩:=y0;have a:=hN.d;have c:=hS.ch.d
 refine⟨rfl,λal A dN s hr=>⟨_,(aa (bq (i:=3) fS.nd (nt (aw (pv 0) rfl) c (aj (aw (pv 1) rfl) (aj (aQ aP (by rfl) T.fN cJ (aj (aw (pv 0) rfl) ag)) (aj (jd (pv 0) a) (aj (aw (pv 0) rfl) ag))))))
   (aa (aB (fg Bn ae3 ae4 cD (aw (pv 0) rfl) (aj (pv 2) ag)))
   (aa (aH (pv 0) ar rfl)
   (aa (aH (pv 0) (hD b7 (pv 3) ah) rfl)
   (af (aH (pv 0) (hD b7 (pv 3) ah) rfl)))))),?_⟩⟩
 fin2
 have b:CS K (bu ei U m):=by rwa[e0,hC]
 have J:CS K (bu ei U i):=by
  unfold bu
  split
  .exact Z
  .exact G
 have hn:=bh h e r;have hj:=h.cells (.nd i) Y;have mi:=h.mi m e;have pl:=FW U Y hp;have kl:=sj U m
 have kd:3<=(sh U m).kind:=by
  have:¬(sh U m).kind<3:=afk r
  lia
 obtain⟨oc,X,hR⟩:=h.ch m e;obtain⟨Cc,dc,fc,c1,c2,c3,c4,c5,c6,c7⟩:=hS.I.inst (hR H X);have k:∀D' H',Goes R TR ei U L FT D H D' (kO U m i S) H'->Q .non H':=k;unfold kO Kz at k;dsimp only at k;unfold toBe at p;rw[oT,afU] at p;lk;erw[aZ hn b.cl b.child rfl ?_];lk;erw[dJ c1 ⟨⟨_,kd,c2⟩,rfl,rfl⟩ c7 ?_];lk;erw[aZ hj J.cl J.place (xp _ _) ?_];lk;erw[aZ hn b.cl b.tS rfl ?_];lk;erw[iE (L.mi m) _ (mE rfl (.inl (fk.of mi)) ?_)];rw[gm];lk;erw[kb (L.nd m) _ _ _ _ ([]) (fT rfl hn ⟨e0.trans hC,rfl,rfl⟩ rfl ?_)];erw[pf U L FT D S m ([]) (l7 rfl ⟨rfl,ab⟩ h e r rfl (λo H1 B=>?_))];have n1:=bh B.rp e r;obtain⟨am,y,W⟩:=B.rp.ch m e;have ad:=B.kp _ _ (λl v z=>((h.far l v).2.1 m e).2 z.symm) c1;lk;erw[aZ n1 b.cl b.good rfl ?_];have lt:bH U m S<2^(kids U m).length:=oP _ _;erw[⟨L.ch m,dc,fc,sh U m,hH U i,(kids U m).length,λk=>Nat.testBit (bH U m S) k,λk=>Nat.testBit (S.nd m).good k,by rw[JJ lt,JJ ac];rfl,W H1 y,ad,kd,pl,(),?_,p.2,λq N s2 hq n=>?_⟩]
 .show Nat.testBit (bH U m S) (hH U i)=false;rw[UE Y hp,p.1]
  rfl
 have M:=B.trans (Goes.same x B.rp s2);have n2:=bh M.rp e r;have t:=M.rp.cells (.fa m) ⟨e,r⟩;generalize Shp.kN (sh U m).kind (hH U i) (kids U m).length (λk=>Nat.testBit (bH U m S) k)=pa at k n;generalize anew (sh U m).kind (hH U i) (kids U m).length (λk=>Nat.testBit (S.nd m).good k)=pb at k n;lk;erw[pq (L.nd m) _ _ _ _ (l7 rfl n2 b.cl b.aG rfl (.inl ⟨rfl,_,fk.of t⟩) ?_)];lk;erw[pw _ _ _ (fT rfl rfl t (by rwa[gm]) ?_)];have qf:q≠o.fa m:=λz=>by rw[z] at n;rw[show (Lb.fa m).at L o=o.fa m from rfl,n] at t;cases t
 have u:=M.trans (M.rp.adj x e r ((S.nd m).aG++[S.clk]));rw[ni] at u
 change jf _ _ _ _ (upd N (o.fa m) (.lst ((S.nd m).aG.map V.int++[V.int S.clk])))
 have u:Goes R TR ei U L FT D H o (up S m λd=>{d with aG:=(S.nd m).aG++[S.clk]}) (upd N (o.fa m) (.lst ((S.nd m).aG.map V.int++[V.int S.clk]))):=u;have g:(upd N (o.fa m) (.lst ((S.nd m).aG.map V.int++[V.int S.clk]))) q=some (.tup [.int ((pa:Nat):Int),.int ((pb:Nat):Int)]):=by rwa[ai qf]
 generalize upd N (o.fa m) (.lst ((S.nd m).aG.map V.int++[V.int S.clk]))=H3 at u g;have n3:=bh u.rp e r;rw[az] at n3;lk;erw[bV n3 b.cl b.state (by show 12<1000;decide) ?_];have qn:q≠L.nd m:=λz=>by rw[z,n3] at g;cases g
 lk;erw[hY q _ _ _ (fT rfl rfl (l5.of (by rwa[ai qn])) rfl ?_)];lk;erw[bV ae b.cl b.leaving (by show 12<1000;decide) ?_];rw[aU];lk;erw[hY q _ _ _ (fT rfl rfl (l5.of (by rwa[ai qn])) rfl ?_)];lk;erw[bV ae b.cl b.bU (by show 12<1000;decide) ?_];rw[aU];have g4:=u.trans (kJ x u.rp e r (λd=>{d with st:="turning",dQ:=pa,com:=pb}) rfl rfl);rw[J4,az] at g4;erw[k o _ ?_]
 have e4:(up S m λd=>{d with aG:=d.aG++[S.clk],st:="turning",dQ:=pa,com:=pb})=up S m λd=>{ ({d with aG:=(S.nd m).aG++[S.clk]}:Nd) with st:="turning",dQ:=pa,com:=pb}:=by
  unfold up
  congr 1
  funext j
  by_cases z:j=m
  .rw[eE z,eE z,z]
  .rw[er z,er z]
 rwa[e4]
def WB(R:Rep)(TR:Hr.nS)(ei:HC)(C:Addr):Sp:=λvs H Q _=>∃(T:List Row) (L:Lo) (a:FS) (D:Dy) (S:HS) (m:Nat),vs=[.ref (L.nd m)]/\Rp R TR ei T L a D S H/\m<T.length/\T.length<=64/\fm T m=false/\bu ei T m=C∧
 ∀H' q,Goes R TR ei T L a D H D (up S m bb) H'->H q=none->H' q=some (.lst ((bU T m S).map λj=>V.ref (L.nd j)))->Q (.ref q) H'
def O3(g:jE TR)(T:Txt mg)(r:CS K ei.cL)(l:CS K ei.cM)(Z:jm P w K mg dH true 1 "bit" JM [])(Y:jm P w K mg dH true 1 "without" x9 [])
  (F:aI K "turn_back" "MinderStanding.turn_back" cY dV f fd) {C:Addr} (hC:C=ei.cM):aC P w K mg dH (fw P w) true 2 f fd fO (WB R TR ei C):=by
 erw[F.br fL λvs H Q E X=>?_];obtain⟨U,L,FT,D,S,m,rfl,h,B,ac,O,e0,k⟩:=X
 refine⟨rfl,λab A dN s hr=>⟨_,(aa (bq (i:=1) fL.nd (cb Y (aj (aw (pv 0) rfl) (aj (aw (pv 0) rfl) ag))))
   (aa (aH (pv 0) ar rfl)
   (aa (aH (pv 0) ah rfl)
   (aa (aH (pv 0) ah rfl)
   (af (av (m9 (x:="each") (fr:=[("coming",1)]) (by exact⟨rfl,rfl,by decide +kernel,by decide +kernel,rfl,by decide +kernel,(by repeat (first|exact True.intro|erw[⟨rfl,?_⟩])),by repeat (first|exact True.intro|erw[⟨(by first|exact λ_=>⟨_,rfl⟩|(intro z;cases z)),?_⟩]),(by repeat (first|exact True.intro|erw[⟨⟨rfl,.inl rfl,rfl,rfl⟩,?_⟩]))⟩) rfl (kP (aw (pv 0) rfl)) (λ_ _ _ _=>(Mu (Fx wu (aA Gh (pv 1) (Fz Z (hr.mono (by omega)) (by rfl) yp (aj (KO (K0:=K) rfl (pv 0) (by rfl)) ag))) ah (FO _)))) (λ_ _ _ _=>(pv 0))))))))),?_⟩⟩
 fin2
 have a:CS K (bu ei U m):=by rwa[e0,hC]
 have o:∀j,CS K (bu ei U j):=λj=>by
  unfold bu
  split
  .exact r
  .exact l
 have G:=bh h B O;have kl:=sj U m;lk;erw[aZ G a.cl a.bU rfl ?_];lk;erw[aZ G a.cl a.good rfl ?_];erw[iE ((S.nd m).com) ((S.nd m).good) ⟨rfl,?_⟩];lk;erw[bV G a.cl a.state (by show 12<1000;decide) ?_];lk;erw[bV ae a.cl a.leaving (by show 12<1000;decide) ?_];rw[aU];lk;erw[bV ae a.cl a.bU (by show 12<1000;decide) ?_];rw[aU];have c:=kJ g h B O bb rfl rfl;have N:∀q,(upd H (L.nd m) (.ins (bu ei U m) (L.dn m) (pE U L (bb (S.nd m)) m++rx (D.fa m) (D.wa m) (bb (S.nd m))))) q=none->H q=none:=c.al;lk;have b:=c.rp.mi m B;erw[aZ ae a.cl a.tS rfl ?_];lk;erw[⟨⟨_,fk.of b⟩,?_⟩]
 change O2 _ _ _ _ _ (upd H (L.nd m) (.ins (bu ei U m) (L.dn m) (pE U L (bb (S.nd m)) m++rx (D.fa m) (D.wa m) (bb (S.nd m))))) _
 generalize upd H (L.nd m) (.ins (bu ei U m) (L.dn m) (pE U L (bb (S.nd m)) m++rx (D.fa m) (D.wa m) (bb (S.nd m))))=H1 at c N b;erw[eZ (J:=Itl K (L.mi m)) (n:=(kids U m).length) (λt ys H'=>H'=H1/\ys=(((kids U m).take t).filter λj=>Nat.testBit (S.nd m).com (hH U j)&& !Nat.testBit (S.nd m).good (hH U j)).map λj=>V.ref (L.nd j)) ⟨rfl,rfl⟩ ?_ ?_ ?_ ?_]
 .rintro t ys H' ht ⟨rfl,_⟩;exact⟨_,V.ref (L.nd (kids U m)[t]),fk.of b,by rw[jl,gy ht];rfl⟩
 .rintro ys H' ⟨rfl,_⟩;exact⟨_,fk.of b,by rw[gm];exact fC _⟩
 .rintro t ys H' v H2 ht ⟨rfl,rfl⟩ ⟨rfl,p⟩;have p:=p _ (fk.of b);rw[jl,gy ht] at p;obtain rfl:V.ref (L.nd (kids U m)[t])=v:=iH p;obtain⟨k1,k2,k3⟩:=Q2 (gy ht);have tk:(kids U m).take (t+1)=(kids U m).take t++[(kids U m)[t]]:=by rw[aft,gy ht];rfl
  have I:=c.rp.cells (.nd (kids U m)[t]) k3;have M:(((kids U m).take t).filter λj=>Nat.testBit (S.nd m).com (hH U j)&& !Nat.testBit (S.nd m).good (hH U j)).length<=64:=mf (afG _ _) (by rw[XP];lia);generalize (kids U m)[t]=j at k1 k2 k3 I tk;lk;erw[aZ I ((o j).cl) ((o j).place) (xp _ _) ?_];lk;erw[⟨by rw[k1];lia,?_⟩];lk;have u:=MN ((S.nd m).com &&& ((S.nd m).com ^^^ (S.nd m).good)) (hH U j)
  have et:Nat.testBit ((S.nd m).com &&& ((S.nd m).com ^^^ (S.nd m).good)) (hH U j)=(Nat.testBit (S.nd m).com (hH U j)&& !Nat.testBit (S.nd m).good (hH U j)):=by
   rw[afE,af2];cases Nat.testBit (S.nd m).com (hH U j)<;>cases Nat.testBit (S.nd m).good (hH U j)<;>rfl
  rw[et] at u;erw[bp (λe=>?_) (λe=>?_)]
  .have e:(Nat.testBit (S.nd m).com (hH U j)&& !Nat.testBit (S.nd m).good (hH U j))=true:=by
    have e:(!decide (V.int (Builtin.bitAnd (((S.nd m).com &&& ((S.nd m).com ^^^ (S.nd m).good):Nat):Int) ((2^hH U j:Nat):Int))=V.int 0))=true:=e;cases z:(Nat.testBit (S.nd m).com (hH U j)&& !Nat.testBit (S.nd m).good (hH U j)) with
    |true=>rfl
    |false=>rw[f7 (ix V.int (u.mpr z))] at e;cases e
   lk;erw[⟨by rw[gm];exact aV (),rfl,?_⟩];rw[tk,YP,afh,eE e,ni]
   rfl
  .have e:(Nat.testBit (S.nd m).com (hH U j)&& !Nat.testBit (S.nd m).good (hH U j))=false:=by
    cases z:(Nat.testBit (S.nd m).com (hH U j)&& !Nat.testBit (S.nd m).good (hH U j)) with
    |false=>rfl
    |true=>exact absurd (show(!decide (V.int (Builtin.bitAnd (((S.nd m).com &&& ((S.nd m).com ^^^ (S.nd m).good):Nat):Int) ((2^hH U j:Nat):Int))=V.int 0))=true by rw[j0 (λy=>by rw[u.mp (V.int.inj y)] at z;cases z)];rfl) e
   erw[⟨rfl,?_⟩];rw[tk,YP,afh,er (by rw[e];decide),af3,su]
 .rintro ys H' ⟨rfl,rfl⟩;rw[afx];have M:(bU U m S).length<=64:=mf (afG _ _) ();erw[⟨by rw[gm];exact afC (aV (mf M ∅)),λq W=>?_⟩];exact k _ q (c.trans (Goes.same g c.rp (au W))) (N q W) ae
open PySem L2 Shp Nm Tr Hs Hm Hr PySem.NumText
abbrev CZ:List Str:=["self","tree"]
abbrev ky:List Str:=["self","tree"]
def Bc:ao CZ ky (ak kG):=by kt_ors
abbrev Mp:List Str:=["self","standing"]
abbrev A7:List Str:=["self"]
def za:ao Mp A7 (ak uc):=by kt_ors
abbrev MM:List Str:=["self","name","standing"]
abbrev Bs:List Str:=["self","name"]
def zm:ao MM Bs (ak tQ):=by kt_ors
abbrev Mj:List Str:=["self","top"]
abbrev AV:List Str:=["self"]
def zt:ao Mj AV (ak ua):=by kt_ors
abbrev Lh:List Str:=["self"]
abbrev AZ:List Str:=["self"]
def Iz:ao Lh AZ (ak uH):=by kt_ors
abbrev sM:List Str:=["self","name"]
abbrev jc:List Str:=["self","name"]
def rA:ao sM jc (ak eI):=by kt_ors
abbrev IU:List Str:=["self","word","standing"]
abbrev zf:List Str:=["self","word","standing"]
def Hz:ao IU zf (ak qy):=by kt_ors
abbrev Js:List Str:=["self","standing","each"]
abbrev qA:List Str:=["self","standing"]
def xw:ao Js qA (ak qK):=by kt_ors
abbrev MI:List Str:=["self","standing"]
abbrev ug:List Str:=["self","standing"]
def ID:ao MI ug (ak tq):=by kt_ors
abbrev Gk:List Str:=["self","standing","word"]
abbrev vV:List Str:=["self","standing","word"]
def ES:ao Gk vV (ak nV):=by kt_ors
abbrev Hh:List Str:=["self","end"]
abbrev xC:List Str:=["self"]
def va:ao Hh xC (ak ow):=by kt_ors
abbrev B1:List Str:=["self","standing","word","minder"]
abbrev AW:List Str:=["self","standing","word"]
def rj:ao B1 AW (ak ju):=by kt_ors
abbrev uo:List Str:=["self","minder","standing"]
abbrev jP:List Str:=["self","minder"]
def iT:ao uo jP (ak eU):=by kt_ors
abbrev Hy:List Str:=["self","minder","standing"]
abbrev wW:List Str:=["self","minder","standing"]
def Fc:ao Hy wW (ak nM):=by kt_ors
abbrev Ds:List Str:=["self","minder","last"]
abbrev kC:List Str:=["self","minder"]
def pX:ao Ds kC (ak kF):=by kt_ors
abbrev yX:List Str:=["self","minder","standing"]
abbrev gQ:List Str:=["self","minder"]
def kZ:ao yX gQ (ak gZ):=by kt_ors
abbrev aaa:List Str:=["tree"]
abbrev R4:List Str:=["tree"]
def VI:ao aaa R4 (ak Mq):=by kt_ors
structure CH(K:PySem.W.Frag)(C:Addr):Prop where
 cl:tW K C
 tree:aY K C "tree"
 Gb:aY K C "clock"
 entries:aY K C "entries"
 ends:aY K C "ends"
 tm:aY K C "standings"
def B7(R:Rep)(TR:Hr.nS)(ei:HC)(C:Addr):Sp:=λvs H Q _=>∃(T:List Row) (L:Lo) (a:FS) (D:Dy) (S:HS) (i:Nat) (wd:Str),vs=[.ref L.x,.str wd,.ref (L.nd i)]/\Rp R TR ei T L a D S H/\ei.cH=C/\i<T.length/\S.book.length<sizeLine/\∀D' H',Goes R TR ei T L a D H D' (write T wd i S) H'->Q .non H'
def pY(b:CS K ei.cL)(a:CS K ei.cM)(U:List Row)(j:Nat):CS K (bu ei U j):=by
 unfold bu
 split
 .exact b
 .exact a
def X1(l:jE TR){v:Nat->Addr->Prop}(M:ShI P w K mg dH R v)(m:CS K ei.cL)(e:CS K ei.cM)(a:CH K ei.cH)(F:aI K "write" "House.write" qy dV f fd){C:Addr}:aC P w K mg dH (fw P w) true 1 f fd zf (B7 R TR ei C):=by
 erw[F.br Hz λvs H Q E B=>?_];obtain⟨U,L,Y,D,S,i,wd,rfl,h,N,r,I,k⟩:=B;erw[⟨rfl,λy A dN s hr=>⟨_,(af (aB (fg Bn ae3 ae4 cD (aw (pv 0) rfl) (aj (lL (aj (aw (pv 0) rfl) (aj (pv 1) (aj (aw (aw (pv 2) rfl) rfl) ag)))) ag)))),?_⟩⟩]
 fin2
 have p:=h.cells .hs trivial;have b:=h.cells .en trivial;have u:=h.cells (.nd i) r;have c:=pY m e U i;obtain⟨O,g,z⟩:=h.ch i r;obtain⟨W,dc,fc,G,n,J,X,Z⟩:=M.fld (z H g);lk;erw[pq L.x _ _ _ _ (l7 rfl p a.cl a.entries rfl (.inl ⟨rfl,_,fk.of b⟩) ?_)];lk;erw[aZ p a.cl a.Gb rfl ?_];lk;erw[aZ u c.cl c.child (BW _ _) ?_];lk;erw[aZ G n.cl n.n1 J ?_];erw[⟨l8 (by show 3<=100;decide),λq j=>?_⟩];have s1:=au (o:= .tup [.int S.clk,.str wd,.str (sh U i).name]) j;have ne:L.en≠q:=aq b j;lk;erw[pw L.en _ _ (fT rfl rfl (by rwa[ai ne]) (by rwa[gm,h.bkl]) ?_)];have t:=h.entry l (q:=q) (S.clk,wd,(sh U i).name) j;rw[ni] at t;exact k _ _ t
def lO(R:Rep)(TR:Hr.nS)(ei:HC)(a:List Row->Nat->HS->Prop)(b:List Row->Nat->HS->HS)(C:Addr):Sp:=λvs H Q _=>∃(T:List Row) (L:Lo) (c:FS) (D:Dy) (S:HS) (i:Nat),vs=[.ref L.x,.ref (L.nd i)]/\Rp R TR ei T L c D S H/\ei.cH=C/\mn T/\Wf T S/\i<T.length/\a T i S/\(b T i S).book.length<sizeLine∧
 ∀D' H',Goes R TR ei T L c D H D' (b T i S) H'->Q .non H'
def DtB(R:Rep)(TR:Hr.nS)(ei:HC)(C:Addr)(s:Sp)(a:List V):Prop:=a=[]/\((C=ei.cL/\s=je R TR ei true Ef nX nR C)\/(C=ei.cM/\s=je R TR ei false Ef nX nR C))
def OU{U:List Row}{L:Lo}{D:Dy}{d:Nd}{i:Nat}{x:Str}(a:(pE U L d i++fsL d).lookup x=none)(b:(pE U L d i++rx (D.fa i) (D.wa i) d).lookup x=none):(mu U L D d i).lookup x=none:=by
 unfold mu;cases fm U i with
 |true=>exact a
 |false=>exact b
def Z7{U:List Row}{L:Lo}{D:Dy}{d:Nd}{i:Nat}:(mu U L D d i).length<1000:=by
 unfold mu;cases fm U i with
 |true=>show 10<1000;decide
 |false=>show 12<1000;decide
def rW{U:List Row}{i:Nat}(h:fm U i=true):bu ei U i=ei.cL:=by unfold bu;rw[h];rfl
def fj{U:List Row}{i:Nat}(h:fm U i=false):bu ei U i=ei.cM:=by unfold bu;rw[h];rfl
def ab6(U:List Row)(i:Nat):∃sp,DtB R TR ei (bu ei U i) sp []/\∀(L:Lo) (a:FS) (D:Dy) (S:HS) (H:Hp) (Q:VK) (E:XK),Rp R TR ei U L a D S H->i<U.length->(∀D' H',Goes R TR ei U L a D H D' (nX U i S) H'->Q .non H')->sp [.ref (L.nd i),.int S.clk] H Q E:=by
 cases hl:fm U i with
 |true=>exact⟨_,⟨rfl,.inl ⟨rW hl,rfl⟩⟩,λL a D S H Q E h b k=>⟨U,L,a,D,S,i,_,rfl,rfl,h,b,hl,rfl,k⟩⟩
 |false=>exact⟨_,⟨rfl,.inr ⟨fj hl,rfl⟩⟩,λL a D S H Q E h b k=>⟨U,L,a,D,S,i,_,rfl,rfl,h,b,hl,rfl,k⟩⟩
def BQ{U:List Row}{d:Nat}(ok:mn U)(l:List Nat)(c:∀j∈l,j<U.length)(a:HS)(e:Wf U a)(t:Nat):Wf U ((l.take t).foldl (λS j=>a9 U d j S) a)/\((l.take t).foldl (λS j=>a9 U d j S) a).book.length<=(l.foldl (λS j=>a9 U d j S) a).book.length:=by
 constructor
 .exact Wf.foldl _ _ (λj b S w=>Wf.a9 ok d j S (c j (List.mem_of_mem_take b)) w) e
 .have:=rP (l.drop t) ((l.take t).foldl (λS j=>a9 U d j S) a) (f:=λS j=>a9 U d j S) (λj _ S=>oq d j S);rw[<- agz,ag7] at this;exact this
def Ua(al:jE TR)(T:Txt mg)(M:CS K ei.cL)(W:CS K ei.cM)(p:CH K ei.cH){n:Nat}(d:Nat)(hn:2<=n)(a:∀C s o,DtB R TR ei C s o->MethAt P w K mg dH (fw P w) true n "begin" C s o)(hW:aT P w K mg dH 1 "write" (B7 R TR ei) λC=>C=ei.cH)
  (hB:aT P w K mg dH n "begin" (lO R TR ei (λT i _=>bW T d i) (λT i S=>a9 T d i S)) λC=>C=ei.cH) (F:aI K "begin" "House.begin" qK dV f fd) {C:Addr}:
  aC P w K mg dH (fw P w) true (n+1) f fd qA (lO R TR ei (λT i _=>bW T (d+1) i) (λT i S=>a9 T (d+1) i S) C):=by
 erw[F.br xw λvs H Q E y0=>?_];obtain⟨U,L,q,D,S,i,rfl,h,e0,ok,wf,e,Y,Z,k⟩:=y0;have iz:=hW.d;have b:=hB.d
 refine⟨rfl,λab A dN s hr=>⟨_,(aa (aB (nt (pv 1) a (aj (aw (pv 0) rfl) ag)))
   (aa (aB (nt (pv 0) iz (aj ar (aj (pv 1) ag))))
   (af (oH afv rfl (kP (aw (pv 1) rfl)) (c9 (i:=2) xw.nd rfl (by first|exact Or.inl rfl|exact Or.inr rfl)) (af (aB (nt (pv 0) b (aj (pv 2) ag)))))))),?_⟩⟩
 fin2
 have hx:=h.cells .hs trivial;have O:=h.cells (.nd i) e;have r:=pY M W U i;have k:∀D' H',Goes R TR ei U L q D H D' (a9 U (d+1) i S) H'->Q .non H':=k;have Z:(a9 U (d+1) i S).book.length<sizeLine:=Z;lk;obtain⟨sp,hd,G⟩:=ab6 (R:=R) (TR:=TR) (ei:=ei) U i;erw[kb (L.nd i) _ _ _ sp ([]) (fT rfl O hd (OU rfl rfl) ?_)];lk;erw[aZ hx p.cl p.Gb rfl ?_];erw[G L q D S H _ _ h e (λD1 H1 N=>?_)];have x1:=N.rp.cells .hs trivial;have w1:=wf.nX ok e;have w2:=w1.write "begun" i;have ac:(write U "begun" i (nX U i S)).book.length<=(a9 U (d+1) i S).book.length:=rP _ _ λj _ S=>oq d j S;have ad:=cR (T:=U) "begun" i (nX U i S);erw[jx rfl (dJ x1 ⟨rfl,rfl,rfl⟩ rfl ?_)];lk;erw[pf U L q D1 _ i ("begun") (rz rfl N.rp rfl e () (λX H2 g=>?_))];have g:=N.trans g;have j2:=g.rp.cells (.nd i) e;have c:=g.rp.mi i e;have J:∀j∈kids U i,j<U.length:=λj O=>(df O).1
 have I:∀(l:Lb),vl U l->L.mi i≠l.at L X:=λl v z=>by
  rcases g.fr l v with y|y
  .exact ((h.far l v).2.1 i e).1 (by rw[z,y])
  .rw[<- z,h.mi i e] at y;cases y
 lk;erw[aZ j2 r.cl r.tS (U3 _ _) ?_];lk;erw[⟨⟨_,fk.of c⟩,?_⟩];erw[tY (n:=(kids U i).length) (λt u H'=>∃m v,Goes R TR ei U L q X H2 m (((kids U i).take t).foldl (λS j=>a9 U d j S) (write U "begun" i (nX U i S))) H'/\u=[some (.ref L.x),some (.ref (L.nd i)),v]) ⟨X,none,Goes.refl g.rp,rfl⟩ ?_ ?_ ?_]
 .rintro t u H' ht ⟨m,v,g3,_⟩;exact⟨_,V.ref (L.nd (kids U i)[t]),fk.of (g3.kp _ _ I c),by rw[jl,gy ht];rfl⟩
 .rintro t u H' y H3 ht ⟨m,v,g3,rfl⟩ ⟨rfl,B⟩;have B:=B _ (fk.of (g3.kp _ _ I c));rw[jl,gy ht] at B;obtain rfl:V.ref (L.nd (kids U i)[t])=y:=iH B;have x3:=g3.rp.cells .hs trivial;obtain⟨w3,_⟩:=BQ (d:=d) ok (kids U i) J _ w2 t;obtain⟨_,l4⟩:=BQ (d:=d) ok (kids U i) J _ w2 (t+1);have km:(kids U i)[t]∈kids U i:=M5 ht
  have tk:((kids U i).take (t+1)).foldl (λS j=>a9 U d j S) (write U "begun" i (nX U i S))=a9 U d (kids U i)[t] (((kids U i).take t).foldl (λS j=>a9 U d j S) (write U "begun" i (nX U i S))):=by
   rw[aft,gy ht,agz]
   rfl
  rw[tk] at l4;erw[jx rfl (dJ x3 ⟨rfl,rfl,rfl⟩ rfl ?_)];erw[jx rfl (kb U L q m _ ((kids U i)[t]) (an9 rfl g3.rp rfl ok w3 (J _ km) (Y _ km) (F6 l4 Z) (λD4 H4 g4=>?_)))];exact⟨D4,_,by rw[tk];exact g3.trans g4,rfl⟩
 .rintro u H' ⟨m,v,g3,rfl⟩;erw[⟨⟨_,fk.of (g3.kp _ _ I c),by rw[gm];exact fC _⟩,?_⟩];rw[afx] at g3;exact k m H' (g.trans g3)
def BP(R:Rep)(TR:Hr.nS)(ei:HC)(C:Addr):Sp:=λvs H Q _=>∃(T:List Row) (L:Lo) (a:FS) (D:Dy) (S:HS) (i:Nat) (wd:Str),vs=[.ref L.x,.ref (L.nd i),.str wd]/\Rp R TR ei T L a D S H/\ei.cH=C/\S.ends.length<=S.book.length/\i<T.length/\(aW T i wd S).book.length<sizeLine∧
 ∀D' H',Goes R TR ei T L a D H D' (aW T i wd S) H'->Q .non H'
def UR(a:jE TR)(p:CS K ei.cL)(m:CS K ei.cM)(g:CH K ei.cH)(Z:aT P w K mg dH 1 "write" (B7 R TR ei) λC=>C=ei.cH)(F:aI K "end_by" "House.end_by" nV dV f fd){C:Addr}:aC P w K mg dH (fw P w) true 2 f fd vV (BP R TR ei C):=by
 erw[F.br ES λvs H Q E W=>?_];obtain⟨U,L,Y,D,S,i,wd,rfl,h,e0,he,n,c,k⟩:=W;have iz:=Z.d
 refine⟨rfl,λO A dN s hr=>⟨_,(af (aL (iw wu (pv 2) ar) (aa (aH (pv 1) ar rfl)
   (aa (aB (nt (pv 0) iz (aj (pv 2) (aj (pv 1) ag))))
   (af (aB (fg Bn ae3 ae4 cD (aw (pv 0) rfl) (aj (lL (aj (pv 1) (aj (pv 2) ag))) ag)))))) ay)),?_⟩⟩
 fin2
 have B:=h.cells (.nd i) n;have j:=pY p m U i;unfold aW at k c;lk;erw[bp (λe=>?_) (λe=>?_)]
 .have e:¬wd="":=λz=>by
   have e:(!decide (V.str wd=V.str ""))=true:=e;rw[f7 (ix V.str z)] at e;cases e
  rw[er e] at k c
  have N:S.book.length+1<sizeLine:=by
   have:=cR (T:=U) wd i (up S i λd=>{d with st:="off"});have c:(write U wd i (up S i λd=>{d with st:="off"})).book.length<sizeLine:=c;rw[this] at c;exact c
  have r:=h.node a n (λd=>{d with st:="off"}) rfl rfl
  have J:ku "state" (V.str "off") (mu U L D (S.nd i) i)=mu U L D {S.nd i with st:="off"} i:=by
   unfold mu;cases fm U i<;>rfl
  lk;erw[hY (L.nd i) _ _ _ (rz rfl B j.cl j.state Z7 ?_)]
  change jf _ _ _ _ (upd H (L.nd i) (.ins (bu ei U i) (L.dn i) (ku "state" (V.str "off") (mu U L D (S.nd i) i))))
  rw[J];have I:=r.rp.cells .hs trivial;erw[jx rfl (dJ I ⟨rfl,rfl,rfl⟩ rfl ?_)];lk;erw[pf U L Y D _ i wd (rz rfl r.rp rfl n (by show S.book.length<sizeLine;lia) (λM H2 b=>?_))];have b:=r.trans b;have x2:=b.rp.cells .hs trivial;have l:=b.rp.cells .qu trivial;lk;erw[pq L.x _ _ _ _ (l7 rfl x2 g.cl g.ends rfl (.inl ⟨rfl,_,fk.of l⟩) ?_)];lk;erw[⟨l8 (by show 2<=100;decide),λq u=>?_⟩];have X:=au (o:= .tup [.ref (L.nd i),.str wd]) u;have t:=Goes.same a b.rp X;have ne:L.qu≠q:=aq l u;have G:M.qs.length=S.ends.length:=b.rp.qsl;lk;erw[pw L.qu _ _ (fT rfl rfl (by rwa[ai ne]) (by rw[gm,G];lia) ?_)];have v:=t.rp.RO a (q:=q) (e:=(i,wd)) ae;rw[ni] at v;exact k _ _ (b.trans (t.trans v))
 .have e:wd="":=by
   by_cases z:wd=""
   .exact z
   .exact absurd (show(!decide (V.str wd=V.str ""))=true by rw[j0 (λy=>z (V.str.inj y))];rfl) e
  rw[eE e] at k;exact k D H (Goes.refl h)
def FZ(ab:jE TR)(T:Txt mg)(X:CS K ei.cL)(W:CS K ei.cM)(ac:CH K ei.cH){n:Nat}(hn:2<=n)(hL:aT P w K mg dH 1 "last_word" (je R TR ei false tT (λ_ _ S=>S) (λ_ S i=>.str (gf (S.nd i)))) λC=>C=ei.cM)(hE:aT P w K mg dH 2 "end_by" (BP R TR ei) λC=>C=ei.cH)
  (hK:aT P w K mg dH 2 "turn_back" (WB R TR ei) λC=>C=ei.cM) (hB:aT P w K mg dH n "begin" (lO R TR ei (λT i _=>bW T 9 i) (λT i S=>a9 T 9 i S)) λC=>C=ei.cH) (F:aI K "end_turning" "House.end_turning" gZ dV f fd) {C:Addr}:
  aC P w K mg dH (fw P w) true (n+1) f fd gQ (lO R TR ei (λT i _=>fm T i=false) aR C):=by
 erw[F.br kZ λvs H Q E y0=>?_];obtain⟨U,L,G,D,S,i,rfl,h,e0,ok,p,N,r,o,k⟩:=y0;have a:=hL.d;have c:=hE.d;have b:=hK.d;have g:=hB.d;erw[⟨rfl,λad A dN s hr=>⟨_,(af (aL (iw bQ (aw (pv 1) rfl) ar) (af (aB (nt (pv 0) c (aj (pv 1) (aj (jd (pv 1) a) ag))))) (af (oH afv rfl (kP (jd (pv 1) b)) (c9 (i:=2) kZ.nd rfl (by first|exact Or.inl rfl|exact Or.inr rfl)) (af (aB (nt (pv 0) g (aj (pv 2) ag)))))))),?_⟩⟩]
 fin2
 have B:=bh h N r;have hc:CS K (bu ei U i):=pY X W U i;have hx:=h.cells .hs trivial;have o:(aR U i S).book.length<sizeLine:=o;unfold aR at k o;lk;erw[aZ B hc.cl hc.state rfl ?_];lk;erw[bp (λe=>?_) (λe=>?_)]
 .have e:(S.nd i).st="down":=V.str.inj (hI e);rw[eE e] at k o;lk;erw[dJ hx ⟨rfl,rfl,rfl⟩ rfl ?_];lk;erw[kb (L.nd i) _ _ _ _ ([]) (fT rfl B ⟨fj r,rfl,rfl⟩ rfl ?_)];erw[pf U L G D S i ([]) (l7 rfl rfl h N r rfl (λD1 H1 I=>?_))];erw[pf U L G D1 S i _ (l7 rfl I.rp rfl (by have:=p.wl i;lia) N o (λD2 H2 g2=>k D2 H2 (I.trans g2)))]
 .have e:¬(S.nd i).st="down":=λz=>e (f7 (ix V.str z));rw[er e] at k o;lk;erw[kb (L.nd i) _ _ _ _ ([]) (fT rfl B ⟨fj r,rfl,rfl⟩ rfl ?_)];erw[kb U L G D S i (l7 rfl h N ok.n64 r rfl (λH1 q I hq m=>?_))];lk;have w1:Wf U (up S i bb):=p.up (p.wt i) (p.gd i) (p.fl i) (p.wl i) (λz=>by rw[r] at z;cases z);have J:∀j∈bU U i S,j<U.length:=λj B=>(df (kz B)).1
  have Y:∀(l:Lb),vl U l->q≠l.at L D:=λl v z=>by
   rw[z,h.cells l v] at hq;cases hq
  erw[⟨⟨_,fk.of m⟩,?_⟩];erw[tY (n:=(bU U i S).length) (λt M H'=>∃u v,Goes R TR ei U L G D H1 u (((bU U i S).take t).foldl (λS j=>a9 U 9 j S) (up S i bb)) H'/\M=[some (.ref L.x),some (.ref (L.nd i)),v]) ⟨D,none,Goes.refl I.rp,rfl⟩ ?_ ?_ ?_]
  .rintro t M H' ht ⟨u,v,g3,_⟩;exact⟨_,V.ref (L.nd (bU U i S)[t]),fk.of (g3.kp _ _ Y m),by rw[jl,gy ht];rfl⟩
  .rintro t M H' y H3 ht ⟨u,v,g3,rfl⟩ ⟨rfl,O⟩;have O:=O _ (fk.of (g3.kp _ _ Y m));rw[jl,gy ht] at O;obtain rfl:V.ref (L.nd (bU U i S)[t])=y:=iH O;have x3:=g3.rp.cells .hs trivial;obtain⟨w3,_⟩:=BQ (d:=9) ok (bU U i S) J _ w1 t;obtain⟨_,l4⟩:=BQ (d:=9) ok (bU U i S) J _ w1 (t+1);have Z:(bU U i S)[t]∈bU U i S:=M5 ht
   have tk:((bU U i S).take (t+1)).foldl (λS j=>a9 U 9 j S) (up S i bb)=a9 U 9 (bU U i S)[t] (((bU U i S).take t).foldl (λS j=>a9 U 9 j S) (up S i bb)):=by
    rw[aft,gy ht,agz]
    rfl
   rw[tk] at l4;erw[jx rfl (dJ x3 ⟨rfl,rfl,rfl⟩ rfl ?_)];erw[jx rfl (kb U L G u _ ((bU U i S)[t]) (an9 rfl g3.rp rfl ok w3 (J _ Z) (ok.deep _ (J _ Z)) (F6 l4 o) (λD4 H4 g4=>?_)))];exact⟨D4,_,by rw[tk];exact g3.trans g4,rfl⟩
  .rintro M H' ⟨u,v,g3,rfl⟩;erw[⟨⟨_,fk.of (g3.kp _ _ Y m),by rw[gm];exact fC _⟩,?_⟩];rw[afx] at g3;exact k u H' (I.trans g3)
def OL(O:jE TR)(T:Txt mg)(o:CS K ei.cL)(l:CS K ei.cM)(Z:CH K ei.cH){n:Nat}(d:Nat)(hn:3<=n)(Y:aT P w K mg dH 3 "last_left" (Yi R TR ei) λC=>C=ei.cM)
  (hE:aT P w K mg dH n "end_turning" (lO R TR ei (λT i _=>fm T i=false) aR) λC=>C=ei.cH) (X:aT P w K mg dH n "tell" (lO R TR ei (λT i _=>bW T d i) (λT i S=>cz T d i S)) λC=>C=ei.cH) (F:aI K "put_away" "House.put_away" kF dV f fd) {C:Addr}:
  aC P w K mg dH (fw P w) true (n+1) f fd kC (lO R TR ei (λT i _=>fm T i=false/\bW T (d+1) i) (λT i S=>aJ T d i S) C):=by
 erw[F.br pX λvs H Q E N=>?_];obtain⟨U,L,p,D,S,i,rfl,h,e0,ok,J,u,⟨q,t⟩,e,k⟩:=N;have b:=Y.d;have a:=hE.d;have c:=X.d
 refine⟨rfl,λab A dN s hr=>⟨_,(aa (bq (i:=2) pX.nd (jd (pv 1) b))
   (af (aL (iw CY (pv 2) ff) (af (aB (nt (pv 0) a (aj (pv 1) ag)))) (af (aL (fD (bM (aw (pv 2) rfl))) (af (aB (nt (pv 0) c (aj (pv 2) ag)))) ay))))),?_⟩⟩
 fin2
 have M:=bh h u q;have hc:CS K (bu ei U i):=pY o l U i;have e:(aJ U d i S).book.length<sizeLine:=e;have k:∀D' H',Goes R TR ei U L p D H D' (aJ U d i S) H'->Q .non H':=k;unfold aJ at k e;lk;erw[kb (L.nd i) _ _ _ _ ([]) (fT rfl M ⟨fj q,rfl,rfl⟩ rfl ?_)];erw[kb U L p D S i (l7 rfl h u ok.n64 q rfl (λz W g=>?_))];have I:=g.rp.cells .hs trivial;unfold RW;cases hll:cn U i S with
 |none=>
  rw[hll] at k e;lk;erw[dJ I ⟨rfl,rfl,rfl⟩ rfl ?_];erw[jx rfl (kb U L p z S i (an9 rfl g.rp rfl ok J u q e (λx v y=>k x v (g.trans y))))]
 |some j=>
  rw[hll] at k e;dsimp only at k e;have B:=kW hll;have G:=(df B).1;have m:CS K (bu ei U j):=pY o l U j;have r:=g.rp.cells (.nd j) G;lk;erw[aZ r m.cl m.asked (G7 _ _) ?_];cases ha:(S.nd j).asked with
  |true=>
   rw[ha] at k;lk;exact k z W g
  |false=>
   rw[ha] at k e;lk;erw[dJ I ⟨rfl,rfl,rfl⟩ rfl ?_];erw[jx rfl (kb U L p z S j (an9 rfl g.rp rfl ok J G (t j B) e (λx v y=>k x v (g.trans y))))]
def DtT(R:Rep)(TR:Hr.nS)(ei:HC)(C:Addr)(s:Sp)(a:List V):Prop:=a=[]/\((C=ei.cL/\s=je R TR ei true tT bB nR C)\/(C=ei.cM/\s=je R TR ei false (λT _ _ us=>us=[]/\T.length<=64) bB nR C))
def abQ(U:List Row)(b:U.length<=64)(i:Nat):∃sp,DtT R TR ei (bu ei U i) sp []/\∀(L:Lo) (a:FS) (D:Dy) (S:HS) (H:Hp) (Q:VK) (E:XK),Rp R TR ei U L a D S H->i<U.length->(∀D' H',Goes R TR ei U L a D H D' (bB U i S) H'->Q .non H')->sp [.ref (L.nd i)] H Q E:=by
 cases hl:fm U i with
 |true=>exact⟨_,⟨rfl,.inl ⟨rW hl,rfl⟩⟩,λL a D S H Q E h c k=>⟨U,L,a,D,S,i,_,rfl,rfl,h,c,hl,rfl,k⟩⟩
 |false=>exact⟨_,⟨rfl,.inr ⟨fj hl,rfl⟩⟩,λL a D S H Q E h c k=>⟨U,L,a,D,S,i,_,rfl,⟨rfl,b⟩,h,c,hl,rfl,k⟩⟩
def Vr(W:jE TR)(T:Txt mg){Z:Nat->Addr->Prop}(hS:ShI P w K mg dH R Z)(B:CS K ei.cL)(M:CS K ei.cM)(ad:CH K ei.cH){n:Nat}(d:Nat)(hn:3<=n)(l:∀C s c,DtT R TR ei C s c->MethAt P w K mg dH (fw P w) true n "tell" C s c)(hW:aT P w K mg dH 1 "write" (B7 R TR ei) λC=>C=ei.cH)
  (hE:aT P w K mg dH 2 "end_by" (BP R TR ei) λC=>C=ei.cH) (hO:aT P w K mg dH 1 "told_end" (je R TR ei true tT (λ_ _ S=>S) (λ_ S i=>.str (dP (S.nd i)))) λC=>C=ei.cL)
  (hP:aT P w K mg dH n "put_away" (lO R TR ei (λT i _=>fm T i=false/\bW T (d+1) i) (λT i S=>aJ T d i S)) λC=>C=ei.cH) (F:aI K "tell" "House.tell" tq dV f fd) {C:Addr}:
  aC P w K mg dH (fw P w) true (n+1) f fd ug (lO R TR ei (λT i _=>bW T (d+1) i) (λT i S=>cz T (d+1) i S) C):=by
 erw[F.br ID λvs H Q E y0=>?_];obtain⟨U,L,t,D,S,i,rfl,h,e0,ok,wf,m,X,q,k⟩:=y0;have iz:=hW.d;have g:=hE.d;have b:=hO.d;have a:=hP.d
 have o:∀C s c,Dt (w6 R) (λC=>∃j,Z j C) C s c->MethAt P w K mg dH (fw P w) true 3 "leaf" C s c:=by
  rintro C s c ⟨⟨j,z⟩,rfl,rfl⟩;exact hS.I.leaf z
 refine⟨rfl,λab A dN s hr=>⟨_,(aa (aB (nt (pv 0) iz (aj ar (aj (pv 1) ag))))
   (aa (aB (jd (pv 1) l))
   (af (aL (bM (jd (aw (pv 1) rfl) o)) (af (aB (nt (pv 0) g (aj (pv 1) (aj (jd (pv 1) b) ag))))) (af (aB (nt (pv 0) a (aj (pv 1) ag)))))))),?_⟩⟩
 fin2
 have hx:=h.cells .hs trivial;have v:=pY B M U i;have q:(cz U (d+1) i S).book.length<sizeLine:=q;have k:∀D' H',Goes R TR ei U L t D H D' (cz U (d+1) i S) H'->Q .non H':=k;have w1:=wf.write (T:=U) "told" i;have G:=w1.bB (i:=i);have ac:=cR (T:=U) "told" i S
 have N:(write U "told" i S).book.length<=(cz U (d+1) i S).book.length:=by
  rw[eY]
  split
  .exact ye (T:=U) i _ (bB U i (write U "told" i S))
  .exact jO (T:=U) d i (bB U i (write U "told" i S))
 rw[eY] at k;rw[eY] at q;erw[jx rfl (dJ hx ⟨rfl,rfl,rfl⟩ rfl ?_)];lk;erw[pf U L t D S i ("told") (rz rfl h rfl m (by rw[eY] at N;lia) (λD1 H1 J=>?_))];have j1:=J.rp.cells (.nd i) m;obtain⟨sp,hd,x⟩:=abQ (R:=R) (TR:=TR) (ei:=ei) U ok.n64 i;lk;erw[kb (L.nd i) _ _ _ sp ([]) (fT rfl j1 hd (OU rfl rfl) ?_)];erw[x L t D1 _ H1 _ _ J.rp m (λD2 H2 p=>?_)];have p:=J.trans p;have x2:=p.rp.cells .hs trivial;have j2:=p.rp.cells (.nd i) m;generalize bB U i (write U "told" i S)=S2 at k q G p j2 x2;obtain⟨oc,u,hR⟩:=p.rp.ch i m;obtain⟨Cc,dc,fc,c1,c2,c3,c4,c5,c6,c7⟩:=hS.I.inst (hR H2 u);lk;erw[aZ j2 v.cl v.child (BW _ _) ?_];lk;erw[dJ c1 ⟨⟨_,c2⟩,rfl,rfl⟩ c4 ?_];erw[hY (L.ch i) dc fc (sh U i) (mq rfl (hR H2 u) c1 (λH3 s3=>?_))];have r:=p.trans (Goes.same W p.rp s3);have x3:=r.rp.cells .hs trivial;erw[⟨_,rfl,?_⟩];erw[bp (λe=>?_) (λe=>?_)]
 .have hl:fm U i=true:=e;rw[hl] at k q;have j3:=nv r.rp m hl;lk;erw[dJ x3 ⟨rfl,rfl,rfl⟩ rfl ?_];lk;erw[kb (L.nd i) _ _ _ _ ([]) (fT rfl j3 ⟨rW hl,rfl,rfl⟩ rfl ?_)];erw[pf U L t D2 S2 i ([]) (l7 rfl rfl r.rp m hl rfl (λD4 H4 g4=>?_))];erw[pf U L t D4 S2 i _ (l7 rfl g4.rp rfl (by have:=G.wl i;lia) m q (λY y O=>k Y y (r.trans (g4.trans O))))]
 .have hl:fm U i=false:=by
   cases z:fm U i with
   |true=>exact absurd z e
   |false=>rfl
  rw[hl] at k q;lk;erw[dJ x3 ⟨rfl,rfl,rfl⟩ rfl ?_];erw[jx rfl (kb U L t D2 S2 i (an9 rfl r.rp rfl ok G m ⟨hl,X⟩ q (λY y O=>k Y y (r.trans O))))]
open PySem L2 Shp Nm Tr Hs Hm Hr PySem.NumText
def Rv{K:PySem.W.Frag}{H:Hp}{a c:Addr}{xs:List V}(e:fk K H a xs)(b:fk K H c []):Ma K H 1 (.ref a) (.ref c) xs.isEmpty:=by
 erw[.inr ⟨a,c,xs,[],rfl,rfl,?_⟩];cases xs with
 |nil=>exact .inr ⟨.inl ⟨e,b⟩,rfl,λ_=>true,λj h g z=>(by cases z),rfl⟩
 |cons x r=>exact .inl ⟨e,b,λz=>(by cases z),rfl⟩
def acS(n:Nat):seqIndex? 0 (n+1)=some 0:=by
 show(if (decide ((0:Int)<=0)&&decide ((0:Int)<((n+1:Nat):Int)))=true then some (0:Int).toNat else none)=some 0;rw[f7 (show(0:Int)<((n+1:Nat):Int) by lia)]
 rfl
def toBe_enough{U:List Row}{S:HS}{m i:Nat}(a:i≠m)(wd:Str)(j:Nat):toBe U m i (write U wd j (aE U m S).2)=toBe U m i S:=by
 obtain⟨l,e,_⟩:=sI (T:=U) m S;rw[e];unfold toBe cg;show(decide (((up S m λd=>{d with aG:=l}).nd i).st="off")&& !Nat.testBit ((up S m λd=>{d with aG:=l}).nd m).good (hH U i))=_;rw[bF _ a,az]
def aaF(R:Rep)(TR:Hr.nS)(ei:HC)(C:Addr):Sp:=λvs H Q _=>∃(T:List Row) (L:Lo) (a:FS) (D:Dy) (S:HS) (m i:Nat),vs=[.ref L.x,.ref (L.nd m),.ref (L.nd i)]/\Rp R TR ei T L a D S H/\ei.cH=C/\mn T/\Wf T S/\i<T.length/\par T i=some m/\toBe T m i S=true/\(answer T m i S).book.length<sizeLine∧
   ∀D' H',Goes R TR ei T L a D H D' (answer T m i S) H'->Q .non H'
def Pj(ac:jE TR)(T:Txt mg)(W:CS K ei.cL)(X:CS K ei.cM)(r:CH K ei.cH){n:Nat}(hn:4<=n)(hN:aT P w K mg dH 3 "has_enough" (Oj R TR ei) λC=>C=ei.cM)(hW:aT P w K mg dH 1 "write" (B7 R TR ei) λC=>C=ei.cH)
  (hG:aT P w K mg dH 3 "give_up" (je R TR ei false (λT _ _ us=>us=[]/\T.length<=64) giveUp nR) λC=>C=ei.cM)
  (hF:aT P w K mg dH 4 "turn_for" (Ou R TR ei (λT S m i us=>us=[.int S.clk]/\(S.nd m).aG.length<sizeLine/\(S.nd m).good<2^(kids T m).length/\toBe T m i S=true) kO (λ_ _ _ _=>.non)) λC=>C=ei.cM)
  (hP:aT P w K mg dH n "put_away" (lO R TR ei (λT i _=>fm T i=false/\bW T 10 i) (λT i S=>aJ T 9 i S)) λC=>C=ei.cH) (F:aI K "answer" "House.answer" nM dV f fd) {C:Addr}:
  aC P w K mg dH (fw P w) true (n+1) f fd wW (aaF R TR ei C):=by
 erw[F.br Fc λvs H Q E y0=>?_];obtain⟨U,L,u,D,S,m,i,rfl,h,e0,ok,Y,J,hp,O,hb,k⟩:=y0;have a:=hN.d;have iz:=hW.d;have g:=hG.d;have b:=hF.d;have c:=hP.d
 refine⟨rfl,λab A dN s hr=>⟨_,(aa (aL (bM (nt (pv 1) a (aj (aw (pv 0) rfl) ag))) (aa (aB (nt (pv 0) iz (aj ar (aj (pv 1) ag))))
   (af (aB (jd (pv 1) g)))) (aa (aB (nt (pv 0) iz (aj ar (aj (pv 2) ag))))
   (af (aB (nt (pv 1) b (aj (pv 2) (aj (aw (pv 0) rfl) ag)))))))
   (af (aB (nt (pv 0) c (aj (pv 1) ag))))),?_⟩⟩
 fin2
 obtain⟨mi,p⟩:=ok.cF J hp;have q:m<U.length:=aga mi J;have hx:=h.cells .hs trivial;have hn:=bh h q p;have hc:CS K (bu ei U m):=pY W X U m;rw[kn] at hb;rw[kn] at k;have wN:=Y.bI (m:=m) (i:=i) p;have lN:=vO (T:=U) m i S;have lP:=jO (T:=U) 9 m (bI U m i S);have he:=Y.aE (m:=m);have Z:=(pU (T:=U) m S).1;have fb:=Y.fl m;lk;erw[kb (L.nd m) _ _ _ _ ([]) (fT rfl hn ⟨fj p,rfl,rfl⟩ rfl ?_)];lk;erw[aZ hx r.cl r.Gb rfl ?_];erw[kb U L u D S m (l7 rfl () h q p rfl (λD1 H1 B=>?_))];have x1:=B.rp.cells .hs trivial
 have v:∀t I,Goes R TR ei U L u D H t (bI U m i S) I->∀M:VK,(∀H',Q .non H'->M .non H')->∀E',lO R TR ei (λT i _=>fm T i=false/\bW T 10 i) (λT i S=>aJ T 9 i S) ei.cH [.ref L.x,.ref (L.nd m)] I M E':=λt I j M hQ E'=>
  ⟨U,L,u,t,_,m,rfl,j.rp,rfl,ok,wN,q,⟨p,gq (ok.deep m q)⟩,hb,λy G o=>hQ _ (k y G (j.trans o))⟩
 unfold bI at v;cases hen:(aE U m S).1 with
 |true=>
  rw[hen] at v;lk;erw[dJ x1 ⟨rfl,rfl,rfl⟩ rfl ?_];lk;erw[pf U L u D1 _ m ("gives up") (rz rfl B.rp rfl q (by rw[Z];lia) (λt I j=>?_))];have j:=B.trans j;have n2:=bh j.rp q p;lk;erw[kb (L.nd m) _ _ _ _ ([]) (fT rfl n2 ⟨fj p,rfl,rfl⟩ rfl ?_)];erw[pf U L u t _ m ([]) (l7 rfl ⟨rfl,ok.n64⟩ j.rp q p rfl (λy G o=>?_))];have o:=j.trans o;have N:=o.rp.cells .hs trivial;erw[jx rfl (dJ N ⟨rfl,rfl,rfl⟩ rfl ?_)];exact⟨_,rfl,v y G o _ (λ_ z=>z) E⟩
 |false=>
  rw[hen] at v;lk;erw[dJ x1 ⟨rfl,rfl,rfl⟩ rfl ?_];lk;erw[pf U L u D1 _ i ("answers") (rz rfl B.rp rfl J (by rw[Z];lia) (λt I j=>?_))];have j:=B.trans j;have n2:=bh j.rp q p;have x2:=j.rp.cells .hs trivial
  have ck:(aE U m S).2.clk=S.clk:=by
   obtain⟨l,e,_⟩:=sI (T:=U) m S;rw[e]
   rfl
  lk;erw[kb (L.nd m) _ _ _ _ ([]) (fT rfl n2 ⟨fj p,rfl,rfl⟩ rfl ?_)];lk;erw[aZ x2 r.cl r.Gb rfl ?_];have f2:=he.fl m;rw[Z] at f2;erw[ex8 U L u t _ m i _ (TX rfl ⟨rfl,?_,(he.write (T:=U) "answers" i).gd m,by rwa[toBe_enough (agN mi)]⟩ j.rp q p J hp ok.n64 rfl (λy G o=>?_))]
  .show ((aE U m S).2.nd m).aG.length<sizeLine
   lia
  have o:=j.trans o;have N:=o.rp.cells .hs trivial;erw[jx rfl (dJ N ⟨rfl,rfl,rfl⟩ rfl ?_)];exact⟨_,rfl,v y G o _ (λ_ z=>z) E⟩
def Nz(O:jE TR)(T:Txt mg)(Z:CS K ei.cL)(ac:CS K ei.cM)(am:CH K ei.cH){n:Nat}(hn:4<=n)(hO:aT P w K mg dH 2 "to_be_answered" (Ou R TR ei (λ_ _ _ _ us=>us=[]) (λ_ _ _ S=>S) (λT S m i=>.bl (toBe T m i S))) λC=>C=ei.cM)
  (hA:aT P w K mg dH n "answer" (aaF R TR ei) λC=>C=ei.cH) (F:aI K "answer_waiting" "House.answer_waiting" eU dV f fd) {C:Addr}:
  aC P w K mg dH (fw P w) true (n+1) f fd jP (lO R TR ei (λT i _=>fm T i=false) (λT m S=>bf T (S.nd m).wait.length m S) C):=by
 erw[F.br iT λvs H Q E y0=>?_];obtain⟨U,L,W,D,S,m,rfl,h,e0,ok,wf,t,p,hb,k⟩:=y0;have a:=hO.d;have c:=hA.d
 refine⟨rfl,λal A dN s hr=>⟨_,(af (N9 afv (PW.pt (iD (iw bQ (aw (pv 1) rfl) ar) (iy (iw (Xp (Ss hr)) (aw (pv 1) rfl) (bw ag))))) (aa (bq (i:=2) iT.nd (fg Bn PySem.F.slot_list_pop PySem.F.type_list_pop OR (aw (pv 1) rfl) (aj ah ag)))
   (af (aL (bM (nt (pv 1) a (aj (pv 2) ag))) (af (aB (nt (pv 0) c (aj (pv 1) (aj (pv 2) ag))))) ay))))),?_⟩⟩
 fin2
 have J:CS K (bu ei U m):=pY Z ac U m;have k:∀D' H',Goes R TR ei U L W D H D' (bf U (S.nd m).wait.length m S) H'->Q .non H':=k;have hb:(bf U (S.nd m).wait.length m S).book.length<sizeLine:=hb;erw[⟨λj σ H'=>∃l b v,Goes R TR ei U L W D H l b H'/\Wf U b/\bf U (b.nd m).wait.length m b=bf U (S.nd m).wait.length m S/\j=(b.nd m).wait.length/\σ=[some (.ref L.x),some (.ref (L.nd m)),v],⟨_,D,S,none,Goes.refl h,wf,rfl,rfl,rfl⟩,?_⟩];rintro j σ H1 ⟨l,b,v,N,w1,e1,rfl,rfl⟩;have n1:=bh N.rp t p;lk;erw[aZ n1 J.cl J.state rfl ?_];lk;erw[bp (λe=>?_) (λe=>?_)]
 .have e:(b.nd m).st="on":=V.str.inj (hI e);have wa:=N.rp.cells (.wa m) ⟨t,p⟩;lk;erw[aZ n1 J.cl J.waiting rfl ?_];lk;erw[⟨l8 (by show 0<=100;decide),λq hq=>?_⟩];have s2:=au (o:= .lst []) hq;have G:=N.trans (Goes.same O N.rp s2);lk;erw[hY (l.wa m) q 1 _ (fT rfl rfl ∅ (Rv (fk.of (s2 _ _ wa)) (fk.of ae)) ?_)];generalize upd H1 q (.lst [])=H2 at s2 G;erw[⟨_,rfl,?_⟩];cases hw:(b.nd m).wait with
  |nil=>
   erw[adg ?_];rw[tH (.inr hw)] at e1;rw[<- e1] at k;exact k l H2 G
  |cons i r=>
   erw[adC ⟨λab H'=>∃j',j'<(i::r).length/\∃l b v,Goes R TR ei U L W D H l b H'/\Wf U b/\bf U (b.nd m).wait.length m b=bf U (S.nd m).wait.length m S/\j'=(b.nd m).wait.length/\ab=[some (.ref L.x),some (.ref (L.nd m)),v],λ_ _ z=>z,?_⟩];obtain⟨B,M⟩:=KR ok e hw;obtain⟨X,b2⟩:=w1.cQ ok t p hw;obtain⟨hi,hp⟩:=w1.wt m i (by rw[hw];exact ov);have n2:=bh G.rp t p;have y:=G.rp.cells (.wa m) ⟨t,p⟩;rw[show cont ei U L l b (.wa m)=.lst ((b.nd m).wait.map λj=>V.ref (L.nd j)) from rfl,hw] at y;lk;erw[pq (L.nd m) _ _ _ _ (l7 rfl n2 J.cl J.waiting rfl (.inl ⟨rfl,_,fk.of y⟩) ?_)];lk;erw[pq (l.wa m) _ 0 0 (V.ref (L.nd i)) (an8 rfl rfl y ∅ ∅ (acS _) rfl ?_)];have Y:=G.trans (G.rp.aaL O t p r);have ad:=Kp (T:=U) m i r b
   have g:(cQ U m i r b).book.length<sizeLine:=by
    have:=pO (T:=U) ((cQ U m i r b).nd m).wait.length m (cQ U m i r b);rw[<- B,e1] at this
    lia
   have ej:(i::r).length=(b.nd m).wait.length:=by rw[hw]
   change jf _ _ _ _ (upd H2 (l.wa m) (.lst (r.map λj=>V.ref (L.nd j))))
   have n3:=bh Y.rp t p;erw[jx rfl (kb (L.nd m) _ _ _ _ ([]) (fT rfl n3 ⟨fj p,rfl,rfl⟩ rfl ?_))];erw[jx rfl (ex8 U L W l _ m i ([]) (TX rfl rfl Y.rp t p hi hp ok.n64 rfl (λD4 H4 I=>?_)))];have I:=Y.trans I;have x4:=I.rp.cells .hs trivial;unfold cQ at B M X g;erw[⟨_,rfl,?_⟩];erw[bp (λu=>?_) (λu=>?_)]
   .have u:toBe U m i (up b m λd=>{d with wait:=r})=true:=u;rw[eE u] at B M X g;erw[jx rfl (dJ x4 ⟨rfl,rfl,rfl⟩ rfl ?_)];lk;erw[pf U L W D4 _ m i (TX rfl I.rp rfl ok b2 hi hp u g (λD5 H5 g5=>?_))];exact⟨_,by rwa[ej],D5,_,_,I.trans g5,X,B.symm.trans e1,rfl,rfl⟩
   .have u:¬toBe U m i (up b m λd=>{d with wait:=r})=true:=u;rw[er u] at B M X;exact⟨_,by rwa[ej],D4,_,_,I,b2,B.symm.trans e1,rfl,rfl⟩
 .have e:¬(b.nd m).st="on":=λz=>e (f7 (ix V.str z));rw[tH (.inl e)] at e1;rw[<- e1] at k;exact k l H1 N
def Yv(R:Rep)(TR:Hr.nS)(ei:HC)(C:Addr):Sp:=λvs H Q _=>∃(T:List Row) (L:Lo) (a:FS) (D:Dy) (S:HS) (i:Nat) (wd:Str),vs=[.ref L.x,.ref (L.nd i),.str wd]/\Rp R TR ei T L a D S H/\ei.cH=C/\mn T/\Wf T S/\(∀m,(S.nd m).wait.length+S.ends.length+1<=S.book.length)/\i<T.length/\isWord wd/\(ph T i wd S).book.length<sizeLine∧
 ∀D' H',Goes R TR ei T L a D H D' (ph T i wd S) H'->Q .non H'
def Xf(ad:jE TR)(T:Txt mg)(B:CS K ei.cL)(G:CS K ei.cM)(ac:CH K ei.cH){n:Nat}(hn:4<=n)(hN:aT P w K mg dH 4 "note_end" (VW R TR ei) λC=>C=ei.cM)
  (hP:aT P w K mg dH n "put_away" (lO R TR ei (λT i _=>fm T i=false/\bW T 10 i) (λT i S=>aJ T 9 i S)) λC=>C=ei.cH) (hA:aT P w K mg dH n "answer_waiting" (lO R TR ei (λT i _=>fm T i=false) (λT m S=>bf T (S.nd m).wait.length m S)) λC=>C=ei.cH)
  (F:aI K "hear" "House.hear" ju dV f fd) {C:Addr}:aC P w K mg dH (fw P w) true (n+1) f fd AW (Yv R TR ei C):=by
 erw[F.br rj λvs H Q E y0=>?_];obtain⟨U,L,M,D,S,i,wd,rfl,h,e0,ok,wf,sl,u,hw,Z,k⟩:=y0;erw[⟨rfl,λO A dN s hr=>?_⟩];have g:=pY B G U i;have X:=h.cells (.nd i) u;have b:=hN.d;have c:=hP.d;have a:=hA.d;cases hp:par U i with
 |none=>
  rw[sR hp] at k
  refine⟨_,(aa (bq (i:=3) rj.nd (aw (pv 1) rfl))
   (aa (aL (iw CY (pv 3) ff) (af Sw) ay)
   (aa (aL (fD (bM (aw (pv 1) rfl))) (af (aB (nt (pv 3) b (aj (pv 1) (aj (pv 2) ag))))) ay)
   (aa (aL (iw wu (aw (pv 3) rfl) ar) (af (aB (nt (pv 0) c (aj (pv 3) ag)))) ay)
   (af (aB (nt (pv 0) a (aj (pv 3) ag)))))))),?_⟩
  fin2
  have W:tw U L i=.non:=by unfold tw;rw[hp]
  lk;erw[aZ X g.cl g.zZ (GD _ _) ?_];rw[W];lk;exact k D H (Goes.refl h)
 |some m=>
  have W:tw U L i=.ref (L.nd m):=by unfold tw;rw[hp]
  rw[nH hp] at k;rw[nH hp] at Z;obtain⟨mi,l⟩:=ok.cF u hp;have r:m<U.length:=aga mi u;have hc:CS K (bu ei U m):=pY B G U m;have hn:=bh h r l;have lA:=pO (T:=U) ((dG U m i wd S).nd m).wait.length m (dG U m i wd S);have w1:=wf.bT (wd:=wd) u hp l (sl m);have w2:=wf.dG ok (wd:=wd) u hp (sl m)
  have lH:S.book.length<=(dG U m i wd S).book.length:=by
   have e:=Ae (T:=U) m i wd S;unfold dG
   split
   .rw[e];exact fC _
   .rw[<- e];exact jO 9 m _
  have t3:∃Y,qx (vi true (fw P w) P w K mg dH B1 "House.hear" (ak ju) f O A dN s H E).i1 ((cB ju).drop 3) Y/\∀(t:Dy) (q:Hp),Goes R TR ei U L M D H t (bT U m i wd S) q->Y {nx:=λ_ H'=>Q .non H',rt:=Q} [some (.ref L.x),some (.ref (L.nd i)),some (.str wd),some (.ref (L.nd m))] q:=by
   refine⟨_,(aa (aL (iw wu (aw (pv 3) rfl) ar) (af (aB (nt (pv 0) c (aj (pv 3) ag)))) ay)
   (af (aB (nt (pv 0) a (aj (pv 3) ag))))),?_⟩
   fin2
   intro t q p;have n1:=bh p.rp r l;have x1:=p.rp.cells .hs trivial
   have j:∀J I,Goes R TR ei U L M D H J (dG U m i wd S) I->∀N:VK,(∀H',Q .non H'->N .non H')->∀E',lO R TR ei (λT i _=>fm T i=false) (λT m S=>bf T (S.nd m).wait.length m S) ei.cH [.ref L.x,.ref (L.nd m)] I N E':=λJ I o N hQ E'=>
    ⟨U,L,M,J,_,m,rfl,o.rp,rfl,ok,w2,r,l,Z,λD3 H3 g3=>hQ _ (k D3 H3 (o.trans g3))⟩
   have lP:((bT U m i wd S).nd m).st≠"on"->(aJ U 9 m (bT U m i wd S)).book.length<=(dG U m i wd S).book.length:=λz=>by
    unfold dG;rw[er z];exact fC _
   unfold dG at j;lk;erw[aZ n1 hc.cl hc.state rfl ?_];lk;erw[bp (λe=>?_) (λe=>?_)]
   .have e:((bT U m i wd S).nd m).st≠"on":=λz=>by
     have e:(!decide (V.str ((bT U m i wd S).nd m).st=V.str "on"))=true:=e;rw[f7 (ix V.str z)] at e;cases e
    rw[er e] at j;lk;erw[dJ x1 ⟨rfl,rfl,rfl⟩ rfl ?_];erw[jx rfl (kb U L M t _ m (an9 rfl p.rp rfl ok w1 r ⟨l,gq (ok.deep m r)⟩ (F6 (mf (lP e) lA) Z) (λJ I o=>?_)))];have o:=p.trans o;have x2:=o.rp.cells .hs trivial;erw[jx rfl (dJ x2 ⟨rfl,rfl,rfl⟩ rfl ?_)];exact⟨_,rfl,j J I o _ (λ_ z=>z) E⟩
   .have e:((bT U m i wd S).nd m).st="on":=by
     by_cases z:((bT U m i wd S).nd m).st="on"
     .exact z
     .exact absurd (show(!decide (V.str ((bT U m i wd S).nd m).st=V.str "on"))=true by rw[j0 (λy=>z (V.str.inj y))];rfl) e
    rw[eE e] at j;erw[jx rfl (dJ x1 ⟨rfl,rfl,rfl⟩ rfl ?_)];exact⟨_,rfl,j t q p _ (λ_ z=>z) E⟩
  obtain⟨Y,ht,v⟩:=t3
  refine⟨_,(aa (bq (i:=3) rj.nd (aw (pv 1) rfl))
   (aa (aL (iw CY (pv 3) ff) (af Sw) ay)
   (aa (aL (fD (bM (aw (pv 1) rfl))) (af (aB (nt (pv 3) b (aj (pv 1) (aj (pv 2) ag))))) ay)
   ht))),?_⟩
  fin2
  unfold bT at v;lk;erw[aZ X g.cl g.zZ (GD _ _) ?_];rw[W];lk;erw[aZ X g.cl g.asked (G7 _ _) ?_];cases ha:(S.nd i).asked with
  |true=>
   rw[ha] at v;lk;exact v D H (Goes.refl h)
  |false=>
   rw[ha] at v;have ab:=sl m;lk;erw[kb (L.nd m) _ _ _ _ ([]) (fT rfl hn ⟨fj l,rfl,rfl⟩ rfl ?_)];lk;erw[⟨wd,hw,U,L,M,D,S,m,i,_,rfl,⟨rfl,()⟩,h,r,l,u,hp,ok.n64,rfl,λt q p=>?_⟩];exact v t q p
def AS(R:Rep)(TR:Hr.nS)(ei:HC)(C:Addr):Sp:=λvs H Q _=>∃(T:List Row) (L:Lo) (a:FS) (D:Dy) (S S':HS) (n:Nat),vs=[.ref L.x]/\Rp R TR ei T L a D S H/\ei.cH=C/\mn T/\Wf T S/\aX T n S=some S'/\S'.book.length<sizeLine∧
 ∀D' H',Goes R TR ei T L a D H D' S' H'->Q .non H'
def Ph(B:jE TR)(T:Txt mg)(ac:CS K ei.cL)(ad:CS K ei.cM)(l:CH K ei.cH){n:Nat}(hn:1<=n)(hA:aT P w K mg dH n "hear" (Yv R TR ei) λC=>C=ei.cH)
  (F:aI K "settle" "House.settle" ow dV f fd) {C:Addr}:aC P w K mg dH (fw P w) true (n+1) f fd xC (AS R TR ei C):=by
 erw[F.br va λvs H Q E y0=>?_];obtain⟨U,L,O,D,S,S',fu,rfl,h,e0,ok,wf,hs,hb,k⟩:=y0;have g:=hA.d
 refine⟨rfl,λab A dN s hr=>⟨_,(af (N9 afv (iw (Xp (Ss hr)) (aw (pv 0) rfl) (bw ag)) (aa (bq (i:=1) va.nd (fg Bn PySem.F.slot_list_pop PySem.F.type_list_pop OR (aw (pv 0) rfl) (aj ah ag)))
   (af (aB (nt (pv 0) g (aj (hD b7 (pv 1) ah) (aj (hD b7 (pv 1) ah) ag)))))))),?_⟩⟩
 fin2
 erw[⟨λj σ H'=>∃c b v,Goes R TR ei U L O D H c b H'/\Wf U b/\aX U j b=some S'/\σ=[some (.ref L.x),v],⟨fu,D,S,none,Goes.refl h,wf,hs,rfl⟩,?_⟩];rintro j σ H1 ⟨c,b,v,u,w1,e1,rfl⟩;have x1:=u.rp.cells .hs trivial;have q1:=u.rp.cells .qu trivial;have G:=u.rp.qsl;lk;erw[aZ x1 l.cl l.ends rfl ?_];lk;erw[⟨l8 (by show 0<=100;decide),λq p=>?_⟩];have W:=au (o:= .lst []) p;have m:=u.trans (Goes.same B u.rp W);lk;erw[hY L.qu q 1 _ (fT rfl rfl ∅ (Rv (fk.of (W _ _ q1)) (fk.of ae)) ?_)];generalize upd H1 q (.lst [])=H2 at W m;erw[⟨_,rfl,?_⟩];cases he:b.ends with
 |nil=>
  rw[he] at G;have M:c.qs=[]:=afH.mp G;rw[M];erw[adg ?_]
  have e1:b=S':=by
   cases j with
   |zero=>
    unfold aX at e1;rw[eE he] at e1;exact iH e1
   |succ j=>
    unfold aX at e1;rw[he] at e1;exact iH e1
  rw[<- e1] at k;exact k c H2 m
 |cons e r=>
  obtain⟨i,wd⟩:=e;cases j with
  |zero=>
   unfold aX at e1;rw[er (by rw[he];exact λz=>by cases z)] at e1;cases e1
  |succ j=>
   have e1:aX U j (ph U i wd {b with ends:=r})=some S':=by
    unfold aX at e1;rw[he] at e1;exact e1
   obtain⟨Z,w3,Y,w5⟩:=w1.pop he;cases p:c.qs with
   |nil=>rw[p,he] at G;cases G
   |cons a qs=>
    erw[adC ⟨λJ H'=>∃X,X<j+1/\∃c b v,Goes R TR ei U L O D H c b H'/\Wf U b/\aX U X b=some S'/\J=[some (.ref L.x),v],λ_ _ z=>z,?_⟩];have x2:=m.rp.cells .hs trivial;have t:=m.rp.cells .qu trivial;rw[show cont ei U L c b .qu=.lst (c.qs.map V.ref) from rfl,p] at t;have N:=m.rp.qs 0 a (i,wd) (by rw[p];rfl) (by rw[he];rfl);lk;erw[pq L.x _ _ _ _ (l7 rfl x2 l.cl l.ends rfl (.inl ⟨rfl,_,fk.of t⟩) ?_)];lk;erw[pq L.qu _ 0 0 (V.ref a) (an8 rfl rfl t ∅ ∅ (acS _) rfl ?_)];have I:=m.trans (m.rp.popped B p he);have x3:=I.rp.cells .hs trivial
    have na:a≠L.qu:=λz=>by
     rw[z] at N;rw[show (Lb.qu).at L c=L.qu from rfl,N] at t;cases t
    have y:(upd H2 L.qu (.lst (qs.map V.ref))) a=some (.tup (Wj L (i,wd))):=by rwa[ai na]
    erw[jx rfl (dJ x3 ⟨rfl,rfl,rfl⟩ rfl ?_)];lk;erw[hY a _ _ _ (fT rfl rfl (l5.of y) rfl ?_)];lk;erw[hY a _ _ _ (fT rfl rfl (l5.of y) rfl ?_)];have lb:=kI (T:=U) j _ S' e1;erw[pf U L O _ _ i wd (TX rfl I.rp rfl ok Z w3 Y w5 (F6 lb hb) (λD4 H4 g4=>?_))];exact⟨j,afn _,D4,_,_,I.trans g4,Z.ph ok Y w3,e1,rfl⟩
open PySem L2 Shp Nm Tr Hs Hm Hr PySem.NumText
structure TrI(P:Program)(w:World)(K:PySem.W.Frag)(mg:Str->Option Value)(dH:Heap)(TR:Hr.nS)(cT:Addr):Prop where
 loc:jE TR
 ins:∀{H:Hp} {t:Addr} {T:List Row} {FT:FS},TR H t T FT->∃dx fs,H t=some (.ins cT dx fs)/\fs.lookup ("find":Str)=none
 find:aT P w K mg dH 2 "find" (λC vs H Q _=>∃(t:Addr) (T:List Row) (FT:FS) (i:Nat),vs=[.ref t,.str (sh T i).name]/\TR H t T FT/\i<T.length/\(T.map (·.sh.name)).Nodup/\C=cT/\∀H',aO H H'->Q (.int (i:Int)) H') λC=>C=cT
def Nj(R:Rep)(TR:Hr.nS)(ei:HC)(C:Addr):Sp:=λvs H Q _=>∃(T:List Row) (L:Lo) (a:FS) (D:Dy) (S:HS) (i:Nat),vs=[.ref L.x,.str (sh T i).name]/\Rp R TR ei T L a D S H/\ei.cH=C/\i<T.length/\(T.map (·.sh.name)).Nodup/\∀H',aO H H'->Q (.ref (L.nd i)) H'
def PN{m:Addr}(c:TrI P w K mg dH TR m)(T:Txt mg)(a:CH K ei.cH)(F:aI K "standing_called" "House.standing_called" eI dV f fd){C:Addr}:aC P w K mg dH (fw P w) true 3 f fd jc (Nj R TR ei C):=by
 erw[F.br rA λvs H Q E l=>?_];obtain⟨U,L,o,D,S,i,rfl,h,r,j,nd,k⟩:=l;have b:=c.find.d;erw[⟨rfl,λn A dN s x=>⟨_,(af (av (hD aD (aw (pv 0) rfl) (nt (aw (pv 0) rfl) b (aj (pv 1) ag))))),?_⟩⟩]
 fin2
 have g:=h.cells .hs trivial;obtain⟨v,u,t1,p⟩:=c.ins h.tr;lk;erw[aZ g a.cl a.tm rfl ?_];lk;erw[aZ g a.cl a.tree rfl ?_];lk;erw[dJ t1 ⟨rfl,rfl,rfl⟩ p ?_];erw[jx rfl (hY L.t U o i (rz rfl h.tr j nd rfl (λq e=>?_)))];lk;erw[hY L.sa _ _ (V.ref (L.nd i)) (fT rfl rfl (fk.of (e _ _ h.sa)) (bX (by rw[jl,afz j];rfl)) (k _ e))]
def LZ(K:PySem.W.Frag)(R:Rep)(TR:Hr.nS)(ei:HC)(C:Addr):Sp:=λvs H Q _=>∃(T:List Row) (L:Lo) (a:FS) (D:Dy) (S:HS),vs=[.ref L.x]/\Rp R TR ei T L a D S H/\ei.cH=C/\∀(q:Addr) (H':Hp),aO H H'->H q=none->Ig K H' q S.book->Q (.ref q) H'
def Wq(T:Txt mg)(a:CH K ei.cH)(F:aI K "rows" "House.rows" uH dV f fd){C:Addr}:aC P w K mg dH (fw P w) true 1 f fd AZ (LZ K R TR ei C):=by
 erw[F.br Iz λvs H Q E j=>?_];obtain⟨U,L,n,D,S,rfl,h,r,k⟩:=j;erw[⟨rfl,λm A dN s p=>⟨_,(af (av (bK LF (by rfl) T.abZ Y6 (aj (aw (pv 0) rfl) ag)))),?_⟩⟩]
 fin2
 have l:=h.cells .hs trivial;have b:=h.cells .en trivial;lk;erw[aZ l a.cl a.entries rfl ?_];lk;erw[iE L.en _ (mE rfl (.inl (fk.of b)) (λq g=>?_))];have c:=au (o:= .lst (D.bk.map V.ref)) g;exact k q _ c g ⟨D.bk,ae,h.bkl,λi x e e1 e2=>l5.of (c _ _ (h.bk i x e e1 e2))⟩
def DtS(R:Rep)(TR:Hr.nS)(ei:HC)(C:Addr)(s:Sp)(a:List V):Prop:=a=[]/\((C=ei.cL/\s=je R TR ei true Ef (λ_ _ S=>S) (λT S i=>.bl (bR T i S)) C)\/(C=ei.cM/\s=je R TR ei false Ef (λ_ _ S=>S) (λT S i=>.bl (bR T i S)) C))
def ab9(U:List Row)(i:Nat):∃sp,DtS R TR ei (bu ei U i) sp []/\∀(L:Lo) (a:FS) (D:Dy) (S:HS) (H:Hp) (Q:VK) (E:XK),Rp R TR ei U L a D S H->i<U.length->(∀D' H',Goes R TR ei U L a D H D' S H'->Q (.bl (bR U i S)) H')->sp [.ref (L.nd i),.int S.clk] H Q E:=by
 cases hl:fm U i with
 |true=>exact⟨_,⟨rfl,.inl ⟨rW hl,rfl⟩⟩,λL a D S H Q E h b k=>⟨U,L,a,D,S,i,_,rfl,rfl,h,b,hl,rfl,k⟩⟩
 |false=>exact⟨_,⟨rfl,.inr ⟨fj hl,rfl⟩⟩,λL a D S H Q E h b k=>⟨U,L,a,D,S,i,_,rfl,rfl,h,b,hl,rfl,k⟩⟩
def RJ(R:Rep)(TR:Hr.nS)(ei:HC)(C:Addr):Sp:=λvs H Q _=>∃(T:List Row) (L:Lo) (a:FS) (D:Dy) (S S':HS) (n:Nat),vs=[.ref L.x]/\Rp R TR ei T L a D S H/\ei.cH=C/\mn T/\Wf T S/\AY T n S=some S'/\S'.book.length<sizeLine/\∀D' H',Goes R TR ei T L a D H D' S' H'->Q .non H'
def Yn(Y:jE TR)(T:Txt mg)(ad:CS K ei.cL)(al:CS K ei.cM)(g:CH K ei.cH){n:Nat}(hn:4<=n)(a:∀C s r,DtS R TR ei C s r->MethAt P w K mg dH (fw P w) true 2 "steps_at" C s r)
  (hP:aT P w K mg dH 4 "step" (je R TR ei true (λT S i us=>us=[]/\((S.nd i).st≠"told"->0<=(S.nd i).steps/\((sh T i).kind≠0->(S.nd i).steps<=(sh T i).many))) (λT i S=>(cu T i S).2) (λT S i=>.str (cu T i S).1)) λC=>C=ei.cL)
  (hE:aT P w K mg dH 2 "end_by" (BP R TR ei) λC=>C=ei.cH) (hS:aT P w K mg dH n "settle" (AS R TR ei) λC=>C=ei.cH) (F:aI K "turn" "House.turn" uc dV f fd) {C:Addr}:aC P w K mg dH (fw P w) true (n+1) f fd A7 (RJ R TR ei C):=by
 erw[F.br za λvs H Q E y0=>?_];obtain⟨U,L,G,D,S,S',u,rfl,h,e0,ok,wf,hs,hb,k⟩:=y0;have m:=hP.d;have c:=hE.d;have e:=hS.d
 refine⟨rfl,λac A dN s hr=>⟨_,(aa (yi (pv 0) ah WV)
   (af (oH afv rfl (kP (aw (pv 0) rfl)) (c9 (i:=1) za.nd rfl (by first|exact Or.inl rfl|exact Or.inr rfl)) (af (aL (bM (nt (pv 1) a (aj (aw (pv 0) rfl) ag))) (aa (aB (nt (pv 0) c (aj (pv 1) (aj (jd (pv 1) m) ag))))
   (af (aB (jd (pv 0) e)))) ay))))),?_⟩⟩
 fin2
 have hx:=h.cells .hs trivial;lk;erw[aZ hx g.cl g.Gb rfl ?_];lk;erw[⟨_,_,hx,by show 5<1000;decide,?_⟩];have p:=h.tick Y (S.clk+1);have eH:upd H L.x (.ins ei.cH L.dx (ku "clock" (V.int (S.clk+1)) (fsH L S)))=upd H L.x (.ins ei.cH L.dx (fsH L {S with clk:=S.clk+1})):=rfl;rw[eH];generalize upd H L.x (.ins ei.cH L.dx (fsH L {S with clk:=S.clk+1}))=H1 at p;have x1:=p.rp.cells .hs trivial;have w1:Wf U {S with clk:=S.clk+1}:=wf.tick _;have hs:(List.range U.length).foldlM (λS i=>eh U u i S) {S with clk:=S.clk+1}=some S':=hs;generalize ({S with clk:=S.clk+1}:HS)=S1 at p x1 w1 hs;have X:∀(l:Lb),vl U l->L.sa≠l.at L D:=λl v z=>(h.far l v).1 z.symm;have j:=p.rp.sa;lk;erw[aZ x1 g.cl g.tm rfl ?_];lk;erw[⟨⟨_,fk.of j⟩,?_⟩];erw[tY (n:=U.length) (λt M H'=>∃q b v,Goes R TR ei U L G D H1 q b H'/\Wf U b/\((List.range U.length).drop t).foldlM (λS i=>eh U u i S) b=some S'/\M=[some (.ref L.x),v]) ⟨D,S1,none,Goes.refl p.rp,w1,hs,rfl⟩ ?_ ?_ ?_]
 .rintro t M H' ht ⟨q,b,v,g2,_⟩;exact⟨_,V.ref (L.nd t),fk.of (g2.kp _ _ X j),by rw[jl,afz ht];rfl⟩
 .rintro t M H' y H3 ht ⟨q,b,v,g2,w2,e2,rfl⟩ ⟨rfl,N⟩;have N:=N _ (fk.of (g2.kp _ _ X j));rw[jl,afz ht] at N;obtain rfl:V.ref (L.nd t)=y:=iH N
  have dr:(List.range U.length).drop t=t::(List.range U.length).drop (t+1):=by
   rw[agk (by rwa[tG]),List.getElem_range]
  rw[dr,af6] at e2;have j2:=g2.rp.cells (.nd t) ht;have x2:=g2.rp.cells .hs trivial;obtain⟨sp,hd,O⟩:=ab9 (R:=R) (TR:=TR) (ei:=ei) U t;lk;erw[kb (L.nd t) _ _ _ sp ([]) (fT rfl j2 hd (OU rfl rfl) ?_)];lk;erw[aZ x2 g.cl g.Gb rfl ?_];erw[O L G q b _ _ _ g2.rp ht (λZ H3 o=>?_)];have o:=g2.trans o;rw[rQ] at e2;erw[⟨_,rfl,?_⟩];erw[bp (λst=>?_) (λst=>?_)]
  .have st:bR U t b=true:=st;rw[eE st] at e2;have wE:=w2.f9 ht st;cases es:aX U u (f9 U t b) with
   |none=>rw[es] at e2;cases e2
   |some W=>
    rw[es] at e2;have e2:((List.range U.length).drop (t+1)).foldlM (λS i=>eh U u i S) W=some S':=e2;have l4:=Rg (T:=U) _ _ _ e2;have l3:=kI (T:=U) _ _ _ es
    have I:fm U t=true:=by
     unfold bR at st;rw[oT,oT] at st;exact st.1.1
    have ho:(b.nd t).st≠"off":=by
     unfold bR at st;rw[oT,oT,afU] at st;exact afk st.1.2
    have j3:=nv o.rp ht I;have x3:=o.rp.cells .hs trivial;lk;erw[dJ x3 ⟨rfl,rfl,rfl⟩ rfl ?_];lk;erw[kb (L.nd t) _ _ _ _ ([]) (fT rfl j3 ⟨rW I,rfl,rfl⟩ rfl ?_)];erw[pf U L G Z b t ([]) (l7 rfl ⟨rfl,λz=>w2.st t I ho z⟩ o.rp ht I rfl (λD4 H4 J=>?_))];have J:=o.trans J;have se:=step_same (T:=U) t b;have ab:=w2.wl t;erw[pf U L G D4 _ t _ (l7 rfl J.rp rfl (by rw[se.1,se.2];lia) ht (F6 (mf l3 l4) hb) (λD5 H5 B=>?_))];have B:=J.trans B;have x5:=B.rp.cells .hs trivial;erw[jx rfl (dJ x5 ⟨rfl,rfl,rfl⟩ rfl ?_)];erw[pf U L G D5 _ W u (an8 rfl B.rp rfl ok wE es (F6 l4 hb) (λD6 H6 g6=>?_))];exact⟨D6,W,_,B.trans g6,(Wf.settle ok _ _ _ es wE).1,e2,rfl⟩
  .have st:¬bR U t b=true:=st;rw[er st] at e2;exact⟨Z,b,_,o,w2,e2,rfl⟩
 .rintro M H' ⟨q,b,v,g2,w2,e2,rfl⟩;rw[List.drop_eq_nil_of_le (by rw[tG];exact fC _)] at e2;have e2:b=S':=iH e2;subst e2;erw[⟨⟨_,fk.of (g2.kp _ _ X j),by rw[gm,tG];exact fC _⟩,?_⟩];exact k q H' (p.trans g2)
def Si(R:Rep)(TR:Hr.nS)(ei:HC)(b:Addr)(C:Addr):Sp:=λvs H Q E=>∃(T:List Row) (L:Lo) (a:FS) (D:Dy) (S:HS),vs=[.ref L.x]/\Rp R TR ei T L a D S H/\ei.cH=C/\mn T/\Wf T S/\S.ends=[]∧
 (cg S 0=true->E (.ref b) none H)/\(cg S 0=false->∃(n:Nat) (S':HS),DU T n S=some S'/\S'.book.length<sizeLine/\∀D' H',Goes R TR ei T L a D H D' S' H'->Q .non H')
def WK(B:jE TR)(T:Txt mg){l:Addr}(y:mg "NotOn"=some (.ref l))(m7:DK K l)(q:CS K ei.cL)(m:CS K ei.cM)(g:CH K ei.cH){n:Nat}(hn:4<=n)(Y:aT P w K mg dH 1 "is_off" (uI R TR ei) λC=>C=ei.cL\/C=ei.cM)
  (G:aT P w K mg dH n "tell" (lO R TR ei (λT i _=>bW T 10 i) (λT i S=>cz T 10 i S)) λC=>C=ei.cH) (hS:aT P w K mg dH n "settle" (AS R TR ei) λC=>C=ei.cH) (F:aI K "stop" "House.stop" ua dV f fd) {C:Addr}:aC P w K mg dH (fw P w) true (n+1) f fd AV (Si R TR ei l C):=by
 erw[F.ok1 zt λvs H Q E z=>?_];obtain⟨U,L,o,D,S,rfl,h,e0,ok,v,he,k1,k2⟩:=z;have b:=Y.d;have c:=G.d;have a:=hS.d
 refine⟨rfl,λW A dN s p=>⟨_,(aa (bq (i:=1) zt.nd (hD aD (aw (pv 0) rfl) ah))
   (aa (aL (bM (iX (pv 1) b (p.mono (by omega)) (passes cV))) (af (Hd rfl cV m7 (by rfl) y (aj ar ag))) ay)
   (af (aL (fD (bM (aw (pv 1) rfl))) (aa (aB (xn (pv 0) c (p.mono (by omega)) (passes cV) (aj (pv 1) ag)))
   (af (aB (iX (pv 0) a (p.mono (by omega)) (passes cV))))) ay)))),?_⟩⟩
 fin2
 have t:=h.cells .hs trivial;have e:=pY q m U 0;have u:=h.cells (.nd 0) ok.n0;lk;erw[aZ t g.cl g.tm rfl ?_];lk;erw[hY L.sa _ _ (V.ref (L.nd 0)) (fT rfl rfl (fk.of h.sa) (bX (j:=0) (by rw[jl,afz ok.n0];rfl)) ?_)];lk;erw[kb (L.nd 0) _ _ _ _ ([]) (fT rfl u ⟨?_,rfl,rfl⟩ (OU rfl rfl) ?_)]
 .unfold bu
  split
  .exact .inl rfl
  .exact .inr rfl
 erw[kb U L o D S 0 (fT rfl h ok.n0 rfl ?_)];cases ho:cg S 0 with
 |true=>
  lk;exact⟨l8 (by show 1<=100;decide),k1 ho⟩
 |false=>
  obtain⟨M,S',e1,x,k⟩:=k2 ho;unfold DU at e1;lk;erw[aZ u e.cl e.asked (G7 _ _) ?_];cases ha:(S.nd 0).asked with
  |true=>
   rw[ha,eE rfl] at e1;have e1:S=S':=iH e1;subst e1;lk;exact k D H (Goes.refl h)
  |false=>
   rw[ha,er l6] at e1;have I:=kI (T:=U) _ _ _ e1;lk;erw[dJ t ⟨rfl,rfl,rfl⟩ rfl ?_];erw[jx rfl (kb U L o D S 0 (an9 rfl h rfl ok v ok.n0 (gq (ok.deep 0 ok.n0)) (F6 I x) (λZ H1 r=>?_)))];have J:=r.rp.cells .hs trivial;erw[jx rfl (dJ J ⟨rfl,rfl,rfl⟩ rfl ?_)];exact⟨U,L,o,Z,_,S',M,rfl,r.rp,rfl,ok,Wf.cz ok 10 0 S ok.n0 v,e1,x,λO N X=>k O N (r.trans X)⟩
def R7(R:Rep)(TR:Hr.nS)(ei:HC)(c b:Addr)(C:Addr):Sp:=λvs H Q E=>∃(T:List Row) (L:Lo) (a:FS) (D:Dy) (S:HS) (i:Nat),vs=[.ref L.x,.str (sh T i).name]/\Rp R TR ei T L a D S H/\ei.cH=C/\mn T/\Wf T S/\i<T.length/\((T.map (·.sh.name)).Nodup/\(sh T i).name.length<=12)∧
 (fm T i=false->∀H',aO H H'->E (.ref c) none H')/\(fm T i=true->cg S i=true->∀H',aO H H'->E (.ref b) none H')/\(fm T i=true->cg S i=false->∃(n:Nat) (S':HS),FA T n i S=some S'/\S'.book.length<sizeLine/\∀D' H',Goes R TR ei T L a D H D' S' H'->Q .non H')
def aaz{x:Str}(h:x.length<=12):(Str.empty++x).length<=sizeLine:=by
 rw[agX];exact l8 (by show 0+x.length<=100;lia)
def RI{x y:Str}(h:x.length<=12)(a:y.length<=60):(Str.empty++x++y).length<=sizeLine:=by
 rw[agX,agX];exact l8 (by show 0+x.length+y.length<=100;lia)
def Xw(r:jE TR)(T:Txt mg){Z:Nat->Addr->Prop}(hS:ShI P w K mg dH R Z){X N:Addr}(Ca:mg "NoLeaf"=some (.ref X))(G4:DK K X)(kK:mg "NotOn"=some (.ref N))(m7:DK K N)(W:CS K ei.cL)(M:CS K ei.cM)(ab:CH K ei.cH){n:Nat}(hn:4<=n)
  (hC:aT P w K mg dH 3 "standing_called" (Nj R TR ei) λC=>C=ei.cH) (hO:aT P w K mg dH 1 "is_off" (uI R TR ei) λC=>C=ei.cL\/C=ei.cM) (hE:aT P w K mg dH 2 "end_by" (BP R TR ei) λC=>C=ei.cH) (O:aT P w K mg dH n "settle" (AS R TR ei) λC=>C=ei.cH)
  (F:aI K "trip" "House.trip" tQ dV f fd) {C:Addr}:aC P w K mg dH (fw P w) true (n+1) f fd Bs (R7 R TR ei X N C):=by
 erw[F.ok1 zm λvs H Q E y0=>?_];obtain⟨U,L,J,D,S,i,rfl,h,e0,ok,wf,t,⟨nd,u⟩,k1,k2,k3⟩:=y0;have a:=hC.d;have g:=hO.d;have l:=hE.d;have c:=O.d
 have p:∀C s q,Dt (w6 R) (λC=>∃j,Z j C) C s q->MethAt P w K mg dH (fw P w) true 3 "leaf" C s q:=by
  rintro C s q ⟨⟨j,z⟩,rfl,rfl⟩;exact hS.I.leaf z
 refine⟨rfl,λac A dN s x=>⟨_,(aa (bq (i:=2) zm.nd (xn (pv 0) a (x.mono (by omega)) (passes cV) (aj (pv 1) ag)))
   (aa (aL (fD (bM (iX (aw (pv 2) rfl) p (x.mono (by omega)) (passes cV)))) (af (Hd rfl cV G4 (by rfl) Ca (aj (RQ (Fh (aaT (pv 1)) (Fh ar X8))) ag))) ay)
   (aa (aL (bM (iX (pv 2) g (x.mono (by omega)) (passes cV))) (af (Hd rfl cV m7 (by rfl) kK (aj (RQ (Fh (aaT (pv 1)) (Fh ar X8))) ag))) ay)
   (aa (aB (xn (pv 0) l (x.mono (by omega)) (passes cV) (aj (pv 2) (aj ar ag))))
   (af (aB (iX (pv 0) c (x.mono (by omega)) (passes cV)))))))),?_⟩⟩
 fin2
 have hx:=h.cells .hs trivial;have y:=pY W M U i;lk;erw[dJ hx ⟨rfl,rfl,rfl⟩ rfl ?_];erw[jx rfl (kb U L J D S i (rz rfl h rfl t nd (λY s1=>?_)))];have h1:=h.same r s1;have j1:=h1.cells (.nd i) t;obtain⟨oc,v,hR⟩:=h1.ch i t;obtain⟨Cc,dc,fc,c1,c2,c3,c4,c5,c6,c7⟩:=hS.I.inst (hR Y v);lk;erw[aZ j1 y.cl y.child (BW _ _) ?_];lk;erw[dJ c1 ⟨⟨_,c2⟩,rfl,rfl⟩ c4 ?_];erw[hY (L.ch i) dc fc (sh U i) (mq rfl (hR Y v) c1 (λH2 s2=>?_))];have m:aO H H2:=λb o z=>s2 _ _ (s1 _ _ z);have G:=h.same r m;have j2:=G.cells (.nd i) t;have x2:=G.cells .hs trivial;erw[⟨_,rfl,?_⟩];erw[bp (λe=>?_) (λe=>?_)]
 .have hl:fm U i=false:=by
   cases z:fm U i with
   |false=>rfl
   |true=>
    have e:(!decide ((sh U i).kind<3))=true:=e;rw[show decide ((sh U i).kind<3)=fm U i from rfl,z] at e;cases e
  lk;exact .inr ⟨_,rfl,l8 (),_,rfl,aaz u,_,rfl,RI u ∅,RI u ∅,l8 (by show 1<=100;decide),k1 hl _ m⟩
 .have hl:fm U i=true:=by
   cases z:fm U i with
   |true=>rfl
   |false=>exact absurd (show(!decide ((sh U i).kind<3))=true by rw[show decide ((sh U i).kind<3)=fm U i from rfl,z];rfl) e
  lk;erw[kb (L.nd i) _ _ _ _ ([]) (fT rfl j2 ⟨.inl (rW hl),rfl,rfl⟩ (OU rfl rfl) ?_)];erw[kb U L J D S i (fT rfl G t rfl ?_)];cases ho:cg S i with
  |true=>
   lk;exact .inr ⟨_,rfl,l8 (),_,rfl,aaz u,_,rfl,RI u ∅,RI u ∅,l8 (by show 1<=100;decide),k2 hl ho _ m⟩
  |false=>
   obtain⟨fu,S',e1,hb,k⟩:=k3 hl ho;unfold FA at e1;have l1:=kI (T:=U) _ _ _ e1;have wl:=wf.wl i;lk;erw[dJ x2 ⟨rfl,rfl,rfl⟩ rfl ?_];lk;erw[pf U L J D S i ("fallen") (l7 rfl G rfl () t (F6 l1 hb) (λD1 H3 B=>?_))];have B:=(Goes.same r h m).trans B;have x3:=B.rp.cells .hs trivial;erw[jx rfl (dJ x3 ⟨rfl,rfl,rfl⟩ rfl ?_)];exact⟨U,L,J,D1,_,S',fu,rfl,B.rp,rfl,ok,wf.aW t λ_=>.inr (.inl rfl),e1,hb,λD2 H4 g2=>k D2 H4 (B.trans g2)⟩
end
open PySem L2 Shp Nm Tr Hs Hm Hr PySem.NumText
abbrev IE:List Str:=["child"]
abbrev zc:List Str:=["child"]
def Gq:ao IE zc (ak qU):=by kt_ors
abbrev HX:List Str:=["tree","standings","place","child","standing","minder"]
abbrev xZ:List Str:=["tree"]
def dD:ao HX xZ (ak n9):=by kt_ors
section
variable{P:Program}{w:World}{K:PySem.W.Frag}{mg:Str->Option Value}{dH:Heap}{f:Addr}{fd:FuncData}{dV:Value}{ei:HC}{p:Pl}
def But(x:Addr)(H H':Hp):Prop:=∀b o,b≠x->H b=some o->H' b=some o
theorem But.trans{x:Addr}{H g i:Hp}(a:But x H g)(b:But x g i):But x H i:=λc o h e=>b c o h (a c o h e)
def fs0(ch q:Addr):List (Str×V):=[("child",.ref ch),("state",.str "off"),("asked",.bl false),("minder",.non),("place",.int 0),("minded",.ref q)]
def Fm(K:PySem.W.Frag):Sp:=λvs H Q _=>∃(x a C ch:Addr),vs=[.ref x,.ref ch]/\H x=some (.ins C a [])/\CS K C/\∀(q:Addr) (H':Hp),But x H H'->H q=none->H' q=some (.lst [])->H' x=some (.ins C a (fs0 ch q))->Q .non H'
def VQ(F:aI K "__init__" "Standing.__init__" gN dV f fd):aC P w K mg dH (fw P w) true 1 f fd hJ (Fm K):=by
 erw[F.br wJ λvs H Q E j=>?_];obtain⟨x,r,C,ch,rfl,l,a,k⟩:=j
 refine⟨rfl,λm A dN s n=>⟨_,(aa (aH (pv 0) (pv 1) rfl)
   (aa (aH (pv 0) ar rfl)
   (aa (aH (pv 0) eo rfl)
   (aa (aH (pv 0) ff rfl)
   (aa (aH (pv 0) ah rfl)
   (af (aH (pv 0) (bw ag) rfl))))))),?_⟩⟩
 fin2
 lk;erw[bV l a.cl a.child (by show 0<1000;decide) ?_];lk;erw[bV ae a.cl a.state (by show 1<1000;decide) ?_];rw[aU];lk;erw[bV ae a.cl a.asked (by show 2<1000;decide) ?_];rw[aU];lk;erw[bV ae a.cl a.zZ (by show 3<1000;decide) ?_];rw[aU];lk;erw[bV ae a.cl a.place (by show 4<1000;decide) ?_];rw[aU];erw[⟨l8 ∅,λq g=>?_⟩];have h:q≠x:=λz=>by rw[z,ae] at g;cases g
 have c:H q=none:=by rw[ai h] at g;exact g
 erw[jx rfl (bV (by rw[ai (Ne.symm h)];exact ae) a.cl a.tS (by show 5<1000;decide) ?_)];erw[k q _ (λb o i e=>?_) c (by rw[ai h];exact ae) ae];rw[ai i,ai (aq e c),ai i];exact e
def abE:List (Str×V):=[("begun_at",.int 0),("steps",.int 0),("needed",.int 0),("granted",.int 0)]
def OP(K:PySem.W.Frag):Sp:=λvs H Q _=>∃(x a C ch:Addr),vs=[.ref x,.ref ch]/\H x=some (.ins C a [])/\CS K C/\∀(q:Addr) (H':Hp),But x H H'->H q=none->H' q=some (.lst [])->H' x=some (.ins C a (fs0 ch q++abE))->Q .non H'
def UT(F:aI K "__init__" "LeafStanding.__init__" eT dV f fd)(a:Cmt P w K mg dH true 1 "Standing" "__init__" (Fm K) []):aC P w K mg dH (fw P w) true 2 f fd eO (OP K):=by
 erw[F.br rn λvs H Q E j=>?_];obtain⟨x,t,C,ch,rfl,h,c,k⟩:=j
 refine⟨rfl,λu A dN s r=>⟨_,(aa (aB (Ga a (r.mono (by omega)) (by rfl) cq (aj (pv 0) (aj (pv 1) ag))))
   (aa (aH (pv 0) ah rfl)
   (aa (aH (pv 0) ah rfl)
   (aa (aH (pv 0) ah rfl)
   (af (aH (pv 0) ah rfl)))))),?_⟩⟩
 fin2
 lk;erw[hY x t C ch (mq rfl h c (λq y l g n m=>?_))];have v:q≠x:=λz=>by rw[z,h] at g;cases g
 lk;erw[bV m c.cl c.Hv (by show 6<1000;decide) ?_];lk;erw[bV ae c.cl c.steps (by show 7<1000;decide) ?_];rw[aU];lk;erw[bV ae c.cl c.Lv (by show 8<1000;decide) ?_];rw[aU];lk;erw[bV ae c.cl c.Fj (by show 9<1000;decide) ?_];rw[aU];exact k q _ (λb o i e=>by rw[ai i];exact l b o i e) g (by rwa[ai v]) ae
def Zp(fa wa:Addr):List (Str×V):=[("falls",.ref fa),("good",.int 0),("waiting",.ref wa),("leaving",.int 0),("coming",.int 0),("gave_up",.bl false)]
def JN(K:PySem.W.Frag)(a:Addr):Sp:=λvs H Q _=>∃(x b ch q:Addr),vs=[.ref x]/\H x=some (.ins a b (fs0 ch q))/\∀(fa wa:Addr) (H':Hp),But x H H'->H fa=none->H wa=none->fa≠wa->H' fa=some (.lst [])->H' wa=some (.lst [])->H' x=some (.ins a b (fs0 ch q++Zp fa wa))->Q .non H'
def Qc(F:aI K "forget" "MinderStanding.forget" cC dV f fd){C:Addr}(c:CS K C):aC P w K mg dH (fw P w) true 1 f fd eC (JN K C):=by
 erw[F.br ig λvs H Q E r=>?_];obtain⟨x,v,ch,q,rfl,m,k⟩:=r
 refine⟨rfl,λt A dN s u=>⟨_,(aa (aH (pv 0) (bw ag) rfl)
   (aa (aH (pv 0) ah rfl)
   (aa (aH (pv 0) (bw ag) rfl)
   (aa (aH (pv 0) ah rfl)
   (aa (aH (pv 0) ah rfl)
   (af (aH (pv 0) eo rfl))))))),?_⟩⟩
 fin2
 erw[⟨l8 ∅,λfa h=>?_⟩];have g:fa≠x:=λz=>by rw[z,m] at h;cases h
 erw[jx rfl (bV (by rwa[ai (Ne.symm g)]) c.cl c.aG (by show 6<1000;decide) ?_)];lk;erw[bV ae c.cl c.good (by show 7<1000;decide) ?_];rw[aU];erw[⟨l8 ∅,λwa a=>?_⟩];have j:wa≠x:=λz=>by rw[z,ae] at a;cases a
 have l:fa≠wa:=λz=>by rw[<- z,ai g,ae] at a;cases a
 have i:H wa=none:=by rw[ai j,ai (Ne.symm l)] at a;exact a
 erw[jx rfl (bV (by rw[ai (Ne.symm j)];exact ae) c.cl c.waiting (by show 8<1000;decide) ?_)];lk;erw[bV ae c.cl c.leaving (by show 9<1000;decide) ?_];rw[aU];lk;erw[bV ae c.cl c.bU (by show 10<1000;decide) ?_];rw[aU];lk;erw[bV ae c.cl c.Ff (by show 11<1000;decide) ?_];rw[aU];erw[k fa wa _ (λb o n e=>?_) h i l ?_ ?_ ae]
 .rwa[ai n,ai (aq e i),ai n,ai (aq e h)]
 .rw[ai g,ai l,ai g];exact ae
 .rw[ai j];exact ae
def NZ(K:PySem.W.Frag)(a:Addr):Sp:=λvs H Q _=>∃(x b ch:Addr),vs=[.ref x,.ref ch]/\H x=some (.ins a b [])/\∀(q fa wa:Addr) (H':Hp),But x H H'->H q=none->H fa=none->H wa=none->fa≠wa->q≠fa->q≠wa->H' q=some (.lst [])->H' fa=some (.lst [])->H' wa=some (.lst [])->H' x=some (.ins a b (fs0 ch q++Zp fa wa))->Q .non H'
def UZ{h:Addr}(L:CS K h)(F:aI K "__init__" "MinderStanding.__init__" du dV f fd)(b:Cmt P w K mg dH true 1 "Standing" "__init__" (Fm K) [])(O:aT P w K mg dH 1 "forget" (JN K) λC=>C=h):aC P w K mg dH (fw P w) true 2 f fd dh (NZ K h):=by
 erw[F.br oJ λvs H Q E N=>?_];obtain⟨x,y,ch,rfl,v,k⟩:=N;have c:=O.d
 refine⟨rfl,λI A dN s S=>⟨_,(aa (aB (Ga b (S.mono (by omega)) (by rfl) cq (aj (pv 0) (aj (pv 1) ag))))
   (af (aB (jd (pv 0) c)))),?_⟩⟩
 fin2
 lk;erw[hY x y h ch (mq rfl v L (λq B t m n g=>?_))];have M:q≠x:=λz=>by rw[z,v] at m;cases m
 lk;erw[dJ g ⟨rfl,rfl,rfl⟩ rfl ?_];erw[hY x y ch q (mE rfl g (λfa wa D u i j R J U T=>?_))]
 have fr:∀a,a≠x->B a=none->H a=none:=λa G e=>by
  cases z:H a with
  |none=>rfl
  |some o=>rw[t a o G z] at e;cases e
 have r:fa≠x:=λz=>by rw[z,g] at i;cases i
 have l:wa≠x:=λz=>by rw[z,g] at j;cases j
 exact k q fa wa D (t.trans u) m (fr fa r i) (fr wa l j) R (aq n i) (aq n j) (u q _ M n) J U T
def fsX(a:Bool)(ch q fa wa:Addr):List (Str×V):=fs0 ch q++if a then abE else Zp fa wa
def Wc(R:Rep)(ei:HC):Sp:=λvs H Q _=>∃(ch:Addr) (s:Sh),vs=[.ref ch]/\R H ch s/\∀(x a q fa wa:Addr) (H':Hp),aO H H'->H x=none->H q=none->x≠q->(¬s.kind<3->H fa=none/\H wa=none/\fa≠wa/\q≠fa/\q≠wa/\x≠fa/\x≠wa/\H' fa=some (.lst [])/\H' wa=some (.lst []))->H' q=some (.lst [])→
 H' x=some (.ins (if s.kind<3 then ei.cL else ei.cM) a (fsX (decide (s.kind<3)) ch q fa wa))->Q (.ref x) H'
def Z3{R:Rep}{S:Nat->Addr->Prop}(hS:ShI P w K mg dH R S)(N:CS K ei.cL)(g:Mak P w K mg dH true 2 "LeafStanding" ei.cL (OP K) [])(c:Mak P w K mg dH true 2 "MinderStanding" ei.cM (NZ K ei.cM) [])
  (F:aI K "standing_of" "standing_of" qU dV f fd):aC P w K mg dH (fw P w) true 4 f fd zc (Wc R ei):=by
 erw[F.br Gq λvs H Q E y0=>?_];obtain⟨ch,sp,rfl,X,k⟩:=y0
 have l:∀C s n,Dt (w6 R) (λC=>∃j,S j C) C s n->MethAt P w K mg dH (fw P w) true 3 "leaf" C s n:=by
  rintro C s n ⟨⟨j,z⟩,rfl,rfl⟩;exact hS.I.leaf z
 erw[⟨rfl,λab A dN s Y=>⟨_,(af (av (nO (bM (jd (pv 0) l)) (uA g (Y.mono (by omega)) (by rfl) cq (aj (pv 0) ag)) (uA c (Y.mono (by omega)) (by rfl) cq (aj (pv 0) ag))))),?_⟩⟩]
 fin2
 obtain⟨Cc,dc,fc,c1,c2,c3,c4,c5,c6,c7⟩:=hS.I.inst X;lk;erw[dJ c1 ⟨⟨_,c2⟩,rfl,rfl⟩ c4 ?_];erw[hY ch dc fc sp (mq rfl X c1 (λy O=>?_))]
 have fr:∀a,y a=none->H a=none:=λa e=>by
  cases z:H a with
  |none=>rfl
  |some o=>rw[O _ _ z] at e;cases e
 erw[⟨_,rfl,?_⟩];erw[bp (λe=>?_) (λe=>?_)]
 .have e:sp.kind<3:=hI e;rw[eE e,f7 e] at k;lk;intro x i r u n3;erw[hY x i ei.cL ch (mq rfl ae N (λq D J m B M=>⟨rfl,?_⟩))];have W:q≠x:=λz=>by rw[z,ae] at m;cases m
  have L:y q=none:=by
   rw[ai W] at m;by_cases z:q=i
   .rwa[z]
   .rw[ai z] at m;exact m
  erw[k x i q q q D (λb o G=>?_) (fr x r) (fr q L) (Ne.symm W) (λz=>absurd e z) B M];have h:=O _ _ G;have t:b≠x:=aq h r;exact J b o t (by rwa[ai t,ai (aq h u)])
 .have e:¬sp.kind<3:=λz=>e (f7 z);rw[er e,j0 e] at k;lk;intro x i r u n3;refine pw x i ch (mE rfl ae (λq fa wa D J m U Z d1 d2 d3 B f2 w2 M=>⟨rfl,?_⟩))
  have nx:∀a,(upd (upd y i (.own x)) x (.ins ei.cM i [])) a=none->a≠x/\y a=none:=λa v=>by
   have T:a≠x:=λz=>by rw[z,ae] at v;cases v
   erw[⟨T,?_⟩];rw[ai T] at v;by_cases z:a=i
   .rwa[z]
   .rw[ai z] at v;exact v
  erw[k x i q fa wa D (λb o G=>?_) (fr x r) (fr q (nx q m).2) (Ne.symm (nx q m).1) (λ_=>⟨fr fa (nx fa U).2,fr wa (nx wa Z).2,d1,d2,d3,Ne.symm (nx fa U).1,Ne.symm (nx wa Z).1,f2,w2⟩) B M];have h:=O _ _ G;have t:b≠x:=aq h r;exact J b o t (by rwa[ai t,ai (aq h u)])
theorem N0(f:Str)(v:V):∀fs:List (Str×V),(ku f v fs).length<=fs.length+1
 |[]=>fC _
 |(g,x)::r=>by
  unfold ku
  split
  .exact af8 _
  .exact ahz (N0 f v r)
def Xx(K:PySem.W.Frag)(g:Addr):Sp:=λvs H Q _=>∃(a xs q h d2 c ch:Addr) (e b:List (Str×V)) (ys:List V),vs=[.ref a,.ref xs]/\H a=some (.ins g h e)/\e.lookup ("minded":Str)=some (.ref q)/\H q=some (.lst ys)/\ys.length<1000/\H xs=some (.ins c d2 b)/\b.length<900/\a≠xs/\CS K c∧
 Q .non (upd (upd H xs (.ins c d2 (ku "place" (.int (ys.length:Int)) (ku "minder" (.ref a) b)))) q (.lst (ys++[.ref xs])))
def YX{h:Addr}(T:Txt mg)(c:CS K h)(F:aI K "mind" "MinderStanding.mind" fE dV f fd):aC P w K mg dH (fw P w) true 1 f fd kg (Xx K h):=by
 erw[F.br uk λvs H Q E n=>?_];obtain⟨g,xs,q,v,d2,y,ch,x,i,ys,rfl,m,l,b,u,j,t,nx,a,k⟩:=n
 refine⟨rfl,λo A dN s r=>⟨_,(aa (aH (pv 1) (pv 0) rfl)
   (aa (aH (pv 1) (aQ aP (by rfl) T.fN cJ (aj (aw (pv 0) rfl) ag)) rfl)
   (af (aB (fg Bn ae3 ae4 cD (aw (pv 0) rfl) (aj (pv 1) ag)))))),?_⟩⟩
 fin2
 have e:q≠xs:=λz=>by rw[z,j] at b;cases b
 have pl:(ku "minder" (.ref g) i).length<1000:=by
  have:=N0 "minder" (.ref g) i
  lia
 lk;erw[hY xs _ _ _ (rz rfl j a.cl a.zZ () ?_)];lk;erw[aZ (by rwa[ai nx]) c.cl c.tS l ?_];lk;erw[iE q _ (mE rfl (.inl (fk.of (by rwa[ai e]))) ?_)];lk;erw[hY xs _ _ _ (rz rfl ae a.cl a.place pl ?_)];rw[aU];lk;erw[pq g _ _ _ _ (l7 rfl (by rwa[ai nx]) c.cl c.tS l (.inl ⟨rfl,_,fk.of (by rwa[ai e])⟩) ?_)];lk;exact⟨q,_,_,rfl,rfl,by rwa[ai e],aV (),k⟩
structure Ad where
 nd:Nat->Addr
 dn:Nat->Addr
 mi:Nat->Addr
 fa:Nat->Addr
 wa:Nat->Addr
inductive Lc
 |nd (i:Nat)
 |mi (i:Nat)
 |fa (i:Nat)
 |wa (i:Nat)
def Lc.at(A:Ad):Lc->Addr
 |.nd i=>A.nd i
 |.mi i=>A.mi i
 |.fa i=>A.fa i
 |.wa i=>A.wa i
def Lc.ok(T:List Row)(t:Nat):Lc->Prop
 |.nd i=>i<t
 |.mi i=>i<t
 |.fa i=>i<t/\fm T i=false
 |.wa i=>i<t/\fm T i=false
def uz(T:List Row)(A:Ad)(i:Nat):V:=match par T i with
 |none=>.non
 |some m=>.ref (A.nd m)
def fsA(T:List Row)(A:Ad)(ch:Nat->Addr)(i:Nat):List (Str×V):=([("child",.ref (ch i)),("state",.str "off"),("asked",.bl false),("minder",uz T A i),("place",.int ((hH T i:Nat):Int)),("minded",.ref (A.mi i))]:List (Str×V))++(if fm T i then abE else Zp (A.fa i) (A.wa i):List (Str×V))
def aaJ(ei:HC)(T:List Row)(ch:Nat->Addr)(A:Ad)(t:Nat):Lc->HO
 |.nd i=>.ins (bu ei T i) (A.dn i) (fsA T A ch i)
 |.mi i=>.lst (((List.range t).filter λj=>decide (par T j=some i)).map λj=>V.ref (A.nd j))
 |.fa _=>.lst []
 |.wa _=>.lst []
structure Made(ei:HC)(T:List Row)(ch:Nat->Addr)(H0:Hp)(sa:Addr)(A:Ad)(t:Nat)(H:Hp):Prop where
 same:aO H0 H
 sl:H sa=some (.lst ((List.range t).map λi=>V.ref (A.nd i)))
 s0:H0 sa=none
 cell:∀l:Lc,l.ok T t->H (l.at A)=some (aaJ ei T ch A t l)
 new:∀l:Lc,l.ok T t->H0 (l.at A)=none
 inj:∀l l':Lc,l.ok T t->l'.ok T t->l.at A=l'.at A->l=l'
 sn:∀l:Lc,l.ok T t->l.at A≠sa
def Ad.put(A:Ad)(t:Nat)(x a q fa wa:Addr):Ad:=⟨eJ A.nd t x,eJ A.dn t a,eJ A.mi t q,eJ A.fa t fa,eJ A.wa t wa⟩
theorem Lc.zI{A:Ad}{T:List Row}{t:Nat}{x a q fa wa:Addr}:∀{l:Lc},l.ok T t->l.at (A.put t x a q fa wa)=l.at A
 |.nd i,h=>eB x (nz h)
 |.mi i,h=>eB q (nz h)
 |.fa i,h=>eB fa (nz h.1)
 |.wa i,h=>eB wa (nz h.1)
theorem Lc.split{T:List Row}{t:Nat}:∀{l:Lc},l.ok T (t+1)->l.ok T t\/l=.nd t\/l=.mi t\/(l=.fa t/\fm T t=false)\/(l=.wa t/\fm T t=false)
 |.nd i,h=>by
  have h:i<t+1:=h;by_cases e:i=t
  .exact .inr (.inl (by rw[e]))
  .exact .inl (show i<t by lia)
 |.mi i,h=>by
  have h:i<t+1:=h;by_cases e:i=t
  .exact .inr (.inr (.inl (by rw[e])))
  .exact .inl (show i<t by lia)
 |.fa i,h=>by
  have h:i<t+1/\fm T i=false:=h;by_cases e:i=t
  .exact .inr (.inr (.inr (.inl ⟨by rw[e],by rw[<- e];exact h.2⟩)))
  .exact .inl ⟨by have:=h.1;lia,h.2⟩
 |.wa i,h=>by
  have h:i<t+1/\fm T i=false:=h;by_cases e:i=t
  .exact .inr (.inr (.inr (.inr ⟨by rw[e],by rw[<- e];exact h.2⟩)))
  .exact .inl ⟨by have:=h.1;lia,h.2⟩
def Made.next{T:List Row}{ch:Nat->Addr}{O H B:Hp}{L:Addr}{A:Ad}{t:Nat}{x a q fa wa:Addr}(h:Made ei T ch O L A t H)(tok:∀{j m:Nat},j<=t->par T j=some m->m<j)
  (nx:H x=none) (nq:H q=none) (v:fm T t=false->H fa=none/\H wa=none/\fa≠wa/\q≠fa/\q≠wa/\x≠fa/\x≠wa) (X:x≠q)
  (keep:∀b o,b≠L->(∀m,par T t=some m->b≠A.mi m)->H b=some o->B b=some o)
  (S:B L=some (.lst (((List.range t).map λi=>V.ref (A.nd i))++[.ref x]))) (Q:∀m,par T t=some m->B (A.mi m)=some (.lst ((((List.range t).filter λj=>decide (par T j=some m)).map λj=>V.ref (A.nd j))++[.ref x])))
  (hx:B x=some (.ins (bu ei T t) a (fsA T (A.put t x a q fa wa) ch t))) (Z:B q=some (.lst [])) (Y:fm T t=false->B fa=some (.lst [])/\B wa=some (.lst [])):Made ei T ch O L (A.put t x a q fa wa) (t+1) B:=by
 have M:∀l:Lc,l.ok T t->H (l.at A)≠none:=λl s z=>by rw[h.cell l s] at z;cases z
 have J:∀i,i<t->(A.put t x a q fa wa).nd i=A.nd i:=λi D=>eB x (nz D);have I:(A.put t x a q fa wa).nd t=x:=bG _ _ _;have rng:∀l:List Nat,(∀j∈l,j<t)->l.map (λj=>V.ref ((A.put t x a q fa wa).nd j))=l.map λj=>V.ref (A.nd j):=λl s=>agL λj u=>by rw[J j (s j u)]
 have W:∀j i,j∈((List.range t).filter λj=>decide (par T j=some i))->j<t:=λj i u=>xc.mp (afP.mp u).1
 have C:∀b,H b=none->O b=none:=λb e=>by
  cases z:O b with
  |none=>rfl
  |some o=>rw[h.same _ _ z] at e;cases e
 have r:(Lc.nd t).at (A.put t x a q fa wa)=x:=bG _ _ _;have n:(Lc.mi t).at (A.put t x a q fa wa)=q:=bG _ _ _;have g:(Lc.fa t).at (A.put t x a q fa wa)=fa:=bG _ _ _;have c:(Lc.wa t).at (A.put t x a q fa wa)=wa:=bG _ _ _;have R:H L≠none:=λz=>by rw[h.sl] at z;cases z
 have fresh:∀l:Lc,l.ok T (t+1)->¬l.ok T t->H (l.at (A.put t x a q fa wa))=none:=λl s hn=>by
  rcases Lc.split s with z|rfl|rfl|⟨rfl,z⟩|⟨rfl,z⟩
  .exact absurd z hn
  .rwa[r]
  .rwa[n]
  .rw[g];exact(v z).1
  .rw[c];exact(v z).2.1
 erw[⟨λb o e=>?_,?_,h.s0,λl s=>?_,λl s=>?_,λl G s N e=>?_,λl s=>?_⟩]
 .refine keep b o (aq e h.s0) (λm E=>?_) (h.same _ _ e);exact aq e (h.new (.mi m) (tok (fC _) E))
 .rw[S,afR,ni,rng _ (λj u=>xc.mp u),List.map_singleton,I]
 .rcases Lc.split s with z|rfl|rfl|⟨rfl,z⟩|⟨rfl,z⟩
  .rw[Lc.zI z];have hs:=h.sn l z;by_cases U:∃m,par T t=some m/\l=.mi m
   .obtain ⟨m,E,rfl⟩:=U;show B (A.mi m)=some (.lst (((List.range (t+1)).filter λj=>decide (par T j=some m)).map λj=>V.ref ((A.put t x a q fa wa).nd j)));rw[Q m E,afR,YP,afh,eE (f7 E),af3,ni,rng _ (λj u=>W j m u),List.map_singleton,I]
   .have k:B (l.at A)=some (aaJ ei T ch A t l):=keep _ _ hs (λm E y=>U ⟨m,E,h.inj l (.mi m) z (tok (fC _) E) y⟩) (h.cell l z);rw[k]
    congr 1
    cases l with
    |nd i=>
     have D:i<t:=z;show HO.ins _ (A.dn i) (fsA T A ch i)=HO.ins _ ((A.put t x a q fa wa).dn i) (fsA T (A.put t x a q fa wa) ch i);have e1:(A.put t x a q fa wa).dn i=A.dn i:=eB a (nz D);have e2:(A.put t x a q fa wa).mi i=A.mi i:=eB q (nz D);have e3:(A.put t x a q fa wa).fa i=A.fa i:=eB fa (nz D);have e4:(A.put t x a q fa wa).wa i=A.wa i:=eB wa (nz D)
     have e5:uz T (A.put t x a q fa wa) i=uz T A i:=by
      unfold uz;cases hp:par T i with
      |none=>rfl
      |some m=>
       show V.ref _=V.ref _;rw[J m (aga (tok (afC D) hp) D)]
     unfold fsA;rw[e1,e2,e3,e4,e5]
    |mi i=>
     show HO.lst _=HO.lst _;rw[afR,YP,afh,er (λy=>U ⟨i,hI y,rfl⟩),af3,su,rng _ (λj u=>W j i u)]
    |fa i=>rfl
    |wa i=>rfl
  .rw[r,hx];show some (HO.ins _ _ _)=some (HO.ins _ ((A.put t x a q fa wa).dn t) _);rw[show (A.put t x a q fa wa).dn t=a from bG _ _ _]
  .rw[n,Z];show some (HO.lst [])=some (HO.lst _)
   have:((List.range (t+1)).filter λj=>decide (par T j=some t))=[]:=af9.mpr λj u y=>by
    have u:=xc.mp u;have:=tok () (hI y)
    lia
   rw[this]
   rfl
  .rw[g,(Y z).1]
   rfl
  .rw[c,(Y z).2]
   rfl
 .by_cases z:l.ok T t
  .rw[Lc.zI z];exact h.new l z
  .exact C _ (fresh l s z)
 .by_cases z:l.ok T t
  .by_cases z':G.ok T t
   .rw[Lc.zI z,Lc.zI z'] at e;exact h.inj l G z z' e
   .have f:=fresh G N z';rw[<- e,Lc.zI z] at f;exact absurd f (M l z)
  .by_cases z':G.ok T t
   .have f:=fresh l s z;rw[e,Lc.zI z'] at f;exact absurd f (M G z')
   .rcases Lc.split s with y|rfl|rfl|⟨rfl,y⟩|⟨rfl,y⟩<;>rcases Lc.split N with F|rfl|rfl|⟨rfl,F⟩|⟨rfl,F⟩<;>first|rfl|exact absurd y z|exact absurd F z'|skip
    .rw[r,n] at e;exact absurd e X
    .rw[r,g] at e;exact absurd e (v F).2.2.2.2.2.1
    .rw[r,c] at e;exact absurd e (v F).2.2.2.2.2.2
    .rw[r,n] at e;exact absurd e.symm X
    .rw[n,g] at e;exact absurd e (v F).2.2.2.1
    .rw[n,c] at e;exact absurd e (v F).2.2.2.2.1
    .rw[r,g] at e;exact absurd e.symm (v y).2.2.2.2.2.1
    .rw[n,g] at e;exact absurd e.symm (v y).2.2.2.1
    .rw[g,c] at e;exact absurd e (v y).2.2.1
    .rw[r,c] at e;exact absurd e.symm (v y).2.2.2.2.2.2
    .rw[n,c] at e;exact absurd e.symm (v y).2.2.2.2.1
    .rw[g,c] at e;exact absurd e.symm (v y).2.2.1
 .by_cases z:l.ok T t
  .rw[Lc.zI z];exact h.sn l z
  .intro y;have f:=fresh l s z;rw[y] at f;exact R f
theorem Made.mono{T:List Row}{ch:Nat->Addr}{a H H':Hp}{c:Addr}{A:Ad}{t:Nat}(h:Made ei T ch a c A t H)(e:aO H H'):Made ei T ch a c A t H':=
 ⟨λb o z=>e _ _ (h.same _ _ z),e _ _ h.sl,h.s0,λl g=>e _ _ (h.cell l g),h.new,h.inj,h.sn⟩
def SM{T:List Row}{i m:Nat}(h:par T i=some m):cA T i=(m:Int):=by
 unfold par at h
 split at h
 .cases h
 .rename_i h1
  have:=iH h
  lia
def Ry(h:Addr)(p:Pl)(ei:HC):Sp:=λvs H Q _=>∃(t:Addr) (T:List Row) (c b a d:Addr) (g:List Addr),vs=[.ref t]/\yw h p H t T c b a d g/\T.length<=64/\(∀{j m:Nat},j<T.length->par T j=some m->m<j/\fm T m=false)/\(∀j,0<j->j<T.length->∃m,par T j=some m)∧
 ∀(e:Addr) (A:Ad) (H':Hp),Made ei T (λi=>g.getD i 0) H e A T.length H'->Q (.ref e) H'
def VN{cT:Addr}(T:Txt mg)(hc:CT K cT)(aG:CS K ei.cL)(am:CS K ei.cM)(qD:jm P w K mg dH true 4 "standing_of" (Wc p.rep ei) [])(hM:aT P w K mg dH 1 "mind" (Xx K) λC=>C=ei.cM)
  (F:aI K "standings_of" "standings_of" n9 dV f fd):aC P w K mg dH (fw P w) true 5 f fd xZ (Ry cT p ei):=by
 erw[F.br dD λvs H Q E y0=>?_];obtain⟨tr,U,c,b,a,d,J,rfl,L,a0,tok,top,k⟩:=y0;have N:=hM.d
 refine⟨rfl,λaN A dN s hr=>⟨_,(aa (bq (i:=1) dD.nd (bw ag))
   (aa (oH afv rfl (Zs (by rfl) T.DZ (aj (aw (pv 0) rfl) ag)) (PL rfl (k7 (c9 (i:=2) dD.nd rfl (by first|exact Or.inl rfl|exact Or.inr rfl)) (k7 (c9 (i:=3) dD.nd rfl (by first|exact Or.inl rfl|exact Or.inr rfl)) Mm))) (aa (bq (i:=4) dD.nd (cb qD (aj (pv 3) ag)))
   (aa (aL (iw OK (pv 2) ah) (aa (bq (i:=5) dD.nd (hD aD (pv 1) (hD aD (aw (pv 0) rfl) (pv 2))))
   (af (aB (nt (pv 5) N (aj (pv 4) ag))))) ay)
   (af (aB (fg Bn ae3 ae4 cD (pv 1) (aj (pv 4) ag)))))))
   (af (av (pv 1))))),?_⟩⟩
 fin2
 obtain⟨dx,ap⟩:=L.ob;erw[⟨l8 ∅,λt ac=>?_⟩];have s1:=au (o:= .lst []) ac;have O:(upd H t (.lst [])) t=some (.lst []):=ae;lk;erw[aZ (s1 _ _ ap) hc.cl hc.n1 rfl ?_];lk;erw[⟨⟨_,fk.of (s1 _ _ L.ch)⟩,?_⟩];generalize upd H t (.lst [])=H1 at s1 O
 refine tY (n:=U.length) (λi σ H'=>∃(A:Ad) (v2 v3 v4 v5:Option V),Made ei U (λi=>J.getD i 0) H t A i H'/\σ=[some (.ref tr),some (.ref t),v2,v3,v4,v5])
  ⟨⟨λ_=>0,λ_=>0,λ_=>0,λ_=>0,λ_=>0⟩,none,none,none,none,⟨s1,O,ac,λl r=>?_,λl r=>?_,λl l' r=>?_,λl r=>?_⟩,rfl⟩ ?_ ?_ ?_
 .cases l<;>first|exact absurd r (afm _)|exact absurd r.1 (afm _)
 .cases l<;>first|exact absurd r (afm _)|exact absurd r.1 (afm _)
 .cases l<;>first|exact absurd r (afm _)|exact absurd r.1 (afm _)
 .cases l<;>first|exact absurd r (afm _)|exact absurd r.1 (afm _)
 .rintro i σ H' hi ⟨A,v2,v3,v4,v5,M,_⟩;have D:i<J.length:=by rwa[L.ln]
  exact⟨_,V.ref J[i],fk.of (M.same _ _ L.ch),by rw[jl,gy D];rfl⟩
 .rintro i σ H' v H3 hi ⟨A,v2,v3,v4,v5,M,rfl⟩ ⟨q3,y,hq3,rfl,hy,rfl⟩;have D:i<J.length:=by rwa[L.ln]
  have hy:=hy _ (fk.of (M.same _ _ L.ch));rw[jl,gy D] at hy;obtain rfl:V.ref J[i]=y:=iH hy;have X:J.getD i 0=J[i]:=by rw[ry,gy D];rfl
  have s3:=au (o:= .tup [.int ((0+i:Nat):Int),V.ref J[i]]) hq3;erw[iE q3 _ (mq rfl (l5.of ae) rfl ?_)];have B:=M.mono s3;have Ta:=L.same B.same;generalize upd H' q3 (.tup [.int ((0+i:Nat):Int),V.ref J[i]])=Ha at s3 B Ta;have hR:=Ta.rp i _ (gy D);lk;erw[iE (J[i]) (sh U i) (mE rfl hR (λx I q fa wa H4 s4 nx nq xq nf Z R=>?_))];have W:=B.mono s4;have T4:=Ta.same s4;have u:∀b,Ha b=none->b≠t:=λb e z=>by rw[z,B.sl] at e;cases e
  have aF:(if (sh U i).kind<3 then ei.cL else ei.cM)=bu ei U i:=by
   unfold bu fm;by_cases z:(sh U i).kind<3
   .rw[eE z,f7 z,eE rfl]
   .rw[er z,j0 z,er l6]
  rw[aF] at R;have g:fm U i=false->Ha fa=none/\Ha wa=none/\fa≠wa/\q≠fa/\q≠wa/\x≠fa/\x≠wa/\H4 fa=some (.lst [])/\H4 wa=some (.lst []):=λz=>nf (afk z);have lr:((List.range i).map λj=>V.ref (A.nd j)).length<sizeLine:=by rw[gm,tG];exact aV ()
  have xs:x≠t:=u x nx;have qs:q≠t:=u q nq;by_cases i0:i=0
  .have p0:par U i=none:=by rw[i0];rfl
   lk;erw[bp (λe=>?_) (λe=>?_)]
   .have e:((0:Int)<((0+i:Nat):Int)):=hI e
    lia
   lk;erw[⟨.inl ⟨rfl,_,fk.of W.sl⟩,?_⟩];lk;erw[pw t _ _ (fT rfl rfl W.sl lr ?_)];erw[⟨A.put i x I q fa wa,_,_,_,_,B.next (λhj h=>(tok (F6 hj hi) h).1) nx nq (λz=>⟨(g z).1,(g z).2.1,(g z).2.2.1,(g z).2.2.2.1,(g z).2.2.2.2.1,(g z).2.2.2.2.2.1,(g z).2.2.2.2.2.2.1⟩) xq (λb o hb _ e=>by rw[ai hb];exact s4 _ _ e) ae (λm G=>by rw[p0] at G;cases G) ?_ (by rwa[ai qs]) (λz=>?_),rfl⟩]
   .rw[ai xs,R];unfold fsX fsA uz;rw[p0];dsimp only;rw[X,show(A.put i x I q fa wa).mi i=q from bG _ _ _,show(A.put i x I q fa wa).fa i=fa from bG _ _ _,show(A.put i x I q fa wa).wa i=wa from bG _ _ _,show hH U i=0 by rw[i0];rfl]
    rfl
   .obtain ⟨z1,z2,_,_,_,_,_,z3,z4⟩:=g z;exact⟨by rwa[ai (u fa z1)],by rwa[ai (u wa z2)]⟩
  .obtain ⟨m,G⟩:=top i () hi;obtain⟨mi,r⟩:=tok hi G;obtain⟨dt,Y⟩:=T4.ob;have nm:=W.cell (.nd m) mi;have qm:=W.cell (.mi m) mi;have an:A.nd m≠x:=aq (B.cell (.nd m) mi) nx;have ax:A.mi m≠x:=aq (B.cell (.mi m) mi) nx;have al:A.mi m≠q:=aq (B.cell (.mi m) mi) nq;have S:A.mi m≠t:=B.sn (.mi m) mi
   have yl:(((List.range i).filter λj=>decide (par U j=some m)).map λj=>V.ref (A.nd j)).length=hH U i:=by
    unfold hH;rw[gm,G]
   lk;erw[bp (λe=>?_) (λe=>?_)]
   .lk;erw[aZ Y hc.cl hc.n3 rfl ?_];lk;refine hY a _ _ (V.int (m:Int)) (fT rfl rfl (fk.of T4.ab) ?_ ?_)
    .rw[show ((0+i:Nat):Int)=((i:Nat):Int) by lia];erw[bX ?_];unfold kA;rw[jl,afz hi];show some (if i=0 then V.non else V.int (cA U i))=_;rw[er i0,SM G]
    lk;erw[hY t _ _ (V.ref (A.nd m)) (fT rfl rfl (fk.of W.sl) (bX (by rw[jl,afz mi];rfl)) ?_)];lk;erw[kb (A.nd m) _ _ _ _ ([]) (fT rfl nm ⟨fj r,rfl,rfl⟩ ?_ ?_)]
    .unfold fsA;rw[r]
     rfl
    erw[jx rfl (Zl (A.nd m) x (A.mi m) _ I (bu ei U i) 0 _ _ _ (TX rfl nm rfl qm (by rw[yl];have:=FW U hi G;have:=sj U m;lia) R ?_ an (pY aG am U i) ?_))]
    .unfold fsX;cases decide ((sh U i).kind<3) with
     |true=>show 10<900;decide
     |false=>show 12<900;decide
    rw[yl];lk;erw[⟨.inl ⟨rfl,_,fk.of (by rw[ai (Ne.symm S),ai (Ne.symm xs)];exact W.sl)⟩,?_⟩];lk;erw[pw t _ _ (fT rfl rfl (by rw[ai (Ne.symm S),ai (Ne.symm xs)];exact W.sl) lr ?_)];erw[⟨A.put i x I q fa wa,_,_,_,_,B.next (λhj h=>(tok (F6 hj hi) h).1) nx nq (λz=>⟨(g z).1,(g z).2.1,(g z).2.2.1,(g z).2.2.2.1,(g z).2.2.2.2.1,(g z).2.2.2.2.2.1,(g z).2.2.2.2.2.2.1⟩) xq (λb o hb aK e=>?_) ae (λm' ad=>?_) ?_ ?_ (λz=>?_),rfl⟩]
    .rw[ai hb,ai (aK m G),ai (aq e nx)];exact s4 _ _ e
    .rw[G] at ad;cases ad;rw[ai S];exact ae
    .rw[ai xs,ai (Ne.symm ax),ae];unfold fsX fsA uz;rw[G];dsimp only;rw[X,show(A.put i x I q fa wa).mi i=q from bG _ _ _,show(A.put i x I q fa wa).fa i=fa from bG _ _ _,show(A.put i x I q fa wa).wa i=wa from bG _ _ _];rw[show (A.put i x I q fa wa).nd m=A.nd m from eB x (nz mi)];unfold fm;cases decide ((sh U i).kind<3)<;>rfl
    .rwa[ai qs,ai (Ne.symm al),ai (Ne.symm xq)]
    .obtain ⟨z1,z2,_,_,_,z5,z6,z3,z4⟩:=g z;have y1:fa≠A.mi m:=Ne.symm (aq (B.cell (.mi m) mi) z1);have y2:wa≠A.mi m:=Ne.symm (aq (B.cell (.mi m) mi) z2);exact⟨by rwa[ai (u fa z1),ai y1,ai (Ne.symm z5)],by rwa[ai (u wa z2),ai y2,ai (Ne.symm z6)]⟩
   .exact absurd (f7 (show(0:Int)<((0+i:Nat):Int) by lia)) e
 .rintro σ H' ⟨A,v2,v3,v4,v5,M,rfl⟩;erw[⟨⟨_,fk.of (M.same _ _ L.ch),by rw[gm,L.ln];exact fC _⟩,?_⟩];lk;exact k t A H' M
def S0:HS:=⟨0,[],[],λ_=>nd0⟩
def Made.rp{cT:Addr}{T:List Row}{B c b a d:Addr}{g:List Addr}{Q H:Hp}{x I en qu C:Addr}{A:Ad}(ok:mn T)(n:yw cT p Q B T c b a d g)(M:Made ei T (λi=>g.getD i 0) Q C A T.length H)(Y:H x=some (.ins ei.cH I (fsH ⟨x,I,en,qu,C,B,A.nd,A.dn,A.mi,λi=>g.getD i 0⟩ S0)))(F:H en=some (.lst []))(E:H qu=some (.lst []))(eq:en≠qu)
  (U:∀l:Lc,l.ok T T.length->l.at A≠x/\l.at A≠en/\l.at A≠qu) (Z:C≠x/\C≠en/\C≠qu) (nF:∀e,(e=B\/e=c\/e=b\/e=a\/e=d\/e∈g)->e≠x/\e≠en/\e≠qu):
  Rp p.rep (m8 cT p) ei T ⟨x,I,en,qu,C,B,A.nd,A.dn,A.mi,λi=>g.getD i 0⟩ (λe=>e=B\/e=c\/e=b\/e=a\/e=d\/e∈g) ⟨A.fa,A.wa,[],[]⟩ S0 H:=by
 have O:=n.same M.same
 have J:∀i,i<T.length->g.getD i 0∈g:=λi q=>by
  have:i<g.length:=by rwa[O.ln]
  rw[ry,gy this];exact M5 this
 have r:∀e,(e=B\/e=c\/e=b\/e=a\/e=d\/e∈g)->Q e≠none:=by
  rintro e (rfl|rfl|rfl|rfl|rfl|X) z
  .obtain ⟨dt,h⟩:=n.ob;rw[h] at z;cases z
  .rw[n.ch] at z;cases z
  .rw[n.bl] at z;cases z
  .rw[n.ab] at z;cases z
  .rw[n.pl] at z;cases z
  .obtain ⟨i,q,e2⟩:=agI.mp X;obtain⟨_,_,dz,h⟩:=n.rp i e (by rw[gy q,e2]);rw[h] at z;cases z
 have cell:∀l:Lb,vl T l->H (l.at ⟨x,I,en,qu,C,B,A.nd,A.dn,A.mi,λi=>g.getD i 0⟩ ⟨A.fa,A.wa,[],[]⟩)=some (cont ei T ⟨x,I,en,qu,C,B,A.nd,A.dn,A.mi,λi=>g.getD i 0⟩ ⟨A.fa,A.wa,[],[]⟩ S0 l):=λl v=>by
  cases l with
  |hs=>exact Y
  |en=>exact F
  |qu=>exact E
  |nd i=>
   show H (A.nd i)=_;rw[show H (A.nd i)=_ from M.cell (.nd i) v];show some (HO.ins _ _ (fsA T A (λi=>g.getD i 0) i))=some (HO.ins _ _ (mu T _ _ nd0 i));unfold fsA mu uz pE tw
   rfl
  |fa i=>exact M.cell (.fa i) v
  |wa i=>exact M.cell (.wa i) v
 have G:∀l:Lb,vl T l->(l=.hs\/l=.en\/l=.qu)\/∃D:Lc,D.ok T T.length/\D.at A=l.at ⟨x,I,en,qu,C,B,A.nd,A.dn,A.mi,λi=>g.getD i 0⟩ ⟨A.fa,A.wa,[],[]⟩/\((∃i,l=.nd i/\D=.nd i)\/(∃i,l=.fa i/\D=.fa i)\/∃i,l=.wa i/\D=.wa i):=λl v=>by
  cases l with
  |hs=>exact .inl (.inl rfl)
  |en=>exact .inl (.inr (.inl rfl))
  |qu=>exact .inl (.inr (.inr rfl))
  |nd i=>exact .inr ⟨.nd i,v,rfl,.inl ⟨i,rfl,rfl⟩⟩
  |fa i=>exact .inr ⟨.fa i,v,rfl,.inr (.inl ⟨i,rfl,rfl⟩)⟩
  |wa i=>exact .inr ⟨.wa i,v,rfl,.inr (.inr ⟨i,rfl,rfl⟩)⟩
 have xe:x≠en:=λz=>by rw[<- z,Y] at F;cases F
 have xq:x≠qu:=λz=>by rw[<- z,Y] at E;cases E
 erw[⟨cell,λl D v v' e=>?_,M.sl,λi q=>?_,λi q=>?_,⟨c,b,a,d,g,O,rfl⟩,λe X z=>?_,rfl,λk a e h=>(by cases h),rfl,λk a e h=>(by cases h),λl v=>⟨?_,λi q=>⟨?_,?_⟩,λz=>?_⟩⟩]
 .rcases G l v with t|⟨m,u,s,R⟩<;>rcases G D v' with h2|⟨m',L,N,W⟩
  .rcases t with rfl|rfl|rfl<;>rcases h2 with rfl|rfl|rfl<;>first|rfl|exact absurd e xe|exact absurd e.symm xe|exact absurd e xq|exact absurd e.symm xq|exact absurd e eq|exact absurd e.symm eq
  .obtain ⟨n1,n2,n3⟩:=U m' L;rw[N] at n1 n2 n3;rcases t with rfl|rfl|rfl
   .exact absurd e.symm n1
   .exact absurd e.symm n2
   .exact absurd e.symm n3
  .obtain ⟨n1,n2,n3⟩:=U m u;rw[s] at n1 n2 n3;rcases h2 with rfl|rfl|rfl
   .exact absurd e n1
   .exact absurd e n2
   .exact absurd e n3
  .have:=M.inj m m' u L (by rw[s,N,e]);subst this;rcases R with⟨i,rfl,rfl⟩|⟨i,rfl,rfl⟩|⟨i,rfl,rfl⟩<;>rcases W with⟨j,rfl,e2⟩|⟨j,rfl,e2⟩|⟨j,rfl,e2⟩<;>cases e2<;>rfl
 .exact M.cell (.mi i) q
 .have hi':i<g.length:=by rwa[O.ln]
  have S:g.getD i 0=g[i]:=by rw[ry,gy hi'];rfl
  obtain⟨r1,r2,dz,r3⟩:=O.rp i _ (gy hi');show ∃o,H (g.getD i 0)=some o/\_;rw[S];erw[⟨_,r3,λH' h'=>⟨r1,r2,dz,?_⟩⟩];show H' (g.getD i 0)=_;rw[S];have h':H' (g.getD i 0)=_:=h';rw[S] at h';exact h'
 .have:=r e X;cases y:Q e with
  |none=>exact this y
  |some o=>rw[M.same _ _ y] at z;cases z
 .intro z;rcases G l v with t|⟨m,u,s,_⟩
  .rcases t with rfl|rfl|rfl
   .exact Z.1 z.symm
   .exact Z.2.1 z.symm
   .exact Z.2.2 z.symm
  .exact M.sn m u (s.trans z)
 .intro z;rcases G l v with t|⟨m,u,s,R⟩
  .have nm:=U (.mi i) q;rcases t with rfl|rfl|rfl
   .exact nm.1 z.symm
   .exact nm.2.1 z.symm
   .exact nm.2.2 z.symm
  .have:=M.inj m (.mi i) u q (s.trans z);rcases R with⟨j,_,rfl⟩|⟨j,_,rfl⟩|⟨j,_,rfl⟩<;>cases this
 .intro z;rcases G l v with t|⟨m,u,s,_⟩
  .have nm:=nF (g.getD i 0) (.inr (.inr (.inr (.inr (.inr (J i q))))));rcases t with rfl|rfl|rfl
   .exact nm.1 z.symm
   .exact nm.2.1 z.symm
   .exact nm.2.2 z.symm
  .have:=M.new m u;rw[s,z] at this;exact r _ (.inr (.inr (.inr (.inr (.inr (J i q)))))) this
 .rcases G l v with t|⟨m,u,s,_⟩
  .have nm:=nF _ z;rcases t with rfl|rfl|rfl
   .exact nm.1 rfl
   .exact nm.2.1 rfl
   .exact nm.2.2 rfl
  .have:=M.new m u;rw[s] at this;exact r _ z this
open PySem L2 Shp Nm Tr Hs Hm Hr PySem.NumText
def Made.rebase{T:List Row}{ch:Nat->Addr}{c g i:Hp}{j x:Addr}{A:Ad}{t:Nat}{o:HO}(M:Made ei T ch g j A t i)(h:∀b u,c b=some u->g b=some u/\b≠x)(m:g x≠none):Made ei T ch c j A t (upd i x o):=by
 have fr:∀b,g b=none->c b=none/\b≠x:=λb e=>by
  erw[⟨?_,λz=>m (by rwa[<- z])⟩];cases z:c b with
  |none=>rfl
  |some u=>rw[(h b u z).1] at e;cases e
 erw[⟨λb u e=>?_,?_,(fr _ M.s0).1,λl a=>?_,λl a=>(fr _ (M.new l a)).1,M.inj,M.sn⟩]
 .rw[ai (h b u e).2];exact M.same _ _ (h b u e).1
 .rw[ai (fr _ M.s0).2];exact M.sl
 .rw[ai (fr _ (M.new l a)).2];exact M.cell l a
structure acq(cT:Addr)(p:Pl)(ei:HC)(T:List Row)(H0:Hp)(L:Lo)(FT:FS)(D:Dy)(H':Hp):Prop where
 same:aO H0 H'
 rp:Rp p.rep (m8 cT p) ei T L FT D (new T) H'
 lb:∀l,vl T l->H0 (l.at L D)=none
 sa:H0 L.sa=none
 mi:∀i,i<T.length->H0 (L.mi i)=none
 ch:∀i,i<T.length->FT (L.ch i)
 bk:∀a,a∈D.bk->H0 a=none
def Rw(c:Addr)(p:Pl)(ei:HC):Sp:=λvs H Q _=>∃(x b g:Addr) (a:Hp) (T:List Row) (e:FS),vs=[.ref x,.ref g]/\a x=none/\a b=none/\b≠x/\H=upd (upd a b (.own x)) x (.ins ei.cH b [])/\m8 c p a g T e/\mn T/\(new T).book.length<sizeLine∧
 ∀(L:Lo) (D:Dy) (H':Hp),L.x=x->acq c p ei T a L e D H'->Q .non H'
def Vm{cT:Addr}(T:Txt mg)(r:CH K ei.cH){n:Nat}(hn:5<=n)(oX:jm P w K mg dH true 5 "standings_of" (Ry cT p ei) [])(hB:aT P w K mg dH n "begin" (lO p.rep (m8 cT p) ei (λT i _=>bW T 10 i) (λT i S=>a9 T 10 i S)) λC=>C=ei.cH)
  (F:aI K "__init__" "House.__init__" kG dV f fd):aC P w K mg dH (fw P w) true (n+1) f fd ky (Rw cT p ei):=by
 erw[F.br Bc λvs H Q E y0=>?_];obtain⟨x,m,t,G,U,FT,rfl,h0,h1,h2,eH,⟨c,b,a,d,B,L,rfl⟩,ok,Z,k⟩:=y0;have D:=hB.d
 refine⟨rfl,λax A dN s hr=>⟨_,(aa (aH (pv 0) (pv 1) rfl)
   (aa (aH (pv 0) ah rfl)
   (aa (aH (pv 0) (bw ag) rfl)
   (aa (aH (pv 0) (bw ag) rfl)
   (aa (aH (pv 0) (cb oX (aj (pv 1) ag)) rfl)
   (af (aB (nt (pv 0) D (aj (hD aD (aw (pv 0) rfl) ah) ag))))))))),?_⟩⟩
 fin2
 have hx:H x=some (.ins ei.cH m []):=by rw[eH];exact ae
 have W:∀b u,G b=some u->H b=some u/\b≠x:=λb u e=>⟨by rwa[eH,ai (aq e h0),ai (aq e h1)],aq e h0⟩
 have f0:∀b,b≠x->H b=none->G b=none:=λb hb e=>by
  rw[eH,ai hb] at e;by_cases z:b=m
  .rwa[z]
  .rw[ai z] at e;exact e
 lk;erw[bV hx r.cl r.tree (by show 0<1000;decide) ?_];lk;erw[bV ae r.cl r.Gb (by show 1<1000;decide) ?_];rw[aU];have ac:(upd H x (.ins ei.cH m [("tree",.ref t),("clock",.int 0)])) x=some (.ins ei.cH m [("tree",.ref t),("clock",.int 0)]):=ae;have s1:∀b u,G b=some u->(upd H x (.ins ei.cH m [("tree",.ref t),("clock",.int 0)])) b=some u:=λb u e=>by rw[ai (W b u e).2];exact(W b u e).1
 have f1:∀b,b≠x->(upd H x (.ins ei.cH m [("tree",.ref t),("clock",.int 0)])) b=none->G b=none:=λb hb e=>by rw[ai hb] at e;exact f0 b hb e
 change jf _ _ _ _ (upd H x (.ins ei.cH m [("tree",.ref t),("clock",.int 0)]))
 generalize upd H x (.ins ei.cH m [("tree",.ref t),("clock",.int 0)])=H1 at ac s1 f1;erw[⟨l8 ∅,λen ad=>?_⟩];obtain⟨p1,p2,p3,p4,p5,p6⟩:=ym (o:= .lst []) (gs:=[("tree",.ref t),("clock",.int 0),("entries",.ref en)]) ac ad;erw[jx rfl (bV p6 r.cl r.entries (by show 2<1000;decide) ?_)]
 change jf _ _ _ _ (upd (upd H1 en (.lst [])) x (.ins ei.cH m [("tree",.ref t),("clock",.int 0),("entries",.ref en)]))
 generalize upd (upd H1 en (.lst [])) x (.ins ei.cH m [("tree",.ref t),("clock",.int 0),("entries",.ref en)])=H2 at p1 p2 p3 p4;erw[⟨l8 ∅,λqu N=>?_⟩];obtain⟨r1,r2,r3,r4,r5,r6⟩:=ym (o:= .lst []) (gs:=[("tree",.ref t),("clock",.int 0),("entries",.ref en),("ends",.ref qu)]) p1 N;erw[jx rfl (bV r6 r.cl r.ends (by show 3<1000;decide) ?_)]
 change jf _ _ _ _ (upd (upd H2 qu (.lst [])) x (.ins ei.cH m [("tree",.ref t),("clock",.int 0),("entries",.ref en),("ends",.ref qu)]))
 generalize upd (upd H2 qu (.lst [])) x (.ins ei.cH m [("tree",.ref t),("clock",.int 0),("entries",.ref en),("ends",.ref qu)])=H3 at r1 r2 r3 r4;have s3:∀b u,G b=some u->H3 b=some u/\b≠x:=λb u e=>⟨r3 b u (W b u e).2 (p3 b u (W b u e).2 (s1 b u e)),(W b u e).2⟩;have X:G en=none:=f1 en p5 ad;have R:G qu=none:=f1 qu r5 (p4 qu r5 N).1;have eq:en≠qu:=Ne.symm (p4 qu r5 N).2;have an:H3 en=some (.lst []):=r3 en _ p5 p2;have T3:=L.same λb u e=>(s3 b u e).1;lk;erw[pf t U c b a d B (rz rfl T3 ok.n64 ok.cF ok.up (λI A O M=>?_))];have xs:∀e,H3 e=none->e≠x/\e≠en/\e≠qu:=λe z=>⟨λy=>(by rw[y,r1] at z;cases z),λy=>(by rw[y,an] at z;cases z),λy=>(by rw[y,r2] at z;cases z)⟩;have x4:=M.same _ _ r1;lk;erw[bV x4 r.cl r.tm (by show 4<1000;decide) ?_];have J:=M.rebase (o:= .ins ei.cH m (fsH ⟨x,m,en,qu,I,t,A.nd,A.dn,A.mi,λi=>B.getD i 0⟩ S0)) s3 (λz=>by rw[r1] at z;cases z);have ap:upd O x (.ins ei.cH m (ku "standings" (V.ref I) [("tree",V.ref t),("clock",V.int 0),("entries",V.ref en),("ends",V.ref qu)]))=upd O x (.ins ei.cH m (fsH ⟨x,m,en,qu,I,t,A.nd,A.dn,A.mi,λi=>B.getD i 0⟩ S0)):=rfl;rw[ap];have x5:(upd O x (.ins ei.cH m (fsH ⟨x,m,en,qu,I,t,A.nd,A.dn,A.mi,λi=>B.getD i 0⟩ S0))) x=some (.ins ei.cH m (fsH ⟨x,m,en,qu,I,t,A.nd,A.dn,A.mi,λi=>B.getD i 0⟩ S0)):=ae;have Y:(upd O x (.ins ei.cH m (fsH ⟨x,m,en,qu,I,t,A.nd,A.dn,A.mi,λi=>B.getD i 0⟩ S0))) en=some (.lst []):=by rw[ai p5];exact M.same _ _ an
 have am:(upd O x (.ins ei.cH m (fsH ⟨x,m,en,qu,I,t,A.nd,A.dn,A.mi,λi=>B.getD i 0⟩ S0))) qu=some (.lst []):=by rw[ai r5];exact M.same _ _ r2
 generalize upd O x (.ins ei.cH m (fsH ⟨x,m,en,qu,I,t,A.nd,A.dn,A.mi,λi=>B.getD i 0⟩ S0))=H5 at J x5 Y am;have rp:=J.rp ok L x5 Y am eq (λl hl=>xs _ (M.new l hl)) (xs _ M.s0) (λe he=>?_)
 .have sa5:=rp.sa;lk;erw[dJ x5 ⟨rfl,rfl,rfl⟩ rfl ?_];lk;erw[aZ x5 r.cl r.tm rfl ?_];lk;erw[hY I _ _ (V.ref (A.nd 0)) (fT rfl rfl (fk.of sa5) (bX (j:=0) (by rw[jl,afz ok.n0];rfl)) ?_)];refine kb U _ _ _ S0 0 (an9 rfl rp rfl ok Wf.zero ok.n0 (gq (ok.deep 0 ok.n0)) Z (λD' H' g=>?_))
  have al:∀b,H5 b=none->G b=none:=λb e=>by
   cases z:G b with
   |none=>rfl
   |some u=>rw[J.same _ _ z] at e;cases e
  have l0:∀l,vl U l->G (l.at ⟨x,m,en,qu,I,t,A.nd,A.dn,A.mi,λi=>B.getD i 0⟩ ⟨A.fa,A.wa,[],[]⟩)=none:=λl v=>by
   cases l with
   |hs=>exact h0
   |en=>exact X
   |qu=>exact R
   |nd i=>exact J.new (.nd i) v
   |fa i=>exact J.new (.fa i) v
   |wa i=>exact J.new (.wa i) v
  erw[k _ D' H' rfl ⟨λb u e=>g.kp b u (λl v z=>?_) (J.same _ _ e),g.rp,λl v=>?_,J.s0,λi hi=>J.new (.mi i) hi,λi hi=>?_,λq hq=>?_⟩]
  .rw[z,l0 l v] at e;cases e
  .rcases g.fr l v with z|z
   .rw[z];exact l0 l v
   .exact al _ z
  .refine .inr (.inr (.inr (.inr (.inr ?_))));have:i<B.length:=by rwa[L.ln]
   show B.getD i 0∈B;rw[ry,gy this];exact M5 this
  .rcases g.fb q hq with z|z
   .cases z
   .exact al _ z
 .have hne:G e≠none:=by
   rcases he with rfl|rfl|rfl|rfl|rfl|he
   .obtain ⟨dt,h⟩:=L.ob;rw[h];exact λz=>by cases z
   .rw[L.ch];exact λz=>by cases z
   .rw[L.bl];exact λz=>by cases z
   .rw[L.ab];exact λz=>by cases z
   .rw[L.pl];exact λz=>by cases z
   .obtain ⟨i,hi,e2⟩:=agI.mp he;obtain⟨_,_,dz,h⟩:=L.rp i e (by rw[gy hi,e2]);rw[h];exact λz=>by cases z
  exact⟨λz=>hne (by rwa[z]),λz=>hne (by rwa[z]),λz=>hne (by rwa[z])⟩
def OH(b:Addr)(p:Pl)(ei:HC):Sp:=λvs H Q _=>∃(c:Addr) (T:List Row) (a:FS),vs=[.ref c]/\m8 b p H c T a/\mn T/\(new T).book.length<sizeLine/\∀(L:Lo) (D:Dy) (H':Hp),acq b p ei T H L a D H'->Q (.ref L.x) H'
def U6{a:Addr}{n:Nat}(t:Mak P w K mg dH true n "House" ei.cH (Rw a p ei) [])(F:aI K "built" "built" Mq dV f fd):aC P w K mg dH (fw P w) true (n+2) f fd R4 (OH a p ei):=by
 erw[F.br VI λvs H Q E b=>?_];obtain⟨g,U,i,rfl,h,ok,q,k⟩:=b;erw[⟨rfl,λr A dN s l=>⟨_,(af (av (uA t (l.mono (by omega)) (by rfl) cq (aj (pv 0) ag)))),?_⟩⟩]
 fin2
 lk;intro x o j c u;erw[kb x o g H U i (an9 rfl j c u rfl h ok q (λL D H' e m=>⟨rfl,?_⟩))];rw[<- e];exact k L D H' m
def ZC{l:Addr}:jE (m8 l p):=by
 rintro H H' t T r k ⟨c,b,a,d,q,g,rfl⟩;erw[⟨c,b,a,d,q,⟨g.ob.imp λs h=>k _ _ (.inl rfl) h,k _ _ (.inr (.inl rfl)) g.ch,g.ln,λi x e=>?_,k _ _ (.inr (.inr (.inl rfl))) g.bl,k _ _ (.inr (.inr (.inr (.inl rfl)))) g.ab,k _ _ (.inr (.inr (.inr (.inr (.inl rfl))))) g.pl,g.n1,g.n2,g.n3⟩,rfl⟩];obtain⟨m,n,o,j⟩:=g.rp i x e;exact⟨m,n,o,k _ _ (.inr (.inr (.inr (.inr (.inr (afJ e)))))) j⟩
theorem Oc{cm:Bool}{k:Nat}{ps:List Str}{sp:Sp}(h:∀vs H Q E,¬sp vs H Q E):aC P w K mg dH (fw P w) cm k f fd ps sp:=⟨λvs H Q E z=>(h vs H Q E z).elim,λ_ _ _ H _ _ vs Q E _ _ _ _ z=>(h vs H Q E z).elim⟩
theorem Sj{j k:Nat}{m:Str}{sp:Addr->Sp}{a:Addr->Prop}(h:aT P w K mg dH j m sp a)(g:j<=k):aT P w K mg dH k m sp a:=λC c=>by
 obtain⟨f,fd,ps,ds,n,i,l,e,b⟩:=h C c;exact⟨f,fd,ps,ds,n,i,l.mono g,e,b⟩
def acv{cm:Bool}{j k:Nat}{x:Str}{sp:Sp}{a:List V}(c:jm P w K mg dH cm j x sp a)(g:j<=k):jm P w K mg dH cm k x sp a:=by
 obtain⟨f,fd,ps,ds,l,h,i,e,b⟩:=c;exact⟨f,fd,ps,ds,l.mono g,h,i,e,b⟩
end
open PySem L2 Shp Nm Tr Hs Hm Hr PySem.NumText
section
variable{P:Program}{w:World}{K:PySem.W.Frag}{mg:Str->Option Value}{dH:Heap}{f:Addr}{fd:FuncData}{dV:Value}{ei:HC}{p:Pl}{R:Rep}{TR:Hr.nS}
def foot(T:List Row)(L:Lo)(a:FS)(D:Dy):FS:=λb=>(∃l,vl T l/\b=l.at L D)\/b=L.sa\/(∃i,i<T.length/\(b=L.mi i\/b=L.ch i))\/a b\/b∈D.bk
def HoR{a:Type}(R:Rep)(TR:Hr.nS)(ei:HC)(Pd:a->List Row->HS->Prop):HR a:=λH x s F=>∃(T:List Row) (L:Lo) (b:FS) (D:Dy) (S:HS),L.x=x/\Rp R TR ei T L b D S H/\mn T/\Wf T S/\S.ends=[]/\(T.map (·.sh.name)).Nodup/\Pd s T S/\F=foot T L b D
section
variable{σ:Type}{Pd:σ->List Row->HS->Prop}{H H':Hp}{T:List Row}{L:Lo}{FT:FS}{D D':Dy}{S S':HS}
def W3(h:Rp R TR ei T L FT D S H){b:Addr}(a:foot T L FT D b):H b≠none:=by
 rcases a with⟨l,v,rfl⟩|rfl|⟨i,g,rfl|rfl⟩|a|a
 .rw[h.cells l v];exact λz=>by cases z
 .rw[h.sa];exact λz=>by cases z
 .rw[h.mi i g];exact λz=>by cases z
 .obtain ⟨o,e,_⟩:=h.ch i g;rw[e];exact λz=>by cases z
 .exact h.own b a
 .obtain ⟨k,hk,e⟩:=agI.mp a;have c:k<S.book.length:=by rwa[<- h.bkl]
  rw[h.bk k b S.book[k] (by rw[gy hk,e]) (gy c)];exact λz=>by cases z
def Uz(n:jE TR)(h:Rp R TR ei T L FT D S H)(q:S.ends=[])(k:∀b o,foot T L FT D b->H b=some o->H' b=some o):Rp R TR ei T L FT D S H':=by
 erw[⟨λl v=>k _ _ (.inl ⟨l,v,rfl⟩) (h.cells l v),h.inj,k _ _ (.inr (.inl rfl)) h.sa,λi c=>k _ _ (.inr (.inr (.inl ⟨i,c,.inl rfl⟩))) (h.mi i c),λi c=>?_,n H H' _ _ _ (λb o m e=>k b o (.inr (.inr (.inr (.inl m)))) e) h.tr,λb m=>?_,h.bkl,λj a e e1 e2=>k _ _ (.inr (.inr (.inr (.inr (afJ e1))))) (h.bk j a e e1 e2),h.qsl,λj a e e1 e2=>?_,h.far⟩]
 .obtain ⟨o,e,g⟩:=h.ch i c;exact⟨o,k _ _ (.inr (.inr (.inl ⟨i,c,.inr rfl⟩))) e,g⟩
 .cases e:H b with
  |none=>exact absurd e (h.own b m)
  |some o=>rw[k b o (.inr (.inr (.inr (.inl m)))) e];exact λz=>by cases z
 .rw[q] at e2;cases e2
def UC(g:Goes R TR ei T L FT D H D' S' H'){b:Addr}(a:foot T L FT D' b):foot T L FT D b\/H b=none:=by
 rcases a with⟨l,v,rfl⟩|rfl|a|a|a
 .rcases g.fr l v with z|z
  .exact .inl (.inl ⟨l,v,z⟩)
  .exact .inr z
 .exact .inl (.inr (.inl rfl))
 .exact .inl (.inr (.inr (.inl a)))
 .exact .inl (.inr (.inr (.inr (.inl a))))
 .rcases g.fb b a with z|z
  .exact .inl (.inr (.inr (.inr (.inr z))))
  .exact .inr z
def aby(a:jE TR):pS (HoR R TR ei Pd) λC=>C=ei.cH:=by
 erw[⟨?_,?_,?_⟩]
 .rintro H x s F b ⟨T,L,FT,D,S,rfl,h,ok,wf,he,nd,pd,rfl⟩ hb;exact W3 h hb
 .rintro H H' x s F k ⟨T,L,FT,D,S,rfl,h,ok,wf,he,nd,pd,rfl⟩;exact⟨T,L,FT,D,S,rfl,Uz a h he k,ok,wf,he,nd,pd,rfl⟩
 .rintro H x s F ⟨T,L,FT,D,S,rfl,h,ok,wf,he,nd,pd,rfl⟩;exact⟨_,_,_,h.cells .hs trivial,rfl,rfl,rfl,rfl,rfl,rfl,rfl⟩
theorem rF{s c:σ}(h:Rp R TR ei T L FT D S H)(ok:mn T)(nd:(T.map (·.sh.name)).Nodup)(g:Goes R TR ei T L FT D H D' S' H')(j:Wf T S')(m:S'.ends=[])(i:Pd c T S'):Moved (HoR R TR ei Pd) H (foot T L FT D) L.x c H' (foot T L FT D'):=
 ⟨λb o a e=>g.kp b o (λl v z=>a (.inl ⟨l,v,z⟩)) e,λb a=>UC g a,⟨T,L,FT,D',S',rfl,g.rp,ok,j,m,nd,i,rfl⟩⟩
def MV(h:Rp R TR ei T L FT D S H){C a:Addr}{fs:List (Str×V)}(e:H L.x=some (.ins C a fs)):ei.cH=C:=by
 have:=h.cells .hs trivial;rw[show (Lb.hs).at L D=L.x from rfl,e] at this;exact(HO.ins.inj (iH this)).1.symm
def Yr(m:aT P w K mg dH 1 "rows" (LZ K R TR ei) λC=>C=ei.cH){kk:Nat}(u:1<=kk)(book:σ->List Ent)(r:∀s T S,Pd s T S->S.book=book s):aT P w K mg dH kk "rows" (WM K (HoR R TR ei Pd) book) λC=>C=ei.cH:=by
 intro C o;obtain⟨f,fd,ps,ds,j,a,g,i,c⟩:=m C o;erw[⟨f,fd,ps,ds,j,a,(g.mono u).imp ?_,i,c⟩];rintro vs H Q E ⟨x,s,F,z,fs,rfl,⟨T,L,FT,D,S,rfl,h,ok,v,y,nd,t,rfl⟩,l,k⟩;erw[pq T L FT D S (mq rfl h (MV h l) (λq H' b e n=>k q H' b e ?_))];rwa[<- r s T S t]
def ZI{c:Addr}{s:σ}{e:Hp}(n:acq c p ei T e L FT D H)(ok:mn T)(nd:(T.map (·.sh.name)).Nodup)(h:Pd s T (new T)):HoR p.rep (m8 c p) ei Pd H L.x s (foot T L FT D)/\∀b,foot T L FT D b->FT b\/e b=none:=by
 erw[⟨⟨T,L,FT,D,new T,rfl,n.rp,ok,Wf.new ok,HK 10 0 _,nd,h,rfl⟩,?_⟩];rintro b (⟨l,v,rfl⟩|rfl|⟨i,g,rfl|rfl⟩|a|a)
 .exact .inr (n.lb l v)
 .exact .inr n.sa
 .exact .inr (n.mi i g)
 .exact .inl (n.ch i g)
 .exact .inl a
 .exact .inr (n.bk b a)
end
abbrev SG:=List Row×HS×Nat
def PdG(s:SG)(T:List Row)(S:HS):Prop:=s.1=T/\s.2.1=S/\gx T/\Jv T S/\gT T S+S.book.length<=3*T.length+s.2.2*(T.length*cost T)
def ZP(R:HR SG)(C:Addr):Sp:=λvs H Q _=>∃(x:Addr) (T:List Row) (S:HS) (c:Nat) (F:FS) (b:Addr) (fs:List (Str×V)),vs=[.ref x]/\R H x (T,S,c) F/\H x=some (.ins C b fs)/\(c+1)*T.length<=2200/\∀S' H' a,(∃f,AY T f S=some S')->Moved R H F x (T,S',c+1) H' a->Q .non H'
def YL(R:HR SG)(b:Addr)(C:Addr):Sp:=λvs H Q E=>∃(x:Addr) (T:List Row) (S:HS) (c:Nat) (F:FS) (e:Addr) (fs:List (Str×V)),vs=[.ref x]/\R H x (T,S,c) F/\H x=some (.ins C e fs)/\(c+1)*T.length<=2200∧
 (cg S 0=false->∀S' H' a,(∃f,DU T f S=some S')->Moved R H F x (T,S',c+1) H' a->Q .non H')/\(cg S 0=true->∀H' a,Moved R H F x (T,S,c) H' a->E (.ref b) none H')
def YT(R:HR SG)(g b:Addr)(C:Addr):Sp:=λvs H Q E=>∃(x:Addr) (T:List Row) (S:HS) (c:Nat) (F:FS) (e:Addr) (fs:List (Str×V)) (i:Nat),vs=[.ref x,.str (sh T i).name]/\R H x (T,S,c) F/\H x=some (.ins C e fs)/\(c+1)*T.length<=2200/\i<T.length∧
 (fm T i=false->∀H' a,Moved R H F x (T,S,c) H' a->E (.ref g) none H')/\(fm T i=true->cg S i=true->∀H' a,Moved R H F x (T,S,c) H' a->E (.ref b) none H')∧
 (fm T i=true->cg S i=false->∀S' H' a,(∃f,FA T f i S=some S')->Moved R H F x (T,S',c+1) H' a->Q .non H')
structure VM(P:Program)(w:World)(K:PySem.W.Frag)(mg:Str->Option Value)(dH:Heap)(kk:Nat)(R:HR SG)(Cl:Addr->Prop)(cL cN:Addr):Prop where
 I:pS R Cl
 rows:aT P w K mg dH kk "rows" (WM K R λs=>s.2.1.book) Cl
 turn:aT P w K mg dH kk "turn" (ZP R) Cl
 stop:aT P w K mg dH kk "stop" (YL R cN) Cl
 lB:aT P w K mg dH kk "trip" (YT R cL cN) Cl
def budget{T:List Row}{c b:Nat}(h:(c+1)*T.length<=2200)(a:T.length<=64)(e:b<=3*T.length+(c+1)*(T.length*cost T)):b<sizeLine:=by
 have e1:(c+1)*(T.length*cost T)=((c+1)*T.length)*cost T:=(Nat.mul_assoc _ _ _).symm;have e2:cost T<=1764:=by unfold cost wB;lia
 have e3:((c+1)*T.length)*cost T<=2200*1764:=Nat.mul_le_mul h e2;rw[af7]
 lia
def Zd{T:List Row}(h:gx T){i:Nat}(a:i<T.length):(sh T i).name.length<=12:=by
 unfold sh;rw[ry,gy a];exact(h.sh _ (M5 a)).nm.2.1
def ad0{kk n:Nat}{cL W:Addr}(t:jE TR)(hk:4<=kk)(Y:n<=kk)(m1:aT P w K mg dH 1 "rows" (LZ K R TR ei) λC=>C=ei.cH)
  (m4:aT P w K mg dH n "turn" (RJ R TR ei) λC=>C=ei.cH) (m5:aT P w K mg dH n "stop" (Si R TR ei W) λC=>C=ei.cH) (m6:aT P w K mg dH n "trip" (R7 R TR ei cL W) λC=>C=ei.cH):VM P w K mg dH kk (HoR R TR ei PdG) (λC=>C=ei.cH) cL W:=by
 refine⟨aby t,Yr m1 () _ (λs T S h=>by rw[h.2.1]),
  ?_,?_,?_⟩
 .intro C hC;obtain⟨f,fd,ps,ds,A,v,O,u,G⟩:=m4 C hC;erw[⟨f,fd,ps,ds,A,v,(O.mono Y).imp ?_,u,G⟩];rintro vs H Q E ⟨x,a,S0,c,F,dx,fs,rfl,⟨T,L,r,D,S,rfl,h,ok,l,q,nd,⟨e1,e2,b,j,m⟩,rfl⟩,y,J,k⟩;have e1:a=T:=e1;have e2:S0=S:=e2;subst e1 e2;obtain⟨o,S',t1,N,M,I,Z⟩:=aak b l j q;have m:gT a S0+S0.book.length<=3*a.length+c*(a.length*cost a):=m;have e:gT a S'+S'.book.length<=3*a.length+(c+1)*(a.length*cost a):=by rw[agx,agK];lia
  exact⟨a,L,r,D,S0,S',o,rfl,h,MV h y,ok,l,t1,budget J b.len (),λD' H' g=>k S' H' _ ⟨o,t1⟩ (rF (s:=(a,S0,c)) h ok nd g N I ⟨rfl,rfl,b,M,e⟩)⟩
 .intro C hC;obtain⟨f,fd,ps,ds,A,v,O,u,G⟩:=m5 C hC;erw[⟨f,fd,ps,ds,A,v,(O.mono Y).imp ?_,u,G⟩];rintro vs H Q E ⟨x,a,S0,c,F,dx,fs,rfl,⟨T,L,r,D,S,rfl,h,ok,l,q,nd,⟨e1,e2,b,j,m⟩,rfl⟩,y,J,k1,k2⟩;have e1:a=T:=e1;have e2:S0=S:=e2;subst e1 e2;have m:gT a S0+S0.book.length<=3*a.length+c*(a.length*cost a):=m;erw[pq a L r D S0 (an8 rfl h (MV h y) ok l q (λz=>k2 z H _ (rF (s:=(a,S0,c)) h ok nd (Goes.refl h) l q ⟨rfl,rfl,b,j,m⟩)) (λz=>?_))];obtain⟨o,S',t1,N,M,I,Z⟩:=SD b l j q z;have e:gT a S'+S'.book.length<=3*a.length+(c+1)*(a.length*cost a):=by rw[agx,agK];lia
  exact⟨o,S',t1,budget J b.len (),λD' H' g=>k1 z S' H' _ ⟨o,t1⟩ (rF (s:=(a,S0,c)) h ok nd g N I ⟨rfl,rfl,b,M,e⟩)⟩
 .intro C hC;obtain⟨f,fd,ps,ds,A,v,O,u,G⟩:=m6 C hC;erw[⟨f,fd,ps,ds,A,v,(O.mono Y).imp ?_,u,G⟩];rintro vs H Q E ⟨x,a,S0,c,F,dx,fs,i,rfl,⟨T,L,r,D,S,rfl,h,ok,l,q,nd,⟨e1,e2,b,j,m⟩,rfl⟩,y,J,X,k1,k2,k3⟩;have e1:a=T:=e1;have e2:S0=S:=e2;subst e1 e2;have m:gT a S0+S0.book.length<=3*a.length+c*(a.length*cost a):=m;have mv:∀H',aO H H'->Moved (HoR R TR ei PdG) H (foot a L r D) L.x (a,S0,c) H' (foot a L r D):=λH' B=>rF (s:=(a,S0,c)) h ok nd (Goes.same t h B) l q ⟨rfl,rfl,b,j,m⟩;erw[kb a L r D S0 i (TX rfl h (MV h y) ok l X ⟨nd,Zd b X⟩ (λz H' B=>k1 z H' _ (mv H' B)) (λz U H' B=>k2 z U H' _ (mv H' B)) (λz U=>?_))];obtain⟨o,S',t1,N,M,I,Z⟩:=R5 b l j q X z U;have cl:cost a<=a.length*cost a:=Nat.le_mul_of_pos_left _ ok.n0;have e:gT a S'+S'.book.length<=3*a.length+(c+1)*(a.length*cost a):=by rw[agx,agK];lia
  exact⟨o,S',t1,budget J b.len (),λD' H' g=>k3 z U S' H' _ ⟨o,t1⟩ (rF (s:=(a,S0,c)) h ok nd g N I ⟨rfl,rfl,b,M,e⟩)⟩
def Nu(TR:Hr.nS)(R:HR SG):Sp:=λvs H Q _=>∃(t:Addr) (T:List Row) (a:FS),vs=[.ref t]/\TR H t T a/\gx T/\∀(x:Addr) (H':Hp) (F:FS),aO H H'->(∀b,F b->a b\/H b=none)->R H' x (T,new T,0) F->Q (.ref x) H'
def abl{b:Addr}{n kk:Nat}(m:n<=kk)(c:jm P w K mg dH true n "built" (OH b p ei) []):jm P w K mg dH true kk "built" (Nu (m8 b p) (HoR p.rep (m8 b p) ei PdG)) []:=by
 obtain⟨f,fd,ps,ds,y,o,v,h,g⟩:=c;erw[⟨f,fd,ps,ds,(y.mono m).imp ?_,o,v,h,g⟩];rintro vs H Q E ⟨t,T,r,rfl,l,a,k⟩;have ok:=gx.tok a;obtain⟨j,e⟩:=Xu a;have q:=a.len;erw[pw t T r (fT rfl l ok (by rw[af7];lia) (λL D H' n=>?_))];obtain⟨u,i⟩:=ZI (Pd:=PdG) (s:=(T,new T,0)) n ok a.nd ⟨rfl,rfl,a,j,by rwa[ahh]⟩;exact k L.x H' _ n.same i u
end
open PySem L2 Shp Nm Tr Hs Hm Hr PySem.NumText
section
variable{P:Program}{w:World}{K:PySem.W.Frag}{mg:Str->Option Value}{dH:Heap}{f:Addr}{fd:FuncData}{dV:Value}
structure ExF(K:PySem.W.Frag)(cE cL cN:Addr):Prop where
 xL:XIn K cL
 xN:XIn K cN
 iL:IsC K cL
 iN:IsC K cN
 LL:PySem.W.kitOne K (.ref cL) (.ref cL)=some true
 LN:PySem.W.kitOne K (.ref cL) (.ref cN)=some false
 NL:PySem.W.kitOne K (.ref cN) (.ref cL)=some false
 NN:PySem.W.kitOne K (.ref cN) (.ref cN)=some true
 EL:PySem.W.mroIn K cL (.ref cE)=some true
 EN:PySem.W.mroIn K cN (.ref cE)=some true
 NM:PySem.W.mroIn K cN (.ref cN)=some true
def Rh(R:HR SG):Sp:=λvs H Q _=>∃(x:Addr) (T:List Row) (S:HS) (c:Nat) (F:FS) (i:Nat),vs=[.ref x,.str (sh T i).name]/\R H x (T,S,c) F/\(c+1)*T.length<=2200/\i<T.length∧
 (fm T i=false->∀H' a,Moved R H F x (T,S,c) H' a->Q (.str "leaf") H')/\(fm T i=true->cg S i=true->∀H' a,Moved R H F x (T,S,c) H' a->Q (.str "off") H')∧
 (fm T i=true->cg S i=false->∀S' H' a,(∃f,FA T f i S=some S')->Moved R H F x (T,S',c+1) H' a->Q (.str "") H')
theorem Moved.same{R:HR SG}{h:Addr->Prop}(I:pS R h){H H' c:Hp}{F a:FS}{x:Addr}{s:SG}(m:Moved R H F x s H' a)(e:aO H' c):Moved R H F x s c a:=⟨λb o g z=>e _ _ (m.1 b o g z),m.2.1,I.same e m.2.2⟩
def WX{kk:Nat}{R:HR SG}{L:Addr->Prop}{y m g:Addr}(F:aI K "_law_tried" "_law_tried" KL dV f fd)(T:Txt mg)(G:VM P w K mg dH kk R L m g)(X:ExF K y m g)(Z:mg "MinderError"=some (.ref y))(C:DK K y)(a:mg "NoLeaf"=some (.ref m))(b:mg "NotOn"=some (.ref g)):
  aC P w K mg dH (fw P w) true (kk+1) f fd Su (Rh R):=by
 erw[F.okN FX (λvs H Q E h=>?_) (λW A dN s0 H vs Q E N h=>?_)]
 .obtain ⟨x,U,S,c,F,i,rfl,_⟩:=h
  rfl
 .obtain ⟨x,U,S,c,F,i,rfl,hR,hc,hi,k1,k2,k3⟩:=h;have l:=G.lB.d;obtain⟨O,q,p,n,s,n1,n2,n3,n4,n5,Y⟩:=G.I.inst hR
  refine⟨_,(aa (QY ⟨rfl,rfl,rfl⟩ (λD ab E' M hP=>(af (bq (i:=2) FX.nd (xn (pv 0) l (N.mono (by omega)) (passes M) (aj (pv 1) ag)))))
    ay
    (acW (i:=3) ⟨rfl,rfl,rfl⟩ FX.nd rfl rfl (by rfl) Z C (λe=>(aa (aL (PW.pt (iD (bM (aQ (ya (K0:=K) rfl) (by rfl) T.jR iq (aj (pv 3) (aj (yh (by rfl) a) ag)))) (iy (fD (bM (aQ (ya (K0:=K) rfl) (by rfl) T.jR iq (aj (pv 3) (aj (yh (by rfl) b) ag)))))))) (af (av ar)) ay)
   (aa (aL (PW.pt (iD (bM (aQ (ya (K0:=K) rfl) (by rfl) T.jR iq (aj (pv 3) (aj (yh (by rfl) b) ag)))) (iy (fD (bM (aQ (ya (K0:=K) rfl) (by rfl) T.jR iq (aj (pv 3) (aj (yh (by rfl) a) ag)))))))) (af (av ar)) ay)
   (af (av ar)))))
    MS))
   (aa (aL (iw CY (pv 2) ff) (af (av ar)) ay)
   (af (av ar)))),?_⟩
  fin2
  lk;erw[kb x O q p _ _ (fT rfl n ⟨s,rfl,rfl⟩ Y ?_)];lk;erw[ex8 x U S c F q p i (an8 rfl hR n hc hi (λz r B j=>?_) (λz v r B j=>?_) (λz v S' r B J j=>?_))]
  .refine iE m true (mE rfl X.EL (λe t=>?_));have u:=au (o:=XOb e m none) t;have xe:(upd r e (XOb e m none)) e=some (XOb e m none):=ae;have j:=Moved.same G.I j u;lk;erw[pq e m _ _ true (l7 rfl xe X.xL X.iL rfl X.LL ?_)];lk;erw[pq e m _ _ false (l7 rfl xe X.xL X.iL rfl X.LN ?_)];lk;exact k1 z _ _ j
  .refine iE g true (mE rfl X.EN (λe t=>?_));have u:=au (o:=XOb e g none) t;have xe:(upd r e (XOb e g none)) e=some (XOb e g none):=ae;have j:=Moved.same G.I j u;lk;erw[pq e g _ _ false (l7 rfl xe X.xN X.iN rfl X.NL ?_)];lk;erw[pq e g _ _ true (l7 rfl xe X.xN X.iN rfl X.NN ?_)];lk;erw[pq e g _ _ false (l7 rfl xe X.xN X.iN rfl X.NL ?_)];lk;exact k2 z v _ _ j
  .lk;exact k3 z v S' _ _ J j
def Kj(R:HR SG):Sp:=λvs H Q _=>∃(x:Addr) (T:List Row) (S:HS) (c:Nat) (F:FS),vs=[.ref x]/\R H x (T,S,c) F/\(c+1)*T.length<=2200∧
 (cg S 0=true->∀H' a,Moved R H F x (T,S,c) H' a->Q (.str "off") H')/\(cg S 0=false->∀S' H' a,(∃f,DU T f S=some S')->Moved R H F x (T,S',c+1) H' a->Q (.str "") H')
def PM{kk:Nat}{R:HR SG}{u:Addr->Prop}{W p g:Addr}(F:aI K "_law_stopped" "_law_stopped" CL dV f fd)(T:Txt mg)(G:VM P w K mg dH kk R u p g)(X:ExF K W p g)(q:mg "NotOn"=some (.ref g))(O:DK K g):
  aC P w K mg dH (fw P w) true (kk+1) f fd Kf (Kj R):=by
 erw[F.okN FK (λvs H Q E h=>?_) (λJ A dN s0 H vs Q E B h=>?_)]
 .obtain ⟨x,U,S,c,F,rfl,_⟩:=h
  rfl
 .obtain ⟨x,U,S,c,F,rfl,hR,hc,k1,k2⟩:=h;have a:=G.stop.d;obtain⟨L,l,j,b,n,n1,Y,n3,Z,s,n6⟩:=G.I.inst hR
  refine⟨_,(aa (QY ⟨rfl,rfl,rfl⟩ (λD N E' v hP=>(af (bq (i:=1) FK.nd (iX (pv 0) a (B.mono (by omega)) (passes v)))))
    ay
    (Wz ⟨rfl,rfl,rfl⟩ (by rfl) q O (λe=>(af (av ar)))
    MS))
   (aa (aL (iw CY (pv 1) ff) (af (av ar)) ay)
   (af (av ar)))),?_⟩
  fin2
  lk;erw[kb x L l j _ _ (fT rfl b ⟨n,rfl,rfl⟩ s ?_)];lk;erw[pf x U S c F l j (rz rfl hR b hc (λz S' r C t m=>?_) (λz r C m=>?_))]
  .lk;exact k2 z S' _ _ t m
  .refine iE g true (mE rfl X.NM (λe y=>?_));have M:=au (o:=XOb e g none) y;have m:=Moved.same G.I m M;lk;exact k1 z _ _ m
def VU(K:PySem.W.Frag)(R:HR SG):Sp:=λvs H Q _=>∃(x b:Addr) (T:List Row) (S:HS) (c:Nat) (F:FS) (cell:Int),vs=[.ref x,.ref b,.int cell]/\R H x (T,S,c) F/\fk K H b (T.map λr=>V.str r.sh.name)/\0<T.length/\(c+2)*T.length<=2200∧
 ∀S' wd a H' e,aaI T (yO T.length cell) S S' wd->a<=c+2->Moved R H F x (T,S',a) H' e->Q (.str wd) H'
def Moved.trans{R:HR SG}{p:Addr->Prop}(I:pS R p){H g i:Hp}{F l j:FS}{x:Addr}{q s n:SG}(h:R H x q F)(m:Moved R H F x s g l)(c:Moved R g l x n i j):Moved R H F x n i j:=by
 erw[⟨λb o a e=>c.1 b o (λz=>?_) (m.1 b o a e),λb a=>?_,c.2.2⟩]
 .rcases m.2.1 b z with y|y
  .exact a y
  .rw[e] at y;cases y
 .rcases c.2.1 b a with y|y
  .exact m.2.1 b y
  .by_cases z:F b
   .exact .inl z
   .right
    cases w:H b with
    |none=>rfl
    |some o=>rw[m.1 b o z w] at y;cases y
def Y3{kk:Nat}{R:HR SG}{Cl:Addr->Prop}{cL cN:Addr}(F:aI K "_law_deed" "_law_deed" QT dV f fd)(T:Txt mg)(G:VM P w K mg dH kk R Cl cL cN)(MY:jm P w K mg dH true (kk+1) "_law_tried" (Rh R) [])(Dx:jm P w K mg dH true (kk+1) "_law_stopped" (Kj R) []):
  aC P w K mg dH (fw P w) true (kk+2) f fd X9 (VU K R):=by
 erw[F.okN Q7 (λvs H Q E h=>?_) (λac A dN s0 H vs Q E hr h=>?_)]
 .obtain ⟨x,np,U,S,c,F,cell,rfl,_⟩:=h
  rfl
 .obtain ⟨x,np,U,S,c,F,cell,rfl,hR,hN,n0,hc,k⟩:=h;have B:=G.turn.d;have W:(c+1)*U.length<=2200:=mf (ahi _ ()) hc
  refine⟨_,(aa (aL (iw kE (aA bj (pv 2) ah) (lL (aj ah (aj ah ag)))) (af (av (cb MY (aj (pv 0) (aj (hD aD (pv 1) (aA bj (aA cj (pv 2) ah) (aQ aP (by rfl) T.fN cJ (aj (pv 1) ag)))) ag))))) ay)
   (aa (aL (PW.pt (iD (iw bQ (aA bj (pv 2) ah) ah) (iy (iw bQ (aA bj (aA cj (pv 2) ah) ah) ah)))) (af (av (cb Dx (aj (pv 0) ag)))) ay)
   (aa (oH afv rfl (kx (by rfl) T.ng (aj (aA di ah (aA bj (aA cj (pv 2) ah) ah)) ag)) (c9 (i:=3) Q7.nd rfl (by first|exact Or.inl rfl|exact Or.inr rfl)) (af (aL (iw R6 (jd (pv 0) B) ff) (af (av ar)) ay)))
   (af (av ar))))),?_⟩
  fin2
  lk;erw[⟨l8 (by show 2<=100;decide),λq hq=>?_⟩];have Z:=au (o:= .tup [.int 9,.int 10]) hq;have Y:(upd H q (.tup [.int 9,.int 10])) q=some (.tup [.int 9,.int 10]):=ae;lk;erw[iE q _ (fT rfl (.inr (l5.of Y)) rfl rfl ?_)];generalize upd H q (.tup [.int 9,.int 10])=H1 at Z Y;have L:=G.I.same Z hR;have l:Moved R H F x (U,S,c) H1 F:=⟨λb o _ e=>Z _ _ e,λb hb=>.inl hb,L⟩;have O:=fk.same hN Z;lk;erw[bp (λe=>?_) (λe=>?_)]
  .have e:(decide ((9:Int)=cell%12)||(decide ((10:Int)=cell%12)||false))=true:=e
   have e:cell%12=9\/cell%12=10:=by
    rw[agg,afQ,qj,qj] at e
    lia
   have dk:yO U.length cell=.lB (cell/12%(U.length:Int)).toNat:=eE e;rw[dk] at k;have p0:(0:Int)<(U.length:Int):=by lia
   have m0:=ahI (cell/12) (show(U.length:Int)≠0 by lia);have m1:=agS (cell/12) p0;obtain⟨i,hi⟩:∃i:Nat,cell/12%(U.length:Int)=(i:Int):=⟨(cell/12%(U.length:Int)).toNat,()⟩;have il:i<U.length:=by lia
   rw[hi,afO] at k
   have nm:(U.map λr=>V.str r.sh.name)[i]? =some (V.str (sh U i).name):=by
    rw[jl,gy il];unfold sh;rw[ry,gy il]
    rfl
   lk;erw[iE np _ (mE rfl (.inl O) ?_)];lk;rw[gm];erw[⟨p0,?_⟩];lk;erw[hY np _ _ (V.str (sh U i).name) (fT rfl (ix V.int hi) O (bX nm) ?_)];erw[kb x U S c F i (l7 rfl L W il (λz H' D a=>?_) (λz z2 H' D a=>?_) (λz z2 S' H' D p a=>?_))]
   .exact k S "leaf" c H' D (.inl ⟨z,rfl,rfl⟩) () (Moved.trans G.I hR l a)
   .exact k S "off" c H' D (.inr (.inl ⟨z,z2,rfl,rfl⟩)) () (Moved.trans G.I hR l a)
   .exact k S' "" (c+1) H' D (.inr (.inr ⟨z,z2,p,rfl⟩)) () (Moved.trans G.I hR l a)
  .have e:¬(decide ((9:Int)=cell%12)||(decide ((10:Int)=cell%12)||false))=true:=e
   have e:¬(cell%12=9\/cell%12=10):=λz=>e (by
    rw[agg,afQ,qj,qj]
    lia)
   have ab:(cell%12=11/\cell/12%5=3)->yO U.length cell=.stop:=λz=>by
    unfold yO;rw[er e,eE z]
   have X:¬(cell%12=11/\cell/12%5=3)->yO U.length cell=.turns (1+cell/12%2).toNat:=λz=>by
    unfold yO;rw[er e,er z]
   lk;erw[bp (λe1=>?_) (λe1=>?_)]
   .have e1:cell%12=11:=V.int.inj (hI e1);lk;refine bp (λe2=>?_) (λe2=>?_)
    .have e2:cell/12%5=3:=V.int.inj (hI e2);rw[ab ⟨e1,e2⟩] at k;lk;refine pq x U S c F (fT rfl L W (λz H' D a=>?_) (λz S' H' D p a=>?_))
     .exact k S "off" c H' D (.inl ⟨z,rfl,rfl⟩) () (Moved.trans G.I hR l a)
     .exact k S' "" (c+1) H' D (.inr ⟨z,p,rfl⟩) () (Moved.trans G.I hR l a)
    .have e2:¬cell/12%5=3:=λz=>e2 (f7 (ix V.int z));rw[X (λz=>e2 z.2)] at k;lk;have m2:cell/12%2=0\/cell/12%2=1:=by lia
     erw[⟨(by show -2^62<=1+cell/12%2;lia),(by show 1+cell/12%2<2^62;lia),?_⟩];erw[yq (lo:=0) (n:=(1+cell/12%2).toNat) (λj M C=>∃(m:HS) (u:FS) (v:Option V),G6 U j S m/\Moved R H F x (U,m,c+j) C u/\M=[some (.ref x),some (.ref np),some (.int cell),v]) ⟨S,F,none,.zero S,l,rfl⟩ ?_ ?_]
     .rintro j M C hj ⟨m,u,v,p,a,rfl⟩;have s:=a.2.2;obtain⟨C5,t,y,g,J,n1,n2,n3,n4,n5,n6⟩:=G.I.inst s;lk;erw[kb x C5 t y _ _ (fT rfl g ⟨J,rfl,rfl⟩ n4 ?_)];erw[pf x U m (c+j) u t y (fT rfl s g (mf (ahi _ ()) hc) (λS3 H3 F3 t3 N=>?_))];lk;exact⟨S3,F3,_,.succ p t3,Moved.trans G.I hR a N,rfl⟩
     .rintro M C ⟨m,u,v,p,a,rfl⟩;lk;exact k m "" (c+(1+cell/12%2).toNat) C u ⟨p,rfl⟩ () a
   .have e1:¬cell%12=11:=λz=>e1 (f7 (ix V.int z));rw[X (λz=>e1 z.1)] at k;lk;have m2:cell/12%2=0\/cell/12%2=1:=by lia
    erw[⟨(by show -2^62<=1+cell/12%2;lia),(by show 1+cell/12%2<2^62;lia),?_⟩];erw[yq (lo:=0) (n:=(1+cell/12%2).toNat) (λj M C=>∃(m:HS) (u:FS) (v:Option V),G6 U j S m/\Moved R H F x (U,m,c+j) C u/\M=[some (.ref x),some (.ref np),some (.int cell),v]) ⟨S,F,none,.zero S,l,rfl⟩ ?_ ?_]
    .rintro j M C hj ⟨m,u,v,p,a,rfl⟩;have s:=a.2.2;obtain⟨C5,t,y,g,J,n1,n2,n3,n4,n5,n6⟩:=G.I.inst s;lk;erw[kb x C5 t y _ _ (fT rfl g ⟨J,rfl,rfl⟩ n4 ?_)];erw[pf x U m (c+j) u t y (fT rfl s g (mf (ahi _ ()) hc) (λS3 H3 F3 t3 N=>?_))];lk;exact⟨S3,F3,_,.succ p t3,Moved.trans G.I hR a N,rfl⟩
    .rintro M C ⟨m,u,v,p,a,rfl⟩;lk;exact k m "" (c+(1+cell/12%2).toNat) C u ⟨p,rfl⟩ () a
open PySem L2 Shp Nm Tr Hs Hm Hr Lw PySem.NumText
def Mb{v:Int}(b:0<=v)(e:v<=1000000):PySem.intText? (cG v)=some v/\(cG v).length<=640:=by
 have a:fx (cG v)=dg v.toNat:=yd b;have c:(cG v).length<=7:=by rw[<- bC,a];exact(Wx _).mpr ()
 erw[⟨?_,()⟩];have:=Sv (x:=cG v) (by rw[a];exact Oy _) (by rw[a];have:=Sz v.toNat 0;rwa [agq,NC] at this) ();rw[this,a,Vq,Int.toNat_of_nonneg b]
def abd{T:List Row}(h:gx T){i:Nat}(a:i<T.length):zw (sh T i):=by
 rw[XA a];exact h.sh _ (M5 a)
def La:Sp:=λvs H Q _=>∃(e st a b c:Addr) (T:List Row) (ls:LS) (i:Nat),vs=[.ref e,.ref st,.int (i:Int)]/\C2 H e T/\l2 H st T.length ls a b c/\gx T/\i<T.length/\fm T i=true/\Q (.int (lastOf T ls i)) H
def XR(F:aI K "_law_last" "_law_last" PD dV f fd)(T:Txt mg):aC P w K mg dH (fw P w) true 1 f fd XU La:=by
 erw[F.br Sg λvs H Q E p=>?_];obtain⟨W,st,a,b,c,U,ls,i,rfl,q,hs,ok,l,u,k⟩:=p
 refine⟨rfl,λv A dN s X=>⟨_,(aa (bq (i:=3) Sg.nd (hD aD (hD b7 (pv 0) ah) (pv 2)))
   (aa (aL (iw XX (hD aD (zdg (pv 1) ar) (pv 2)) ah) (af (av (aA di (hD aD (zdg (pv 1) ar) (pv 2)) (aQ (CV rfl) (by rfl) T.Vc Qh (aj (bK h7 (by rfl) T.J9 DI (aj (hD aD (pv 3) ah) ag)) (aj (bK h7 (by rfl) T.J9 DI (aj (hD aD (pv 3) ah) ag)) ag)))))) ay)
   (aa (aL (iw bQ (hD aD (pv 3) ah) ar) (af (av (oF jM ah))) ay)
   (af (av (aA di (aA di (hD aD (zdg (pv 1) ar) (pv 2)) (bK h7 (by rfl) T.J9 DI (aj (hD aD (pv 3) ah) ag))) ah)))))),?_⟩⟩
 fin2
 obtain⟨dp,Z,R,S,n,t1,I,Y,t,O⟩:=q;have m:n[i]? =some (n[i]'()):=gy _;generalize n[i]'()=x at m;have r:=t i x m;obtain⟨w0,D,J,h⟩:=tO u;have g:=abd ok l;obtain⟨L,y⟩:=Mb g.g0 g.g1;obtain⟨B,C⟩:=Mb g.s0 g.s1;obtain⟨G,M⟩:=Mb g.m0 g.m1;have j:fk K H x ((words (sh U i)).map V.str):=fk.of r;lk;erw[kU (l5.of t1) rfl ?_];lk;erw[rT (fk.of I) (bX (by rw[jl,m];rfl)) ?_];lk;erw[dgI hs.gtl ?_];lk;erw[rT (fk.of hs.tl) (rE l) ?_];lk;unfold lastOf at k;erw[bp (λe=>?_) (λe=>?_)]
 .rw[eE (hI e)] at k;lk;erw[dgI hs.gtl ?_];lk;erw[rT (fk.of hs.tl) (rE l) ?_];lk;erw[rT j (ly D) ?_];lk;erw[iE _ _ (mq rfl L y ?_)];lk;erw[rT j (ly J) ?_];lk;erw[iE _ _ (mq rfl B C ?_)];lk;have N:(if (sh U i).bZ<(sh U i).ba then (sh U i).bZ else (sh U i).ba)=min (sh U i).ba (sh U i).bZ:=by split<;>lia
  rwa[N]
 .rw[er (λz=>e (f7 z))] at k;lk;rcases h with⟨z,h⟩|⟨z,h,o⟩|⟨z,h,o⟩
  .refine rT j (ly h) ?_;lk;rw[eE z] at k;exact k
  all_goals
   erw[rT j (ly h) ?_];lk;rw[er (by rw[z];decide)] at k;erw[dgI hs.gbo ?_];lk;erw[rT (fk.of hs.bo) (rE l) ?_];lk;erw[rT j (ly o) ?_];lk;erw[iE _ _ (mq rfl G M ?_)];lk;exact k
def in2{x y z:Str}(h:x=y\/x=z):inV (.str x) [.str y,.str z]=true:=by
 unfold inV;rcases h with rfl|rfl
 .show (decide (x=x)||_)=true;rw[f7 rfl,ahA]
 .show (_||(decide (x=x)||false))=true;rw[f7 rfl,ahA,Bool.or_true]
def RF(K:PySem.W.Frag):Sp:=λvs H Q _=>∃(h st a b c e:Addr) (T:List Row) (ls:LS) (i:Nat) (g t:Int) (wd nm:Str),vs=[.ref h,.ref st,.ref e,.int (i:Int),.int g]/\C2 H h T/\l2 H st T.length ls a b c/\l5 K H e [.int t,.str wd,.str nm]/\gx T/\i<T.length∧
 wA T (decide ((i:Int)=g)) ls ⟨t,wd,i⟩/\∀H',iJ a b c H H'->l2 H' st T.length {ls with on:=jg ls.on i false} a b c->Q (.bl true) H'
def VF(F:aI K "_law_ends" "_law_ends" Pw dV f fd)(T:Txt mg)(Z:jm P w K mg dH true 1 "_law_last" La []):aC P w K mg dH (fw P w) true 2 f fd VT (RF K):=by
 erw[F.br Mh λvs H Q E W=>?_];obtain⟨tp,st,a,b,c,e,U,ls,i,G,t,wd,nm,rfl,O,hs,Y,ok,L,h,k⟩:=W
 refine⟨rfl,λab A dN s hr=>⟨_,(aa (bq (i:=5) Mh.nd (hD aD (hD b7 (pv 0) ah) (pv 3)))
   (aa (AE eo (CM (zdg (pv 1) ar) (pv 3) set_list))
   (aa (aL (iw bQ (hD aD (pv 5) ah) ar) (af (av (wx kE (hD b7 (pv 2) ah) (lL (aj ar (aj ar ag)))))) ay)
   (aa (aL (iw bQ (pv 3) (pv 4)) (af (av (wx bQ (hD b7 (pv 2) ah) ar))) ay)
   (aa (bq (i:=6) Mh.nd (cb Z (aj (pv 0) (aj (pv 1) (aj (pv 3) ag)))))
   (aa (aL (iw XX (hD aD (zdg (pv 1) ar) (pv 3)) ah) (af (av (qk (wx kE (hD b7 (pv 2) ah) (lL (aj ar (aj ar ag)))) (lM (wx NU (hD b7 (pv 2) ah) (pv 6)))))) ay)
   (af (av (qk (wx bQ (hD b7 (pv 2) ah) (pv 6)) (lM (wx bQ (hD b7 (pv 2) ah) (zdg (RL (wK ar ar (wK ar ar (wK ar ar Rz))) rfl rfl (afY _ _) ∅) (hD aD (pv 5) ah))))))))))))),?_⟩⟩
 fin2
 have R:0<U.length:=by lia
 obtain⟨dp,ep,wp,np,M,t1,t2,t3,t4,t5⟩:=id O;have J:M[i]? =some (M[i]'()):=gy _;generalize M[i]'()=x at J;lk;erw[kU (l5.of t1) rfl ?_];lk;erw[rT (fk.of t2) (bX (by rw[jl,J];rfl)) ?_];lk;erw[dgI hs.gon ?_];lk;erw[WZ hs.on (Hu (by rwa[gm,tG])) ?_];have l:=hs.aaw i false;have p:iJ a b c H (upd H a (.lst (((List.range U.length).map λk=>V.bl (ls.on k)).set i (.bl false)))):=iJ.upd (.inl rfl);generalize upd H a (.lst (((List.range U.length).map λk=>V.bl (ls.on k)).set i (.bl false)))=H1 at l p;have N:=O.but hs R p;have g:=hs.sqT p Y
 have I:fk K H1 x ((words (sh U i)).map V.str):=by
  have S:=t4 i x J;obtain⟨n1,X,n3⟩:=hs.strs R (f:=id) S;exact fk.of (p _ _ n1 X n3 S)
 have j:∀u,aO H1 u->Q (.bl true) u:=λu m=>k u (p.trans (iJ.of_same m)) (l.same m);lk;unfold wA at h;by_cases n:fm U i=false
 .rw[eE n] at h;erw[rT I (ly (ud n)) ?_];lk;erw[kU g rfl ?_];lk;erw[⟨l8 (by show 2<=100;decide),λq C=>?_⟩];lk;erw[iE q _ (fT rfl (.inr (l5.of ae)) rfl rfl ?_)];rw[er l6,in2 h];exact j _ (au C)
 .have n:fm U i=true:=by cases z:fm U i with|true=>rfl|false=>exact absurd z n
  rw[er (by show ¬fm U i=false;rw[n];decide)] at h;obtain⟨w0,w2,w3,r⟩:=tO n;erw[rT I (ly w0) ?_];lk;erw[bp (λe2=>?_) (λe2=>?_)]
  .rw[f7 (V.int.inj (hI e2)),eE rfl] at h;have h:wd="fallen":=h;subst h;lk;erw[kU g rfl ?_];lk;exact j _ λ_ _ z=>z
  .rw[j0 (λz:(i:Int)=G=>e2 (f7 (ix V.int z))),er l6] at h;lk;erw[ex8 tp st a b c U _ i (l7 rfl N l ok L n ?_)];lk;erw[dgI l.gtl ?_];lk;erw[rT (fk.of l.tl) (rE L) ?_];lk;refine bp (λe3=>?_) (λe3=>?_)
   .rw[eE (hI e3)] at h;obtain⟨D,B⟩:=h;lk;erw[kU g rfl ?_];lk;erw[⟨l8 (by show 2<=100;decide),λq C=>?_⟩];lk;erw[iE q _ (fT rfl (.inr (l5.of ae)) rfl rfl ?_)];rw[er l6,in2 D];have m:=au (o:= .tup [.str "ended",.str "cut"]) C;lk;erw[kU (l5.same m g) rfl ?_];lk;show Q (.bl (decide (t<=lastOf U {ls with on:=jg ls.on i false} i))) _;rw[f7 (show t<=lastOf U {ls with on:=jg ls.on i false} i from B)];exact j _ m
   .rw[er (λz=>e3 (f7 z))] at h;obtain⟨D,B⟩:=h;have D:t=lastOf U {ls with on:=jg ls.on i false} i:=D;have B:wd=Bg (sh U i).kind:=B;lk;erw[kU g rfl ?_];lk;erw[bp (λe4=>?_) (λe4=>absurd (f7 (ix V.int D)) e4)];lk;erw[kU g rfl ?_];lk;intro q C;lk;erw[⟨ae,[(.inr "steady",.str "done"),(.inr "falls",.str "fallen"),(.inr "idle",.str "")],rfl,∅,?_⟩];rw[aU];have m:=au (o:= .dK (qY [] [((.inr "steady":Key),V.str "done"),(.inr "falls",.str "fallen"),(.inr "idle",.str "")])) C
    have dg:∀y:Str,∀v,xB (qY [] [((.inr "steady":Key),V.str "done"),(.inr "falls",.str "fallen"),(.inr "idle",.str "")]) (.inr y)=some v->qE (upd H1 q (.dK (qY [] [((.inr "steady":Key),V.str "done"),(.inr "falls",.str "fallen"),(.inr "idle",.str "")]))) q (.str y) (some v):=λy v hv=>by
     have:=qE.k (k:= .inr y) (ae (H:=H1) (a:=q) (o:= .dK (qY [] [((.inr "steady":Key),V.str "done"),(.inr "falls",.str "fallen"),(.inr "idle",.str "")])));rw[hv] at this;exact this
    generalize upd H1 q (.dK (qY [] [((.inr "steady":Key),V.str "done"),(.inr "falls",.str "fallen"),(.inr "idle",.str "")]))=u at m dg;lk;subst B;rcases r with⟨z,r⟩|⟨z,r,_⟩|⟨z,r,_⟩<;>rw[z]<;>erw[rT (fk.same I m) (ly r) ?_]<;>lk
    .refine dgI (dg "idle" (.str "") (by decide +kernel)) ?_;lk;exact j _ m
    .refine dgI (dg "steady" (.str "done") (by decide +kernel)) ?_;lk;exact j _ m
    .refine dgI (dg "falls" (.str "fallen") (by decide +kernel)) ?_;lk;exact j _ m
def acd{x y z:Str}(h:inV (.str x) [.str y,.str z]=true):x=y\/x=z:=by
 have h:(decide (y=x)||(decide (z=x)||false))=true:=h;rw[agg,afQ,qj,qj] at h;rcases h with h|h
 .exact .inl h.symm
 .exact .inr h.symm
def Rl{T:List Row}(h:gx T){i:Nat}(a:i<T.length):(T.map λr=>r.sh.name)[i]? =some (sh T i).name/\∀m,m<i->(T.map λr=>r.sh.name)[m]? ≠some (sh T i).name:=by
 have e:(T.map λr=>r.sh.name)[i]? =some (sh T i).name:=by rw[jl,gy a,XA a];rfl
 erw[⟨e,λm c z=>?_⟩];have b:(T.map λr=>r.sh.name).length=T.length:=gm _;have:=(List.getElem?_inj (by rw[b];lia) h.nd).mp (z.trans e.symm)
 lia
def Om(K:PySem.W.Frag):Sp:=λvs H Q _=>∃(h st a b c e:Addr) (T:List Row) (ls:LS) (i:Nat) (g t:Int) (wd:Str),vs=[.ref h,.ref st,.ref e,.int g]/\C2 H h T/\l2 H st T.length ls a b c/\l5 K H e [.int t,.str wd,.str (sh T i).name]/\gx T/\i<T.length∧
 Rx T (decide ((i:Int)=g)) ls ⟨t,wd,i⟩/\∀H',iJ a b c H H'->l2 H' st T.length (wC ls ⟨t,wd,i⟩) a b c->Q (.bl true) H'
def Ui(F:aI K "_law_entry" "_law_entry" KW dV f fd)(T:Txt mg)(N:jm P w K mg dH true 2 "_law_ends" (RF K) []):aC P w K mg dH (fw P w) true 3 f fd Rm (Om K):=by
 erw[F.br NK λvs H Q E D=>?_];obtain⟨J,st,a,b,c,e,U,ls,i,u,t,wd,rfl,y,hs,g,ok,m,v,k⟩:=D
 refine⟨rfl,λM A dN s W=>⟨_,(aa (bq (i:=4) NK.nd (fg Bn PySem.F.slot_list_index PySem.F.type_list_index Nq (hD b7 (pv 0) ah) (aj (hD b7 (pv 2) ah) ag)))
   (aa (aL (iw bQ (hD b7 (pv 2) ah) ar) (aa (AE eo (CM (zdg (pv 1) ar) (pv 4) set_list))
   (aa (AE (oF jM ah) (CM (zdg (pv 1) ar) (pv 4) set_list))
   (aa (AE (hD b7 (pv 2) ah) (CM (zdg (pv 1) ar) (pv 4) set_list))
   (af (av eo))))) ay)
   (aa (aL (iw bQ (hD b7 (pv 2) ah) ar) (aa (AE (hD b7 (pv 2) ah) (CM (zdg (pv 1) ar) (pv 4) set_list))
   (af (av eo))) ay)
   (aa (aL (iw kE (hD b7 (pv 2) ah) (lL (aj ar (aj ar ag)))) (af (av eo)) ay)
   (af (av (cb N (aj (pv 0) (aj (pv 1) (aj (pv 2) (aj (pv 4) (aj (pv 3) ag)))))))))))),?_⟩⟩
 fin2
 have R:0<U.length:=by lia
 obtain⟨dp,ep,S,B,Y,t1,t2,Z,X,n⟩:=id y;obtain⟨I,L⟩:=Rl ok m;have n:H B=some (.lst ((U.map λr=>r.sh.name).map V.str)):=by rwa[agF]
 lk;erw[kU (l5.of t1) rfl ?_];erw[⟨.inl ⟨rfl,_,fk.of n⟩,?_⟩];lk;erw[kU g rfl ?_];lk;erw[hY B _ _ i (rz rfl rfl (fk.of n) I L ?_)];lk;erw[kU g rfl ?_];lk;erw[bp (λe1=>?_) (λe1=>?_)]
 .have e1:wd="begun":=V.str.inj (hI e1);subst e1;lk;erw[dgI hs.gon ?_];lk;erw[WZ hs.on (Hu (by rwa[gm,tG])) ?_];have p:=hs.aaw i true;have x:iJ a b c H (upd H a (.lst (((List.range U.length).map λk=>V.bl (ls.on k)).set i (.bl true)))):=iJ.upd (.inl rfl);generalize upd H a (.lst (((List.range U.length).map λk=>V.bl (ls.on k)).set i (.bl true)))=H1 at p x;lk;erw[dgI p.gtl ?_];lk;erw[WZ p.tl (Hu (by rwa[gm,tG])) ?_];have l:=p.aaB i (-1);have j:iJ a b c H1 (upd H1 b (.lst (((List.range U.length).map λk=>V.int (ls.told k)).set i (.int (-1))))):=iJ.upd (.inr (.inl rfl));have j:=x.trans j;generalize upd H1 b (.lst (((List.range U.length).map λk=>V.int (ls.told k)).set i (.int (-1))))=C at l j;lk;erw[kU (hs.sqT j g) rfl ?_];lk;erw[dgI l.gbo ?_];lk;erw[WZ l.bo (Hu (by rwa[gm,tG])) ?_];lk;exact k _ (j.trans (iJ.upd (.inr (.inr rfl)))) (l.adD i t)
 .have e1:wd≠"begun":=λz=>e1 (f7 (ix V.str z));lk;erw[kU g rfl ?_];lk;refine bp (λe2=>?_) (λe2=>?_)
  .have e2:wd="told":=V.str.inj (hI e2);subst e2;lk;erw[kU g rfl ?_];lk;erw[dgI hs.gtl ?_];lk;erw[WZ hs.tl (Hu (by rwa[gm,tG])) ?_];lk;exact k _ (iJ.upd (.inr (.inl rfl))) (hs.aaB i t)
  .have e2:wd≠"told":=λz=>e2 (f7 (ix V.str z));lk;erw[kU g rfl ?_];lk;erw[⟨l8 (by show 2<=100;decide),λq O=>?_⟩];lk;erw[iE q _ (fT rfl (.inr (l5.of ae)) rfl rfl ?_)];have h:=au (o:= .tup [.str "answers",.str "gives up"]) O;generalize upd H q (.tup [.str "answers",.str "gives up"])=H1 at h;lk;rw[er l6];refine bp (λe3=>?_) (λe3=>?_)
   .have e3:=acd e3;lk;erw[k _ (iJ.of_same h) ?_];unfold wC;rw[er e1,er e2,eE e3];exact hs.same h
   .have e3:¬(wd="answers"\/wd="gives up"):=λz=>e3 (in2 z);rcases v with z|⟨G,v⟩
    .rcases z with z|z|z
     .exact absurd z e1
     .exact absurd z e2
     .exact absurd z e3
    .lk;erw[adY J st a b c e U ls i u t wd _ (an8 rfl (y.same h) (hs.same h) (l5.same h g) ok m v (λC j l=>k C ((iJ.of_same h).trans j) ?_))];rwa[Bo G]
open PySem L2 Shp Nm Tr Hs Hm Hr Lw PySem.NumText
def trI:Option Nat->Int
 |some i=>(i:Int)
 |none=> -1
theorem RV{a:Type}{l:List a}{j:Nat}(h:j<l.length):l.drop j=l[j]::l.drop (j+1):=agk h
def VJ{ls:LS}{es:List En}{j:Nat}(h:j<es.length):run ls (es.take (j+1))=wC (run ls (es.take j)) es[j]:=by
 rw[aft,gy h,zJ]
 rfl
def JI(K:PySem.W.Frag):Sp:=λvs H Q _=>∃(l st a b c q:Addr) (T:List Row) (ls:LS) (es:List En) (h g:Int) (j:Option Nat),vs=[.ref l,.ref st,.ref q,.int h,.int g,.int (trI j)]/\C2 H l T/\l2 H st T.length ls a b c/\gx T/\Ig K H q (es.map (Qs T))∧
 (∀e∈es,e.i<T.length/\h<=e.t/\e.t<=g)/\es.Pairwise (λa b=>a.t<=b.t)/\xP T j false ls es/\∀H',iJ a b c H H'->l2 H' st T.length (run ls es) a b c->Q (.bl true) H'
def Pz(F:aI K "_law_walked" "_law_walked" GW dV f fd)(T:Txt mg)(MJ:jm P w K mg dH true 3 "_law_entry" (Om K) []):aC P w K mg dH (fw P w) true 4 f fd NT (JI K):=by
 erw[F.br iR λvs H Q E y0=>?_];obtain⟨N,st,a,b,c,q,U,ls,es,ab,C,J,rfl,ht,hs,ok,⟨B,O,q2,q3⟩,hb,hp,hw,k⟩:=y0
 refine⟨rfl,λad A dN s hr=>⟨_,(aa (bq (i:=6) iR.nd eo)
   (aa (oH afv rfl (kP (pv 2)) (c9 (i:=7) iR.nd rfl (by first|exact Or.inl rfl|exact Or.inr rfl)) (aa (bq (i:=8) iR.nd (fg Bn PySem.F.slot_list_index PySem.F.type_list_index Nq (hD b7 (pv 0) ah) (aj (hD b7 (pv 7) ah) ag)))
   (aa (aL (PW.pt (ze (iw oW (hD b7 (pv 7) ah) (pv 3)) (ze (iw OK (hD b7 (pv 7) ah) (pv 4)) (xJ (fD (bM (aQ WQ (by rfl) T.jR iq (aj (hD b7 (pv 7) ah) (aj (abt (by rfl) T.J9 DI) ag))))))))) (af (av eo)) ay)
   (aa (bq (i:=3) iR.nd (hD b7 (pv 7) ah))
   (aa (bq (i:=9) iR.nd (oF jM ah))
   (aa (aL (PW.pt (iD (iw bQ (pv 8) (pv 5)) (iD (iw bQ (hD b7 (pv 7) ah) ar) (iy (fD (bM (pv 6))))))) (aa (bq (i:=9) iR.nd (pv 8))
   (af (bq (i:=6) iR.nd eo))) ay)
   (af (aL (fD (bM (cb MJ (aj (pv 0) (aj (pv 1) (aj (pv 7) (aj (pv 9) ag))))))) (af (av eo)) ay))))))))
   (af (av (VL (pv 6) (lM (wx oW (pv 5) ah))))))),?_⟩⟩
 fin2
 have n0:0<U.length:=af5.mpr ok.ne;rw[gm] at q2;have u:=hs.rows n0 O;lk;erw[⟨⟨_,fk.of O⟩,?_⟩]
 refine tY (n:=es.length) (λj Y H'=>∃(x:Bool) (M:Int) (v7 X S:Option V),Y=[some (.ref N),some (.ref st),some (.ref q),some (.int M),some (.int C),some (.int (trI J)),some (.bl x),v7,X,S]/\iJ a b c H H'/\l2 H' st U.length (run ls (es.take j)) a b c/\xP U J x (run ls (es.take j)) (es.drop j)/\∀e∈es.drop j,M<=e.t)
  ⟨false,ab,none,none,none,rfl,λ_ _ _ _ _ e=>e,hs,hw,λe l=>(hb e l).2.1⟩ ?_ ?_ ?_
 .rintro j Y H' hj ⟨x,M,v7,X,S,rfl,bt,h1,_⟩;exact⟨_,V.ref B[j],fk.of (bt _ _ u.1 u.2.1 u.2.2 O),by rw[jl,gy ()];rfl⟩
 .rintro j Y H' v H3 hj ⟨x,M,v7,X,S,rfl,bt,h1,wk,lo⟩ ⟨rfl,W⟩;have ac:=bt _ _ u.1 u.2.1 u.2.2 O;have W:=W _ (fk.of ac);have ja:j<B.length:=by lia
  rw[jl,gy ja] at W;obtain rfl:V.ref B[j]=v:=iH W;have l:=hs.sqT bt (q3 j B[j] (Qs U es[j]) (gy ja) (by rw[jl,gy hj];rfl));obtain⟨L,_,hh⟩:=hb es[j] (M5 hj);rw[RV hj] at wk lo;have ll:=lo es[j] ov
  have o:∀e∈es.drop (j+1),es[j].t<=e.t:=by
   have:=hp.drop (i:=j);rw[RV hj] at this;exact(List.pairwise_cons.mp this).1
  have p:=ht.but hs n0 bt;have y:=VJ (ls:=ls) hj;obtain⟨h,g⟩:=wk;generalize es[j]=e at l L hh ll o h g y;obtain⟨dp,ep,wp,np,ws,t1,t2,t3,t4,R⟩:=id p;obtain⟨x1,x2⟩:=Rl ok L;have R:H3 np=some (.lst ((U.map λr=>r.sh.name).map V.str)):=by rwa[agF]
  lk;erw[kU (l5.of t1) rfl ?_];erw[⟨.inl ⟨rfl,_,fk.of R⟩,?_⟩];lk;erw[kU l rfl ?_];lk;erw[hY np _ _ e.i (rz rfl rfl (fk.of R) x1 x2 ?_)];lk;erw[kU l rfl ?_];lk;erw[bp (λz=>?_) (λ_=>?_)]
  .have z:e.t<M:=hI z
   lia
  lk;erw[kU l rfl ?_];lk;erw[bp (λz=>?_) (λ_=>?_)]
  .have z:C<e.t:=hI z
   lia
  lk;erw[kU l rfl ?_];lk;erw[pq _ _ (.type "int") (.type "int") true (fT rfl (.int _) ⟨"int",.inl ⟨rfl,rfl⟩⟩ Ye ?_)];lk;erw[kU l rfl ?_];lk;cases hB:LM J x e with
  |true=>
   rw[hB] at h g;unfold LM at hB;rw[oT,oT,qj,qj,afU] at hB;obtain⟨rfl,ew,rfl⟩:=hB;erw[bp (λ_=>?_) (λz=>absurd (f7 rfl) z)];lk;erw[kU l rfl ?_];lk;erw[bp (λ_=>?_) (λz=>absurd (f7 (ix V.str ew)) z)];lk;erw[UB N st a b c (B[j]) U _ e.i _ e.t e.wd (an8 rfl p h1 l ok L (by rwa[f7 rfl]) (λH4 I D=>?_))];lk;exact⟨true,e.t,_,_,_,rfl,bt.trans I,by rwa[y],by rwa[y],o⟩
  |false=>
   rw[hB] at h g;rw[agg] at g;have no:decide ((e.i:Int)= -1)=false:=j0 ();erw[bp (λG=>?_) (λG=>?_)]
   .lk;erw[kU l rfl ?_];lk;refine bp (λZ=>?_) (λZ=>?_)
    .obtain rfl:x=true:=by
      have G:trI J=(e.i:Int):=(V.int.inj (hI G)).symm;have Z:e.wd="fallen":=V.str.inj (hI Z)
      have t:J=some e.i:=by
       cases J with
       |none=>have G:(-1:Int)=(e.i:Int):=G;lia
       |some m=>have G:(m:Int)=(e.i:Int):=G;exact ix some ()
      unfold LM at hB;rw[f7 t,f7 Z,afB,afB] at hB;cases x with
      |true=>rfl
      |false=>cases hB
     lk;erw[UB N st a b c (B[j]) U _ e.i _ e.t e.wd (an8 rfl p h1 l ok L (by rwa[show decide ((e.i:Int)= -1)=false from no]) (λH4 I D=>?_))];lk;exact⟨_,e.t,_,_,_,rfl,bt.trans I,by rwa[y],by rwa[y],o⟩
    .lk;erw[UB N st a b c (B[j]) U _ e.i _ e.t e.wd (an8 rfl p h1 l ok L (by rwa[show decide ((e.i:Int)= -1)=false from no]) (λH4 I D=>?_))];lk;exact⟨_,e.t,_,_,_,rfl,bt.trans I,by rwa[y],by rwa[y],o⟩
   .lk;erw[UB N st a b c (B[j]) U _ e.i _ e.t e.wd (an8 rfl p h1 l ok L (by rwa[show decide ((e.i:Int)= -1)=false from no]) (λH4 I D=>?_))];lk;exact⟨_,e.t,_,_,_,rfl,bt.trans I,by rwa[y],by rwa[y],o⟩
 .rintro Y H' ⟨x,M,v7,X,S,rfl,bt,h1,wk,_⟩;rw[List.drop_length] at wk;rw[afx] at h1;erw[⟨⟨_,fk.of (bt _ _ u.1 u.2.1 u.2.2 O),by rw[gm,q2];exact fC _⟩,?_⟩];lk;cases x with
  |true=>
   lk;exact k _ bt h1
  |false=>
   rcases wk with z|rfl
   .cases z
   .lk;exact k _ bt h1
open PySem L2 Shp Nm Tr Hs Hm Hr Lw PySem.NumText
def Nf:Sp:=λvs H Q _=>∃cell:Int,vs=[.int cell]/\∀H',aO H H'->Q (.int (w9 cell)) H'
def YU{x:Int}:inV (.int x) [.int 9,.int 10]=true↔(x=9\/x=10):=by
 show(decide ((9:Int)=x)||(decide ((10:Int)=x)||false))=true↔_;rw[agg,afQ,qj,qj]
 lia
def Tx(F:aI K "_law_turns" "_law_turns" MD dV f fd):aC P w K mg dH (fw P w) true 1 f fd Rq Nf:=by
 erw[F.br WR λvs H Q E a=>?_];obtain⟨cell,rfl,k⟩:=a
 refine⟨rfl,λb A dN s h=>⟨_,(aa (aL (PW.pt (ze (iw kE (aA bj (pv 0) ah) (lL (aj ah (aj ah ag)))) (xJ (PW.pt (iD (iw bQ (aA bj (pv 0) ah) ah) (iy (iw bQ (aA bj (aA cj (pv 0) ah) ah) ah))))))) (af (av ah)) ay)
   (af (av (aA di ah (aA bj (aA cj (pv 0) ah) ah))))),?_⟩⟩
 fin2
 unfold w9 at k;lk;erw[⟨l8 (by show 2<=100;decide),λq g=>?_⟩];lk;erw[iE q _ (fT rfl (.inr (l5.of ae)) rfl rfl ?_)];have c:=au (o:= .tup [.int 9,.int 10]) g;have k:=k _ c;generalize upd H q (.tup [.int 9,.int 10])=H1 at k;lk;rw[er l6];erw[bp (λe=>?_) (λe=>?_)]
 .have e:=YU.mp e;rw[eE (.inl e)] at k;lk;exact k
 .have e:¬(cell%12=9\/cell%12=10):=λz=>e (YU.mpr z);lk;refine bp (λe2=>?_) (λe2=>?_)
  .have e2:cell%12=11:=V.int.inj (hI e2);lk;refine bp (λe3=>?_) (λe3=>?_)
   .have e3:cell/12%5=3:=V.int.inj (hI e3);rw[eE (.inr ⟨e2,e3⟩)] at k;lk;exact k
   .rw[er (λz=>by rcases z with z|z;exact e z;exact e3 (f7 (ix V.int z.2)))] at k;lk;exact k
  .rw[er (λz=>by rcases z with z|z;exact e z;exact e2 (f7 (ix V.int z.1)))] at k;lk;exact k
def RP(K:PySem.W.Frag):Sp:=λvs H Q _=>∃(a:Addr) (b:List Int),vs=[.ref a]/\fk K H a (b.map V.int)/\∀H',Q (.bl true) H'
def comp_const{n:Nat}{v:V}{c:St}{fr:List (Str×Nat)}{a:TE}{H:Hp}{Q:VK}(e:n<=1000)(g:∀u H' R,R v H'->a (inner c fr u) H' R)(k:∀p,H p=none->Q (.ref p) (upd H p (.lst ((List.range n).map λ_=>v)))):O2 (Itr 0 n) c fr acY a H Q:=by
 erw[eZ (n:=n) (λi ys H'=>H'=H/\ys=(List.range i).map λ_=>v) ⟨rfl,rfl⟩ (λi ys H' b _=>b) (λys H' _=>fC _) ?_ ?_]
 .rintro i ys H' u H2 b ⟨rfl,rfl⟩ ⟨rfl,rfl⟩;erw[g _ _ _ ⟨by rw[gm,tG];exact aV (),rfl,?_⟩];rw[afR,ni]
  rfl
 .rintro ys H' ⟨rfl,rfl⟩;exact⟨afC (by rw[gm,tG];exact aV e),k⟩
structure FD(K:PySem.W.Frag)(R:HR SG)(H:Hp)(tp st x a b c q:Addr)(cs:List V)(T:List Row)(S:HS)(n:Nat)(ls:LS):Prop where
 ex:∃(F:FS) (H0:Hp),R H x (T,S,n) F/\yR F H H0/\C2 H0 tp T/\l2 H0 st T.length ls a b c/\H0 q=some (.lst cs)
 qn:q≠a/\q≠b/\q≠c
 wf:Wf T S
 jv:Jv T S
 en:S.ends=[]
 lk:jH T S T.length ls
section
variable{R:HR SG}{Cl:Addr->Prop}{H H':Hp}{tp st x a b c q:Addr}{cs:List V}{U:List Row}{S:HS}{n:Nat}{ls:LS}
def FD.same(I:pS R Cl)(h:FD K R H tp st x a b c q cs U S n ls)(e:aO H H'):FD K R H' tp st x a b c q cs U S n ls:=by
 obtain⟨F,g,m,o,l,j,i⟩:=h.ex;exact⟨⟨F,g,I.same e m,o.same e,l,j,i⟩,h.qn,h.wf,h.jv,h.en,h.lk⟩
def FD.get(h:FD K R H tp st x a b c q cs U S n ls):C2 H tp U/\l2 H st U.length ls a b c/\H q=some (.lst cs):=by
 obtain⟨F,l,m,e,j,i,g⟩:=h.ex;exact⟨j.same e.1,i.same e.1,e.1 _ _ g⟩
def FD.put(I:pS R Cl)(t:0<U.length){S':HS}{j:Nat}{ls':LS}{F:FS}{h:Hp}(B:R H x (U,S',j) F)(u:yR F H h)(D:C2 h tp U)(m:l2 h st U.length ls a b c)(r:h q=some (.lst cs))(g:q≠a/\q≠b/\q≠c)(e:iJ a b c H H')(l:l2 H' st U.length ls' a b c)
  (E:Wf U S') (C:Jv U S') (en:S'.ends=[]) (lk:jH U S' U.length ls'):FD K R H' tp st x a b c q cs U S' j ls':=by
 obtain⟨s,v,A,p,i⟩:=u.put m e l;exact⟨⟨F,s,I.mono (λy o f z=>e y o (i y f).1 (i y f).2.1 (i y f).2.2 z) B,v,D.but m t p,A,p _ _ g.1 g.2.1 g.2.2 r⟩,g,E,C,en,lk⟩
end
def aas{T:List Row}(h:gx T):(new T).clk=0:=by rw[C7 h];rfl
def X7{T:List Row}(h:gx T):(new T).ends=[]:=by rw[C7 h];rfl
def abo{T:List Row}{S:HS}{cell:Int}(h:¬(cell%12=9\/cell%12=10)):qN T S (yO T.length cell)=none:=by
 unfold yO;rw[er h]
 split<;>rfl
def abv{kk:Nat}{R:HR SG}{Cl:Addr->Prop}{cL cN:Addr}{TR:Hr.nS}(cd:kk<=50)(F:aI K "law" "law" Np dV f fd)(T:Txt mg)(G:VM P w K mg dH kk R Cl cL cN)
  (fz:jm P w K mg dH true 1 "_law_cell_at" (QE K) []) (Qf:jm P w K mg dH true 3 "_law_tree" (W2 K) []) (QH:jm P w K mg dH true 1 "_law_text" (Vn K) []) (Qp:jm P w K mg dH true kk "read" (Vx TR) []) (am:jm P w K mg dH true kk "built" (Nu TR R) [])
  (Bj:jm P w K mg dH true 4 "_law_walked" (JI K) []) (Qx:jm P w K mg dH true (kk+2) "_law_deed" (VU K R) []) (Lx:jm P w K mg dH true 1 "_law_turns" Nf []) (Du:jm P w K mg dH true 1 "_law_last" La []):aC P w K mg dH (fw P w) true 63 f fd aaE (RP K):=by
 erw[F.br gL λvs H Q E y0=>?_];obtain⟨sa,ns,rfl,hS,k⟩:=y0;erw[⟨rfl,λbt A dN s0 hr=>?_⟩];have r:=G.rows.d
 have t8:∃t,qx (vi true (fw P w) P w K mg dH aav "law" (ak Np) f bt A dN s0 H E).i1 ((cB Np).drop 8) t/\∀(H1 H0:Hp) (B st x a b c:Addr) (U:List Row) (ls:LS) (F:FS),fk K H1 sa (ns.map V.int)->gx U->U.length<=11->R H1 x (U,new U,0) F->yR F H1 H0->C2 H0 B U->l2 H0 st U.length ls a b c->jH U (new U) U.length ls→
   t {nx:=λ_ H'=>Q .non H',rt:=Q} [some (.ref sa),some (.int (U.length:Int)),some (.ref B),some (.ref x),some (.ref st),some (.int ((new U).book.length:Int)),some (.int 0),none,none,none,none,none,none] H1:=by
  refine⟨_,(aa (oH afv rfl (kP (B5 Fu (pv 0) (yj (aA di ah (pv 1))) (yj (aA di ah (pv 1))))) (c9 (i:=7) gL.nd rfl (by first|exact Or.inl rfl|exact Or.inr rfl)) (aa (bq (i:=8) gL.nd (oF jM ah))
   (aa (aL (PW.pt (iD (iw kE (aA bj (pv 7) ah) (lL (aj ah (aj ah ag)))) (iD (iw bQ (hD aD (hD aD (hD b7 (pv 2) ah) (aA bj (aA cj (pv 7) ah) (pv 1))) ah) ar) (iy (bM (hD aD (zdg (pv 4) ar) (aA bj (aA cj (pv 7) ah) (pv 1)))))))) (af (bq (i:=8) gL.nd (aA bj (aA cj (pv 7) ah) (pv 1)))) ay)
   (aa (aB (cb Qx (aj (pv 3) (aj (hD b7 (pv 2) ah) (aj (pv 7) ag)))))
   (aa (bq (i:=9) gL.nd (cb Lx (aj (pv 7) ag)))
   (aa (bq (i:=10) gL.nd (aA di (pv 6) (aQ (CV rfl) (by rfl) T.Vc Qh (aj ah (aj (pv 9) ag)))))
   (aa (bq (i:=6) gL.nd (aA di (pv 6) (pv 9)))
   (aa (bq (i:=11) gL.nd (jd (pv 3) r))
   (aa (aL (fD (bM (cb Bj (aj (pv 2) (aj (pv 4) (aj (B5 Fu (pv 11) (yj (pv 5)) Sa) (aj (pv 10) (aj (pv 6) (aj (pv 8) ag))))))))) (af (av eo)) ay)
   (aa (bq (i:=5) gL.nd (aQ aP (by rfl) T.fN cJ (aj (pv 11) ag)))
   (af (oH afv rfl (kx (by rfl) T.ng (aj (pv 1) ag)) (c9 (i:=12) gL.nd rfl (by first|exact Or.inl rfl|exact Or.inr rfl)) (af (aL (PW.pt (iD (bM (hD aD (zdg (pv 4) ar) (pv 12))) (iD (iw bQ (hD aD (hD aD (hD b7 (pv 2) ah) (pv 12)) ah) ar) (iy (XM NU NU ah (cb Du (aj (pv 2) (aj (pv 4) (aj (pv 12) ag)))) (pv 6)))))) (af (av eo)) ay))))))))))))))
   (af (av eo))),?_⟩
  fin2
  intro H1 H0 B st x a b c U ls F b2 ok aG hR aK bv an bZ;lk;erw[iE sa _ (mE rfl b2 (λq hq=>?_))];have n0:0<U.length:=af5.mpr ok.ne;obtain⟨J,ec,lc⟩:=UK ns (3+U.length) (45+U.length) ();have ec:HM (ns.map V.int) (some (3+(U.length:Int))) (some (45+(U.length:Int)))=J.map V.int:=ec;rw[ec];have lc:J.length<=42:=by lia
  have qa:∀{y o},H0 y=some o->q≠y:=λz=>Ne.symm (aq (aK.1 _ _ z) hq)
  have q0:H0 q=none:=by
   cases z:H0 q with
   |none=>rfl
   |some o=>exact absurd rfl (qa z)
  have nq:¬F q:=λz=>G.I.own hR z hq;have sH:aO H1 (upd H1 q (.lst (J.map V.int))):=au hq;have a8:aO H0 (upd H0 q (.lst (J.map V.int))):=au q0
  have be:FD K R (upd H1 q (.lst (J.map V.int))) B st x a b c q (J.map V.int) U (new U) 0 ls:=by
   erw[⟨⟨F,upd H0 q (.lst (J.map V.int)),G.I.same sH hR,⟨λy o z=>?_,λy f=>?_⟩,bv.same a8,an.same a8,ae⟩,⟨qa an.on,qa an.tl,qa an.bo⟩,Wf.new (gx.tok ok),(Xu ok).1,X7 ok,bZ⟩]
   .by_cases e:y=q
    .rw[e,ae] at z ⊢;exact z
    .rw[ai e] at z ⊢;exact aK.1 _ _ z
   .rw[ai (λe=>nq (by rw[<- e];exact f))];exact aK.2 y f
  have q1:(upd H1 q (.lst (J.map V.int))) q=some (.lst (J.map V.int)):=ae;generalize upd H1 q (.lst (J.map V.int))=H2 at be q1;erw[⟨q,rfl,⟨_,fk.of q1⟩,?_⟩]
  refine tY (n:=J.length) (λj σ H'=>∃(S:HS) (n:Nat) (ls:LS) (v7 v8 v9 l m g:Option V),σ=[some (.ref sa),some (.int (U.length:Int)),some (.ref B),some (.ref x),some (.ref st),some (.int (S.book.length:Int)),some (.int S.clk),v7,v8,v9,l,m,g]/\FD K R H' B st x a b c q (J.map V.int) U S n ls/\n<=2*j)
   ⟨new U,0,ls,_,_,_,_,_,_,by rw[aas ok],be,fC _⟩ ?_ ?_ ?_
  .rintro j σ H' hj ⟨S,n,ls,v7,v8,v9,l,m,g,rfl,iv,_⟩;exact⟨_,V.int J[j],fk.of iv.get.2.2,by rw[jl,gy hj];rfl⟩
  .rintro j σ H' v H3 hj ⟨S,n,ls,v7,v8,v9,l,m,g,rfl,iv,hn⟩ ⟨rfl,hv⟩;have hv:=hv _ (fk.of iv.get.2.2);rw[jl,gy hj] at hv;obtain rfl:V.int J[j]=v:=iH hv;generalize J[j]=cell;refine VS (M:=λa0 H'=>aO H3 H'/\a0=[some (.ref sa),some (.int (U.length:Int)),some (.ref B),some (.ref x),some (.ref st),some (.int (S.book.length:Int)),some (.int S.clk),some (.int cell),some (.int (trI (qN U S (yO U.length cell)))),v9,l,m,g]) (λN hN=>?_) ?_
   .lk;erw[⟨l8 (by show 2<=100;decide),λq2 b4=>?_⟩];lk;erw[iE q2 _ (fT rfl (.inr (l5.of ae)) rfl rfl ?_)];have s4:=au (o:= .tup [.int 9,.int 10]) b4;generalize upd H3 q2 (.tup [.int 9,.int 10])=H4 at s4;obtain⟨⟨dp,ep,wp,np,as,t1,t2,t3,t4,t5⟩,a7,_⟩:=(iv.same G.I s4).get;lk;rw[er l6];refine bp (λe=>?_) (λe=>?_)
    .have e:=YU.mp e;have p0:(0:Int)<(U.length:Int):=by lia
     have m0:=ahI (cell/12) (show(U.length:Int)≠0 by lia);have m1:=agS (cell/12) p0;obtain⟨i,Y⟩:∃i:Nat,cell/12%(U.length:Int)=(i:Int):=⟨(cell/12%(U.length:Int)).toNat,()⟩;have il:i<U.length:=by lia
     have dk:yO U.length cell=.lB i:=by
      unfold yO;rw[eE e,Y,afO]
     rw[dk] at hN;have hx:as[i]? =some (as[i]'()):=gy _;generalize as[i]'()=y at hx;have tx:=t4 i y hx;lk;erw[kU (l5.of t1) rfl ?_];lk;erw[⟨p0,?_⟩];lk;erw[hY wp _ _ (V.ref y) (fT rfl (ix V.int Y) (fk.of t2) (bX (by rw[jl,hx];rfl)) ?_)];lk;cases hl:fm U i with
     |false=>
      erw[rT (fk.of tx) (ly (ud hl)) ?_];lk;exact hN _ _ ⟨s4,by rw[show qN U S (.lB i)=none from er (λz=>by rw[hl] at z;cases z.1)];rfl⟩
     |true=>
      erw[rT (fk.of tx) (ly (tO hl).1) ?_];lk;erw[dgI a7.gon ?_];lk;erw[⟨p0,?_⟩];lk;erw[hY a _ _ (V.bl (ls.on i)) (fT rfl (ix V.int Y) (fk.of a7.on) (rE il) ?_)];have on:=(iv.lk.2 i il).on;cases ho:cg S i with
      |true=>
       rw[ho] at on;rw[on];lk;exact hN _ _ ⟨s4,by rw[show qN U S (.lB i)=none from er (λz=>by rw[ho] at z;cases z.2)];rfl⟩
      |false=>
       rw[ho] at on;rw[on];lk;erw[⟨p0,?_⟩];lk;exact hN _ _ ⟨s4,by rw[show qN U S (.lB i)=some i from eE ⟨hl,ho⟩];show _=[_,_,_,_,_,_,_,_,some (V.int (i:Int)),_,_,_,_];rw[<- Y];rfl⟩
    .have e:¬(cell%12=9\/cell%12=10):=λz=>e (YU.mpr z);lk;exact hN _ _ ⟨s4,by rw[abo e];rfl⟩
   .rintro σ4 H4 ⟨s4,rfl⟩;refine WC (M:=λa0 H'=>∃(S':HS) (n':Nat) (ls':LS) (v9 l m:Option V),a0=[some (.ref sa),some (.int (U.length:Int)),some (.ref B),some (.ref x),some (.ref st),some (.int (S'.book.length:Int)),some (.int S'.clk),some (.int cell),some (.int (trI (qN U S (yO U.length cell)))),v9,l,m,g]/\FD K R H' B st x a b c q (J.map V.int) U S' n' ls'/\n'<=2*(j+1)) (λN hN=>?_) ?_
    .obtain ⟨F4,H0,r1,r2,r3,r4,r5⟩:=(iv.same G.I s4).ex;obtain⟨dp,ep,wp,np,as,t1,t2,t3,t4,t5⟩:=r3.same r2.1;have bE:(n+2)*U.length<=2200:=mf (Nat.mul_le_mul (show n+2<=86 by lia) aG) ∅;lk;erw[kU (l5.of t1) rfl ?_];lk;erw[pf x np U S n F4 cell (rz rfl r1 (fk.of t5) n0 bE (λS' wd n' H5 F5 dr bg mv=>?_))];have p0:(0:Int)<(U.length:Int):=by lia
     have m1:=agS (cell/12) p0
     obtain⟨es,De,go,w',j',e'⟩:=ZU ok iv.wf iv.jv iv.en (λi Y=>by
      unfold yO at Y
      split at Y
      .cases Y;lia
      .split at Y<;>cases Y) dr
     obtain⟨wk,b1⟩:=go ls iv.lk;have tu:=Wl U.length cell;have r2:=r2.moved mv;have r1:=mv.2.2;lk;erw[λH6 s6=>?_];have r2:=r2.same s6;have r1:=G.I.same s6 r1;obtain⟨C,dx,fs,D,hC,n1,_⟩:=G.I.inst r1;lk;erw[dJ D ⟨hC,rfl,rfl⟩ n1 ?_];erw[pq x _ F5 dx fs (mq rfl r1 D (λq7 H7 s7 bN ra=>?_))];obtain⟨rs,ad,O,b3⟩:=ra;have r2:=r2.same s7;have r1:=G.I.same s7 r1;have O:rs.length=S'.book.length:=O;have bl:S'.book.length=S.book.length+es.length:=by rw[De.bk,js,gm]
     lk;erw[iE q7 _ (mE rfl (fk.of ad) (λq8 a6=>?_))];rw[Th,<-List.map_drop];have s8:=au (o:= .lst ((rs.drop S.book.length).map V.ref)) a6;have bi:(upd H7 q8 (.lst ((rs.drop S.book.length).map V.ref))) q8=some (.lst ((rs.drop S.book.length).map V.ref)):=ae;generalize upd H7 q8 (.lst ((rs.drop S.book.length).map V.ref))=H8 at s8 bi;have r2:=r2.same s8;have r1:=G.I.same s8 r1;have ba:=r4.same r2.1
     have ap:Ig K H8 q8 (es.map (Qs U)):=by
      erw[⟨_,bi,by rw[agm,gm];lia,λi y e hy he=>l5.same s8 (b3 (S.book.length+i) y e ?_ ?_)⟩]
      .rw[List.getElem?_drop] at hy;exact hy
      .show (S'.book)[_]? =_;rwa[De.bk,ae2 (),agr]
     lk
     have bd:∀e∈es,e.i<U.length/\S.clk+(if w9 cell<1 then w9 cell else 1)<=e.t/\e.t<=S.clk+w9 cell:=λe he=>by
      obtain⟨z1,z2,z3⟩:=De.lt e he;erw[⟨z1,?_,()⟩]
      split<;>lia
     erw[UB B st a b c q8 U ls es _ _ _ (an9 rfl (r3.same r2.1) ba ok ap bd De.srt wk (λH9 b9 l9=>?_))];have W:=FD.put (K:=K) G.I n0 r1 r2 r3 r4 r5 iv.qn b9 l9 w' j' e' b1;obtain⟨n4,n5,n6⟩:=ba.rows n0 (s8 _ _ ad);have bA:=b9 _ _ n4 n5 n6 (s8 _ _ ad);lk;erw[iE q7 _ (mE rfl (.inl (fk.of bA)) ?_)];rw[gm,O];lk;have ck:S.clk+w9 cell=S'.clk:=by rw[De.clk,tu]
     exact hN _ _ ⟨S',n',run ls es,_,_,_,by rw[<- ck];rfl,W,()⟩
    .rintro σ5 H9 ⟨S',n',ls',v9,l,m,rfl,W,bg⟩;obtain⟨⟨ca,b5,ce,b8,a3,u1,u2,u3,u4,u5⟩,aN,_⟩:=W.get;have aF:C2 H9 B U:=W.get.1;lk;erw[⟨(by show -2^62<=(U.length:Int);lia),(by show(U.length:Int)<2^62;lia),?_⟩];refine yq (lo:=0) (n:=(U.length:Int).toNat) (λi σ H'=>H'=H9/\∃g,σ=[some (.ref sa),some (.int (U.length:Int)),some (.ref B),some (.ref x),some (.ref st),some (.int (S'.book.length:Int)),some (.int S'.clk),some (.int cell),some (.int (trI (qN U S (yO U.length cell)))),v9,l,m,g]) ⟨rfl,_,rfl⟩ ?_ ?_
     .rintro i σ H' Y ⟨rfl,g,rfl⟩;have il:i<U.length:=by rw[afO] at Y;exact Y
      have hx:a3[i]? =some (a3[i]'()):=gy _;generalize a3[i]'()=y at hx;have tx:=u4 i y hx;rw[Int.zero_add];lk;erw[dgI aN.gon ?_];lk;erw[rT (fk.of aN.on) (rE il) ?_];cases on:ls'.on i with
      |false=>
       lk;exact⟨_,rfl⟩
      |true=>
       lk;erw[kU (l5.of u1) rfl ?_];lk;erw[rT (fk.of u2) (bX (by rw[jl,hx];rfl)) ?_];lk;cases hl:fm U i with
       |false=>
        erw[rT (fk.of tx) (ly (ud hl)) ?_];lk;exact⟨_,rfl⟩
       |true=>
        erw[rT (fk.of tx) (ly (tO hl).1) ?_];lk;erw[ex8 B st a b c U _ i (l7 rfl aF aN ok il hl ?_)];have no:=Ub ok W.wf W.lk il hl on;lk;erw[bp (λz1=>?_) (λ_=>?_)]
        .lk;erw[bp (λz2=>absurd ⟨hI z1,hI z2⟩ no) (λ_=>?_)];lk;exact⟨_,rfl⟩
        .lk;exact⟨_,rfl⟩
     .rintro σ H' ⟨rfl,g,rfl⟩;exact⟨S',n',ls',_,_,_,_,_,_,rfl,W,bg⟩
  .rintro σ H' ⟨S,n,ls,v7,v8,v9,l,m,g,rfl,iv,_⟩;erw[⟨⟨_,fk.of iv.get.2.2,by rw[gm];exact fC _⟩,?_⟩];lk;exact k _
 obtain⟨tt,ht,hn⟩:=t8
 refine⟨_,(aa (bq (i:=1) gL.nd (aA di ah (aA bj (cb fz (aj (pv 0) (aj ah ag))) ah)))
   (aa (bq (i:=2) gL.nd (cb Qf (aj (pv 0) (aj ah (aj (pv 1) (aj (cb fz (aj (pv 0) (aj ah ag))) ag))))))
   (aa (bq (i:=3) gL.nd (cb am (aj (cb Qp (aj (cb QH (aj (pv 2) ag)) ag)) ag)))
   (aa (bq (i:=4) gL.nd (RL (wK ar (m9 (x:="_law_k") (fr:=[]) (by exact⟨rfl,rfl,by decide +kernel,by decide +kernel,rfl,by decide +kernel,(by repeat (first|exact True.intro|erw[⟨rfl,?_⟩])),by repeat (first|exact True.intro|erw[⟨(by first|exact λ_=>⟨_,rfl⟩|(intro z;cases z)),?_⟩]),(by repeat (first|exact True.intro|erw[⟨⟨rfl,.inl rfl,rfl,rfl⟩,?_⟩]))⟩) rfl (kx (by rfl) T.ng (aj (pv 1) ag)) (λ_ _ _ _=>Aw) (λ_ _ _ _=>eo)) (wK ar (m9 (x:="_law_k") (fr:=[]) (by exact⟨rfl,rfl,by decide +kernel,by decide +kernel,rfl,by decide +kernel,(by repeat (first|exact True.intro|erw[⟨rfl,?_⟩])),by repeat (first|exact True.intro|erw[⟨(by first|exact λ_=>⟨_,rfl⟩|(intro z;cases z)),?_⟩]),(by repeat (first|exact True.intro|erw[⟨⟨rfl,.inl rfl,rfl,rfl⟩,?_⟩]))⟩) rfl (kx (by rfl) T.ng (aj (pv 1) ag)) (λ_ _ _ _=>Aw) (λ_ _ _ _=>(oF jM ah))) Rz)) rfl rfl (afY _ _) ∅))
   (aa (R3 (Ku hr) (pv 4) ar (m9 (x:="_law_k") (fr:=[]) (by exact⟨rfl,rfl,by decide +kernel,by decide +kernel,rfl,by decide +kernel,(by repeat (first|exact True.intro|erw[⟨rfl,?_⟩])),by repeat (first|exact True.intro|erw[⟨(by first|exact λ_=>⟨_,rfl⟩|(intro z;cases z)),?_⟩]),(by repeat (first|exact True.intro|erw[⟨⟨rfl,.inl rfl,rfl,rfl⟩,?_⟩]))⟩) rfl (kx (by rfl) T.ng (aj (pv 1) ag)) (λ_ _ _ _=>Aw) (λ_ _ _ _=>ah)) rfl)
   (aa (aL (fD (bM (cb Bj (aj (pv 2) (aj (pv 4) (aj (jd (pv 3) r) (aj ah (aj ah (aj (oF jM ah) ag))))))))) (af (av eo)) ay)
   (aa (bq (i:=5) gL.nd (aQ aP (by rfl) T.fN cJ (aj (jd (pv 3) r) ag)))
   (aa (bq (i:=6) gL.nd ah)
   ht)))))))),?_⟩
 fin2
 lk;erw[pw sa _ ns (mq rfl hS ∅ ?_)];have c0:=cP (ns.getD (Int.toNat 0) 0) (n:=11) ∅;obtain⟨ct,bS⟩:∃ct:Nat,1+ns.getD (Int.toNat 0) 0%11=(ct:Int):=⟨(1+ns.getD (Int.toNat 0) 0%11).toNat,()⟩;lk;dsimp only;rw[bS];erw[pw sa _ ns (mq rfl hS ∅ ?_)];lk;erw[pq sa ns 2 _ ct (rz rfl hS ∅ () () (λB dp ep wp np H1 U s1 u1 u2 u3 u4=>?_))];have ok:=u3.ok;subst u4;have aG:U.length<=11:=by lia
 lk;erw[kb B dp ep wp np U (fT rfl u1 u2 ok (λH2 s2=>?_))];have bP:=(C2.of u1 u2).same s2;have bx:=fk.same (fk.same hS s1) s2;lk;erw[iE _ U (fT rfl ⟨by rw[<- bC,Cd];exact OB ok,trivial⟩ (by rw[Cd];exact Jf ok) ok (λt H3 FT s3 f3 hT=>?_))];lk;erw[pw t U FT (mq rfl hT ok (λx H4 F s4 f4 hR=>?_))];have a5:aO H2 H4:=s3.trans s4
 have nf:∀b,F b->H2 b=none:=λb f=>by
  rcases f4 b f with z|z
  .exact f3 b z
  .cases y:H2 b with
   |none=>rfl
   |some o=>rw[s3 _ _ y] at z;cases z
 have bn:=fk.same bx a5;lk;intro p hp;have fr:∀{y},H4 y=none->¬F y:=λh f=>G.I.own hR f h;lk;erw[⟨(),(),comp_const (n:=U.length) () (λ_ _ _ h=>h) (λa ha=>?_)⟩];obtain⟨pa,ha⟩:=oM ha;lk;erw[⟨(),(),comp_const (n:=U.length) (v:= .int (-1)) () (λ_ _ _ h=>⟨1,rfl,h⟩) (λb hb=>?_)⟩];obtain⟨ab,hb⟩:=oM hb;obtain⟨pb,hb⟩:=oM hb;erw[⟨by rw[ai (Ne.symm pb),ai (Ne.symm pa),ae],[(.inr "on",.ref a),(.inr "told",.ref b)],rfl,by show 2<=15;decide,?_⟩];lk;erw[⟨(),(),comp_const (n:=U.length) () (λ_ _ _ h=>h) (λc hc=>?_)⟩];obtain⟨pc,hc⟩:=oM hc;obtain⟨bc,hc⟩:=oM hc;obtain⟨ac,hc⟩:=oM hc;obtain⟨_,hc⟩:=oM hc;lk;have sb:yR F H4 H2:=⟨a5,nf⟩;have sb:=((((((sb.upd (o:= .dK []) (fr hp)).upd (o:= .lst ((List.range U.length).map λ_=>V.bl false)) (fr ha)).upd (o:= .lst ((List.range U.length).map λ_=>V.int (-1))) (fr hb)).upd (o:= .dK [(.inr "on",.ref a),(.inr "told",.ref b)]) (fr hp)).upd (o:= .lst ((List.range U.length).map λ_=>V.int 0)) (fr hc)).upd (o:= .dK [(.inr "on",.ref a),(.inr "told",.ref b),(.inr "born",.ref c)]) (fr hp));have L:=l2.start (H:=H2) (n:=U.length) pa pb ab pc ac bc (.dK []) (.dK [(.inr "on",.ref a),(.inr "told",.ref b)]);have un:∀{X:Hp} {y o},aO H4 X->H4 y=none->aO H4 (upd X y o):=λs h z u e=>by rw[ai (aq e h)];exact s _ _ e
 have al:=un (o:= .dK [(.inr "on",.ref a),(.inr "told",.ref b),(.inr "born",.ref c)]) (un (o:= .lst ((List.range U.length).map λ_=>V.int 0)) (un (o:= .dK [(.inr "on",.ref a),(.inr "told",.ref b)]) (un (o:= .lst ((List.range U.length).map λ_=>V.int (-1))) (un (o:= .lst ((List.range U.length).map λ_=>V.bl false)) (un (o:= .dK []) (λ_ _ z=>z) hp) ha) hb) hp) hc) hp;have Z:∀{X:Hp} {y o},aO H2 X->H2 y=none->aO H2 (upd X y o):=λs h z u e=>by rw[ai (aq e h)];exact s _ _ e
 have n2:∀{y},H4 y=none->H2 y=none:=λ{y} h=>by
  cases z:H2 y with
  |none=>rfl
  |some o=>rw[a5 _ _ z] at h;cases h
 have bm:=Z (o:= .dK [(.inr "on",.ref a),(.inr "told",.ref b),(.inr "born",.ref c)]) (Z (o:= .lst ((List.range U.length).map λ_=>V.int 0)) (Z (o:= .dK [(.inr "on",.ref a),(.inr "told",.ref b)]) (Z (o:= .lst ((List.range U.length).map λ_=>V.int (-1))) (Z (o:= .lst ((List.range U.length).map λ_=>V.bl false)) (Z (o:= .dK []) (λ_ _ z=>z) (n2 hp)) (n2 ha)) (n2 hb)) (n2 hp)) (n2 hc)) (n2 hp);obtain⟨a4,e10⟩:∃a4,a4=upd (upd (upd (upd (upd (upd H4 p (.dK [])) a (.lst ((List.range U.length).map λ_=>V.bl false))) b (.lst ((List.range U.length).map λ_=>V.int (-1)))) p (.dK [(.inr "on",.ref a),(.inr "told",.ref b)])) c (.lst ((List.range U.length).map λ_=>V.int 0))) p (.dK [(.inr "on",.ref a),(.inr "told",.ref b),(.inr "born",.ref c)]):=⟨_,rfl⟩;erw[iE p a4 (mE rfl (by rw[e10];exact TH.k (k:= .inr "born") (fy:=[(.inr "on",.ref a),(.inr "told",.ref b)]) (by rw[ai (Ne.symm pc),ae];rfl) (aV (by show 2<=1000;decide))) ?_)];rw[<- e10] at sb al;have a1:=bP.same bm;generalize upd (upd (upd (upd (upd (upd H2 p (.dK [])) a (.lst ((List.range U.length).map λ_=>V.bl false))) b (.lst ((List.range U.length).map λ_=>V.int (-1)))) p (.dK [(.inr "on",.ref a),(.inr "told",.ref b)])) c (.lst ((List.range U.length).map λ_=>V.int 0))) p (.dK [(.inr "on",.ref a),(.inr "told",.ref b),(.inr "born",.ref c)])=H0 at sb L a1;have n0:0<U.length:=af5.mpr ok.ne;have a2:=G.I.same al hR;obtain⟨es,g1,g2,g3,g4,g5⟩:=abU ok;obtain⟨C,dx,fs,D,hC,l1,_⟩:=G.I.inst a2;lk;erw[dJ D ⟨hC,rfl,rfl⟩ l1 ?_];erw[pq x _ F dx fs (mq rfl a2 D (λq7 H7 s7 bN ra=>?_))];have ra:Ig K H7 q7 (es.map (Qs U)):=by rwa[<- g2]
 have ax:=sb.same s7;lk;erw[UB B p a b c q7 U ls0 es 0 0 none (an9 rfl (a1.same ax.1) (L.same ax.1) ok ra (λe he=>⟨(g3 e he).1,by rw[(g3 e he).2];exact⟨afS _,afS _⟩⟩) (Bf λe he=>(g3 e he).2) g4 (λH9 b9 l9=>?_))];obtain⟨b0,p1,p2,p3,p4⟩:=ax.put L b9 l9;have r9:R H9 x (U,new U,0) F:=G.I.mono (λy o f z=>b9 y o (p4 y f).1 (p4 y f).2.1 (p4 y f).2.2 z) (G.I.same s7 a2);have aF:=a1.but L n0 p3;have bL:fk K H9 sa (ns.map V.int):=fk.ad9 bn (λo z=>⟨aq z ha,aq z hb,aq z hc⟩) (((iJ.of_same al).trans (iJ.of_same s7)).trans b9);obtain⟨C,dx,fs,D,hC,l1,_⟩:=G.I.inst r9;lk;erw[dJ D ⟨hC,rfl,rfl⟩ l1 ?_];erw[pq x _ F dx fs (mq rfl r9 D (λq8 H8 s8 a6 ap=>?_))];obtain⟨rs,ad,O,_⟩:=ap;have O:rs.length=(new U).book.length:=O;lk;erw[iE q8 _ (mE rfl (.inl (fk.of ad)) ?_)];rw[gm,O];lk;exact hn H8 b0 B p x a b c U (run ls0 es) F (fk.same bL s8) ok aG (G.I.same s8 r9) (p1.same s8) aF p2 g5
end
open PySem L2 Shp Nm Tr Hs Hm Hr Lw PySem.NumText
def all_mk{l:PySem.W.OpenLaw}{w:World}{K:PySem.W.Frag}{h:Heap}{mg:Str->Option Value}{fa:Addr}(X:K.In h)(G:h.Ns mainGlobals mg)(eb:mg "law"=some (.ref fa))
  {am Rj J5 O8 Hk mB jD iU lu my jb iM mG gE iW ka jJ gA iu ia kh ie fY gF fI gD fR gg d0 zu xI sy AM A5 Bw AQ iO zh zo BH wF x6 AN ji vG sE mx Rr J7 xF Eh Kg sv bL lV pZ ny pQ zv jS hV md uV me uX fG kT jt AO uW uO ox sO mP JU DV uY FF u6 B6 DX DP mH zy Hl vU zp GV Xc J0 Xv wY BC V6 WY Sy Ks Yu Vp W8 RZ Ri NJ ax ik Hb fV jq HU eD cU yf Sb y D L N J M r Mw KS BG rO oh oG:Addr}
  {Mt DG z9 Ay:Value}
  {Ya Wb LJ CN Ac Al:Option Addr}
  {WJ Yj Lg Cv Ag zB:Array (Option Value)}
  {Qk Nw E5 Pr Qq EO LH FJ P9 PQ QO P6 Qd xg AA Ar wD wG xG xW:Tok}
  {ZF ZQ Ov EU BV Bp:Nat}
  (Z:Nos K ["ValueError","all","enumerate","int","isinstance","len","list","min","range","str","sum"])
  (Tv:PySem.W.nsIn K mainGlobals "FIGURES"=some (some (.str "0123456789" Qk)))
  (P0:PySem.W.nsIn K mainGlobals "GREATEST"=some (some (.int 1000000 Nw)))
  (HZ:PySem.W.nsIn K mainGlobals "MOST_FIGURES"=some (some (.int 7 E5)))
  (UW:PySem.W.nsIn K mainGlobals "LETTERS"=some (some (.str "abcdefghijklmnopqrstuvwxyz" Pr)))
  (UX:PySem.W.nsIn K mainGlobals "LONGEST"=some (some (.int 12 Qq)))
  (GJ:PySem.W.nsIn K mainGlobals "FEWEST_WORDS"=some (some (.int 6 EO)))
  (OQ:PySem.W.nsIn K mainGlobals "MOST_ROWS"=some (some (.int 64 LH)))
  (Jl:PySem.W.nsIn K mainGlobals "MOST_BLANKS"=some (some (.int 16 FJ)))
  (dt:Gls K [("bit",am),("below",Rj),("without",J5),("recent",O8),("too_many",Hk),("standing_of",zu),("standings_of",xI),("built",Rr),("made_of",J7),("told_plainly",xF),("number_in",Eh),("is_name",Kg),("leaf_in",JU),("minder_in",DV),("by_first_word",uY),("child_in",FF),("passed_over",zy),("words_in",Hl),("blanks_ahead",vU),("stands_well",zp),("take_row",GV),("read",Xc),("_law_cell_at",J0),("_law_name",Xv),("_law_minder_words",wY),("_law_leaf_words",BC),("_law_tree",V6),("_law_text",WY),("_law_tried",Sy),("_law_stopped",Ks),("_law_deed",Yu),("_law_last",Vp),("_law_ends",W8),("_law_entry",RZ),("_law_turns",Ri),("_law_walked",NJ),("law",ax),("MinderError",ik),("NoNumber",Hb),("NoLeaf",fV)])
  (dQ:Gls K [("NotOn",jq),("Standing",HU),("LeafStanding",eD),("MinderStanding",cU),("House",yf),("Child",Sb),("Leaf",y),("Steady",D),("Faller",L),("Minder",N),("AllMinder",J),("RestMinder",M),("Tree",r),("FALLS",Mw),("KEEPS",KS)])
  (Yl:K.lookup Mw=some ⟨.type "tuple",Ya,.seq #[.str "fallen" P9,.str "gave up" PQ] ZF,WJ⟩)
  (X4:K.lookup KS=some ⟨.type "tuple",Wb,.seq #[.str "always" QO,.str "fallen" P6,.str "never" Qd] ZQ,Yj⟩)
  (E8:Mts K eD [("begin",lu),("is_off",jD),("step",mG),("steps_at",jb),("tell",my),("told_end",iM),("__init__",iU)])
  (BK:Mts K cU [("begin",jJ),("forget",iW),("give_up",ie),("go_down",ia),("has_enough",fI),("is_off",jD),("last_left",fR),("last_word",fY),("mind",ka),("not_off",iu),("note_end",gF),("steps_at",gA),("tell",kh),("to_be_answered",d0),("turn_back",gg),("turn_for",gD),("__init__",gE)])
  (Xg:Mts K yf [("answer",vG),("answer_waiting",ji),("begin",zo),("end_by",wF),("end_turning",mx),("hear",AN),("put_away",sE),("rows",AQ),("settle",x6),("standing_called",iO),("stop",Bw),("tell",BH),("trip",A5),("turn",AM),("write",zh),("__init__",sy)])
  (YI:Mts K y [("begun_again",bL),("end_at",zv),("leaf",pZ),("words",ny),("work_words",pQ),("__init__",lV)])
  (Uo:Mts K D [("begun_again",bL),("end_at",uV),("leaf",pZ),("words",ny),("work_words",md),("worked_out",hV),("__init__",jS)])
  (S6:Mts K L [("begun_again",bL),("end_at",uX),("leaf",pZ),("words",ny),("work_words",me),("worked_out",hV),("__init__",jS)])
  (Ut:Mts K N [("begun_again",bL),("chosen",uW),("leaf",kT),("way",AO),("words",jt),("__init__",fG)])
  (Mf:Mts K J [("begun_again",bL),("chosen",ox),("leaf",kT),("way",uO),("words",jt),("__init__",fG)])
  (JC:Mts K M [("begun_again",bL),("chosen",mP),("leaf",kT),("way",sO),("words",jt),("__init__",fG)])
  (Zf:Mts K r [("find",DX),("minder_above",mH),("names",B6),("take",DP),("__init__",u6)])
  (xH:ByV K HU "__init__" mB)
  (B9:ByV K Sb "__init__" sv)
  (Cn:ByV K y "__init__" lV)
  (V0:aM K am "bit" "bit" VZ .none/\aM K Rj "below" "below" Mi .none/\aM K J5 "without" "without" Cq .none/\aM K O8 "recent" "recent" G8 .none/\aM K Hk "too_many" "too_many" Aq .none/\aM K mB "__init__" "Standing.__init__" gN .none/\aM K jD "is_off" "Standing.is_off" jQ .none/\aM K iU "__init__" "LeafStanding.__init__" eT .none/\aM K lu "begin" "LeafStanding.begin" fU .none/\aM K my "tell" "LeafStanding.tell" hX .none/\aM K jb "steps_at" "LeafStanding.steps_at" eF .none/\aM K iM "told_end" "LeafStanding.told_end" eN .none/\aM K mG "step" "LeafStanding.step" gP .none/\aM K gE "__init__" "MinderStanding.__init__" du .none/\aM K iW "forget" "MinderStanding.forget" cC .none/\aM K ka "mind" "MinderStanding.mind" fE .none/\aM K jJ "begin" "MinderStanding.begin" eW .none/\aM K gA "steps_at" "MinderStanding.steps_at" dq .none/\aM K iu "not_off" "MinderStanding.not_off" dY .none/\aM K ia "go_down" "MinderStanding.go_down" dU .none/\True)
  (V1:aM K kh "tell" "MinderStanding.tell" fB .none/\aM K ie "give_up" "MinderStanding.give_up" dX .none/\aM K fY "last_word" "MinderStanding.last_word" cW .none/\aM K gF "note_end" "MinderStanding.note_end" dw .none/\aM K fI "has_enough" "MinderStanding.has_enough" cO .none/\aM K gD "turn_for" "MinderStanding.turn_for" dA .none/\aM K fR "last_left" "MinderStanding.last_left" cZ .none/\aM K gg "turn_back" "MinderStanding.turn_back" cY .none/\aM K d0 "to_be_answered" "MinderStanding.to_be_answered" cc .none/\aM K zu "standing_of" "standing_of" qU .none/\aM K xI "standings_of" "standings_of" n9 .none/\aM K sy "__init__" "House.__init__" kG .none/\aM K AM "turn" "House.turn" uc .none/\aM K A5 "trip" "House.trip" tQ .none/\aM K Bw "stop" "House.stop" ua .none/\aM K AQ "rows" "House.rows" uH .none/\aM K iO "standing_called" "House.standing_called" eI .none/\aM K zh "write" "House.write" qy .none/\aM K zo "begin" "House.begin" qK .none/\aM K BH "tell" "House.tell" tq .none/\True)
  (V2:aM K wF "end_by" "House.end_by" nV .none/\aM K x6 "settle" "House.settle" ow .none/\aM K AN "hear" "House.hear" ju .none/\aM K ji "answer_waiting" "House.answer_waiting" eU .none/\aM K vG "answer" "House.answer" nM .none/\aM K sE "put_away" "House.put_away" kF .none/\aM K mx "end_turning" "House.end_turning" gZ .none/\aM K Rr "built" "built" Mq .none/\aM K J7 "made_of" "made_of" DJ .none/\aM K xF "told_plainly" "told_plainly" n8 .none/\aM K Eh "number_in" "number_in" vM (.ref BG)/\aM K Kg "is_name" "is_name" Dz .none/\aM K sv "__init__" "Child.__init__" kD .none/\aM K bL "begun_again" "Child.begun_again" gW .none/\aM K lV "__init__" "Leaf.__init__" lQ (.ref rO)/\aM K pZ "leaf" "Leaf.leaf" vZ .none/\aM K ny "words" "Leaf.words" tZ .none/\aM K pQ "work_words" "Leaf.work_words" jI .none/\aM K zv "end_at" "Leaf.end_at" qo .none/\aM K jS "__init__" "Worker.__init__" jo (.ref oh)/\True)
  (V3:aM K hV "worked_out" "Worker.worked_out" gI .none/\aM K md "work_words" "Steady.work_words" gS .none/\aM K uV "end_at" "Steady.end_at" lE .none/\aM K me "work_words" "Faller.work_words" gO .none/\aM K uX "end_at" "Faller.end_at" lD .none/\aM K fG "__init__" "Minder.__init__" jk (.ref oG)/\aM K kT "leaf" "Minder.leaf" qw .none/\aM K jt "words" "Minder.words" nT .none/\aM K AO "way" "Minder.way" tV .none/\aM K uW "chosen" "Minder.chosen" lW .none/\aM K uO "way" "AllMinder.way" lz .none/\aM K ox "chosen" "AllMinder.chosen" iC .none/\aM K sO "way" "RestMinder.way" kr .none/\aM K mP "chosen" "RestMinder.chosen" gH .none/\aM K JU "leaf_in" "leaf_in" Co .none/\aM K DV "minder_in" "minder_in" wz .none/\aM K uY "by_first_word" "by_first_word" lG .none/\aM K FF "child_in" "child_in" Av .none/\aM K u6 "__init__" "Tree.__init__" lS .none/\aM K B6 "names" "Tree.names" uF .none/\True)
  (V4:aM K DX "find" "Tree.find" wm .none/\aM K DP "take" "Tree.take" xx .none/\aM K mH "minder_above" "Tree.minder_above" g8 .none/\aM K zy "passed_over" "passed_over" qP .none/\aM K Hl "words_in" "words_in" zL .none/\aM K vU "blanks_ahead" "blanks_ahead" nZ .none/\aM K zp "stands_well" "stands_well" rm .none/\aM K GV "take_row" "take_row" oK .none/\aM K Xc "read" "read" PZ .none/\aM K J0 "_law_cell_at" "_law_cell_at" DC .none/\aM K Xv "_law_name" "_law_name" Gi .none/\aM K wY "_law_minder_words" "_law_minder_words" oO .none/\aM K BC "_law_leaf_words" "_law_leaf_words" jn .none/\aM K V6 "_law_tree" "_law_tree" Az .none/\aM K WY "_law_text" "_law_text" Pg .none/\aM K Sy "_law_tried" "_law_tried" KL .none/\aM K Ks "_law_stopped" "_law_stopped" CL .none/\aM K Yu "_law_deed" "_law_deed" QT .none/\aM K Vp "_law_last" "_law_last" PD .none/\aM K W8 "_law_ends" "_law_ends" Pw .none/\True)
  (V5:aM K RZ "_law_entry" "_law_entry" KW .none/\aM K Ri "_law_turns" "_law_turns" MD .none/\aM K NJ "_law_walked" "_law_walked" GW .none/\aM K ax "law" "law" Np .none/\True)
  (Na:K.lookup BG=some ⟨Mt,LJ,.seq #[.int 1000000 xg] Ov,Lg⟩)
  (Fd:K.lookup rO=some ⟨DG,CN,.seq #[.int 0 AA,.int 0 Ar] EU,Cv⟩)
  (Br:K.lookup oh=some ⟨z9,Ac,.seq #[.int 0 wD,.int 0 wG] BV,Ag⟩)
  (A8:K.lookup oG=some ⟨Ay,Al,.seq #[.int 1 xG,.int 1 xW] Bp,zB⟩)
  (E6:EW K eD)
  (Bq:EW K cU)
  (Xa:EW K yf)
  (Z4:EW K y)
  (UY:EW K D)
  (TB:EW K L)
  (TZ:EW K N)
  (LY:EW K J)
  (IQ:EW K M)
  (c8:EW K r)
  (E2:NoX K eD ["asked","begun_at","child","coming","falls","gave_up","good","granted","leaving","minded","minder","needed","place","state","steps","waiting"])
  (A1:NoX K cU ["asked","begun_at","child","coming","falls","gave_up","good","granted","leaving","minded","minder","needed","place","state","steps","waiting"])
  (Xy:NoX K yf ["clock","ends","entries","standings","tree"])
  (Zr:NoX K y ["grace","keep","many","most","name","slow","span"])
  (TQ:NoX K D ["grace","keep","many","most","name","slow","span"])
  (Up:NoX K L ["grace","keep","many","most","name","slow","span"])
  (SU:NoX K N ["grace","keep","many","most","name","slow","span"])
  (MP:NoX K J ["grace","keep","many","most","name","slow","span"])
  (Jc:NoX K M ["grace","keep","many","most","name","slow","span"])
  (dL:NoX K r ["above","blanks","children","places"])
  (EH:MkV K eD)
  (AL:MkV K cU)
  (Vv:MkV K yf)
  (ZD:MkV K y)
  (SH:MkV K D)
  (UI:MkV K L)
  (UH:MkV K N)
  (Mo:MkV K J)
  (Jk:MkV K M)
  (YA:MkV K r)
  (vm:PySem.W.mroIn K fV (.ref ik)=some true)
  (CU:PySem.W.mroIn K fV (.ref fV)=some true)
  (Ex:PySem.W.mroIn K fV (.ref jq)=some false)
  (wR:PySem.W.mroIn K jq (.ref ik)=some true)
  (E0:PySem.W.mroIn K jq (.ref fV)=some false)
  (xO:PySem.W.mroIn K jq (.ref jq)=some true)
  (q9:PySem.W.excIn K ik bmV "ValueError.__new__"=true)
  (zR:PySem.W.excIn K Hb bmV "ValueError.__new__"=true)
  (G4:PySem.W.excIn K fV bmV "ValueError.__new__"=true)
  (m7:PySem.W.excIn K jq bmV "ValueError.__new__"=true)
  (TF:aaj K fV)
  (Di:IsC K fV)
  (Vw:aaj K jq)
  (F9:IsC K jq)
  (wq:y≠D)
  (we:y≠L)
  (vR:y≠N)
  (p8:y≠J)
  (oR:y≠M)
  (sW:D≠L)
  (sC:D≠N)
  (mj:D≠J)
  (lj:D≠M)
  (rN:L≠N)
  (mm:L≠J)
  (lg:L≠M)
  (mw:N≠J)
  (k8:N≠M)
  (iV:J≠M)
  (uU:fV≠jq):
  ∃fd:FuncData,(∀(s:Shared) (u:Value),BindsTo s fd ⟨[u],[]⟩ [("_law_script",u)])/\∀dH:Heap,K.In dH->dH.Ns mainGlobals mg->aC l.prog w K mg dH (fw l.prog w) true 63 fa fd ["_law_script"] (RP K):=by
 obtain⟨K6,cE,O5,d1,MG,dr,b4,ec,YD,dc,b2,_⟩:=Z;have T:Txt mg:=⟨afu X G K6,afu X G cE,afu X G O5,afu X G d1,afu X G MG,afu X G dr,afu X G b4,afu X G ec,afu X G YD,afu X G dc,afu X G b2⟩;have nJ:=ql X G Tv;have zN:=ql X G P0;have og:=ql X G HZ;have C4:=ql X G UW;have CG:=ql X G UX;have eR:=ql X G GJ;have xh:=ql X G OQ;have qz:=ql X G Jl;obtain⟨ef,YR,Ud,VE,Q5,Ju,Gf,Zh,T8,FP,NW,U2,UM,NA,EF,Pp,IS,Q4,HH,Jt,Pn,bt,Tt,c3,Ik,L7,c5,ce,Z1,SR,dz,a8,bZ,Zi,b0,XW,bn,JD,QL,WU,_⟩:=dt;obtain⟨ZX,QC,GY,Cs,YN,Zm,cN,Yc,Wt,Wa,NY,LI,cF,b1,YS,_⟩:=dQ;have Oo:=ql X G NW;have qr:=ql X G JD;have zC:=ql X G QL;have Ca:=ql X G WU;have kK:=ql X G ZX;have Pm:=ql X G QC;have GI:=ql X G GY;have Cz:=ql X G Cs;have YZ:=ql X G YN;have YE:=ql X G Zm;have WW:=ql X G cN;have Wr:=ql X G Yc;have WN:=ql X G Wt;have WO:=ql X G Wa;have N8:=ql X G NY;have KP:=ql X G LI;have cT:=ql X G cF;have pR:=ql X G b1;have Mg:=ql X G YS;have qh:∀H:Hp,l5 K H Mw [V.str "fallen",V.str "gave up"]:=λH=>.inr ⟨_,_,_,Yl,rfl,rfl,afC (aV (show 2<=1000 by decide)),(.cons ⟨_,rfl⟩ (.cons ⟨_,rfl⟩ .nil))⟩;have L6:∀H:Hp,l5 K H KS [V.str "always",V.str "fallen",V.str "never"]:=λH=>.inr ⟨_,_,_,X4,rfl,rfl,afC (aV (show 3<=1000 by decide)),(.cons ⟨_,rfl⟩ (.cons ⟨_,rfl⟩ (.cons ⟨_,rfl⟩ .nil)))⟩;obtain⟨vd,uB,wU,qt,vT,qO,qQ,_⟩:=E8;obtain⟨so,ir,pG,pz,lC,qp,mW,nG,uC,o8,oz,oI,tE,jU,mZ,nU,nW,_⟩:=BK;obtain⟨Ey,rX,Io,EG,xR,JG,AI,IC,Es,qL,Je,Jb,Jd,IJ,Iq,A4,_⟩:=Xg;obtain⟨yt,Hi,KY,IG,zE,Dc,_⟩:=YI;obtain⟨vh,CK,Hc,E4,xE,wI,Ah,_⟩:=Uo;obtain⟨vn,Dn,Gd,E3,xU,vW,zU,_⟩:=S6;obtain⟨vA,CO,Hq,IV,EB,zQ,_⟩:=Ut;obtain⟨qR,yU,Bt,Cm,zP,vz,_⟩:=Mf;obtain⟨o7,xD,zK,BJ,yP,uj,_⟩:=JC;obtain⟨Ml,vH,JB,KU,DB,_⟩:=Zf;obtain⟨bi,Zv,SN,XC,QB,mS,jz,i7,lq,mT,iQ,sS,ml,gv,i9,vB,jr,gG,rb,qI,_⟩:=V0;obtain⟨kc,qZ,nK,pA,mX,pM,nY,oY,j8,II,G0,rH,Ld,K3,Mr,Lj,sf,Ja,zb,Bi,_⟩:=V1;obtain⟨Ie,GB,Mx,uJ,GR,sx,mz,Za,Tu,GP,NB,Uw,sP,bN,lY,pV,nk,pW,zj,jW,_⟩:=V2;obtain⟨gY,mM,uM,mD,uT,fH,kM,jB,By,uP,uS,oZ,rZ,mO,Uu,OE,EZ,Q3,uQ,Lq,_⟩:=V3;obtain⟨N6,Nk,yS,JE,PU,Gp,IW,Qb,ba,S7,cs,G5,L0,c2,ad,Zj,UG,dy,dk,b9,_⟩:=V4;obtain⟨Z9,Zc,Vy,ee,_⟩:=V5;obtain⟨_,mU⟩:=mS.d;have yW:=mU.binds (ps:=hJ) λ_ _ _ _ _ _=>ln2 λ_ _=>rfl;obtain⟨_,jA⟩:=jz.d;have qc:=jA.binds (ps:=jN) λ_ _ _ _ _ _=>IH λ_=>rfl;obtain⟨_,iY⟩:=i7.d;have tj:=iY.binds (ps:=eO) λ_ _ _ _ _ _=>ln2 λ_ _=>rfl;obtain⟨_,kX⟩:=lq.d;have vP:=kX.binds (ps:=fQ) λ_ _ _ _ _ _=>ln2 λ_ _=>rfl;obtain⟨_,mJ⟩:=mT.d;have yE:=mJ.binds (ps:=gX) λ_ _ _ _ _ _=>IH λ_=>rfl;obtain⟨_,i8⟩:=iQ.d;have rL:=i8.binds (ps:=eK) λ_ _ _ _ _ _=>ln2 λ_ _=>rfl;obtain⟨_,mQ⟩:=ml.d;have yJ:=mQ.binds (ps:=gM) λ_ _ _ _ _ _=>IH λ_=>rfl;obtain⟨_,gw⟩:=gv.d;have pk:=gw.binds (ps:=dh) λ_ _ _ _ _ _=>ln2 λ_ _=>rfl;obtain⟨_,jh⟩:=jr.d;have tU:=jh.binds (ps:=eV) λ_ _ _ _ _ _=>ln2 λ_ _=>rfl;obtain⟨_,gu⟩:=gG.d;have o5:=gu.binds (ps:=dj) λ_ _ _ _ _ _=>ln2 λ_ _=>rfl;obtain⟨_,kf⟩:=kc.d;have vb:=kf.binds (ps:=fF) λ_ _ _ _ _ _=>IH λ_=>rfl;obtain⟨_,sT⟩:=rH.d;have CQ:=sT.binds (ps:=ky) λ_ _ _ _ _ _=>ln2 λ_ _=>rfl;obtain⟨_,zk⟩:=zb.d;have y9:=zk.binds (ps:=qA) λ_ _ _ _ _ _=>ln2 λ_ _=>rfl;obtain⟨_,BI⟩:=Bi.d;have BS:=BI.binds (ps:=ug) λ_ _ _ _ _ _=>ln2 λ_ _=>rfl;obtain⟨_,s9⟩:=sx.d;have Cw:=s9.binds (ps:=kC) λ_ _ _ _ _ _=>ln2 λ_ _=>rfl;obtain⟨_,mK⟩:=mz.d;have yC:=mK.binds (ps:=gQ) λ_ _ _ _ _ _=>ln2 λ_ _=>rfl;obtain⟨_,xk⟩:=NB.d;have I0:=xk.Mn (ps:=xj) (ds:=[.int 1000000 xg]) Na rfl λ_ _ _ _ _ _=>lnD (n:=1) rfl (IH λ_=>⟨_,rfl,rfl⟩);obtain⟨_,sU⟩:=sP.d;have Cu:=sU.binds (ps:=kB) λ_ _ _ _ _ _=>ln3 λ_ _ _=>rfl;obtain⟨_,bP⟩:=bN.d;have b8:=bP.binds (ps:=g9) λ_ _ _ _ _ _=>ln2 λ_ _=>rfl;obtain⟨_,lX⟩:=lY.d;have p7:=lX.Mn (ps:=fv) (ds:=[]) Fd rfl λ_ _ _ _ _ _=>lnD (n:=5) rfl (ln5 λ_ _ _ _ _=>⟨_,rfl,rfl⟩);obtain⟨_,qe⟩:=pV.d;have wM:=qe.binds (ps:=wO) λ_ _ _ _ _ _=>IH λ_=>rfl;obtain⟨_,mY⟩:=nk.d;have tD:=mY.binds (ps:=uq) λ_ _ _ _ _ _=>IH λ_=>rfl;obtain⟨_,qi⟩:=pW.d;have Cb:=qi.binds (ps:=jy) λ_ _ _ _ _ _=>IH λ_=>rfl;obtain⟨_,y8⟩:=zj.d;have Jr:=y8.binds (ps:=qB) λ_ _ _ _ _ _=>ln2 λ_ _=>rfl;obtain⟨_,jT⟩:=jW.d;have mF:=jT.Mn (ps:=bY) (ds:=[]) Br rfl λ_ _ _ _ _ _=>lnD (n:=6) rfl (ln6 λ_ _ _ _ _ _=>⟨_,rfl,rfl⟩);obtain⟨_,gU⟩:=gY.d;have mL:=gU.binds (ps:=hZ) λ_ _ _ _ _ _=>ln2 λ_ _=>rfl;obtain⟨_,mr⟩:=mM.d;have yy:=mr.binds (ps:=g7) λ_ _ _ _ _ _=>IH λ_=>rfl;obtain⟨_,uL⟩:=uM.d;have EV:=uL.binds (ps:=lR) λ_ _ _ _ _ _=>ln2 λ_ _=>rfl;obtain⟨_,mh⟩:=mD.d;have yM:=mh.binds (ps:=gJ) λ_ _ _ _ _ _=>IH λ_=>rfl;obtain⟨_,u7⟩:=uT.d;have E9:=u7.binds (ps:=lT) λ_ _ _ _ _ _=>ln2 λ_ _=>rfl;obtain⟨_,fK⟩:=fH.d;have hU:=fK.Mn (ps:=dM) (ds:=[]) A8 rfl λ_ _ _ _ _ _=>lnD (n:=5) rfl (ln5 λ_ _ _ _ _=>⟨_,rfl,rfl⟩);obtain⟨_,kQ⟩:=kM.d;have rh:=kQ.binds (ps:=qq) λ_ _ _ _ _ _=>IH λ_=>rfl;obtain⟨_,jK⟩:=jB.d;have oU:=jK.binds (ps:=oV) λ_ _ _ _ _ _=>IH λ_=>rfl;obtain⟨_,A3⟩:=By.d;have Ms:=A3.binds (ps:=tP) λ_ _ _ _ _ _=>IH λ_=>rfl;obtain⟨_,uN⟩:=uP.d;have EJ:=uN.binds (ps:=lI) λ_ _ _ _ _ _=>ln5 λ_ _ _ _ _=>rfl;obtain⟨_,u0⟩:=uS.d;have EC:=u0.binds (ps:=ma) λ_ _ _ _ _ _=>IH λ_=>rfl;obtain⟨_,om⟩:=oZ.d;have zH:=om.binds (ps:=iI) λ_ _ _ _ _ _=>ln5 λ_ _ _ _ _=>rfl;obtain⟨_,sZ⟩:=rZ.d;have Dv:=sZ.binds (ps:=kH) λ_ _ _ _ _ _=>IH λ_=>rfl;obtain⟨_,mR⟩:=mO.d;have yZ:=mR.binds (ps:=gR) λ_ _ _ _ _ _=>ln5 λ_ _ _ _ _=>rfl;obtain⟨_,u9⟩:=uQ.d;have Et:=u9.binds (ps:=lU) λ_ _ _ _ _ _=>IH λ_=>rfl;obtain⟨_,aG⟩:=ee.d;have HP:=E6.d;have CD:=Bq.d;have Y2:=Xa.d;have bd:=Z4.d;have Ve:=UY.d;have XH:=TB.d;have W0:=TZ.d;have OI:=LY.d;have LW:=IQ.d;have da:=c8.d;obtain⟨vx,qH,vD,uh,vf,sk,wg,rG,rK,ui,tI,um,vj,vq,vt,sd,_⟩:=E2;obtain⟨sL,nQ,rM,qV,sX,pF,ub,pH,pC,qC,rq,qS,sQ,rC,rS,o6,_⟩:=A1;obtain⟨FL,IA,C8,Ab,Jj,_⟩:=Xy;obtain⟨IK,Mz,Me,ME,KH,Ly,LP,_⟩:=Zr;obtain⟨EE,Ib,FN,HE,Il,GZ,FV,_⟩:=TQ;obtain⟨EK,Ge,GF,Iu,HN,HI,GH,_⟩:=Up;obtain⟨EY,GN,HB,Gz,Gw,Hf,Hj,_⟩:=SU;obtain⟨zT,BN,B4,BF,BR,Bd,BA,_⟩:=MP;obtain⟨yx,An,z8,Aa,zO,zW,zD,_⟩:=Jc;obtain⟨Jw,Gx,DH,HW,_⟩:=dL;have xK:=lq.mt vd;have vC:=jz.mt uB;have yD:=ml.mt wU;have sN:=iQ.mt qt;have y4:=mT.mt vT;have uf:=jr.mt so;have rB:=jz.mt qp;have pB:=gG.mt oI;have ve:=kc.mt tE;have zA:=zb.mt Io;have yr:=mz.mt xR;have DF:=sx.mt AI;have Bk:=Bi.mt Jb;have zF:=bN.mt yt;have IL:=zj.mt Hi;have N5:=pV.mt KY;have K9:=nk.mt IG;have A9:=pW.mt zE;have wQ:=bN.mt vh;have ER:=uM.mt CK;have Jh:=pV.mt Hc;have HY:=nk.mt E4;have yK:=mM.mt xE;have yH:=gY.mt wI;have xY:=bN.mt vn;have El:=uT.mt Dn;have IP:=pV.mt Gd;have FI:=nk.mt E3;have yL:=mD.mt xU;have yQ:=gY.mt vW;have xy:=bN.mt vA;have EA:=uP.mt CO;have Jo:=kM.mt Hq;have L3:=By.mt IV;have Iy:=jB.mt EB;have sJ:=bN.mt qR;have Ai:=oZ.mt yU;have Dg:=kM.mt Bt;have EI:=uS.mt Cm;have Bu:=jB.mt zP;have qG:=bN.mt o7;have yY:=mO.mt xD;have A2:=kM.mt zK;have Dr:=rZ.mt BJ;have zV:=jB.mt yP;have FY:=i7.mk qQ EH;have Dw:=gv.mk nW AL;have Y7:=rH.mk A4 Vv;have c0:=lY.mk Dc ZD;have VG:=jW.mk Ah SH;have VO:=jW.mk zU UI;have Wn:=fH.mk zQ UH;have ND:=fH.mk vz Mo;have MO:=fH.mk uj Jk;have cf:=uQ.mk DB YA;have xa:=mS.bc xH;have BZ:=sP.bc B9;have Ct:=lY.bc Cn;have e:=eb.symm.trans (ql X G bn);cases e;erw[⟨_,aG.bl (p:=λfd=>∀(s:Shared) (u:Value),BindsTo s fd ⟨[u],[]⟩ [("_law_script",u)]) λ_ _ _ _ _ _ s v=>BindsTo.of_eq rfl,λdH _ _=>?_⟩];have nj:CF K y:=⟨bd,KH,Mz,IK,Ly,Me,ME,LP⟩;have dF:CF K D:=⟨Ve,Il,Ib,EE,GZ,FN,HE,FV⟩;have dE:CF K L:=⟨XH,HN,Ge,EK,HI,GF,Iu,GH⟩;have gn:CF K N:=⟨W0,Gw,GN,EY,Hf,HB,Gz,Hj⟩;have cI:CF K J:=⟨OI,BR,BN,zT,Bd,B4,BF,BA⟩;have cv:CF K M:=⟨LW,zO,An,yx,zW,z8,Aa,zD⟩
 have inj:∀i j:Nat,(i=0\/i=1\/i=2\/i=3\/i=4\/i=5)->(j=0\/j=1\/j=2\/j=3\/j=4\/j=5)->(λj:Nat=>match j with|0=>y|1=>D|2=>L|3=>N|4=>J|_=>M) i=(λj:Nat=>match j with|0=>y|1=>D|2=>L|3=>N|4=>J|_=>M) j->i=j:=by
  rintro i j (rfl|rfl|rfl|rfl|rfl|rfl) (rfl|rfl|rfl|rfl|rfl|rfl) h
  .rfl
  .exact absurd h wq
  .exact absurd h we
  .exact absurd h vR
  .exact absurd h p8
  .exact absurd h oR
  .exact absurd h.symm wq
  .rfl
  .exact absurd h sW
  .exact absurd h sC
  .exact absurd h mj
  .exact absurd h lj
  .exact absurd h.symm we
  .exact absurd h.symm sW
  .rfl
  .exact absurd h rN
  .exact absurd h mm
  .exact absurd h lg
  .exact absurd h.symm vR
  .exact absurd h.symm sC
  .exact absurd h.symm rN
  .rfl
  .exact absurd h mw
  .exact absurd h k8
  .exact absurd h.symm p8
  .exact absurd h.symm mj
  .exact absurd h.symm mm
  .exact absurd h.symm mw
  .rfl
  .exact absurd h iV
  .exact absurd h.symm oR
  .exact absurd h.symm lj
  .exact absurd h.symm lg
  .exact absurd h.symm k8
  .exact absurd h.symm iV
  .rfl
 obtain⟨p,e0,e1,e2,e3,e4,e5,O,B,A,ab,P,Y,ac⟩:∃p:Pl,p.c 0=y/\p.c 1=D/\p.c 2=L/\p.c 3=N/\p.c 4=J/\p.c 5=M/\p.pr 0/\p.pr 1/\p.pr 2/\p.pr 3/\p.pr 4/\p.pr 5/\(∀j,p.pr j->(j=0\/j=1\/j=2\/j=3\/j=4\/j=5)):=⟨⟨_,λj=>(j=0\/j=1\/j=2\/j=3\/j=4\/j=5),inj⟩,rfl,rfl,rfl,rfl,rfl,rfl,(.inl rfl),(.inr (.inl rfl)),(.inr (.inr (.inl rfl))),(.inr (.inr (.inr (.inl rfl)))),(.inr (.inr (.inr (.inr (.inl rfl))))),(.inr (.inr (.inr (.inr (.inr (rfl)))))),λ_ h=>h⟩;subst e0 e1 e2 e3 e4 e5;have k0:Cmt l.prog w K mg dH true 1 "Child" "__init__" (Fy K) []:=⟨_,_,_,_,_,BZ,Xr sU,YE,Cu,.nil⟩;have kL:Cmt l.prog w K mg dH true 2 "Leaf" "__init__" (Fi K) []:=⟨_,_,_,_,_,Ct,OS lX k0,WW,p7,.nil⟩;have iL:=Y8 (p:=p) nj O (OS (dH:=dH) lX k0);have iS:=U5 (p:=p) dF B (O1 (dH:=dH) jT kL);have iF:=T7 (p:=p) dE A (O1 (dH:=dH) jT kL);have i3:=DA (p:=p) (j:=3) ∅ gn ab (Ia (dH:=dH) fK k0);have i4:=DA (p:=p) (j:=4) ∅ cI P (Ia (dH:=dH) fK k0);have i5:=DA (p:=p) (j:=5) ∅ cv Y (Ia (dH:=dH) fK k0);have dd:aT l.prog w K mg dH 1 "work_words" (Ak p.rep) λC=>C=p.c 0:=λC e=>by subst e;exact⟨_,_,_,_,nj.cl,A9,Vd qi O,Cb,.nil⟩
 have bE:aT l.prog w K mg dH 1 "work_words" (Ak p.rep) λC=>C=p.c 1:=λC e=>by subst e;exact⟨_,_,_,_,dF.cl,yK,VD mr T B dF,yy,.nil⟩
 have be:aT l.prog w K mg dH 1 "work_words" (Ak p.rep) λC=>C=p.c 2:=λC e=>by subst e;exact⟨_,_,_,_,dE.cl,yL,XJ mh T A dE,yM,.nil⟩
 have ck:aT l.prog w K mg dH 1 "worked_out" (Nc p.rep) λC=>C=p.c 1:=λC e=>by subst e;exact⟨_,_,_,_,dF.cl,yH,Yo gU B (.inl rfl) dF,mL,.nil⟩
 have bv:aT l.prog w K mg dH 1 "worked_out" (Nc p.rep) λC=>C=p.c 2:=λC e=>by subst e;exact⟨_,_,_,_,dE.cl,yQ,Yo gU A (.inr rfl) dE,mL,.nil⟩
 have c1:aT l.prog w K mg dH 1 "way" (HG p.rep) λC=>C=p.c 3:=λC e=>by subst e;exact⟨_,_,_,_,gn.cl,L3,ZZ A3 ab,Ms,.nil⟩
 have cp:aT l.prog w K mg dH 1 "way" (HG p.rep) λC=>C=p.c 4:=λC e=>by subst e;exact⟨_,_,_,_,cI.cl,EI,Yz u0 P,EC,.nil⟩
 have bm:aT l.prog w K mg dH 1 "way" (HG p.rep) λC=>C=p.c 5:=λC e=>by subst e;exact⟨_,_,_,_,cv.cl,Dr,ZY sZ Y,Dv,.nil⟩
 have IF:If l.prog w K mg dH 3 p.rep p.cl:=by
  erw[⟨λe h=>Pl.mono e h,λh=>h.1,?_,?_,?_⟩]
  .rintro H a s ⟨ok,pr,dx,e⟩;erw[⟨_,dx,_,e,⟨pr,rfl⟩,?_⟩];unfold uD
   split<;>exact⟨rfl,rfl,rfl,rfl,rfl⟩
  .rintro C j ⟨z,rfl⟩;rcases ac _ z with rfl|rfl|rfl|rfl|rfl|rfl
   .exact ⟨_,_,_,_,nj.cl,K9,(Dh mY T O ∅ nj dd).mono ∅,tD,.nil⟩
   .exact ⟨_,_,_,_,dF.cl,HY,(Dh mY T B ∅ dF bE).mono ∅,tD,.nil⟩
   .exact ⟨_,_,_,_,dE.cl,FI,(Dh mY T A ∅ dE be).mono ∅,tD,.nil⟩
   .exact ⟨_,_,_,_,gn.cl,Iy,(Cy jK T ab ∅ gn c1).mono ∅,oU,.nil⟩
   .exact ⟨_,_,_,_,cI.cl,Bu,(Cy jK T P ∅ cI cp).mono ∅,oU,.nil⟩
   .exact ⟨_,_,_,_,cv.cl,zV,(Cy jK T Y ∅ cv bm).mono ∅,oU,.nil⟩
  .rintro C j ⟨z,rfl⟩;rcases ac _ z with rfl|rfl|rfl|rfl|rfl|rfl
   .exact ⟨_,_,_,_,nj.cl,N5,(He qe O ∅).mono ∅,wM,.nil⟩
   .exact ⟨_,_,_,_,dF.cl,Jh,(He qe B ∅).mono ∅,wM,.nil⟩
   .exact ⟨_,_,_,_,dE.cl,IP,(He qe A ∅).mono ∅,wM,.nil⟩
   .exact ⟨_,_,_,_,gn.cl,Jo,(FH kQ ab ∅).mono ∅,rh,.nil⟩
   .exact ⟨_,_,_,_,cI.cl,Dg,(FH kQ P ∅).mono ∅,rh,.nil⟩
   .exact ⟨_,_,_,_,cv.cl,A2,(FH kQ Y ∅).mono ∅,rh,.nil⟩
 have e:Wd l.prog w K mg dH:=trivial
 have al:∀j,p.pr j->CF K (p.c j):=by
  intro j z;rcases ac _ z with rfl|rfl|rfl|rfl|rfl|rfl
  .exact nj
  .exact dF
  .exact dE
  .exact gn
  .exact cI
  .exact cv
 have oN:=gh X G e ef bi λ_ F=>abC F;have jV:=gh X G e YR Zv λ_ F=>Wo F;have eP:=gh X G e Ud SN λ_ F=>QF F
 have hB:aT l.prog w K mg dH 3 "begun_again" (Lr p.rep) λC=>∃j,p.cl j C:=by
  rintro C ⟨j,z,rfl⟩;rcases ac _ z with rfl|rfl|rfl|rfl|rfl|rfl
  .exact ⟨_,_,_,_,nj.cl,zF,(sr bP O nj pR qh).mono ∅,b8,.nil⟩
  .exact ⟨_,_,_,_,dF.cl,wQ,(sr bP B dF pR qh).mono ∅,b8,.nil⟩
  .exact ⟨_,_,_,_,dE.cl,xY,(sr bP A dE pR qh).mono ∅,b8,.nil⟩
  .exact ⟨_,_,_,_,gn.cl,xy,(sr bP ab gn pR qh).mono ∅,b8,.nil⟩
  .exact ⟨_,_,_,_,cI.cl,sJ,(sr bP P cI pR qh).mono ∅,b8,.nil⟩
  .exact ⟨_,_,_,_,cv.cl,qG,(sr bP Y cv pR qh).mono ∅,b8,.nil⟩
 have hE:aT l.prog w K mg dH 3 "end_at" (JW p.rep) λC=>∃j,j<3/\p.cl j C:=by
  rintro C ⟨j,hj,z,rfl⟩;rcases ac _ z with rfl|rfl|rfl|rfl|rfl|rfl
  .exact ⟨_,_,_,_,nj.cl,IL,(Y4 y8 O).mono ∅,Jr,.nil⟩
  .exact ⟨_,_,_,_,dF.cl,ER,(YJ uL B ck).mono ∅,EV,.nil⟩
  .exact ⟨_,_,_,_,dE.cl,El,(Zn u7 A bv).mono ∅,E9,.nil⟩
  .exact absurd hj ∅
  .exact absurd hj ∅
  .exact absurd hj ∅
 have b3:aT l.prog w K mg dH 3 "chosen" (xX p.rep) λC=>∃j,3<=j/\p.cl j C:=by
  rintro C ⟨j,hj,z,rfl⟩;rcases ac _ z with rfl|rfl|rfl|rfl|rfl|rfl
  .exact absurd hj ∅
  .exact absurd hj ∅
  .exact absurd hj ∅
  .exact ⟨_,_,_,_,gn.cl,EA,(Qu uN ab oN).mono ∅,EJ,.nil⟩
  .exact ⟨_,_,_,_,cI.cl,Ai,(QX om P jV eP).mono ∅,zH,.nil⟩
  .exact ⟨_,_,_,_,cv.cl,yY,(Qw mR Y jV eP).mono ∅,yZ,.nil⟩
 have SI:ShI l.prog w K mg dH p.rep p.cl:=by
  erw[⟨IF,?_,hB,hE,b3⟩];rintro H a s ⟨ok,pr,dx,e⟩;erw[⟨_,dx,_,e,al _ pr,Fs s,λh3=>⟨OV h3,Rb h3⟩,λh3=>?_⟩];unfold uD;have k5:=ok.kd;have:s.kind=3\/s.kind=4\/s.kind=5:=by lia
  rcases this with z|z|z<;>rw[z]<;>exact⟨rfl,rfl⟩
 have MT:MkT l.prog w K mg dH p 3:=⟨⟨_,_,_,_,c0,iL.mono ∅,WW,p7,.nil⟩,⟨_,_,_,_,VG,iS.mono ∅,Wr,mF,.nil⟩,⟨_,_,_,_,VO,iF.mono ∅,WN,mF,.nil⟩,
  ⟨_,_,_,_,Wn,i3.mono ∅,WO,hU,.nil⟩,⟨_,_,_,_,ND,i4.mono ∅,N8,hU,.nil⟩,⟨_,_,_,_,MO,i5.mono ∅,KP,hU,.nil⟩⟩
 have nI:=gh X G e T8 Tu λ_ F=>TK F T;have C9:=gh X G e U2 Uw λ_ F=>TM F T C4 CG nJ nI;have ou:=gh X G e FP GP λ_ F=>Yy F T og nJ nI;have cx:jm l.prog w K mg dH true 3 "number_in" Sn [.int 1000000]:=⟨_,_,_,_,ab0 xk T zN ou,Oo,xk.kp,I0,.cons ⟨_,rfl⟩ .nil⟩;have Cg:=gh X G e UM Uu λ_ F=>UQ F T MT cx;have vI:=gh X G e NA OE λ_ F=>Ti F T eR MT cx;have lK:=gh X G e EF EZ λ_ F=>Pq F T Cg vI;have zG:=gh X G e Pp Q3 λ_ F=>QM F T eR Mg L6 zC zR C9 lK;have ct:CT K r:=⟨da,DH,Gx,Jw,HW⟩;have tN:=jC e ct.cl JB Lq λ_ F=>XG (p:=p) F ct al;have tK:=jC e ct.cl KU Nk λ_ F=>ZE (p:=p) F T ct al;have tA:=jC e ct.cl vH yS λ_ F=>Xh (p:=p) F T ct IF;have tF:=jC e ct.cl Ml N6 λ_ F=>Z8 (p:=p) F ct;have QN:=mkM e cT cf Et (O4 (p:=p) u9 ct);have qJ:=gh X G e IS JE λ_ F=>UJ F T;have AH:=gh X G e Q4 PU λ_ F=>Pt F T;have oj:=gh X G e HH Gp λ_ F=>U1 F T;have qX:=gh X G e Jt IW λ_ F=>Zb F T ct al IF qz tN;have zY:=gh X G e Pn Qb λ_ F=>QG F T ct xh tN tA tK zG AH oj qX;have Qp:=gh X G e bt ba λ_ F=>YK F T ct QN tN qJ zY;have q:jE (m8 r p):=ZC
 have TI:TrI l.prog w K mg dH (m8 r p) r:=by
  erw[⟨q,?_,?_⟩]
  .rintro H t U FT ⟨c,b,a,d,as,hT,rfl⟩;obtain⟨dx,h⟩:=hT.ob;exact⟨dx,_,h,rfl⟩
  .rintro C rfl;obtain⟨f,fd,ps,ds,h1,h2,h3,h4,h5⟩:=tF _ rfl;erw[⟨f,fd,ps,ds,h1,h2,(h3.mono ∅).imp ?_,h4,h5⟩];rintro vs H Q E ⟨t,U,FT,i,rfl,⟨c,b,a,d,as,hT,rfl⟩,hi,nd,_,k⟩;exact⟨t,U,c,b,a,d,as,i,rfl,hT,hi,nd,k⟩
 obtain⟨ei,eH,eL,eM⟩:∃ei:HC,ei.cH=yf/\ei.cL=eD/\ei.cM=cU:=⟨⟨_,_,_⟩,rfl,rfl,rfl⟩;subst eH eL eM;have m:CH K ei.cH:=⟨Y2,Jj,FL,C8,IA,Ab⟩;have o:CS K ei.cL:=⟨HP,vD,vq,vx,tI,vj,ui,qH,vt,um,rG,vf,wg,sd,rK,uh,sk⟩;have g:CS K ei.cM:=⟨CD,rM,rC,sL,rq,sQ,qC,nQ,rS,qS,pH,sX,ub,o6,pC,qV,pF⟩
 have Xs:aT l.prog w K mg dH 1 "is_off" (uI p.rep (m8 r p) ei) λC=>C=ei.cL\/C=ei.cM:=by
  rintro C (rfl|rfl)
  .exact ⟨_,_,_,_,o.cl,vC,NQ jA o,qc,.nil⟩
  .exact ⟨_,_,_,_,g.cl,rB,NQ jA g,qc,.nil⟩
 have Zz:=jC e g.cl ir i9 λ_ F=>Ur (R:=p.rep) (TR:=m8 r p) (ei:=ei) q F g;have Yg:=jC e g.cl ir i9 λ_ F=>Qc F g;have an:=jC e o.cl qO sS λ_ F=>P4 (R:=p.rep) (TR:=m8 r p) (ei:=ei) F o
 have db:aT l.prog w K mg dH 4 "step" (je p.rep (m8 r p) ei true (λT S i us=>us=[]/\((S.nd i).st≠"told"->0<=(S.nd i).steps/\((sh T i).kind≠0->(S.nd i).steps<=(sh T i).many))) (λT i S=>(cu T i S).2) (λT S i=>.str (cu T i S).1)) λC=>C=ei.cL:=λC e=>by
  subst e;exact⟨_,_,_,_,o.cl,yD,X2 q (λh=>(by obtain⟨C,dx,fs,a1,a2,a3,a4,a5,a6,a7⟩:=SI.I.inst h;exact⟨C,dx,fs,a1,λz=>⟨_,z,a2⟩,a6⟩)) SI.en an mQ rfl o,yJ,.nil⟩
 have a0:=jC e g.cl pz qI λ_ F=>UD (R:=p.rep) (TR:=m8 r p) (ei:=ei) q T jV F g;have c4:=jC e g.cl pG qZ λ_ F=>Tb (R:=p.rep) (TR:=m8 r p) (ei:=ei) q a0 F rfl g;have aK:=jC e g.cl o8 rb λ_ F=>Uk (R:=p.rep) (TR:=m8 r p) (ei:=ei) q T Xs o g oN F rfl;have dv:=jC e g.cl mW nY λ_ F=>Ox (R:=p.rep) (TR:=m8 r p) (ei:=ei) q T aK g F rfl;have ca:=jC e g.cl nG nK λ_ F=>OF (R:=p.rep) (TR:=m8 r p) (ei:=ei) F g;have dm:=jC e g.cl oz pA λ_ F=>Y9 (R:=p.rep) (TR:=m8 r p) (ei:=ei) q T SI o g oN F rfl;have sD:=gh X G e VE XC λ_ F=>UO F T;have z7:=gh X G e Q5 QB λ_ F=>Pu F T sD;have ed:=jC e g.cl lC mX λ_ F=>Uc (R:=p.rep) (TR:=m8 r p) (ei:=ei) q T SI g sD z7 F rfl;have ci:=jC e g.cl nU pM λ_ F=>Qa (R:=p.rep) (TR:=m8 r p) (ei:=ei) q T SI aK o g F rfl;have dK:=jC e g.cl mZ oY λ_ F=>O3 (R:=p.rep) (TR:=m8 r p) (ei:=ei) q T o g oN eP F rfl;have b5:=jC e g.cl jU j8 λ_ F=>Zk (R:=p.rep) (TR:=m8 r p) (ei:=ei) q T Xs o g oN F rfl
 have dB:∀n,2<=n->∀C s x,DtB p.rep (m8 r p) ei C s x->MethAt l.prog w K mg dH (fw l.prog w) true n "begin" C s x:=by
  rintro n hn C s x ⟨rfl,⟨rfl,rfl⟩|⟨rfl,rfl⟩⟩
  .exact ⟨_,_,_,_,o.cl,xK,(UA q kX o).mono (),vP,.nil⟩
  .exact ⟨_,_,_,_,g.cl,uf,(TC q Zz jh rfl g).mono (),tU,.nil⟩
 have dT:∀n,3<=n->∀C s x,DtT p.rep (m8 r p) ei C s x->MethAt l.prog w K mg dH (fw l.prog w) true n "tell" C s x:=by
  rintro n hn C s x ⟨rfl,⟨rfl,rfl⟩|⟨rfl,rfl⟩⟩
  .exact ⟨_,_,_,_,o.cl,y4,(VC q (λh=>(by obtain⟨C,dx,fs,a1,a2,a3,a4,a5⟩:=SI.fld h;exact⟨C,dx,fs,a1,a2,a4⟩)) mJ o).mono (),yE,.nil⟩
  .exact ⟨_,_,_,_,g.cl,ve,(WH q a0 kf rfl g).mono (),vb,.nil⟩
 have dS:∀C s x,DtS p.rep (m8 r p) ei C s x->MethAt l.prog w K mg dH (fw l.prog w) true 2 "steps_at" C s x:=by
  rintro C s x ⟨rfl,⟨rfl,rfl⟩|⟨rfl,rfl⟩⟩
  .exact ⟨_,_,_,_,o.cl,sN,Tq Xs i8 rfl o q,rL,.nil⟩
  .exact ⟨_,_,_,_,g.cl,pB,SX gu,o5,.nil⟩
 have L4:=jC e m.cl Iq Ja λ_ F=>X1 (R:=p.rep) (TR:=m8 r p) (ei:=ei) q SI o g m F
 have U9:∀d,aT l.prog w K mg dH (d+2) "begin" (lO p.rep (m8 r p) ei (λT i _=>bW T d i) (λT i S=>a9 T d i S)) λC=>C=ei.cH:=by
  intro d
  induction d with
  |zero=>
   rintro C rfl;exact⟨_,_,_,_,m.cl,zA,Oc λvs H Q E ⟨_,_,_,_,_,_,_,_,_,_,_,_,h,_⟩=>h,y9,.nil⟩
  |succ d ih=>
   rintro C rfl;exact⟨_,_,_,_,m.cl,zA,Ua (n:=d+2) q T o g m d () (dB _ ()) L4 ih zk,y9,.nil⟩
 have LU:=jC e m.cl EG Ie λ_ F=>UR (R:=p.rep) (TR:=m8 r p) (ei:=ei) q o g m L4 F;have co:∀n,12<=n->aT l.prog w K mg dH n "end_turning" (lO p.rep (m8 r p) ei (λT i _=>fm T i=false) aR) λC=>C=ei.cH:=λn hn C e=>by subst e;exact⟨_,_,_,_,m.cl,yr,(FZ (n:=11) q T o g m ∅ ca LU dK (U9 9) mK).mono (),yC,.nil⟩
 have aF:∀d,aT l.prog w K mg dH (2*d+20) "tell" (lO p.rep (m8 r p) ei (λT i _=>bW T d i) (λT i S=>cz T d i S)) (λC=>C=ei.cH)->aT l.prog w K mg dH (2*d+21) "put_away" (lO p.rep (m8 r p) ei (λT i _=>fm T i=false/\bW T (d+1) i) (λT i S=>aJ T d i S)) λC=>C=ei.cH:=λd ht C e=>by
  subst e;exact⟨_,_,_,_,m.cl,DF,OL (n:=2*d+20) q T o g m d () dv (co _ ()) ht s9,Cw,.nil⟩
 have aN:∀d,aT l.prog w K mg dH (2*d+20) "tell" (lO p.rep (m8 r p) ei (λT i _=>bW T d i) (λT i S=>cz T d i S)) λC=>C=ei.cH:=by
  intro d
  induction d with
  |zero=>
   rintro C rfl;exact⟨_,_,_,_,m.cl,Bk,Oc λvs H Q E ⟨_,_,_,_,_,_,_,_,_,_,_,_,h,_⟩=>h,BS,.nil⟩
  |succ d ih=>
   rintro C rfl;exact⟨_,_,_,_,m.cl,Bk,Vr (n:=2*d+21) q T SI o g m d () (dT _ ()) L4 LU an (aF d ih) BI,BS,.nil⟩
 have ap:aT l.prog w K mg dH 39 "put_away" (lO p.rep (m8 r p) ei (λT i _=>fm T i=false/\bW T 10 i) (λT i S=>aJ T 9 i S)) λC=>C=ei.cH:=aF 9 (aN 9);have bo:=jC e m.cl Ey GR λ_ F=>Pj (n:=39) q T o g m ∅ ed L4 c4 ci ap F;have cr:=jC e m.cl rX uJ λ_ F=>Nz (n:=40) q T o g m ∅ b5 bo F;have bg:aT l.prog w K mg dH 41 "put_away" (lO p.rep (m8 r p) ei (λT i _=>fm T i=false/\bW T 10 i) (λT i S=>aJ T 9 i S)) λC=>C=ei.cH:=Sj ap ∅;have cd:=jC e m.cl JG Mx λ_ F=>Xf (n:=41) q T o g m ∅ dm bg cr F;have MR:=jC e m.cl Es GB λ_ F=>Ph (n:=42) q T o g m ∅ cd F;have dn:=jC e m.cl IJ Ld λ_ F=>Yn (n:=43) q T o g m ∅ dS db LU MR F;have c6:aT l.prog w K mg dH 43 "tell" (lO p.rep (m8 r p) ei (λT i _=>bW T 10 i) (λT i S=>cz T 10 i S)) λC=>C=ei.cH:=Sj (aN 10) ∅;have ea:=jC e m.cl Je Mr λ_ F=>WK (n:=43) q T kK m7 o g m ∅ Xs c6 MR F;have Zy:=jC e m.cl qL sf λ_ F=>PN (R:=p.rep) (TR:=m8 r p) (ei:=ei) TI T m F;have ch:=jC e m.cl Jd K3 λ_ F=>Xw (n:=43) q T SI Ca G4 kK m7 o g m ∅ Zy Xs LU MR F;have eg:=jC e m.cl IC Lj λ_ F=>Wq (R:=p.rep) (TR:=m8 r p) (ei:=ei) T m F;have kS:Cmt l.prog w K mg dH true 1 "Standing" "__init__" (Fm K) []:=⟨_,_,_,_,_,xa,VQ mU,Pm,yW,.nil⟩;have dl:=mkM e GI FY tj (UT iY kS);have dV:=mkM e Cz Dw pk (UZ g gw kS Yg);have c7:=jC e g.cl uC vB λ_ F=>YX T g F;have qD:=gh X G e Ju II λ_ F=>Z3 SI o dl dV F;have oX:=gh X G e Gf G0 λ_ F=>VN T ct o g qD c7 F;have K5:=mkM e YZ Y7 CQ (Vm (n:=12) T m ∅ oX (U9 10) sT);have Ww:=gh X G e Zh Za λ_ F=>U6 K5 F;have fz:=gh X G e Tt S7 λ_ F=>YQ (cm:=true) F T;have PV:=gh X G e c3 cs λ_ F=>Zx F T;have jF:=gh X G e Ik G5 λ_ F=>Tw F T;have ur:=gh X G e L7 L0 λ_ F=>S5 F T;have Qf:=gh X G e c5 c2 λ_ F=>Z6 F T fz PV jF ur;have QH:=gh X G e ce ad λ_ F=>aac F T;have GG:=ad0 (kk:=44) q ∅ (fC _) eg dn ea ch;have EX:ExF K ik fV jq:=⟨TF.xi,Vw.xi,Di,F9,Fl Di CU (λ_=>rfl),Fl F9 Ex (λz=>absurd z uU),Fl Di E0 (λz=>absurd z.symm uU),Fl F9 xO (λ_=>rfl),vm,wR,xO⟩;have MY:=gh X G e Z1 Zj λ_ F=>WX F T GG EX qr q9 Ca kK;have Dx:=gh X G e SR UG λ_ F=>PM F T GG EX kK m7;have Qx:=gh X G e dz dy λ_ F=>Y3 F T GG MY Dx;have Du:=gh X G e a8 dk λ_ F=>XR F T;have Q6:=gh X G e bZ b9 λ_ F=>VF F T Du;have MJ:=gh X G e Zi Z9 λ_ F=>Ui F T Q6;have Bj:=gh X G e XW Vy λ_ F=>Pz F T MJ;have Lx:=gh X G e b0 Zc λ_ F=>Tx F;have VA:=acv (k:=44) Qp ∅;exact abv (kk:=44) ∅ aG T GG fz Qf QH VA (abl ∅ Ww) Bj Qx Lx Du
theorem walk{l:PySem.W.OpenLaw}{q:Program}{b:List Str}{i:(Str->Option Value)->Heap->Prop}{g:World->Heap->Prop}{d:DefRec}{K:Params->PySem.W.Frag}(p:l.most=some 63)(c:d.params.defaults=[])
  (m:∀(w:World) (h:Heap),g w h->(K w.params).In h)
  (F:∀(w:World) (mg:Str->Option Value) (fa:Addr) (h:Heap),(K w.params).In h->h.Ns mainGlobals mg->mg d.name=some (.ref fa)→
   ∃fd:FuncData,(∀(s:Shared) (u:Value),BindsTo s fd ⟨[u],[]⟩ [("_law_script",u)])/\∀dH:Heap,(K w.params).In dH->dH.Ns mainGlobals mg->aC l.prog w (K w.params) mg dH (fw l.prog w) true 63 fa fd ["_law_script"] (RP (K w.params))):
  PySem.W.WalkO q b i g l.row.toRowW d [] (λf vs=>PySem.call f vs):=
 L2.uG (n:=63) (k:=63) (cm:=true) (x:="_law_script") (CX:=λw=>fw l.prog w) (sp:=λw=>RP (K w.params)) p ∅ c ⟨λ_=>rfl,∅,∅⟩ m F (λ_ _ a j r _ o=>⟨a,j,rfl,o,λ_=>rfl⟩)
  λw H s e t z=>by obtain⟨_,_,_,_,_,_,_,_,_,_,_,_,_,q⟩:=z;exact q
end K12
end
structure PySem.W.Fast:Prop where(tw17151637923961894922 tw11168846072653533971 tw7488880177971672213 tw3094735175027633247 tw4673989028974440115 tw13533937052366068344 tw183067419494035615 tw10816207251569469950 tw18225969493183911084 tw8748120547059509110 tw8384606215528285378 tw10517809698250486905 tw8479903780666530579 tw10329571564074634934 tw5715883276011493574 tw5618478355474880116 tw13312470710262680782 tw15888564789459987161 tw14225691468814359533 tw12155562418964004309 tw1696435108649009443 tw3951129110769480818 tw4050855181305134503 tw10980353730909153181 tw12706729530952773401 tw6910514877567903126 tw13691826446410080589 tw18312749433742115179 tw4674002266166973073 tw16411677561923371430 tw5040632932374907795 tw5804143139480445829 tw14700549546536531197 tw7612524129287637990 tw5348383938135467874 tw9621374584208183351 tw15267638935993112780 tw8646451677091396448 tw3116809714206946323 tw5235421763191053768 tw15755504091014907247 tw14454989681264909578 tw10991615613084788696 tw6114354393962958863 tw10764265244823657563 tw11808086372484953688 tw2579291386736035007 tw16311874819418245671 tw14153877515823509345 tw16010954314589043692 tw15281447992393699791 tw18223249951767141834 tw13785474223491233771 tw2680576317379471927 tw5377420568369333309 tw12596421725991397304 tw12814341903142995138 tw2234959649791225476 tw17029213674696135849 tw2830497208612625478 tw928183198734657733 tw13679079754296387811 tw7919986371051056309 tw6702069806407984733 tw16033219171655038175 tw10881184091526218219 tw15209708335955120349 tw6307307606023099377 tw4945836139792696363 tw8667035926170543303 tw1970775507742332357 tw8893514118485585986 tw3057846458593445888 tw13696277304264958506 tw4479448793633793876 tw15053393451488656172 tw5226778141880547622 tw2899281567308493256 tw8046461672987550793 tw15911687624007979720 tw2697723736325650955 tw9525165814284967198 tw945849644803588930 tw16243304107031313453 tw18040682601869894666 tw5712983050177554033 tw17399295804349684230 tw10364627715414999335 tw2609838058502338754 tw975129549146014824 tw6157968050155640280 tw7233659962212986098 tw7047075756317985097 tw8229747746998608933 tw18254943470118512834 tw11806123948386319425 tw9569014572862956145 tw206391687825446041 tw6349949941662015498 tw7744522937628717263 tw6738921970434932945 tw1085038593951515200 tw6199013991828726026 tw3273379966816630031 tw33017708743838736 tw13966219191937067586 tw13953999770991306337 tw5970877346604073378 tw12132108719482226571 tw11359728267291232803 tw11359524053281366923 tw9076243875363858274 tw1057406876500212174 tw3108873061549825946 tw5253583526918727341 tw9675344366969318670 tw4204690664207651228 tw717087427067708422 tw3788782288315127512 tw14694044150598283004 tw13767864333854487477 tw3865901841766587670 tw8305265630357063021 tw8348799943955790400 tw7555859837359354223 tw2292800118489735506 tw5921962376251194370 tw6264077548468973729 tw17512352900955445894 tw15546058289081363373 tw12190032944690170139 tw16818131288431215999 tw11800517096046357666 tw2131938047179181426 tw5032731288001306841 tw5784283191926727129 tw5381043717269252681 tw4450905693846218251 tw10282369572134564565 tw3772452289697720651 tw8081982495138456799 tw10559739618755818896 tw2856488172299982213 tw17750542333873788736 tw14382224374148143185 tw14380266663585553039 tw10396759633960588190 tw16150953544467221615 tw2526546732427544924 tw5701604695916734752 tw14317270470006360509 tw5790051663390908032 tw11474483252102629879 tw882162681895840517 tw1544241925372946174 tw6483308374743293812 tw14561073561677648526 tw12545023963356978200 tw2531658140850651813 tw9102810465024572345 tw4827367816347047780 tw4918349244343324010 tw5381160340617608394 tw18159858422307079526 tw468966669571623191 tw11416250013932233875 tw11552740226050702951 tw6826159663688635107 tw10564480617840101436 tw18015030555110006606 tw2688937656329532959 tw15264894004725994972 tw6806902634951630097 tw12024730834234089831 tw16199309302387720378 tw7682966953671652635 tw1764821501584192073 tw11203268753938328096 tw4307819323215761634 tw7865147012958882119 tw18207187162639218055 tw13775093561686647021 tw1674883639368621162 tw10997826284306832414 tw16288153092401255541 tw3640988090527072428 tw15981919505158593985 tw16443983734014623774 tw7495316935308459001 tw5589454304557049732 tw3105970926089051733 tw13548199810978284332 tw17129625396080314625 tw799690331341072077 tw2536237217962870090 tw2159533733245544132 tw7842713289071994359 tw757769160539394767 tw5515950044554822008 tw17371942819018491783 tw9924153601483405443 tw2867933888536575550 tw1015907001986846574 tw10649573075770806419 tw12315706390802935119 tw9437612570909668143 tw15059756170107456814 tw2617988756510984711 tw2444454321612933482 tw4776875070867484208 tw16851915261742312040 tw9036886880355230972 tw6015329147857515685 tw578720935994936554 tw1467978226805167545 tw8517928885744837190 tw4104571589207034195 tw13899497703381545409 tw6111061539981996630 tw10386930718367105425 tw12279897711628965367 tw15567313348449851890 tw1297772982738688414 tw16130147599961361125 tw15857034641130574493 tw17523563362789957760 tw12625829324936067459 tw7509535786596280972 tw1233495217171805410 tw15699146144303361255 tw12585338647322476832 tw1597222068951368880 tw14203723422446111268 tw4010033859814067298 tw18144931590257650251 tw6983649668660663128 tw8084567115548979045 tw8976146459026885175 tw2461122623828518185 tw7493053838528484437 tw4692824182341248897 tw8024978785294279142 tw11789844702578377615 tw8328491046494562628 tw1177291943711865919 tw18138646823125550907 tw10132312348386634556 tw13714157863464903775 tw7849882115460389303 tw13320605013130799799 tw12072956069168910579 tw3079654022661177846 tw14581531166787425164 tw10117051223747808067 tw8453289836609051444 tw6639462955168230792 tw13897875306735946224 tw17604670140893456128 tw4055778317374342238 tw18148353633103833040 tw4059623059526019543 tw12385659326146093789 tw8388223982390892353 tw11473967635739846560 tw7367011309140520689 tw163004882131568546 tw4093797491973185296 tw18431887938682227070 tw16841636189742054206 tw13285125829758324870 tw4498022108829785731 tw13659846244862532817 tw15416777530061935134 tw3009935204341655092 tw10158654829129520020 tw7580381461067883954 tw2763188803222711566 tw12817289529358824311 tw10553282598249484769 tw3878895547532138348 tw9860175273163910998 tw17474611846723069474 tw11819664990186254955 tw6566125166045975596 tw17180387373865119599 tw6571063627557171011 tw2054171989627408798 tw1761098577227847968 tw4451605260536692458 tw5067294744498256259 tw12715477889650031351 tw5766683698569245598 tw4785142311821070835 tw17134912279770298849 tw11463682613155157726 tw6160418322671118122 tw7034111393316676568 tw14823831673644278377 tw377322469545369830 tw10352144018539515359 tw10899461455823958496 tw12646095420178650823 tw2551064307758527965 tw15071824434943195255 tw12172208566058678142 tw7549137179349471397 tw1634014917936236259 tw11322694950502501662 tw11488105190975285045 tw12164956877451478422 tw10387701618535453138 tw8120823431676427782 tw2748462195569445421 tw2154006453951830868 tw11624960625065920624 tw8072623190644415884 tw7826460425613825469 tw6352916616059547392 tw14666288182076238999 tw12571043047479320915 tw14648360335971501272 tw6925786145950863459 tw4122703971060034721 tw364894106555538878 tw2435114396647927865 tw15668740342187069639 tw8140354966974743476 tw4310084623051564358 tw4979222976925115326 tw7278944374515306465 tw15180373183411966744 tw2277250517503242966 tw185632893461250739 tw17736679651508982050 tw7370334512823986275 tw5804566521899976287 tw4414203223688022298 tw4356285610919200152 tw3023327057186156037 tw2135161533377122404 tw10365085297365062097 tw7817955803625179938 tw18424436006734676385 tw9433259943714497546 tw8248926933865090123 tw7312506735200997065 tw1243613488743831542 tw11571762317994487742 tw13805559021029861437 tw3491807904898092654 tw12048179637538502470 tw12164167115752649697 tw17396983981897114406 tw7022521329294430932 tw7820050791545740588 tw1859640405168273373 tw18099627738037591880 tw17999495432046099108 tw3959846144488449536 tw4102547817211759588 tw7836740058475966230 tw3722068351031764119 tw14020360395638815547 tw7392627870906625886 tw9318603738842162158 tw7459598893743980671 tw12661037012050691000 tw17636517167151162037 tw16462909068711528238 tw15840657805638237211 tw13129165047261328287 tw7321349470112141923 tw715264823499044319 tw4038196207113475192 tw13627291393793890187 tw12188172990115233905 tw6266735427980107089 tw9389870389703230756 tw2554232938587946494 tw9317997846446042337 tw10773464322771543848 tw9060929200686295385 tw15123323691171384062 tw13663660883497942566 tw13373881459094977322 tw1255235828835196779 tw11147786481490524466 tw10691917694024746748 tw11551835551062115215 tw9845642784569734495 tw16965083420134175197 tw15047332159791709785 tw14975976937754927355 tw14627763130835536916 tw16949878936490409678 tw5653761097699254360 tw14089355046343940825 tw13050384773726487794 tw9902207809404189476 tw6212018275028166682 tw17087467603201189051 tw16663486577730152222 tw4618391086573795754 tw17718872174728266094 tw912451775901639026 tw6919801797598576805 tw13628808567472746556 tw7818261944538104641 tw7800411108800562124 tw12247536549028630978 tw7348840121337964288 tw5932361737205759750 tw3810995944114798751 tw3006940278587852672 tw12646481838383839059 tw4629785367270793259 tw17748606395185129009 tw17289877133696970183 tw4888055132144640045 tw10920385164258706416 tw1740150099712050200 tw10961634851611448939 tw6836915682521128937 tw4635777111300110218 tw157188404675011099 tw13804434799354517523 tw13745893492410916615 tw11757259429707798059 tw10931636150901844936 tw10643398598702621630 tw16932775594630245017 tw11870902623462232937 tw9656178138619411034 tw8260765947799945915 tw674151355598839308 tw4835984027203505133 tw1924420697715189819 tw16509744546863932359 tw15527062368306085436 tw13322411483811339377 tw11018464319243156667 tw17989524152672672825 tw5709444934225988074 tw1591038861492357022 tw141504607330370005 tw11947957447531068007 tw17025324060636643117 tw8911203065495491614 tw6507988293775434034 tw15915786483552275558 tw12669546078806204869 tw4635980604845707825 tw16588450214505499649 tw8896119005106512545 tw2083848563424744542 tw6738655899246967647 tw4451225381081964837 tw17953255989406867921 tw6410260323766654993 tw15740359791487759721 tw9878561652230115489 tw3365065014800958545 tw2305079805468084473 tw3780640831010932514 tw3012530451731651398 tw17661958347872066608 tw16717024005406883921 tw14659305207539091706 tw10965498341922718160 tw5736952808219087405 tw413211494315884829 tw12813231255097234314 tw5323318246403239460 tw1434850029098190637 tw9425095415099873767 tw9222662145930997715 tw9209443193333288115 tw8970049525844128594 tw8959205508575852661 tw8958573472456626969 tw16136228834837141540:True)

open PySem PySem.W PyProof.Rows
set_option maxRecDepth 100000 in
set_option maxHeartbeats 0 in
theorem PySem.Challenge.cw_minders_k12_whole_work_at_its_turn_holds : PySem.Challenge.rw_minders_k12_whole_work_at_its_turn.Holds := by
  w_on; o_law; k_head; (case hw => w_witness2)
  k_fill
  refine K12.walk (l := PySem.Challenge.rw_minders_k12_whole_work_at_its_turn) rfl rfl (fun w h Y => PySem.W.kIn_of Y) ?F
  case F =>
    intro w mg fa h KX G hmg
    refine' K12.all_mk KX G hmg ?k0 ?k1 ?k2 ?k3 ?k4 ?k5 ?k6 ?k7 ?k8 ?k9 ?k10 ?k11 ?k12 ?k13 ?k14 ?k15 ?k16 ?k17 ?k18 ?k19 ?k20 ?k21 ?k22 ?k23 ?k24 ?k25 ?k26 ?k27 ?k28 ?k29 ?k30 ?k31 ?k32 ?k33 ?k34 ?k35 ?k36 ?k37 ?k38 ?k39 ?k40 ?k41 ?k42 ?k43 ?k44 ?k45 ?k46 ?k47 ?k48 ?k49 ?k50 ?k51 ?k52 ?k53 ?k54 ?k55 ?k56 ?k57 ?k58 ?k59 ?k60 ?k61 ?k62 ?k63 ?k64 ?k65 ?k66 ?k67 ?k68 ?k69 ?k70 ?k71 ?x72 ?x73 ?x74 ?x75 ?k76 ?k77 ?k78 ?k79 ?n80 ?n81 ?n82 ?n83 ?n84 ?n85 ?n86 ?n87 ?n88 ?n89 ?n90 ?n91 ?n92 ?n93 ?n94 ?n95
    case k0 | k1 | k2 | k3 | k4 | k5 | k6 | k7 | k8 | k9 | k10 | k11 | k12 | k13 | k14 | k15 | k16 | k17 | k18 | k19 | k20 | k21 | k22 | k23 | k24 | k25 | k26 | k27 | k28 | k29 | k30 | k31 | k32 | k33 | k34 | k35 | k36 | k37 | k38 | k39 | k40 | k41 | k42 | k43 | k44 | k45 | k46 | k47 | k48 | k49 | k50 | k51 | k52 | k53 | k54 | k55 | k56 | k57 | k58 | k59 | k60 | k61 | k62 | k63 | k64 | k65 | k66 | k67 | k68 | k69 | k70 | k71 | k76 | k77 | k78 | k79 => (repeat' (first | exact True.intro | apply And.intro | apply Exists.intro | fail)) <;> k_is
    case x72 | x73 | x74 | x75 => k_exc
    case n80 | n81 | n82 | n83 | n84 | n85 | n86 | n87 | n88 | n89 | n90 | n91 | n92 | n93 | n94 | n95 => decide
#print axioms PySem.Challenge.cw_minders_k12_whole_work_at_its_turn_holds
