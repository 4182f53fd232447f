import PyProof.Rows.All
import Wide.All
import OpenK.AllK
import Wide.FinOn
import Lean
import PyProof.EqAt
import PyProof.EqKinds
import PyProof.TupleCall
import PySem.Challenge.RW_minders_k05_trees_read_and_written
set_option linter.all false
set_option maxRecDepth 100000
set_option Elab.async false
set_option maxHeartbeats 4000000
section
set_option compiler.extract_closed false
set_option bootstrap.genMatcherCode false

theorem d2{a b G:Prop}(h:a/\b)(k:a->b->G):G:=k h.1 h.2
theorem d3{a b c G:Prop}(h:a/\b/\c)(k:a->b->c->G):G:=k h.1 h.2.1 h.2.2
theorem d4{a b c d G:Prop}(h:a/\b/\c/\d)(k:a->b->c->d->G):G:=k h.1 h.2.1 h.2.2.1 h.2.2.2
theorem d5{a b c d e G:Prop}(h:a/\b/\c/\d/\e)(k:a->b->c->d->e->G):G:=k h.1 h.2.1 h.2.2.1 h.2.2.2.1 h.2.2.2.2
theorem d6{a b c d e f G:Prop}(h:a/\b/\c/\d/\e/\f)(k:a->b->c->d->e->f->G):G:=k h.1 h.2.1 h.2.2.1 h.2.2.2.1 h.2.2.2.2.1 h.2.2.2.2.2
theorem d7{a b c d e f g G:Prop}(h:a/\b/\c/\d/\e/\f/\g)(k:a->b->c->d->e->f->g->G):G:=k h.1 h.2.1 h.2.2.1 h.2.2.2.1 h.2.2.2.2.1 h.2.2.2.2.2.1 h.2.2.2.2.2.2
theorem d8{a b c d e f g i G:Prop}(h:a/\b/\c/\d/\e/\f/\g/\i)(k:a->b->c->d->e->f->g->i->G):G:=k h.1 h.2.1 h.2.2.1 h.2.2.2.1 h.2.2.2.2.1 h.2.2.2.2.2.1 h.2.2.2.2.2.2.1 h.2.2.2.2.2.2.2
theorem d9{a b c d e f g i j G:Prop}(h:a/\b/\c/\d/\e/\f/\g/\i/\j)(k:a->b->c->d->e->f->g->i->j->G):G:=k h.1 h.2.1 h.2.2.1 h.2.2.2.1 h.2.2.2.2.1 h.2.2.2.2.2.1 h.2.2.2.2.2.2.1 h.2.2.2.2.2.2.2.1 h.2.2.2.2.2.2.2.2
theorem d10{a b c d e f g i j l G:Prop}(h:a/\b/\c/\d/\e/\f/\g/\i/\j/\l)(k:a->b->c->d->e->f->g->i->j->l->G):G:=k h.1 h.2.1 h.2.2.1 h.2.2.2.1 h.2.2.2.2.1 h.2.2.2.2.2.1 h.2.2.2.2.2.2.1 h.2.2.2.2.2.2.2.1 h.2.2.2.2.2.2.2.2.1 h.2.2.2.2.2.2.2.2.2
theorem d11{a b c d e f g i j l m G:Prop}(h:a/\b/\c/\d/\e/\f/\g/\i/\j/\l/\m)(k:a->b->c->d->e->f->g->i->j->l->m->G):G:=k h.1 h.2.1 h.2.2.1 h.2.2.2.1 h.2.2.2.2.1 h.2.2.2.2.2.1 h.2.2.2.2.2.2.1 h.2.2.2.2.2.2.2.1 h.2.2.2.2.2.2.2.2.1 h.2.2.2.2.2.2.2.2.2.1 h.2.2.2.2.2.2.2.2.2.2
theorem d12{a b c d e f g i j l m n G:Prop}(h:a/\b/\c/\d/\e/\f/\g/\i/\j/\l/\m/\n)(k:a->b->c->d->e->f->g->i->j->l->m->n->G):G:=k h.1 h.2.1 h.2.2.1 h.2.2.2.1 h.2.2.2.2.1 h.2.2.2.2.2.1 h.2.2.2.2.2.2.1 h.2.2.2.2.2.2.2.1 h.2.2.2.2.2.2.2.2.1 h.2.2.2.2.2.2.2.2.2.1 h.2.2.2.2.2.2.2.2.2.2.1 h.2.2.2.2.2.2.2.2.2.2.2
theorem e1{R:A'->Prop}{G:Prop}(h:∃a,R a)(k:∀a,R a->G):G:=h.elim k
theorem e2{R:A'->B'->Prop}{G:Prop}(h:∃a b,R a b)(k:∀a b,R a b->G):G:=h.elim λa h=>e1 h (k a)
theorem e3{R:A'->B'->C'->Prop}{G:Prop}(h:∃a b c,R a b c)(k:∀a b c,R a b c->G):G:=h.elim λa h=>e2 h (k a)
theorem e4{R:A'->B'->C'->D'->Prop}{G:Prop}(h:∃a b c d,R a b c d)(k:∀a b c d,R a b c d->G):G:=h.elim λa h=>e3 h (k a)
theorem e5{R:A'->B'->C'->D'->E'->Prop}{G:Prop}(h:∃a b c d e,R a b c d e)(k:∀a b c d e,R a b c d e->G):G:=h.elim λa h=>e4 h (k a)
theorem e6{R:A'->B'->C'->D'->E'->F'->Prop}{G:Prop}(h:∃a b c d e f,R a b c d e f)(k:∀a b c d e f,R a b c d e f->G):G:=h.elim λa h=>e5 h (k a)
theorem e7{R:A'->B'->C'->D'->E'->F'->G'->Prop}{G:Prop}(h:∃a b c d e f g,R a b c d e f g)(k:∀a b c d e f g,R a b c d e f g->G):G:=h.elim λa h=>e6 h (k a)
theorem e8{R:A'->B'->C'->D'->E'->F'->G'->I'->Prop}{G:Prop}(h:∃a b c d e f g i,R a b c d e f g i)(k:∀a b c d e f g i,R a b c d e f g i->G):G:=h.elim λa h=>e7 h (k a)
theorem e9{R:A'->B'->C'->D'->E'->F'->G'->I'->J'->Prop}{G:Prop}(h:∃a b c d e f g i j,R a b c d e f g i j)(k:∀a b c d e f g i j,R a b c d e f g i j->G):G:=h.elim λa h=>e8 h (k a)
theorem e10{R:A'->B'->C'->D'->E'->F'->G'->I'->J'->L'->Prop}{G:Prop}(h:∃a b c d e f g i j l,R a b c d e f g i j l)(k:∀a b c d e f g i j l,R a b c d e f g i j l->G):G:=h.elim λa h=>e9 h (k a)
local macro_rules | `(tactic|obtain ⟨$ps,*⟩:=$h) => `(tactic|rcases $h:term with ⟨$ps,*⟩)
local macro_rules | `(tactic|rcases $h:term with ⟨$ps,*⟩) => do
  let n := ps.getElems.size
  let mut xs := #[]
  let mut ts := #[]
  let z := Lean.mkIdent (← Lean.Macro.addMacroScope `z)
  for p in ps.getElems do
    match p with
    | `(Lean.Parser.Tactic.rcasesPatLo| $x:ident) =>
      if x.getId != `rfl then
        xs := xs.push x
        continue
    | _ => pure ()
    let y := Lean.mkIdent (z.getId.appendIndexAfter xs.size)
    xs := xs.push y
    ts := ts.push (← `(tactic|rcases $y:ident with $p:rcasesPatLo))
  let st c i (h : Lean.Term) (ys : Array Lean.Ident) := `(tactic|(refine $(Lean.mkIdent (`_root_ ++ .mkSimple s!"{c}{i}")) $h ?_; (try clear $(⟨h.raw⟩):ident); intro $ys*))
  let a := ps.getElems[:11].toArray
  let b := ps.getElems[11:].toArray
  let mut r ← if n > 12 then `(tactic|rcases $h:term with ⟨$a,*,⟨$b,*⟩⟩) else `(tactic|rcases $h:term with (⟨$ps,*⟩))
  for k in [1:n+1] do
    let k := n - k
    let mut t ← if k = 0 then st "d" n h xs else st "e" k h (xs[:k].toArray.push (if k + 1 = n then xs[k]! else z))
    if k > 0 && k + 1 < n then t ← `(tactic|$t <;> $(← st "d" (n - k) z xs[k:]))
    for s in ts do t ← `(tactic|$t <;> $s)
    r ← `(tactic|first|$t:tactic|$r:tactic)
  return r
namespace L2
open PySem PyProof.Rows
def Clm(A:Around)(h:Heap):Prop:=A.handled=none\/∃e o vs,A.handled=some (.ref e)/\h.get? e=some o/\o.data=.fields vs/\vs[2]? =some .none
theorem Clm.keep{A:Around}{h h':Heap}(c:Clm A h)(k:∀e o vs,A.handled=some (.ref e)->h.get? e=some o->o.data=.fields vs->vs[2]? =some .none->h'.get? e=some o):Clm A h':=by
 rcases c with z | ⟨e,o,vs,z,a,b,d⟩
 .exact .inl z
 .exact .inr ⟨e,o,vs,z,k e o vs z a b d,b,d⟩
section
variable{prog:Program}{w:World}{A:Around}{E:Value->Shared->Prop}{s:Shared}{α:Type}
theorem wt:entryFor table "proto.unchain"=some Builtin.«proto.unchain»:=entryFor_of_tree (by kernel_rfl)
theorem Cw{v sl:Value}{e:Addr}{o:Obj}{vs:Array Value}{Q:Value->Shared->Prop}(ho:s.heap.get? e=some o)(hd:o.data=.fields vs)(h2:vs[2]? =some .none)(q:Q .none s):
  wpAny (model prog w) A (runValue (.builtin "proto.unchain" ⟨[v,.ref e,sl,.bool false],[]⟩)) Q E s:=by
 refine wpAny_runValue (codeAny_builtin wt ?_);unfold Builtin.«proto.unchain»;refine wpAny_bind (wpAny_field ho hd h2 ?_);show wpAny (model prog w) _ (pure (Fin.done (Flow.ret Value.none))) _ _ s;exact wpAny_pure q
theorem Aj{a:Addr}{o:Obj}{vs:Array Value}{Q:α->Shared->Prop}(c:Clm A s.heap)(na:A.handled≠some (.ref a))(ho:s.heap.get? a=some o)(hd:o.data=.fields vs)(hz:2 < vs.size)
  (q:∀h' v2,h'.get? a=some (o.mapFields (·.setIfInBounds 2 v2))\/h'.get? a=some o->(∀b,b≠a->h'.get? b=s.heap.get? b)->E (.ref a) { s with heap:=h'}):wpAny (model prog w) A (raiseNew (.ref a):Sem α) Q E s:=by
 unfold raiseNew;refine wpAny_bind (wpAny_handled ?_);rcases c with z | ⟨e,oe,ve,z,he,hf,h2⟩
 .rw [z];exact wpAny_bind (wpAny_pure (wpAny_throw (q s.heap .none (.inr ho) λ_ _=>rfl)))
 .rw [z];have ne:e≠a:=λy=>na (by rw[z,y]);show wpAny _ _ (if (Value.ref e != Value.ref a)=true then _ else _) _ _ _;rw[if_pos (by simpa using ne)];refine wpAny_bind (wpAny_holding (Cw he hf h2 ?_));show wpAny _ _ (setField (.ref a) 2 (.ref e) >>= λ_=>throw (Value.ref a)) _ _ _;refine wpAny_bind <| wpAny_setField ho hd hz (wpAny_throw (q _ (.ref e) (.inl (Heap.get?_update_self _ ho (Obj.isFreed_of_fields (Obj.data_mapFields hd _)))) λb hb=>Heap.get?_update_other _ _ (Ne.symm hb)))
theorem wF{Q:α->Shared->Prop}(c:Clm A s.heap)
  (q:∀h' e,(∀b o,s.heap.get? b=some o->h'.get? b=some o)->(∃o,h'.get? e=some o/\o.cls=.type "StopIteration")->E (.ref e) { s with heap:=h'}):
  wpAny (model prog w) A (newExc (.type "StopIteration") [] >>= λe=>(raiseNew e:Sem α)) Q E s:=by
 refine wpAny_bind ?_;unfold newExc newTuple;refine wpAny_bind (wpAny_newObj_type ?_ (by size_fits));refine wpAny_bind (m:=firstArgMember _ _) (wpAny_of_eq (a:=Value.none) (by first | rfl | (simp only [firstArgMember];rfl)) ?_);refine wpAny_newObj_type ?_ (by size_fits);have up:∀b o,s.heap.get? b=some o->((s.heap.push { cls:= .type "tuple",data:= .seq #[]}).push { cls:= .type "StopIteration",data:= .fields #[.ref s.heap.objs.size,.none,.none,.none,.bool false,.none]}).get? b=some o:=λb o e=>Heap.get?_push_of_some _ (Heap.get?_push_of_some _ e);refine Aj (c.keep λe o vs _ he _ _=>up e o he) (λz=> ?_) (Heap.get?_push_size _ rfl) rfl (by show 2 < 6;decide) λh' v2 g k=>q h' _ (λb o e=> ?_) ?_
 .rcases c with y | ⟨e,o,vs,y,he,_⟩
  .rw [y] at z;cases z
  .rw [y] at z;cases z;have:=Heap.lt_size he;rw[Heap.size_push] at this;exact Nat.lt_irrefl _ (Nat.lt_of_succ_lt this)
 .refine (k b λz=> ?_).trans (up b o e);have:=Heap.lt_size e;rw[z,Heap.size_push] at this;exact Nat.lt_irrefl _ (Nat.lt_of_succ_lt this)
 .rcases g with g | g
  .exact ⟨_,g,Obj.cls_mapFields ..⟩
  .exact ⟨_,g,rfl⟩
end
section
variable{prog:Program}{w:World}{A:Around}{E:Value->Shared->Prop}{s:Shared}{Q:Option Value->Shared->Prop}{it:Addr}
theorem Clm.upd{h:Heap}{o:Obj}{vs:Array Value}{f:Obj->Obj}(c:Clm A h)(ho:h.get? it=some o)(hd:o.data=.fields vs)(h2:vs[2]? ≠some .none):Clm A (h.update it f):=
 c.keep λe oe ve _ he hf h3=>by
  refine(Heap.get?_update_other _ _ λz=> ?_).trans he;rw[z,he] at ho;cases ho;rw[hf] at hd;cases hd;exact h2 h3
def zg(it:Addr)(s:Shared)(v:Value)(s':Shared):Prop:=∃a h',v=.ref a/\s'={ s with heap:=h'}/\Heap.ExtBut it s.heap h'/\∃o,h'.get? a=some o/\o.cls=.type "StopIteration"
theorem yO{α:Type}{o:Obj}{vs:Array Value}{f:Obj->Obj}{Q1:α->Shared->Prop}(c:Clm A s.heap)(ho:s.heap.get? it=some o)(hd:o.data=.fields vs)(h2:vs[2]? ≠some .none):
  wpAny (model prog w) A (newExc (.type "StopIteration") [] >>= λe=>(raiseNew e:Sem α)) Q1 (zg it s) { s with heap:=s.heap.update it f}:=
 wF (c.upd ho hd h2) λh' e k x=>⟨e,h',rfl,rfl,λb o hb z=>k b o ((Heap.get?_update_other _ _ (Ne.symm hb)).trans z),x⟩
theorem fg{T id:String}{b:Builtin}(hT:s.TypeIs (.ref it) T)(sl:Slot T "__next__" id)(en:entryFor table id=some b)(ar:argsOk id ⟨[.ref it],[]⟩)
  (h:wpAny (model prog w) A.in1 (b ⟨[.ref it],[]⟩) (λ_ _=>False) (zg it s) s) (q:∀h',Heap.ExtBut it s.heap h'->Q none { s with heap:=h'}):wpAny (model prog w) A (pyNext (.ref it)) Q E s:=by
 unfold pyNext;refine wpAny_bind (wpAny_attempt (wpAny_callSpecial?_slot (name:=Str.ofString "__next__") hT sl (wpAny_call_entry sl hT en (wpAny_mono h (λ_ _ x=>x.elim) λe s' x=> ?_) ar)));obtain⟨a,h',rfl,rfl,k,o,ho,hc⟩:=x;exact wpAny_bind (wpAny_isInstance (T:="StopIteration") (b:=true) ⟨o,ho,hc⟩ isSubtype_stop (wpAny_pure (q h' k)))
theorem uU{l:Addr}{i:Nat}{items:Array Value}{Q1:Fin->Shared->Prop}(c:Clm A s.heap)(hit:s.heap.IsListIter it l i)(hl:s.heap.IsList l items)(hx:items[i]? =none):
  wpAny (model prog w) A (Builtin.«list_iterator.__next__» ⟨[.ref it],[]⟩) Q1 (zg it s) s:=by
 obtain⟨o,ho,hc,hd⟩:=hit;obtain⟨ol,hol,_,nl,hdl⟩:=hl;refine wpAny_bind (m:=field (.ref it) 0) (wpAny_field ho hd (x:= .ref l) rfl ?_);refine wpAny_bind (m:=field (.ref it) 1) (wpAny_field ho hd (x:= .int i 0) rfl (wpAny_bind (m:=seqItems? (.ref l)) (wpAny_seqItems hol hdl ?_)));simp only [Int.toNat_natCast,hx];exact wpAny_bind (wpAny_rule (wpAny_bind (wpAny_setField ho hd (by simp) (yO c ho hd (by simp)))))
theorem vT{l:Addr}{i:Nat}{items:Array Value}(c:Clm A s.heap)(hit:s.heap.IsListIter it l i)(hl:s.heap.IsList l items)(hx:items[i]? =none)(q:∀h',Heap.ExtBut it s.heap h'->Q none { s with heap:=h'}):wpAny (model prog w) A (pyNext (.ref it)) Q E s:=
 fg hit.typeIs slot_listiter_next entry_listiter_next (args_listiter_next _) (uU c hit hl hx) q
theorem F9{l:Addr}{i:Nat}{items:Array Value}{Q1:Fin->Shared->Prop}(c:Clm A s.heap)(hit:s.heap.IsTupleIter it l i)(hl:s.heap.IsTuple l items)(hx:items[i]? =none):
  wpAny (model prog w) A (Builtin.«tuple_iterator.__next__» ⟨[.ref it],[]⟩) Q1 (zg it s) s:=by
 obtain⟨o,ho,hc,hd⟩:=hit;obtain⟨ol,hol,_,nl,hdl⟩:=hl;refine wpAny_bind (m:=field (.ref it) 0) (wpAny_field ho hd (x:= .ref l) rfl ?_);refine wpAny_bind (m:=field (.ref it) 1) (wpAny_field ho hd (x:= .int i 0) rfl (wpAny_bind (m:=seqItems? (.ref l)) (wpAny_seqItems hol hdl ?_)));simp only [Int.toNat_natCast,hx];exact wpAny_bind (wpAny_rule (wpAny_bind (wpAny_setField ho hd (by simp) (yO c ho hd (by simp)))))
theorem yP{l:Addr}{i:Nat}{items:Array Value}(c:Clm A s.heap)(hit:s.heap.IsTupleIter it l i)(hl:s.heap.IsTuple l items)(hx:items[i]? =none)(q:∀h',Heap.ExtBut it s.heap h'->Q none { s with heap:=h'}):wpAny (model prog w) A (pyNext (.ref it)) Q E s:=
 fg hit.typeIs F.slot_tuple_iterator_next F.entry_tuple_iterator_next (F.args_tuple_iterator_next_1 _) (F9 c hit hl hx) q
theorem sG{x left step:Int}(c:Clm A s.heap)(hit:IsRangeIter s.heap it x left step)(hl:left<=0)(q:∀h',Heap.ExtBut it s.heap h'->Q none { s with heap:=h'}):wpAny (model prog w) A (pyNext (.ref it)) Q E s:=by
 refine fg (T:="range_iterator") ⟨_,hit,rfl⟩ F.slot_range_iterator_next F.entry_range_iterator_next (F.args_range_iterator_next_1 _) ?_ q;refine wpAny_bind (m:=field (.ref it) 0) (wpAny_field hit rfl (x:=rawInt x) rfl (wpAny_bind (m:=field (.ref it) 1) (wpAny_field hit rfl (x:=rawInt left) rfl (wpAny_bind (m:=field (.ref it) 2) (wpAny_field hit rfl (x:=rawInt step) rfl ?_)))));show wpAny _ _ (if left<=0 then _ else _) _ _ s;rw[if_pos hl];refine wpAny_bind (wpAny_rule (wpAny_bind ?_));refine wF c λh' e k x=>⟨e,h',rfl,rfl,λb o hb z=>k b o z,x⟩
theorem zV{x:Str}{t:Tok}{i:Nat}(c:Clm A s.heap)(hit:s.heap.IsStrIter it "str_ascii_iterator" x t i)(hx:x.cps[i]? =none)(q:∀h',Heap.ExtBut it s.heap h'->Q none { s with heap:=h'}):wpAny (model prog w) A (pyNext (.ref it)) Q E s:=by
 refine fg hit.typeIs F.slot_str_ascii_iterator_next F.entry_str_ascii_iterator_next (F.args_str_ascii_iterator_next_1 _) ?_ q;obtain⟨o,ho,hc,hd⟩:=hit;refine wpAny_bind (m:=field (.ref it) 0) (wpAny_field ho hd (x:= .str x t) rfl (wpAny_bind (m:=field (.ref it) 1) (wpAny_field ho hd (x:= .int i 0) rfl ?_)));simp only [Int.toNat_natCast,hx];exact wpAny_bind (wpAny_rule (wpAny_bind (wpAny_setField ho hd (by simp) (wpAny_bind (wpAny_letGo (yO c ho hd (by simp)))))))
theorem BC{x:Str}{t:Tok}{i:Nat}(c:Clm A s.heap)(hit:s.heap.IsStrIter it "str_iterator" x t i)(hx:x.cps[i]? =none)(q:∀h',Heap.ExtBut it s.heap h'->Q none { s with heap:=h'}):wpAny (model prog w) A (pyNext (.ref it)) Q E s:=by
 refine fg hit.typeIs F.slot_str_iterator_next F.entry_str_iterator_next (F.args_str_iterator_next_1 _) ?_ q;obtain⟨o,ho,hc,hd⟩:=hit;refine wpAny_bind (m:=field (.ref it) 0) (wpAny_field ho hd (x:= .str x t) rfl (wpAny_bind (m:=field (.ref it) 1) (wpAny_field ho hd (x:= .int i 0) rfl ?_)));simp only [Int.toNat_natCast,hx];exact wpAny_bind (wpAny_rule (wpAny_bind (wpAny_setField ho hd (by simp) (wpAny_bind (wpAny_letGo (yO c ho hd (by simp)))))))
theorem iD{l:Addr}{i:Nat}{items:Array Value}{Q1:Value->Shared->Prop}(c:Clm A s.heap)(hit:s.heap.IsListIter it l i)(hl:s.heap.IsList l items)(hx:items[i]? =none)
  (q:∀h' e,Heap.ExtBut it s.heap h'->(∃o,h'.get? e=some o/\o.cls=.type "StopIteration")->E (.ref e) { s with heap:=h'}):wpAny (model prog w) A (Builtin.SmallTypes.nextOf (.ref it)) Q1 E s:=by
 unfold Builtin.SmallTypes.nextOf;refine wpAny_bind (wpAny_callSpecial?_slot (name:=Str.ofString "__next__") hit.typeIs slot_listiter_next (wpAny_call_entry slot_listiter_next hit.typeIs entry_listiter_next (wpAny_mono (uU (Q1:=λ_ _=>False) c hit hl hx) (λ_ _ x=>x.elim) λe s' x=> ?_) (args_listiter_next _)));obtain⟨a,h',rfl,rfl,k,o,ho,hc⟩:=x;exact q h' a k ⟨o,ho,hc⟩
theorem Dz{t:Addr}{items:Array Value}{Q1:List Value->Shared->Prop}(c:Clm A s.heap)(ht:IsTup s.heap t items)(q:∀h',Heap.ExtBut s.heap.objs.size s.heap h'->Q1 items.toList { s with heap:=h'}):wpAny (model prog w) A (unpackItems (.ref t) items.size none) Q1 E s:=by
 have hlt:t≠s.heap.objs.size:=by
  obtain⟨o,ho,_⟩:=ht;exact Nat.ne_of_lt (Heap.lt_size ho)
 unfold unpackItems notIterableAtAll;refine wpAny_bind (wpAny_bind (wpAny_specialOf ht.typeIs slot_tuple_iter.lookup (wpAny_pure ?_)));simp only [Bool.false_eq_true,if_false];refine wpAny_bind (wpAny_holding (iter_tuple ht (wpAny_bind (wpAny_holding (draw_tuple hlt items.size 0 _ _ ⟨_,Heap.get?_push_size _ rfl,rfl,rfl⟩ (ht.push _) (by omega) λh1 hi hs=> ?_)))));rw[show List.take items.size (List.drop 0 items.toList)=items.toList by rw[List.drop_zero];exact List.take_of_length_le (by simp),if_neg (by simp)];have c1:Clm A h1:=c.keep λe o vs _ he _ _=>hs.extBut e o (Nat.ne_of_lt (Heap.lt_size he)) (Heap.get?_push_of_some _ he);refine wpAny_bind (wpAny_holding (yP (s:={ s with heap:=h1}) (l:=t) (i:=0 + items.size) (items:=items) c1 hi ((ht.push _).extBut hs.extBut hlt) (by simp) λh2 he=> ?_));simp only [Option.isSome_none,Bool.false_eq_true,if_false];exact wpAny_pure (q h2 λb o hb e=>he b o hb (hs.extBut b o hb (Heap.get?_push_of_some _ e)))
theorem DI{env:Env}{elts:List Expr}{x1}{pos:Pos}{t:Addr}{items:Array Value}{Q1:Unit->Shared->Prop}(c:Clm A s.heap)(ht:IsTup s.heap t items)(hn:(assignEach elts env).length=items.size)(hstar:(assignEach elts env).findIdx? (·.1)=none)
  (h:∀h',Heap.ExtBut s.heap.objs.size s.heap h'->wpAny (model prog w) A (assignInOrder ((assignEach elts env).map (·.2)) items.toList) Q1 E { s with heap:=h'}):wpAny (model prog w) A (assign (.Tuple elts x1 pos) env (.ref t)) Q1 E s:=by
 rw[assign_Tuple];refine wpAny_bind (wpAny_standAt ?_);unfold unpack;rw[hn,hstar];exact wpAny_bind (wpAny_holding (Dz c ht h))
def hnd(A:Around):List Addr:=match A.handled with
 | some (.ref e)=>[e]
 | _=>[]
theorem Clm.on{h h':Heap}(c:Clm A h)(k:∀b∈hnd A,∀o,h.get? b=some o->h'.get? b=some o):Clm A h':=c.keep λe o vs z he _ _=>k e (by unfold hnd;rw[z];exact List.mem_singleton.mpr rfl) o he
theorem Clm.but{h h':Heap}{o:Obj}{vs:Array Value}(c:Clm A h)(ho:h.get? it=some o)(hd:o.data=.fields vs)(h2:vs[2]? ≠some .none)(k:Heap.ExtBut it h h'):Clm A h':=c.keep λe oe ve _ he hf h3=>k e oe (λz=>by
  rw[z,ho] at he;cases he;rw[hf] at hd;cases hd;exact h2 h3) he
theorem zy(ax:Addr)(hne:ax≠it)(items:Array Value):Walks prog w A it (it::ax::hnd A) [it] items.size (λi v=>items[i]? =some v) (λi h=>h.IsListIter it ax i/\h.IsList ax items/\Clm A h) where
 sub:=λb hb=>by rw[List.mem_singleton.mp hb];exact List.mem_cons_self
 frame:=λ_ _ _ st hk=>⟨st.1.at λo e=>hk it (by simp) o e,st.2.1.at λo e=>hk ax (by simp) o e,st.2.2.on λb hb o e=>hk b (by simp [hb]) o e⟩
 item:=λi s Q E hi st hQ=>by
  obtain⟨o,ho,hc,hd⟩:=id st.1;exact wpAny_pyNext_list_item st.1 st.2.1 (x:=items[i]) (by simp [hi]) λh' hit' hs'=>hQ _ h' s.toks (by simp [hi]) ⟨hit',st.2.1.extBut hs'.extBut hne,st.2.2.but ho hd (by simp) hs'.extBut⟩ λb o hb e=>hs'.extBut b o (λh=>hb (by simp [h])) e
 done:=λs Q E st hQ=>vT st.2.2 st.1 st.2.1 (by simp) λh' he'=>hQ h' s.toks λb o hb e=>he' b o (λh=>hb (by simp [h])) e
 self:=λ_ _ _ _ st hQ=>wpAny_pyIter_listiter st.1 hQ
theorem Cf(ax:Addr)(hne:ax≠it)(items:Array Value):Walks prog w A it (it::ax::hnd A) [it] items.size (λi v=>items[i]? =some v) (λi h=>h.IsTupleIter it ax i/\h.IsTuple ax items/\Clm A h) where
 sub:=λb hb=>by rw[List.mem_singleton.mp hb];exact List.mem_cons_self
 frame:=λ_ _ _ st hk=>⟨st.1.at λo e=>hk it (by simp) o e,st.2.1.at λo e=>hk ax (by simp) o e,st.2.2.on λb hb o e=>hk b (by simp [hb]) o e⟩
 item:=λi s Q E hi st hQ=>by
  obtain⟨o,ho,hc,hd⟩:=id st.1;exact wpAny_pyNext_tuple_item st.1 st.2.1 (x:=items[i]) (by simp [hi]) λh' hit' hs'=>hQ _ h' s.toks (by simp [hi]) ⟨hit',st.2.1.extBut hs'.extBut hne,st.2.2.but ho hd (by simp) hs'.extBut⟩ λb o hb e=>hs'.extBut b o (λh=>hb (by simp [h])) e
 done:=λs Q E st hQ=>yP st.2.2 st.1 st.2.1 (by simp) λh' he'=>hQ h' s.toks λb o hb e=>he' b o (λh=>hb (by simp [h])) e
 self:=λ_ _ _ _ st hQ=>wpAny_pyIter_tupleiter st.1 hQ
theorem q0(lo st:Int)(n i:Nat)(hi:i < n)(h:IsRangeIter s.heap it (lo + (i:Nat) * st) ((n:Int) - (i:Nat)) st)
  (q:∀v h' tk,(∃t,v=.int (lo + i * st) t)->IsRangeIter h' it (lo + ((i + 1:Nat):Int) * st) ((n:Int) - ((i + 1:Nat):Int)) st->(∀b o,b∉[it]->s.heap.get? b=some o->h'.get? b=some o)->Q (some v) { s with heap:=h',toks:=tk}):wpAny (model prog w) A (pyNext (.ref it)) Q E s:=by
 refine wpAny_pyNext_range_item h (by omega) λh' x k=>q _ h' _ ⟨_,rfl⟩ ?_ λb o hb e=>k.extBut b o (λz=>hb (by simp [z])) e;rw[show lo + ((i + 1:Nat):Int) * st=lo + (i:Int) * st + st by push_cast;rw[Int.add_mul,Int.one_mul,Int.add_assoc],show(n:Int) - ((i + 1:Nat):Int)=(n:Int) - (i:Int) - 1 by omega];exact x
theorem GJ{a b:Int}{t u:Tok}{Q1:Value->Shared->Prop}(c:Clm A s.heap)(h:∀h' tk,(∀c o,s.heap.get? c=some o->h'.get? c=some o)->Q1 (if b < a then .int b u else .int a t) { s with heap:=h',toks:=tk}):
  wpAny (model prog w) A (call (.builtin "min") [.int a t,.int b u]) Q1 E s:=by
 have hT:(s.heap.push { cls:= .type "tuple",data:= .seq #[.int a t,.int b u]}).IsTuple s.heap.objs.size (intItems #[(a,t),(b,u)]):=⟨_,Heap.get?_push_size _ rfl,rfl,0,by simp [intItems]⟩;have hz:(s.heap.push { cls:= .type "tuple",data:= .seq #[.int a t,.int b u]}).objs.size=s.heap.objs.size + 1:=Heap.size_push ..;have ne:s.heap.objs.size≠(s.heap.push { cls:= .type "tuple",data:= .seq #[.int a t,.int b u]}).objs.size:=by rw[hz];exact Nat.ne_of_lt (Nat.lt_succ_self _)
 refine call_min_two (wpAny_pyIter_tuple hT ⟨_,_::s.heap.objs.size::hnd A.in1,[_],_,_,_,_,rfl,Cf (A:=A.in1) s.heap.objs.size ne (intItems #[(a,t),(b,u)]),
  ⟨⟨_,Heap.get?_push_size _ rfl,rfl,rfl⟩,hT.push _,Clm.keep (A:=A.in1) c λe o vs _ he _ _=>Heap.get?_push_of_some _ (Heap.get?_push_of_some _ he)⟩,λd hd=> ?_,by simp [intItems],CmpOf.ints_lt (numAt #[(a,t),(b,u)]) (λ_ _=>intItems_at),λv h' tk hP hk=> ?_⟩)
 .show d < ((s.heap.push _).push _).objs.size;rw[Heap.size_push,hz];rcases List.mem_cons.mp hd with rfl | hd
  .rw [hz];exact Nat.lt_succ_self _
  rcases List.mem_cons.mp hd with rfl | hd
  .exact Nat.lt_succ_of_lt (Nat.lt_succ_self _)
  have hd:d∈hnd A:=hd;rcases c with z | ⟨e,o,vs,z,he,_⟩
  .unfold hnd at hd;rw[z] at hd;cases hd
  .unfold hnd at hd;rw[z] at hd;rw[List.mem_singleton.mp hd];exact Nat.lt_succ_of_lt (Nat.lt_succ_of_lt (Heap.lt_size he))
 .have q:=h h' tk λd o e=>by
   refine hk d o (λhm=> ?_) (Heap.get?_push_of_some _ (Heap.get?_push_of_some _ e));have:=Heap.lt_size e;rw[List.mem_singleton.mp hm,hz] at this;exact Nat.lt_irrefl _ (Nat.lt_of_succ_lt this)
  have hP:(intItems #[(a,t),(b,u)])[argBest (λi j=>decide (numAt #[(a,t),(b,u)] i < numAt #[(a,t),(b,u)] j)) ((intItems #[(a,t),(b,u)]).size - 1)]? =some v:=hP;rw[show (intItems #[(a,t),(b,u)]).size - 1=1 by simp [intItems]] at hP;by_cases hb:b < a
  .rw [show argBest (λi j=>decide (numAt #[(a,t),(b,u)] i < numAt #[(a,t),(b,u)] j)) 1=1 by simp [argBest,numAt,hb]] at hP;rw[if_pos hb] at q;rw[show v=Value.int b u by simpa [intItems] using hP.symm];exact q
  .rw [show argBest (λi j=>decide (numAt #[(a,t),(b,u)] i < numAt #[(a,t),(b,u)] j)) 1=0 by simp [argBest,numAt,hb]] at hP;rw[if_neg hb] at q;rw[show v=Value.int a t by simpa [intItems] using hP.symm];exact q
theorem E1{l:Addr}{items:Array Value}(k:Nat)(hne:l≠it):
  Draws prog w A it (it::l::hnd A) (k + items.size) (λi v=>items[i - k]? =some v) (λi h=>(k<=i/\h.IsListIter it l (i - k)/\h.IsList l items)/\Clm A h):=by
 refine⟨λi h st=> ?_,λi h h' st hk=>⟨⟨st.1.1,st.1.2.1.at λo e=>hk it (by simp) o e,st.1.2.2.at λo e=>hk l (by simp) o e⟩,st.2.on λb hb o e=>hk b (by simp [hb]) o e⟩,λi z Q E hi st hQ=> ?_,λz Q E st hE=>iD st.2 st.1.2.1 st.1.2.2 (by simp) hE⟩
 .obtain ⟨o,ho,_⟩:=st.1.2.1;exact⟨o,ho⟩
 .obtain ⟨⟨hk,h1,h2⟩,c⟩:=st;obtain⟨o,ho,hc,hd⟩:=id h1;have hl:i - k < items.size:=by omega
  refine wpAny_nextOf_list_item h1 h2 (x:=items[i - k]) (by simp [hl]) λh' hit' hs'=>hQ _ h' z.toks (by simp [hl]) ⟨⟨by omega,?_,h2.extBut hs'.extBut hne⟩,c.but ho hd (by simp) hs'.extBut⟩ hs';rw[show i + 1 - k=i - k + 1 by omega];exact hit'
theorem Df{TI TO i1 i2 l1:Addr}{k1:Nat}{xs:Array Value}(c:Clm A s.heap)(n1:i1≠it)(n2:l1≠it)(hz:IsZip s.heap it TI TO .none)(hTI:IsPair s.heap TI (.ref i1) (.ref i2))(h1:s.heap.IsListIter i1 l1 k1)(hl1:s.heap.IsList l1 xs)(hx:xs[k1]? =none)
  (q:∀h',(∀c o,c≠it->c≠i1->s.heap.get? c=some o->h'.get? c=some o)->Q none { s with heap:=h'}):wpAny (model prog w) A (pyNext (.ref it)) Q E s:=by
 have hT:s.TypeIs (.ref it) "zip":=⟨_,hz,rfl⟩;unfold pyNext;refine wpAny_bind (wpAny_attempt (wpAny_callSpecial?_slot (name:=Str.ofString "__next__") hT F.slot_zip_next (wpAny_call_entry F.slot_zip_next hT F.entry_zip_next ?_ (F.args_zip_next_1 _))));refine wpAny_bind (m:=field (.ref it) 2) (wpAny_field hz rfl (x:= .bool false) rfl (wpAny_bind (m:=field (.ref it) 3) (wpAny_field hz rfl (x:= .ref TI) rfl (wpAny_bind (wpAny_seqItems hTI rfl ?_)))));refine wpAny_bind (m:=Builtin.SmallTypes.ownedTupleIsFree (.ref it)) ?_;unfold Builtin.SmallTypes.ownedTupleIsFree;refine wpAny_bind (wpAny_field hz rfl (x:= .none) rfl (wpAny_pure ?_));simp only [if_true];refine wpAny_bind (wpAny_rule (wpAny_bind (wpAny_field hz rfl (x:= .ref TO) rfl (wpAny_bind (wpAny_setField_rec hz (by simp) λh₁ z1 s1=> ?_)))));refine wpAny_bind ?_;simp only [List.zipIdx_cons,List.zipIdx_nil,List.forIn_cons,List.forIn_nil];refine wpAny_bind (wpAny_bind (wpAny_onRaise (wpAny_bind (m:=Builtin.SmallTypes.nextOf (.ref i1)) ?_)));have z1:IsZip h₁ it TI TO .ellipsis:=z1;refine iD (A:=A.in1) (s:={ s with heap:=h₁}) (Clm.but (A:=A.in1) c hz rfl (by simp) s1.extBut) (h1.extBut s1.extBut n1) (hl1.extBut s1.extBut n2) hx λh₂ e s2 he=> ?_;obtain⟨oe,hoe,hce⟩:=he;have z2:IsZip h₂ it TI TO .ellipsis:=s2 _ _ (Ne.symm n1) z1
 have ez:e≠it:=λx=>by
  rw[x,z2] at hoe;cases hoe;simp at hce
 refine wpAny_setField_rec z2 (by simp) λh₃ _ s3=>wpAny_bind (wpAny_isInstance (T:="StopIteration") (b:=true) ⟨oe,s3.extBut _ _ ez hoe,hce⟩ isSubtype_stop (wpAny_pure (q h₃ λd o d1 d2 y=>s3.extBut _ _ d1 (s2 _ _ d2 (s1.extBut _ _ d1 y)))))
end
open PySem.Spec
abbrev Key:=Sum Int Str
def tw:Key->Value->Bool
 | .inl k,v=>Value.isInt k v
 | .inr x,v=>Value.isStrOf x v
def G3(w:World):Key->Int
 | .inl k=>hashInt k
 | .inr x=>hashStr w x
theorem br:∀{k:Key} {v:Value},tw k v=true->(∃i t,k=Sum.inl i/\v=Value.int i t)\/(∃x t,k=Sum.inr x/\v=Value.str x t)
 | .inl i,v,h=>by
  obtain⟨t,e⟩:=Value.isInt_shape (k:=i) (v:=v) h;exact .inl ⟨i,t,rfl,e⟩
 | .inr x,v,h=>by
  obtain⟨t,e⟩:=Value.isStrOf_shape (x:=x) (v:=v) h;exact .inr ⟨x,t,rfl,e⟩
theorem Au(i:Int)(t:Tok):tw (.inl i) (.int i t)=true:=by simp [tw,Value.isInt]
theorem AO(x:Str)(t:Tok):tw (.inr x) (.str x t)=true:=by simp [tw,Value.isStrOf]
theorem ES(a b:Int):decide ((Sum.inl a:Key)=Sum.inl b)=(a == b):=by
 by_cases e:a=b
 .subst e;simp
 .have h:¬(Sum.inl a:Key)=Sum.inl b:=λq=>e (Sum.inl.inj q);rw[decide_eq_false h];exact(beq_eq_false_iff_ne.mpr e).symm
theorem EI(a b:Str):decide ((Sum.inr a:Key)=Sum.inr b)=decide (a=b):=by
 by_cases e:a=b
 .subst e;simp
 .have h:¬(Sum.inr a:Key)=Sum.inr b:=λq=>e (Sum.inr.inj q);rw[decide_eq_false h,decide_eq_false e]
theorem FU(a:Int)(b:Str):decide ((Sum.inl a:Key)=Sum.inr b)=false:=decide_eq_false (λq=>nomatch q)
theorem E2(a:Str)(b:Int):decide ((Sum.inr a:Key)=Sum.inl b)=false:=decide_eq_false (λq=>nomatch q)
def cb(prog:Program)(w:World):PySem.KeyKind prog w Key where
 is:=tw
 hash:=G3 w
 inj:=λv a b ha hb=>by
  rcases br ha with⟨i,t,rfl,rfl⟩ | ⟨x,t,rfl,rfl⟩
  .rcases br hb with⟨j,u,rfl,e⟩ | ⟨y,u,rfl,e⟩
   .injection e with e1 _;rw[e1]
   .exact nomatch e
  .rcases br hb with⟨j,u,rfl,e⟩ | ⟨y,u,rfl,e⟩
   .exact nomatch e
   .injection e with e1 _;rw[e1]
 byValue:=λk v h=>by
  rcases br h with⟨i,t,rfl,rfl⟩ | ⟨x,t,rfl,rfl⟩ <;> rfl
 pyHash:=λhv h=>by
  rcases br hv with⟨i,t,rfl,rfl⟩ | ⟨x,t,rfl,rfl⟩
  .exact wpAny_pyHash_int h
  .exact wpAny_pyHash_str h
 eqBool:=λhu hv h=>by
  rcases br hu with⟨i,t,rfl,rfl⟩ | ⟨x,t,rfl,rfl⟩
  .rcases br hv with⟨j,u,rfl,rfl⟩ | ⟨y,u,rfl,rfl⟩
   .rw [ES] at h;exact wpAny_eqBool_int h
   .rw [FU] at h;exact SeqAt.EqAt.int_str i t y u _ _ _ _ h
  .rcases br hv with⟨j,u,rfl,rfl⟩ | ⟨y,u,rfl,rfl⟩
   .rw [E2] at h;exact SeqAt.EqAt.str_int x t j u _ _ _ _ h
   .rw [EI] at h;exact wpAny_eqBool_str h
 «strs»:=λk x t v h=>by
  rcases br h with⟨i,u,rfl,e⟩ | ⟨y,u,rfl,e⟩
  .exact nomatch e
  .injection e with e1 _;subst e1;cases v <;> rfl
theorem vA(prog:Program)(w:World)(i:Int)(t:Tok):(cb prog w).is (.inl i) (.int i t)=true:=Au i t
theorem vK(prog:Program)(w:World)(x:Str)(t:Tok):(cb prog w).is (.inr x) (.str x t)=true:=AO x t
inductive V where
 | non | bl (b:Bool) | int (i:Int) | str (x:Str) | byt (b:Array UInt8) | flt (b:UInt64) | ref (a:Addr) | ty (n:String)
 deriving DecidableEq
def RelV:V->Value->Prop
 | .non,u=>u=Value.none
 | .bl b,u=>u=Value.bool b
 | .int i,u=>∃t,u=Value.int i t
 | .str x,u=>∃t,u=Value.str x t
 | .byt b,u=>∃t,u=Value.bytes b t
 | .flt b,u=>∃t,u=Value.float b t
 | .ref a,u=>u=Value.ref a
 | .ty n,u=>u=Value.type n
abbrev Vals:List V->List Value->Prop:=Paired RelV
theorem Vals.length{xs:List V}{us:List Value}(r:Vals xs us):xs.length=us.length:=Paired.length r
theorem Vals.get:∀{xs:List V} {us:List Value} {i:Nat} {x:V},Vals xs us->xs[i]? =some x->∃u,us[i]? =some u/\RelV x u
 | _,_,_,_,.nil,e=>by simp at e
 | _,_,0,_,.cons r _,e=>by simp at e;subst e;exact⟨_,rfl,r⟩
 | _,_,i + 1,x,.cons _ t,e=>by
  obtain⟨u,h1,h2⟩:=Vals.get (i:=i) (x:=x) t (by simpa using e);exact⟨u,by simpa using h1,h2⟩
theorem Vals.set{x:V}{u:Value}(r:RelV x u):∀{xs:List V} {us:List Value} (i:Nat),Vals xs us->Vals (xs.set i x) (us.set i u)
 | _,_,_,.nil=> .nil
 | _,_,0,.cons _ t=> .cons r t
 | _,_,i + 1,.cons q t=> .cons q (Vals.set r i t)
theorem Vals.append:∀{xs ys:List V} {us ws:List Value},Vals xs us->Vals ys ws->Vals (xs++ys) (us++ws)
 | _,_,_,_,.nil,s=>s
 | _,_,_,_,.cons r t,s=> .cons r (Vals.append t s)
theorem Vals.take:∀{xs:List V} {us:List Value} (n:Nat),Vals xs us->Vals (xs.take n) (us.take n)
 | _,_,0,_=> .nil
 | _,_,_ + 1,.nil=> .nil
 | _,_,n + 1,.cons r t=> .cons r (Vals.take n t)
theorem Vals.drop:∀{xs:List V} {us:List Value} (n:Nat),Vals xs us->Vals (xs.drop n) (us.drop n)
 | _,_,0,r=>r
 | _,_,_ + 1,.nil=> .nil
 | _,_,n + 1,.cons _ t=>Vals.drop n t
def jH:Option V->Option Value->Prop
 | some v,some u=>RelV v u
 | none,none=>True
 | _,_=>False
def KV{κ:Type}:List (κ × V)->List (κ × Value)->Prop:=Paired λ(p:κ × V) (q:κ × Value)=>p.1=q.1/\RelV p.2 q.2
def kV:Key->V
 | .inl i=> .int i
 | .inr x=> .str x
inductive HO where
 | lst (xs:List V)
 | tup (xs:List V)
 | dK (kvs:List (Key × V)) | dT (kvs:List (List Key × V))
 | set (S:Int->Bool) (n:Nat)
 | ins (C dx:Addr) (fs:List (Str × V))
 | own (x:Addr)
 | xd (fs:List (Str × V))
 | met (f x:Addr)
 | rng (lo hi:Int)
 | frz (o:Obj) (u:HO)
 | tbl (ps:Array Value)
 | ext (φ:Heap->Prop)
abbrev Hp:=Addr->Option HO
def upd(H:Hp)(a:Addr)(o:HO):Hp:=λb=>if b=a then some o else H b
theorem ae{H:Hp}{a:Addr}{o:HO}:upd H a o a=some o:=by unfold upd;rw[if_pos rfl]
theorem ak{H:Hp}{a b:Addr}{o:HO}(h:b≠a):upd H a o b=H b:=by unfold upd;rw[if_neg h]
theorem gS{H:Hp}{a:Addr}{o u:HO}:upd (upd H a o) a u=upd H a u:=by
 funext b;unfold upd;split <;> rfl
theorem Gj{H:Hp}{a b:Addr}{o u:HO}(h:H a=some o)(h':H b=some u)(d:o≠u):a≠b:=by
 intro e;subst e;rw[h] at h';exact d (Option.some.inj h')
theorem au{H:Hp}{a b:Addr}{o:HO}(h:H a=some o)(h':H b=none):a≠b:=by
 intro e;subst e;rw[h] at h';cases h'
section
variable(P:Program)(w:World)
def bM(H:Hp)(h:Heap)(a:Addr):HO->Prop
 | .lst xs=>xs.length<=sizeLine/\∃(its:List Value) (n:Nat),Vals xs its/\h.get? a=some { cls:= .type "list",data:= .seq its.toArray n}
 | .tup xs=>xs.length<=sizeLine/\∃its:List Value,Vals xs its/\IsTup h a its.toArray
 | .dK kvs=>kvs.length<=sizeLine/\(a == sysModules)=false/\∃vs,KV kvs vs/\h.DictOf (cb P w) a vs
 | .dT kvs=>kvs.length<=sizeLine/\(a == sysModules)=false/\∃xs:List (List Key × Addr × Value),
   Paired (λ(p:List Key × V) (q:List Key × Addr × Value)=>p.1=q.1/\H q.2.1=some (.tup (p.1.map kV))/\RelV p.2 q.2.2) kvs xs∧
   ∃o es ep,h.get? a=some o/\o.ExactDict/\o.data=.dict es ep/\es.toList=xs.map (entryOfKey (tupleKind (cb P w)))/\(xs.map (·.1)).Nodup
 | .set S n=>h.SetOf (intKind P w) a S n
 | .ins C dx fs=>H dx=some (.own a)/\fs.length<=1000/\dx≠a/\h.get? a=some (PySem.W.instObj C dx)∧
   ∃mA,h.Ns1 dx mA/\(∀f,jH (fs.lookup f) (mA f))/\PySem.Within mA (fs.map (·.1))
 | .own _=>∃o,h.get? a=some o
 | .xd fs=>∃mA,h.Ns1 a mA/\∀f,jH (fs.lookup f) (mA f)
 | .rng lo hi=>∃t u v,h.get? a=some { cls:= .type "range",data:= .fields #[.int lo t,.int hi u,.int 1 v]}
 | .frz o u=>h.get? a=some o/\bM H h a u
 | .tbl ps=>h.get? a=some { cls:= .none,data:= .fields ps}
 | .met f x=>h.get? a=some (PySem.W.methodObj (.ref f) (.ref x))
 | .ext φ=>φ h/\(∃o,h.get? a=some o)/\∀h1 h2:Heap,φ h1->(∀o,h1.get? a=some o->h2.get? a=some o)->φ h2
def HOk(H:Hp)(h:Heap):Prop:=∀a o,H a=some o->bM P w H h a o
end
section
variable{P:Program}{w:World}{H H':Hp}{h h':Heap}{a:Addr}{o:HO}
theorem bM.lt(x:bM P w H h a o):a < h.objs.size:=by
 cases o with
 | lst xs=>obtain⟨_,_,_,_,e⟩:=x;exact Heap.lt_size e
 | tup xs=>obtain⟨_,_,_,p⟩:=x;exact p.lt
 | dK kvs=>obtain⟨_,_,_,_,o,_,_,e,_⟩:=x;exact Heap.lt_size e
 | dT kvs=>obtain⟨_,_,_,_,o,_,_,e,_⟩:=x;exact Heap.lt_size e
 | set S n=>obtain⟨o,_,_,_,e,_⟩:=x;exact Heap.lt_size e
 | ins C dx fs=>obtain⟨_,_,_,e,_⟩:=x;exact Heap.lt_size e
 | own y=>obtain⟨_,e⟩:=x;exact Heap.lt_size e
 | xd fs=>obtain⟨_,⟨_,_,_,e,_⟩,_⟩:=x;exact Heap.lt_size e
 | rng lo hi=>obtain⟨_,_,_,e⟩:=x;exact Heap.lt_size e
 | frz ob u=>obtain⟨e,_⟩:=x;exact Heap.lt_size e
 | tbl ps=>exact Heap.lt_size (show h.get? a=some _ from x)
 | met f y=>exact Heap.lt_size (show h.get? a=some _ from x)
 | ext φ=>obtain⟨_,⟨_,e⟩,_⟩:=x;exact Heap.lt_size e
theorem Paired.E9{α β:Type}{F G:α->β->Prop}:∀{l₁:List α} {l₂:List β},Paired F l₁ l₂->(∀a b,F a b->G a b)->Paired G l₁ l₂
 | _,_,.nil,_=> .nil
 | _,_,.cons r t,f=> .cons (f _ _ r) (Paired.E9 t f)
theorem bM.u9(x:bM P w H h a o)(k:∀b u,(b=a\/H b=some (.own a))->h.get? b=some u->h'.get? b=some u)
  (ho:∀b,H b=some (.own a)->H' b=some (.own a)) (ht:∀b xs,H b=some (.tup xs)->H' b=some (.tup xs)):bM P w H' h' a o:=by
 induction o with
 | lst xs=>obtain⟨z,its,n,r,e⟩:=x;exact⟨z,its,n,r,k _ _ (.inl rfl) e⟩
 | tup xs=>obtain⟨z,its,r,ob,e,c⟩:=x;exact⟨z,its,r,ob,k _ _ (.inl rfl) e,c⟩
 | dK kvs=>obtain⟨z,y,vs,r,ob,es,ep,e,c⟩:=x;exact⟨z,y,vs,r,ob,es,ep,k _ _ (.inl rfl) e,c⟩
 | dT kvs=>
  obtain⟨z,y,xs,r,ob,es,ep,e,c⟩:=x;exact⟨z,y,xs,Paired.E9 r λp q z=>⟨z.1,ht _ _ z.2.1,z.2.2⟩,ob,es,ep,k _ _ (.inl rfl) e,c⟩
 | set S n=>obtain⟨ob,es,ep,t,e,c⟩:=x;exact⟨ob,es,ep,t,k _ _ (.inl rfl) e,c⟩
 | ins C dx fs=>
  obtain⟨d,z,ne,e,mA,⟨od,es,ep,e2,c⟩,r⟩:=x;exact⟨ho _ d,z,ne,k _ _ (.inl rfl) e,mA,⟨od,es,ep,k _ _ (.inr d) e2,c⟩,r⟩
 | own y=>obtain⟨ob,e⟩:=x;exact⟨ob,k _ _ (.inl rfl) e⟩
 | xd fs=>obtain⟨mA,⟨od,es,ep,e,c⟩,r⟩:=x;exact⟨mA,⟨od,es,ep,k _ _ (.inl rfl) e,c⟩,r⟩
 | rng lo hi=>obtain⟨t,u,v,e⟩:=x;exact⟨t,u,v,k _ _ (.inl rfl) e⟩
 | frz ob u ih=>obtain⟨e,q⟩:=x;exact⟨k _ _ (.inl rfl) e,ih q⟩
 | tbl ps=>
  have e:h.get? a=some { cls:= .none,data:= .fields ps}:=x;show h'.get? a=some { cls:= .none,data:= .fields ps};exact k a _ (.inl rfl) e
 | met f y=>
  have e:h.get? a=some (PySem.W.methodObj (.ref f) (.ref y)):=x;show h'.get? a=some (PySem.W.methodObj (.ref f) (.ref y));exact k a _ (.inl rfl) e
 | ext φ=>obtain⟨p,⟨o,e⟩,st⟩:=x;exact⟨st _ _ p λo q=>k _ _ (.inl rfl) q,⟨o,k _ _ (.inl rfl) e⟩,st⟩
theorem HOk.lt(x:HOk P w H h)(e:H a=some o):a < h.objs.size:=(x a o e).lt
theorem HOk.fresh(x:HOk P w H h)(e:h.objs.size<=a):H a=none:=by
 cases q:H a with
 | none=>rfl
 | some u=>exact absurd (Nat.lt_of_lt_of_le (x.lt q) e) (Nat.lt_irrefl _)
theorem HOk.kept(x:HOk P w H h)(k:∀b u,h.get? b=some u->h'.get? b=some u):HOk P w H h':=λa o e=>
 (x a o e).u9 (λb u _ q=>k b u q) (λ_ q=>q) λ_ _ q=>q
theorem HOk.laid(x:HOk P w H h)(k:∀b u,h.get? b=some u->h'.get? b=some u)(hp:h.objs.size<=a)(new:bM P w (upd H a o) h' a o):HOk P w (upd H a o) h':=λb u e=>by
 have hn:=x.fresh hp;by_cases hb:b=a
 .subst hb;rw[ae] at e;cases e;exact new
 .rw [ak hb] at e;exact(x b u e).u9 (λc v _ q=>k c v q) (λc q=>by rw[ak (au q hn)];exact q) λc xs q=>by rw[ak (au q hn)];exact q
end
def Rd(H:Hp)(a:Addr)(u:HO):Prop:=H a=some u\/∃o,H a=some (.frz o u)
theorem Rd.ok{P:Program}{w:World}{H:Hp}{h:Heap}{a:Addr}{u:HO}(r:Rd H a u)(x:HOk P w H h):bM P w H h a u:=by
 rcases r with r | ⟨o,r⟩
 .exact x a u r
 .obtain ⟨_,q⟩:=x a _ r;exact q
def Mut:Option HO->Prop
 | some (.lst _)=>True
 | some (.dK _)=>True
 | some (.dT _)=>True
 | some (.set _ _)=>True
 | some (.ins _ _ _)=>True
 | some (.ext _)=>True
 | _=>False
section
variable{P:Program}{w:World}{H:Hp}{h h':Heap}{x e:Addr}{o':HO}
theorem HOk.write(ok:HOk P w H h)(mu:Mut (H x))(he:e=x\/H e=some (.own x))(k:∀b u,b≠e->h.get? b=some u->h'.get? b=some u)(heo:∃u,h'.get? e=some u)
  (new:bM P w (upd H x o') h' x o'):HOk P w (upd H x o') h':=λb u q=>by
 have nown:∀c y,H c=some (.own y)->c≠x:=λc y r z=>by subst z;rw[r] at mu;exact mu
 have ntup:∀c xs,H c=some (.tup xs)->c≠x:=λc xs r z=>by subst z;rw[r] at mu;exact mu
 by_cases hb:b=x
 .subst hb;rw[ae] at q;cases q;exact new
 .rw [ak hb] at q;by_cases hbe:b=e
  .have q':H b=some (.own x):=by
    rcases he with z | z
    .exact absurd (hbe.trans z) hb
    .rw [hbe];exact z
   rw[q] at q';cases q';obtain⟨v,hv⟩:=heo;exact⟨v,by rw[hbe];exact hv⟩
  .refine (ok b u q).u9 (λc v hc r=>k c v ?_ r) (λc r=>by rw[ak (nown c b r)];exact r) λc xs r=>by rw[ak (ntup c xs r)];exact r
   rcases hc with rfl | hc
   .exact hbe
   .rintro rfl;rcases he with z | z
    .exact nown c b hc z
    .rw [hc] at z;cases z;exact hb rfl
end
structure Un(fs ex:List Addr)(H H':Hp)(h h':Heap):Prop where
 keep:∀b o,h.get? b=some o->H b=none->b∉fs->b∉ex->h'.get? b=some o
 slot:∀b o,h.get? b=some o->H b=none->b∈fs->b∉ex->∃sl,h'.get? b=some { o with slots:=sl}
 free:∀b o,h.get? b=some o->H b=none->b∉ex->H' b=none
 there:∀b o,h.get? b=some o->b∉ex->∃o',h'.get? b=some o'
 u4:∀b xs,H b=some (.tup xs)->H' b=some (.tup xs)
 sd:∀b o u,H b=some (.frz o u)->H' b=some (.frz o u)
 uo:∀b ps,H b=some (.tbl ps)->∃more,H' b=some (.tbl (ps++more))
section
variable{fs fs' ex ex':List Addr}{H H1 H2:Hp}{h h1 h2 h':Heap}{a x e:Addr}{o:HO}
theorem Un.any(u:Un fs ex H H1 h h1){b:Addr}{ob:Obj}(q:h.get? b=some ob)(n:H b=none)(hx:b∉ex):∃sl,h1.get? b=some { ob with slots:=sl}:=by
 by_cases hb:b∈fs
 .exact u.slot b ob q n hb hx
 .exact ⟨ob.slots,u.keep b ob q n hb hx⟩
theorem Un.kept(k:∀b u,h.get? b=some u->h'.get? b=some u):Un fs ex H H h h':=
 ⟨λb ob q _ _ _=>k b ob q,λb ob q _ _ _=>⟨ob.slots,k b ob q⟩,λ_ _ _ n _=>n,λb ob q _=>⟨ob,k b ob q⟩,λ_ _ q=>q,λ_ _ _ q=>q,λ_ ps q=>⟨#[],by rw[q];simp⟩⟩
theorem Un.refl:Un fs ex H H h h:=Un.kept λ_ _ q=>q
theorem Un.laid(k:∀b u,h.get? b=some u->h'.get? b=some u)(hp:h.objs.size<=a)(hn:H a=none):Un fs ex H (upd H a o) h h' where
 keep:=λb u q _ _ _=>k b u q
 slot:=λb u q _ _ _=>⟨u.slots,k b u q⟩
 free:=λb u q n _=>by rw[ak (Nat.ne_of_lt (Nat.lt_of_lt_of_le (Heap.lt_size q) hp))];exact n
 there:=λb u q _=>⟨u,k b u q⟩
 u4:=λb xs q=>by rw[ak (au q hn)];exact q
 sd:=λb u xs q=>by rw[ak (au q hn)];exact q
 uo:=λb ps q=>⟨#[],by rw[ak (au q hn),q];simp⟩
theorem Un.write(mu:Mut (H x))(he:e=x\/H e=some (.own x))(k:∀b u,b≠e->h.get? b=some u->h'.get? b=some u)(heo:∃u,h'.get? e=some u):Un fs ex H (upd H x o) h h':=by
 have hx:∀b,H b=none->b≠x:=λb n z=>by subst z;rw[n] at mu;exact mu
 have hb:∀b,H b=none->b≠e:=λb n z=>by
  subst z;rcases he with r | r
  .exact hx b n r
  .rw [n] at r;cases r
 have hm:∀b u,H b=some u->¬Mut (some u)->b≠x:=λb u q nm z=>by subst z;rw[q] at mu;exact nm mu
 refine⟨λb u q n _ _=>k b u (hb b n) q,λb u q n _ _=>⟨u.slots,k b u (hb b n) q⟩,λb u q n _=>by rw[ak (hx b n)];exact n,λb u q _=> ?_,
  λb xs q=>by rw[ak (hm b _ q λz=>z)];exact q,λb u xs q=>by rw[ak (hm b _ q λz=>z)];exact q,λb ps q=>⟨#[],by rw[ak (hm b _ q λz=>z),q];simp⟩⟩
 by_cases hbe:b=e
 .subst hbe;exact heo
 .exact ⟨u,k b u hbe q⟩
end
def trk(h:Heap)(H:Hp):List Addr:=(List.range h.objs.size).filter λa=>(H a).isSome
def vy(h:Heap)(H:Hp):Heap:=PySem.W.hideAll h (trk h H)
theorem Ae(h:Heap)(H:Hp):(vy h H).objs.size=h.objs.size:=PySem.W.hideAll_size _ _
theorem B8{h:Heap}{H:Hp}{b:Addr}{o:Obj}(e:h.get? b=some o)(n:H b=none):(vy h H).get? b=some o:=
 PySem.W.hideAll_get _ e λhm=>by
  have q:(H b).isSome=true:=(List.mem_filter.mp hm).2;rw[n] at q;simp at q
theorem Dv{h:Heap}{H:Hp}{b:Addr}{o:Obj}(e:(vy h H).get? b=some o):h.get? b=some o/\H b=none:=by
 have e':h.get? b=some o:=PySem.W.of_hideAll (trk h H) e;refine⟨e',?_⟩;cases q:H b with
 | none=>rfl
 | some x=>
  have hm:b∈trk h H:=List.mem_filter.mpr ⟨List.mem_range.mpr (Heap.lt_size e'),by simp [q]⟩;have z:(vy h H).get? b=none:=PySem.W.hideAll_none (trk h H) hm;rw[z] at e;cases e
structure Mod(K:PySem.W.Frag)(mg:Str->Option Value)(base:Heap):Prop where
 kin:K.In base
 glob:base.Ns mainGlobals mg
 blt:∃mb,base.Ns builtinsNs mb/\∀x:Str,x≠"__name__"->mb x=bootBuiltins x
 nolimit:base.NoLimit
structure Cx where
 prog:Program
 w:World
 K:PySem.W.Frag
 mg:Str->Option Value
 base:Heap
 A:Around
 N:List Str
 s₀:Shared
 H₀:Hp
 env:Env
 outer:List Env
 stack:List Env
 ex:List Addr
 fn:Str->Bool
 calm:Bool
 pn:List (Addr × Obj)
 xe:Value->Shared->Prop
def frs(l:List Env):List Addr:=l.filterMap (·.frame)
abbrev Cx.fs(X:Cx):List Addr:=frs X.outer
def Vis(sc:Scope)(x:Str):Prop:=sc.names.lookup x=some .local\/sc.names.lookup x=some .cell\/sc.names.lookup x=some .free
def Loc(sc:Scope)(x:Str):Prop:=sc.names.lookup x=some .local\/sc.names.lookup x=some .cell
def Look(env:Env)(h:Heap)(m:Str->Option Value)(x:Str)(u:Value):Prop:=
 (env.kindOf x=some .local/\m x=some u)\/((env.kindOf x=some .cell\/env.kindOf x=some .free)/\∃c,env.cells.lookup x=some c/\h.IsCell c (some u))
def Cx.Cl(X:Cx):Prop:=X.A.handled=none\/∃e o vs,X.A.handled=some (.ref e)/\o.data=.fields vs/\vs[2]? =some .none/\((e,o)∈X.pn\/(X.s₀.heap.get? e=some o/\X.H₀ e=none/\e∉X.fs/\e∉X.ex))
def Cl0(A:Around)(h:Heap)(H:Hp)(F:List Addr):Prop:=A.handled=none\/∃e o vs,A.handled=some (.ref e)/\o.data=.fields vs/\vs[2]? =some .none/\h.get? e=some o/\H e=none/\e∉F
structure Cx.Ok(X:Cx):Prop where
 mod:Mod X.K X.mg X.base
 kind:X.env.scope.kind=.function
 glob:X.env.globals=mainGlobals
 blt:X.env.builtins=builtinsNs
 above:X.s₀.heap.objs.size<=X.env.locals
 inj:∀x y c,X.env.cells.lookup x=some c->X.env.cells.lookup y=some c->x=y
 has:∀x,(X.env.kindOf x=some .cell\/X.env.kindOf x=some .free)->∃c,X.env.cells.lookup x=some c
 cab:∀x c,X.fn x=true->X.env.cells.lookup x=some c->X.s₀.heap.objs.size<=c
 hd:X.calm=false->X.A.handled=none
 cl:X.Cl
 frames:X.A.frames=some X.stack
 stk:X.stack=X.outer\/(X.stack=X.env::X.outer/\X.env.frame=some X.env.locals)
 exf:∀b∈X.ex,b≠X.env.locals/\∀x c,X.env.cells.lookup x=some c->c≠b
 bs:∀b o,X.base.get? b=some o->X.s₀.heap.get? b=some o/\X.H₀ b=none
 bsz:X.base.objs.size<=X.s₀.heap.objs.size
 rZ:∀b o,X.base.get? b=some o->b∉X.ex
 rP:∀b∈X.ex,b∉X.fs
 iA:X.s₀.heap.FunFrames X.base X.outer
 frf:∀b∈X.fs,X.H₀ b=none
structure Inv(X:Cx)(pins:List (Addr × Obj))(σ:List (Option V))(H:Hp)(s:Shared):Prop where
 ok:X.Ok
 os:s.os=X.s₀.os
 bare:AllBare s.gens
 base:Un X.fs X.ex X.H₀ H X.s₀.heap s.heap
 loc:∃m,s.heap.Ns X.env.locals m/\∀(i:Nat) (x:Str) (v:V),X.N[i]? =some x->σ[i]? =some (some v)->Vis X.env.scope x->∃u,RelV v u/\Look X.env s.heap m x u
 cell:∀x c,X.env.cells.lookup x=some c->∃v,s.heap.IsCell c v
 free:H X.env.locals=none
 di:∀x c,X.env.cells.lookup x=some c->H c=none
 pin:∀p∈X.pn++pins,s.heap.get? p.1=some p.2/\H p.1=none/\p.1≠X.env.locals/\p.1∉X.fs/\∀v,p.2.data≠ .cell v
 hok:HOk X.prog X.w H s.heap
 len:σ.length=X.N.length
section
variable{X:Cx}{pins:List (Addr × Obj)}{σ:List (Option V)}{H H':Hp}{s:Shared}{h':Heap}
theorem Cx.Ok.Hc(ok:X.Ok){b:Addr}{o:Obj}(e:X.base.get? b=some o):b∉X.fs:=λhb=>by
 have:=(ok.iA.mem hb).1;rw[e] at this;cases this
theorem Inv.bs(I:Inv X pins σ H s):∀b o,X.base.get? b=some o->s.heap.get? b=some o/\H b=none:=λb o e=>
 ⟨I.base.keep b o (I.ok.bs b o e).1 (I.ok.bs b o e).2 (I.ok.Hc e) (I.ok.rZ b o e),I.base.free b o (I.ok.bs b o e).1 (I.ok.bs b o e).2 (I.ok.rZ b o e)⟩
theorem Inv.bk(I:Inv X pins σ H s):∀b o,X.base.get? b=some o->s.heap.get? b=some o:=λb o e=>(I.bs b o e).1
theorem Inv.mod(I:Inv X pins σ H s):Mod X.K X.mg X.base:=I.ok.mod
theorem Inv.cl(I:Inv X pins σ H s):X.A.handled=none\/∃e o vs,X.A.handled=some (.ref e)/\o.data=.fields vs/\vs[2]? =some .none/\s.heap.get? e=some o/\H e=none/\e∉X.fs/\e≠X.env.locals∧
  ((e,o)∈X.pn\/(X.s₀.heap.get? e=some o/\e∉X.ex)):=by
 rcases I.ok.cl with z | ⟨e,o,vs,z,h1,h2,h | ⟨h3,h4,h5,h6⟩⟩
 .exact .inl z
 .obtain ⟨p1,p2,p3,p4,_⟩:=I.pin (e,o) (List.mem_append_left _ h);exact .inr ⟨e,o,vs,z,h1,h2,p1,p2,p4,p3,.inl h⟩
 .exact .inr ⟨e,o,vs,z,h1,h2,I.base.keep e o h3 h4 h5 h6,I.base.free e o h3 h4 h6,h5,Nat.ne_of_lt (Nat.lt_of_lt_of_le (Heap.lt_size h3) I.ok.above),.inr ⟨h3,h6⟩⟩
theorem Inv.cm(I:Inv X pins σ H s):Clm X.A s.heap:=by
 rcases I.cl with z | ⟨e,o,vs,z,h1,h2,h3,_⟩
 .exact .inl z
 .exact .inr ⟨e,o,vs,z,h3,h1,h2⟩
theorem Inv.cl0(I:Inv X pins σ H s):Cl0 X.A s.heap H (frs X.stack):=by
 rcases I.cl with z | ⟨e,o,vs,z,h1,h2,h3,h4,h5,h6,_⟩
 .exact .inl z
 .refine .inr ⟨e,o,vs,z,h1,h2,h3,h4,λhm=> ?_⟩;rcases I.ok.stk with y | ⟨y,y2⟩
  .rw [y] at hm;exact h5 hm
  .rw [y] at hm;unfold frs at hm;rw[List.filterMap_cons,y2] at hm;rcases List.mem_cons.mp hm with q | q
   .exact h6 q
   .exact h5 q
theorem Inv.kIn(I:Inv X pins σ H s):X.K.In s.heap:=I.ok.mod.kin.keeps I.bk
theorem Inv.lt(I:Inv X pins σ H s):X.env.locals < s.heap.objs.size:=let ⟨_,hn,_⟩:=I.loc;hn.lt
theorem Inv.sz(I:Inv X pins σ H s):X.s₀.heap.objs.size<=s.heap.objs.size:=Nat.le_trans I.ok.above (Nat.le_of_lt I.lt)
theorem Inv.Hj(I:Inv X pins σ H s){a:Addr}(h:s.heap.objs.size<=a):a∉X.fs:=λhb=>by
 obtain⟨_,o,ho,_⟩:=I.ok.iA.mem hb;exact absurd (Nat.lt_of_lt_of_le (Heap.lt_size ho) (Nat.le_trans I.sz h)) (Nat.lt_irrefl _)
theorem Inv.cne(I:Inv X pins σ H s):∀x c,X.env.cells.lookup x=some c->c≠X.env.locals:=λx c e z=>by
 obtain⟨v,o,ho,hd⟩:=I.cell x c e;obtain⟨m,⟨o',es,ep,ho',hd',_⟩,_⟩:=I.loc;rw[z,ho'] at ho;cases ho;rw[hd'] at hd;cases hd
theorem Inv.iA(I:Inv X pins σ H s):s.heap.FunFrames X.base X.outer:=by
 have all:∀(l:List Env),(∀b∈frs l,b∈X.fs)->X.s₀.heap.FunFrames X.base l->s.heap.FunFrames X.base l:=by
  intro l
  induction l with
  | nil=>intro _ _;trivial
  | cons env r ih=>
   intro hs hl;obtain⟨hk,⟨L,o,hf,hn,ho,hd⟩,hr⟩:=hl;have hL:L∈X.fs:=hs L (by unfold frs;rw[List.filterMap_cons,hf];exact List.mem_cons_self);obtain⟨sl,e⟩:=I.base.slot L o ho (I.ok.frf L hL) hL λz=>I.ok.rP L z hL;exact⟨hk,⟨L,_,hf,hn,e,hd⟩,ih (λb hb=>hs b (by unfold frs;rw[List.filterMap_cons,hf];exact List.mem_cons_of_mem _ hb)) hr⟩
 exact all X.outer (λ_ hb=>hb) I.ok.iA
theorem Inv.stack(I:Inv X pins σ H s):s.heap.FunFrames X.base X.stack:=by
 rcases I.ok.stk with e | ⟨e,hf⟩
 .rw [e];exact I.iA
 .rw [e];obtain⟨m,hn,_⟩:=I.loc;refine .cons (by rw[I.ok.kind];decide) hf hn ?_ I.iA;exact Heap.get?_none_of_le (Nat.le_trans I.ok.bsz I.ok.above)
theorem Inv.mX(I:Inv X pins σ H s):∀b∈frs X.stack,b∈X.env.locals::X.fs:=λb hb=>by
 rcases I.ok.stk with e | ⟨e,hf⟩
 .rw [e] at hb;exact List.mem_cons_of_mem _ hb
 .rw [e] at hb;unfold frs at hb;rw[List.filterMap_cons,hf] at hb;exact hb
theorem Inv.o8(I:Inv X pins σ H s):∀b∈frs X.stack,H b=none:=λb hb=>by
 rcases List.mem_cons.mp (I.mX b hb) with e | hb
 .rw [e];exact I.free
 .obtain ⟨_,o,ho,_⟩:=I.ok.iA.mem hb;exact I.base.free b o ho (I.ok.frf b hb) λz=>I.ok.rP b z hb
theorem Inv.step{g':Array GenState}{t':Nat}{d':Drawn}{ch:List Addr}(I:Inv X pins σ H s)
  (hch:∀b∈ch,(b∈X.ex\/X.s₀.heap.get? b=none)/\b≠X.env.locals/\(∀x c,X.env.cells.lookup x=some c->c≠b)/\∀p∈X.pn++pins,p.1≠b)
  (keep:∀b o,b≠X.env.locals->b∉X.fs->b∉ch->s.heap.get? b=some o->H b=none->h'.get? b=some o)
  (slot:∀b o,b≠X.env.locals->b∈X.fs->b∉ch->s.heap.get? b=some o->H b=none->∃sl,h'.get? b=some { o with slots:=sl}) (free:∀b o,b∉ch->s.heap.get? b=some o->H b=none->H' b=none)
  (there:∀b o,b∉ch->s.heap.get? b=some o->∃o',h'.get? b=some o')
  (u4:∀b xs,H b=some (.tup xs)->H' b=some (.tup xs)) (sd:∀b o u,H b=some (.frz o u)->H' b=some (.frz o u)) (uo:∀b ps,H b=some (.tbl ps)->∃more,H' b=some (.tbl (ps++more)))
  (ns:∀m,s.heap.Ns X.env.locals m->h'.Ns X.env.locals m) (hok:HOk X.prog X.w H' h') (hg:AllBare g'):
  Inv X pins σ H' { s with heap:=h',gens:=g',drawn:=d',toks:=t'}:=by
 have neL:∀b o,X.s₀.heap.get? b=some o->b≠X.env.locals:=λb o e=>Nat.ne_of_lt (Nat.lt_of_lt_of_le (Heap.lt_size e) I.ok.above)
 have neC:∀b o,X.s₀.heap.get? b=some o->b∉X.ex->b∉ch:=λb o e hx hb=>by
  rcases(hch b hb).1 with z | z
  .exact hx z
  .rw [z] at e;cases e
 have cellK:∀x c,X.env.cells.lookup x=some c->∀v,s.heap.IsCell c v->h'.IsCell c v:=λx c e v ⟨o,ho,hd⟩=>by
  have nch:c∉ch:=λz=>(hch c z).2.2.1 x c e rfl;by_cases hc:c∈X.fs
  .obtain ⟨sl,q⟩:=slot c o (I.cne x c e) hc nch ho (I.di x c e);exact⟨_,q,hd⟩
  .exact ⟨o,keep c o (I.cne x c e) hc nch ho (I.di x c e),hd⟩
 refine⟨I.ok,I.os,hg,⟨λb o e n hb hx=> ?_,λb o e n hb hx=> ?_,λb o e n hx=> ?_,λb o e hx=> ?_,λb xs e=>u4 b xs (I.base.u4 b xs e),λb o xs e=>sd b o xs (I.base.sd b o xs e),λb ps e=> ?_⟩,?_,λx c e=> ?_,?_,λx c e=> ?_,λp hp=> ?_,hok,I.len⟩
 .exact keep b o (neL b o e) hb (neC b o e hx) (I.base.keep b o e n hb hx) (I.base.free b o e n hx)
 .obtain ⟨sl,e1⟩:=I.base.slot b o e n hb hx;obtain⟨sl',e2⟩:=slot b _ (neL b o e) hb (neC b o e hx) e1 (I.base.free b o e n hx);exact⟨sl',e2⟩
 .obtain ⟨o',e1⟩:=I.base.there b o e hx;exact free b o' (neC b o e hx) e1 (I.base.free b o e n hx)
 .obtain ⟨o',e1⟩:=I.base.there b o e hx;exact there b o' (neC b o e hx) e1
 .obtain ⟨m1,e1⟩:=I.base.uo b ps e;obtain⟨m2,e2⟩:=uo b _ e1;exact⟨m1++m2,by rw[e2,Array.append_assoc]⟩
 .obtain ⟨m,hn,hl⟩:=I.loc;refine⟨m,ns m hn,λi x v e1 e2 e3=> ?_⟩;obtain⟨u,r,l⟩:=hl i x v e1 e2 e3;refine⟨u,r,?_⟩;rcases l with l | ⟨k,c,e,z⟩
  .exact .inl l
  .exact .inr ⟨k,c,e,cellK x c e _ z⟩
 .obtain ⟨v,z⟩:=I.cell x c e;exact⟨v,cellK x c e v z⟩
 .obtain ⟨m,⟨o,_,_,ho,_⟩,_⟩:=I.loc;exact free _ o (λz=>(hch _ z).2.1 rfl) ho I.free
 .obtain ⟨v,o,ho,hd⟩:=I.cell x c e;exact free c o (λz=>(hch c z).2.2.1 x c e rfl) ho (I.di x c e)
 .obtain ⟨e,n,ne,nf,d⟩:=I.pin p hp;have nch:p.1∉ch:=λz=>(hch p.1 z).2.2.2 p hp rfl;exact⟨keep p.1 p.2 ne nf nch e n,free p.1 p.2 nch e n,ne,nf,d⟩
theorem Inv.un{t':Nat}(I:Inv X pins σ H s)(u:Un X.fs [] H H' s.heap h')(hok:HOk X.prog X.w H' h'):Inv X pins σ H' { s with heap:=h',toks:=t'}:=by
 obtain⟨m,⟨o,es,ep,ho,r⟩,_⟩:=id I.loc;obtain⟨sl,hL⟩:=u.any ho I.free (by simp)
 exact I.step (g':=s.gens) (d':=s.drawn) (ch:=[]) (λ_ z=>nomatch z) (λb o _ hb _ e n=>u.keep b o e n hb (by simp)) (λb o _ hb _ e n=>u.slot b o e n hb (by simp)) (λb o _ e n=>u.free b o e n (by simp)) (λb o _ e=>u.there b o e (by simp)) u.u4 u.sd u.uo (λm' hm=>by
  obtain⟨o',es',ep',ho',r'⟩:=hm;rw[ho] at ho';cases ho';exact⟨_,es',ep',hL,r'⟩) hok I.bare
theorem Inv.call{g':Array GenState}{t':Nat}{d':Drawn}{ch:List Addr}(I:Inv X pins σ H s)(u:Un (frs X.stack) ch H H' s.heap h')(hok:HOk X.prog X.w H' h')(hg:AllBare g')
  (hch:∀b∈ch,(b∈X.ex\/X.s₀.heap.get? b=none)/\b≠X.env.locals/\(∀x c,X.env.cells.lookup x=some c->c≠b)/\∀p∈X.pn++pins,p.1≠b):
  Inv X pins σ H' { s with heap:=h',gens:=g',drawn:=d',toks:=t'}:=by
 obtain⟨m,⟨o,es,ep,ho,r⟩,_⟩:=id I.loc;obtain⟨sl,hL⟩:=u.any ho I.free λz=>(hch _ z).2.1 rfl
 exact I.step (ch:=ch) hch (λb o hL hb hc e n=>u.keep b o e n (λz=>(List.mem_cons.mp (I.mX b z)).elim hL hb) hc) (λb o _ _ hc e n=>u.any e n hc) (λb o hc e n=>u.free b o e n hc) (λb o hc e=>u.there b o e hc) u.u4 u.sd u.uo (λm' hm=>by
  obtain⟨o',es',ep',ho',r'⟩:=hm;rw[ho] at ho';cases ho';exact⟨_,es',ep',hL,r'⟩) hok hg
theorem Inv.turned{t':Nat}{it:Addr}(I:Inv X pins σ H s)(k:∀b o,b≠it->s.heap.get? b=some o->h'.get? b=some o)(hn:H it=none)(hL:it≠X.env.locals)
  (h1:it∈X.ex\/X.s₀.heap.get? it=none) (h2:∀x c,X.env.cells.lookup x=some c->c≠it) (h3:∀p∈X.pn++pins,p.1≠it):Inv X pins σ H { s with heap:=h',toks:=t'}:=by
 have nit:∀b u,H b=some u->b≠it:=λb u e z=>by rw[z,hn] at e;cases e
 refine I.step (g':=s.gens) (d':=s.drawn) (ch:=[it]) (λb hb=> ?_) (λb o _ _ hc e _=>k b o (λz=>hc (by simp [z])) e) (λb o _ _ hc e _=>⟨o.slots,k b o (λz=>hc (by simp [z])) e⟩) (λ_ _ _ _ n=>n)
  (λb o hc e=>⟨o,k b o (λz=>hc (by simp [z])) e⟩) (λ_ _ e=>e) (λ_ _ _ e=>e) (λb ps e=>⟨#[],by rw[e];simp⟩) (λm hm=> ?_) (λb u e=> ?_) I.bare
 .have e:b=it:=by simpa using hb
  subst e;exact⟨h1,hL,h2,h3⟩
 .obtain ⟨o,es,ep,ho,r⟩:=hm;exact⟨o,es,ep,k _ o (Ne.symm hL) ho,r⟩
 .refine (I.hok b u e).u9 (λc v hc q=>k c v ?_ q) (λ_ q=>q) λ_ _ q=>q;rcases hc with z | z
  .rw [z];exact nit b u e
  .exact nit c _ z
theorem Inv.tok(I:Inv X pins σ H s)(t:Nat):Inv X pins σ H { s with toks:=t}:=I.un (h':=s.heap) (t':=t) Un.refl I.hok
theorem Inv.kept{t':Nat}(I:Inv X pins σ H s)(k:∀b u,s.heap.get? b=some u->h'.get? b=some u):Inv X pins σ H { s with heap:=h',toks:=t'}:=I.un (Un.kept k) (I.hok.kept k)
theorem Inv.laid{a:Addr}{o:HO}{t':Nat}(I:Inv X pins σ H s)(k:∀b u,s.heap.get? b=some u->h'.get? b=some u)(hp:s.heap.objs.size<=a)(new:bM X.prog X.w (upd H a o) h' a o):
  Inv X pins σ (upd H a o) { s with heap:=h',toks:=t'}:=I.un (Un.laid k hp (I.hok.fresh hp)) (I.hok.laid k hp new)
theorem Inv.write{x e:Addr}{o:HO}{t':Nat}(I:Inv X pins σ H s)(mu:Mut (H x))(he:e=x\/H e=some (.own x))(k:∀b u,b≠e->s.heap.get? b=some u->h'.get? b=some u)(heo:∃u,h'.get? e=some u)
  (new:bM X.prog X.w (upd H x o) h' x o):Inv X pins σ (upd H x o) { s with heap:=h',toks:=t'}:=I.un (Un.write mu he k heo) (I.hok.write mu he k heo new)
theorem Inv.jw{pins':List (Addr × Obj)}(I:Inv X pins σ H s)(h:∀p∈pins',s.heap.get? p.1=some p.2/\H p.1=none/\p.1≠X.env.locals/\p.1∉X.fs/\∀v,p.2.data≠ .cell v):Inv X pins' σ H s:=
 ⟨I.ok,I.os,I.bare,I.base,I.loc,I.cell,I.free,I.di,λp hp=>(List.mem_append.mp hp).elim (λz=>I.pin p (List.mem_append_left _ z)) (h p),I.hok,I.len⟩
theorem wz{N:List Str}(hN:N.Nodup){i j:Nat}{x:Str}(a:N[i]? =some x)(b:N[j]? =some x):i=j:=by
 obtain⟨h1,e1⟩:=List.getElem?_eq_some_iff.mp a;obtain⟨h2,e2⟩:=List.getElem?_eq_some_iff.mp b;exact(List.getElem_inj hN).mp (e1.trans e2.symm)
theorem ml{M:Model}{A:Around}{E:Value->Shared->Prop}{i:Nat}{x:Str}{v:V}{u:Value}{Q:Unit->Shared->Prop}(I:Inv X pins σ H s)(hN:X.N.Nodup)(hi:X.N[i]? =some x)(hx:Loc X.env.scope x)(r:RelV v u)
  (h:∀s',Inv X pins (σ.set i (some v)) H s'->(∃a,Heap.SameBut a s.heap s'.heap/\(a=X.env.locals\/X.env.cells.lookup x=some a))->Q () s') (hf:X.fn x=true\/X.env.scope.names.lookup x=some .local:=by first | exact .inl rfl | exact .inr rfl | assumption):wpAny M A (storeName X.env x u) Q E s:=by
 obtain⟨m,hn,hl⟩:=id I.loc;have hcls:(X.env.scope.kind == .class || (X.env.scope.kind == .module && X.env.locals != X.env.globals))=false:=by rw[I.ok.kind];rfl
 have hiσ:i < σ.length:=by rw[I.len];exact(List.getElem?_eq_some_iff.mp hi).1
 have cne:=I.cne
 have tracked:∀{a:Addr} {h':Heap},(∃o,s.heap.get? a=some o/\H a=none)->Heap.SameBut a s.heap h'->HOk X.prog X.w H h':=λ{a h'} ha hs b ob e=>by
  obtain⟨_,_,hfree⟩:=ha;refine(I.hok b ob e).u9 (λc w' hc q=>(hs.2 c ?_).trans q) (λ_ q=>q) λ_ _ q=>q;rintro rfl;rcases hc with rfl | hc
  .rw [hfree] at e;cases e
  .rw [hfree] at hc;cases hc
 rcases hx with hk | hk
 .refine wpAny_storeName_local hk hn (λh' hn' hs=> ?_) hcls;obtain⟨oL,_,_,hoL,_⟩:=id hn;refine h _ ⟨I.ok,I.os,I.bare,⟨λb o e n hb hx=> ?_,λb o e n hb hx=> ?_,I.base.free,λb o e hx=> ?_,I.base.u4,I.base.sd,I.base.uo⟩,⟨_,hn',λj y v' e1 e2 e3=> ?_⟩,λy c e=> ?_,I.free,I.di,λp hp=> ?_,tracked ⟨oL,hoL,I.free⟩ hs,by simpa using I.len⟩ ⟨_,hs,.inl rfl⟩
  .exact (hs.2 b (Nat.ne_of_lt (Nat.lt_of_lt_of_le (Heap.lt_size e) I.ok.above))).trans (I.base.keep b o e n hb hx)
  .obtain ⟨sl,e1⟩:=I.base.slot b o e n hb hx;exact⟨sl,(hs.2 b (Nat.ne_of_lt (Nat.lt_of_lt_of_le (Heap.lt_size e) I.ok.above))).trans e1⟩
  .obtain ⟨o',e1⟩:=I.base.there b o e hx;exact⟨o',(hs.2 b (Nat.ne_of_lt (Nat.lt_of_lt_of_le (Heap.lt_size e) I.ok.above))).trans e1⟩
  .by_cases hj:j=i
   .subst hj;rw[hi] at e1;cases e1;rw[List.getElem?_set_self hiσ] at e2;cases e2;exact⟨u,r,.inl ⟨hk,by simp⟩⟩
   .rw [List.getElem?_set_ne (Ne.symm hj)] at e2;obtain⟨u',r',q⟩:=hl j y v' e1 e2 e3;refine⟨u',r',?_⟩;rcases q with⟨k,e⟩ | ⟨k,c,e,z⟩
    .refine .inl ⟨k,?_⟩;have:y≠x:=λe=>hj (wz hN e1 (e ▸ hi));simp [this,e]
    .exact .inr ⟨k,c,e,z.sameBut hs (cne y c e)⟩
  .obtain ⟨w',z⟩:=I.cell y c e;exact⟨w',z.sameBut hs (cne y c e)⟩
  .obtain ⟨e,n,ne,nf,d⟩:=I.pin p hp;exact⟨(hs.2 p.1 ne).trans e,n,ne,nf,d⟩
 .have hfn:X.fn x=true:=by
   rcases hf with z | z
   .exact z
   .rw [z] at hk;cases hk
  obtain⟨c,hc⟩:=I.ok.has x (.inl hk);obtain⟨w',z⟩:=I.cell x c hc;refine wpAny_storeName_cell I.ok.kind hk hc z (λh' hc' hs=> ?_);obtain⟨oc,hoc,hocd⟩:=id z;refine h { s with heap:=h'} ⟨I.ok,I.os,I.bare,⟨λb o e n hb hx=> ?_,λb o e n hb hx=> ?_,I.base.free,λb o e hx=> ?_,I.base.u4,I.base.sd,I.base.uo⟩,⟨m,hn.sameBut hs (Ne.symm (cne x c hc)),λj y v' e1 e2 e3=> ?_⟩,λy c' e=> ?_,I.free,I.di,λp hp=> ?_,tracked ⟨oc,hoc,I.di x c hc⟩ hs,by simpa using I.len⟩ ⟨c,hs,.inr hc⟩
  .exact (hs.2 b (Nat.ne_of_lt (Nat.lt_of_lt_of_le (Heap.lt_size e) (I.ok.cab x c hfn hc)))).trans (I.base.keep b o e n hb hx)
  .obtain ⟨sl,e1⟩:=I.base.slot b o e n hb hx;exact⟨sl,(hs.2 b (Nat.ne_of_lt (Nat.lt_of_lt_of_le (Heap.lt_size e) (I.ok.cab x c hfn hc)))).trans e1⟩
  .obtain ⟨o',e1⟩:=I.base.there b o e hx;exact⟨o',(hs.2 b (Nat.ne_of_lt (Nat.lt_of_lt_of_le (Heap.lt_size e) (I.ok.cab x c hfn hc)))).trans e1⟩
  .by_cases hj:j=i
   .subst hj;rw[hi] at e1;cases e1;rw[List.getElem?_set_self hiσ] at e2;cases e2;exact⟨u,r,.inr ⟨.inl hk,c,hc,hc'⟩⟩
   .rw [List.getElem?_set_ne (Ne.symm hj)] at e2;obtain⟨u',r',q⟩:=hl j y v' e1 e2 e3;refine⟨u',r',?_⟩;rcases q with q | ⟨k,c',e,z'⟩
    .exact .inl q
    .refine .inr ⟨k,c',e,z'.sameBut hs ?_⟩;rintro rfl;exact hj (wz hN e1 (I.ok.inj _ _ _ e hc ▸ hi))
  .by_cases hcc:c'=c
   .subst hcc;exact⟨_,hc'⟩
   .obtain ⟨w2,z2⟩:=I.cell y c' e;exact⟨w2,z2.sameBut hs hcc⟩
  .obtain ⟨e,n,ne,nf,d⟩:=I.pin p hp;refine⟨(hs.2 p.1 ?_).trans e,n,ne,nf,d⟩;intro q;rw[q,hoc] at e;have q':oc=p.2:=Option.some.inj e;exact d w' (by rw[<- q'];exact hocd)
theorem vW{M:Model}{A:Around}{E:Value->Shared->Prop}{i:Nat}{x:Str}{v:V}{u:Value}{Q:Unit->Shared->Prop}(I:Inv X pins σ H s)(hN:X.N.Nodup)(hi:X.N[i]? =some x)(hx:Loc X.env.scope x)(r:RelV v u)
  (h:∀s',Inv X pins (σ.set i (some v)) H s'->Q () s') (hf:X.fn x=true\/X.env.scope.names.lookup x=some .local:=by first | exact .inl rfl | exact .inr rfl | assumption):wpAny M A (storeName X.env x u) Q E s:=
 ml I hN hi hx r (λs' I' _=>h s' I') hf
theorem Inv.BS{s':Shared}{ch:List Addr}(I:Inv X pins σ H s)(ho:s'.os=s.os)(u:Un (frs X.stack) ch H H' s.heap s'.heap)(hok:HOk X.prog X.w H' s'.heap)(hg:AllBare s'.gens)
  (hch:∀b∈ch,(b∈X.ex\/X.s₀.heap.get? b=none)/\b≠X.env.locals/\(∀x c,X.env.cells.lookup x=some c->c≠b)/\∀p∈X.pn++pins,p.1≠b):Inv X pins σ H' s':=by
 obtain⟨h',g',d',t',o'⟩:=s';have e:o'=s.os:=ho;subst e;exact I.call (g':=g') (t':=t') (d':=d') u hok hg hch
end
abbrev XK:=Value->Option Addr->Hp->Prop
abbrev St:=List (Option V)
abbrev VK:=V->Hp->Prop
abbrev TE:=St->Hp->VK->Prop
abbrev TT:=St->Hp->(Bool->Hp->Prop)->Prop
abbrev TA:=St->Hp->(List V->Hp->Prop)->Prop
structure Ends where
 nx:St->Hp->Prop
 rt:VK
 bk:St->Hp->Prop:=λ_ _=>False
 ct:St->Hp->Prop:=λ_ _=>False
abbrev TS:=Ends->St->Hp->Prop
def EP(X:Cx)(pins:List (Addr × Obj))(σ:St)(Q:VK)(u:Value)(s':Shared):Prop:=∃v H',Inv X pins σ H' s'/\RelV v u/\Q v H'
def TP(X:Cx)(pins:List (Addr × Obj))(σ:St)(Q:Bool->Hp->Prop)(b:Bool)(s':Shared):Prop:=∃H',Inv X pins σ H' s'/\Q b H'
def AP(X:Cx)(pins:List (Addr × Obj))(σ:St)(Q:List V->Hp->Prop)(us:List Value)(s':Shared):Prop:=∃vs H',Inv X pins σ H' s'/\Vals vs us/\Q vs H'
def SP(X:Cx)(pins:List (Addr × Obj))(D:Ends)(f:Flow)(s':Shared):Prop:=
 match f with
 | .next=>∃σ' H',Inv X pins σ' H' s'/\D.nx σ' H'
 | .brk=>∃σ' H',Inv X pins σ' H' s'/\D.bk σ' H'
 | .cont=>∃σ' H',Inv X pins σ' H' s'/\D.ct σ' H'
 | .ret u=>∃v σ' H',Inv X pins σ' H' s'/\RelV v u/\D.rt v H'
def PE(X:Cx)(e:Expr)(t:TE):Prop:=
 ∀(pins:List (Addr × Obj)) (s:Shared) (σ:St) (H:Hp) (Q:VK),Inv X pins σ H s->t σ H Q->wpAny (model X.prog X.w) X.A (eval e X.env) (EP X pins σ Q) X.xe s
def PT(X:Cx)(e:Expr)(t:TT):Prop:=
 ∀(pins:List (Addr × Obj)) (s:Shared) (σ:St) (H:Hp) (Q:Bool->Hp->Prop),Inv X pins σ H s->t σ H Q->wpAny (model X.prog X.w) X.A (isTrue e X.env (eval e X.env)) (TP X pins σ Q) X.xe s
def PW(X:Cx)(e:Expr)(t:TT):Prop:=
 ∀(whole:Sem Value) (pins:List (Addr × Obj)) (s:Shared) (σ:St) (H:Hp) (Q:Bool->Hp->Prop),Inv X pins σ H s->t σ H Q->wpAny (model X.prog X.w) X.A (isTrue e X.env whole) (TP X pins σ Q) X.xe s
theorem PW.pt{X:Cx}{e:Expr}{t:TT}(h:PW X e t):PT X e t:=h _
def PA(X:Cx)(es:List Expr)(t:TA):Prop:=
 ∀(pos:Pos) (pins:List (Addr × Obj)) (s:Shared) (σ:St) (H:Hp) (Q:List V->Hp->Prop),Inv X pins σ H s->t σ H Q->wpAny (model X.prog X.w) X.A (spliced (backTo pos (starEach es X.env))) (AP X pins σ Q) X.xe s
def PS(X:Cx)(st:Stmt)(t:TS):Prop:=
 ∀(pins:List (Addr × Obj)) (s:Shared) (σ:St) (H:Hp) (D:Ends),Inv X pins σ H s->t D σ H->wpAny (model X.prog X.w) X.A (exec st X.env) (SP X pins D) X.xe s
def PSs(X:Cx)(st:List Stmt)(t:TS):Prop:=
 ∀(pins:List (Addr × Obj)) (s:Shared) (σ:St) (H:Hp) (D:Ends),Inv X pins σ H s->t D σ H->wpAny (model X.prog X.w) X.A (execs st X.env) (SP X pins D) X.xe s
theorem thn{α:Type}{t:Sem α}{Q Q':α->Shared->Prop}{M:Model}{A:Around}{E:Value->Shared->Prop}{s:Shared}(h:wpAny M A t Q E s)(hQ:∀a s,Q a s->Q' a s):wpAny M A t Q' E s:=wpAny_mono h hQ λ_ _ x=>x
variable{X:Cx}{pins:List (Addr × Obj)}{σ:St}{H:Hp}{s:Shared}
theorem thE{Q:VK}{t:Sem Value}{Q':Value->Shared->Prop}{M:Model}{A:Around}{E:Value->Shared->Prop}(h:wpAny M A t (EP X pins σ Q) E s)(k:∀u s' v H',Inv X pins σ H' s'->RelV v u->Q v H'->Q' u s'):wpAny M A t Q' E s:=thn h λu s' h=>e2 h λv H' h=>d3 h (k u s' v H')
theorem thA{Q:List V->Hp->Prop}{t:Sem (List Value)}{Q':List Value->Shared->Prop}{M:Model}{A:Around}{E:Value->Shared->Prop}(h:wpAny M A t (AP X pins σ Q) E s)(k:∀u s' v H',Inv X pins σ H' s'->Vals v u->Q v H'->Q' u s'):wpAny M A t Q' E s:=thn h λu s' h=>e2 h λv H' h=>d3 h (k u s' v H')
theorem thT{Q:Bool->Hp->Prop}{t:Sem Bool}{Q':Bool->Shared->Prop}{M:Model}{A:Around}{E:Value->Shared->Prop}(h:wpAny M A t (TP X pins σ Q) E s)(k:∀u s' H',Inv X pins σ H' s'->Q u H'->Q' u s'):wpAny M A t Q' E s:=thn h λu s' h=>e1 h λH' h=>d2 h (k u s' H')
theorem PE.th{e:Expr}{t:TE}{Q:VK}{Q':Value->Shared->Prop}(h:PE X e t)(I:Inv X pins σ H s)(w:t σ H Q)(k:∀u s' v H',Inv X pins σ H' s'->RelV v u->Q v H'->Q' u s'):wpAny (model X.prog X.w) X.A (eval e X.env) Q' X.xe s:=thE (h pins s σ H Q I w) k
theorem PA.th{e:List Expr}{t:TA}{pos:Pos}{Q:List V->Hp->Prop}{Q':List Value->Shared->Prop}(h:PA X e t)(I:Inv X pins σ H s)(w:t σ H Q)(k:∀u s' v H',Inv X pins σ H' s'->Vals v u->Q v H'->Q' u s'):wpAny (model X.prog X.w) X.A (spliced (backTo pos (starEach e X.env))) Q' X.xe s:=thA (h pos pins s σ H Q I w) k
theorem PT.th{e:Expr}{t:TT}{Q:Bool->Hp->Prop}{Q':Bool->Shared->Prop}(h:PT X e t)(I:Inv X pins σ H s)(w:t σ H Q)(k:∀u s' H',Inv X pins σ H' s'->Q u H'->Q' u s'):wpAny (model X.prog X.w) X.A (isTrue e X.env (eval e X.env)) Q' X.xe s:=thT (h pins s σ H Q I w) k
section
variable{X:Cx}
def F1(i:Nat):TE:=λσ H Q=>∃v,σ[i]? =some (some v)/\Q v H
def tC(v:V):TE:=λ_ H Q=>Q v H
theorem E5{i:Nat}{x:Str}{pos:Pos}(hN:X.N[i]? =some x)(hv:Vis X.env.scope x)(hd:(x == ("__debug__":Str))=false:=by decide)(hcd:(x == ("__classdict__":Str))=false:=by decide):PE X (.Name x pos) (F1 i):=by
 intro pins s σ H Q I h;obtain⟨v,e,h⟩:=h;obtain⟨m,hn,hl⟩:=I.loc;obtain⟨u,r,l⟩:=hl i x v hN e hv;have fin:EP X pins σ Q u s:=⟨v,H,I,r,h⟩;rcases l with⟨hk,hm⟩ | ⟨hk,c,hc,hcell⟩
 .exact wpAny_Name (wpAny_loadName_local I.ok.kind hk hn hm fin) hd
 .rcases hk with hk | hk
  .exact wpAny_Name (wpAny_loadName_cell I.ok.kind hk hc hcell fin) hd
  .exact wpAny_Name (wpAny_loadName_free I.ok.kind hk hc hcell fin hcd) hd
theorem ag{i j pos}:PE X (.Constant (.int i) j pos) (tC (.int i)):=λ_ _ _ H _ I h=>wpAny_Constant_int ⟨.int i,H,I.tok _,⟨_,rfl⟩,h⟩
theorem ig{b j pos}:PE X (.Constant (.bool b) j pos) (tC (.bl b)):=λ_ _ _ H _ I h=>Constant_bool ⟨.bl b,H,I,rfl,h⟩
theorem fj{j pos}:PE X (.Constant .none j pos) (tC .non):=λ_ _ _ H _ I h=>Constant_none ⟨.non,H,I,rfl,h⟩
theorem aq{x j pos}:PE X (.Constant (.str x) j pos) (tC (.str x)):=λ_ _ _ H _ I h=>Calls.Constant_str ⟨.str x,H,I.tok _,⟨_,rfl⟩,h⟩
def Gl(X:Cx)(x:Str):Prop:=X.env.kindOf x=some .globalImplicit
theorem jx{E:Value->Shared->Prop}{pins:List (Addr × Obj)}{s:Shared}{σ:St}{H:Hp}{x:Str}{u:Value}{pos:Pos}{Q:Value->Shared->Prop}(I:Inv X pins σ H s)(hg:Gl X x)(hm:X.mg x=some u)(h:Q u s)
  (hd:(x == ("__debug__":Str))=false:=by decide):wpAny (model X.prog X.w) X.A (eval (.Name x pos) X.env) Q E s:=
 Calls.Name_function_global I.ok.kind hg (Calls.loadGlobal_global (by rw[I.ok.glob];exact I.mod.glob.keeps I.bk) hm h) hd
theorem iw{E:Value->Shared->Prop}{pins:List (Addr × Obj)}{s:Shared}{σ:St}{H:Hp}{x:Str}{u:Value}{pos:Pos}{Q:Value->Shared->Prop}(I:Inv X pins σ H s)(hg:Gl X x)(hm:X.mg x=none)(hv:bootBuiltins x=some u)(h:Q u s)
  (hn:x≠"__name__":=by decide) (hd:(x == ("__debug__":Str))=false:=by decide):wpAny (model X.prog X.w) X.A (eval (.Name x pos) X.env) Q E s:=by
 obtain⟨mb,h1,h2⟩:=I.mod.blt;exact Calls.Name_function_global I.ok.kind hg (Calls.loadGlobal_builtin (by rw[I.ok.glob];exact I.mod.glob.keeps I.bk) hm (by rw[I.ok.blt];exact h1.keeps I.bk) ((h2 x hn).trans hv) h) hd
theorem uB{x:Str}{v:V}{u:Value}{pos:Pos}(hg:Gl X x)(hm:X.mg x=some u)(r:RelV v u)(hd:(x == ("__debug__":Str))=false:=by decide):PE X (.Name x pos) (tC v):=
 λ_ _ _ H _ I h=>jx I hg hm ⟨v,H,I,r,h⟩ hd
theorem D1{x:Str}{v:V}{u:Value}{pos:Pos}(hg:Gl X x)(hm:X.mg x=none)(hv:bootBuiltins x=some u)(r:RelV v u)(hn:x≠"__name__":=by decide)(hd:(x == ("__debug__":Str))=false:=by decide):PE X (.Name x pos) (tC v):=
 λ_ _ _ H _ I h=>iw I hg hm hv ⟨v,H,I,r,h⟩ hn hd
variable{a b:Expr}{ta tb:TE}{pos:Pos}
def PC(X:Cx)(op:CmpOp)(a b:Expr)(t:TE):Prop:=
 ∀(pins:List (Addr × Obj)) (s:Shared) (σ:St) (H:Hp) (Q:VK),Inv X pins σ H s->t σ H Q→
  wpAny (model X.prog X.w) X.A (eval a X.env) (λv s₁=>wpAny (model X.prog X.w) X.A (eval b X.env) (λu s₂=>wpAny (model X.prog X.w) X.A (compareOp op v u) (EP X pins σ Q) X.xe s₂) X.xe s₁) X.xe s
def tB(t:TE):TT:=λσ H Q=>t σ H λx H1=>∃c,x=.bl c/\Q c H1
theorem Fh{op:CmpOp}{t:TE}(h:PC X op a b t)(h1:behindInMarks op b=false:=by first | exact nobehind _ (by decide) (by decide) | rfl):PE X (.Compare a [op] [b] pos) t:=λpins s σ H Q I hw=>wpAny_Compare1 (h pins s σ H Q I hw) h1
theorem B1{op:CmpOp}{t:TE}(h:PC X op a b t)(h1:behindInMarks op b=false:=by first | exact nobehind _ (by decide) (by decide) | rfl):PT X (.Compare a [op] [b] pos) (tB t):=by
 intro pins s σ H Q I hw;refine wpAny_isTrue_Compare1 (thn (h pins s σ H _ I hw) λv s1 h1=>thn h1 λu s2 h2=>thn h2 λc s3 zz=> ?_) h1;obtain⟨x,H1,I1,r1,q1⟩:=zz;obtain⟨d,rfl,q⟩:=q1;cases r1;exact wpAny_truthy_bool ⟨H1,I1,q⟩
theorem ee{e:Expr}{t:TE}(h:PE X e t)(he:∀whole,isTrue e X.env whole=(do let v<-whole;standAt e.pos;holding [v] (truthy v)):=by intro _;rfl):PT X e (tB t):=by
 intro pins s σ H Q I hw;refine isTrue_plain (h.th I hw λv s1 x H1 I1 r1 q1=> ?_) (he _);obtain⟨d,rfl,q⟩:=q1;cases r1;exact wpAny_truthy_bool ⟨H1,I1,q⟩
variable{tA tB':TT}{rest:List Expr}
def GZ(t u:TT):TT:=λσ H Q=>t σ H λc H1=>if c=true then u σ H1 Q else Q false H1
def tOr(t u:TT):TT:=λσ H Q=>t σ H λc H1=>if c=true then Q true H1 else u σ H1 Q
def Hk(t:TT):TT:=λσ H Q=>t σ H λc H1=>Q (!c) H1
theorem uf(ha:PT X a tA):PW X (.BoolOp .And [a] pos) tA:=by
 intro wh pins s σ H Q I h;refine isTrue_and (thn (ha pins s σ H Q I h) λc s1 e=> ?_);cases c with
 | true=>exact isTrue_and_nil e
 | false=>exact e
theorem gk(ha:PT X a tA):PW X (.BoolOp .Or [a] pos) tA:=by
 intro wh pins s σ H Q I h;refine isTrue_or (thn (ha pins s σ H Q I h) λc s1 e=> ?_);cases c with
 | false=>exact isTrue_or_nil e
 | true=>exact e
theorem xN(ha:PT X a tA)(hb:PW X (.BoolOp .And (b::rest) pos) tB'):PW X (.BoolOp .And (a::b::rest) pos) (GZ tA tB'):=by
 intro wh pins s σ H Q I h;refine isTrue_and (ha.th I h λc s1 H1 I1 q1=> ?_);cases c with
 | true=>exact hb wh pins s1 σ H1 Q I1 q1
 | false=>exact⟨H1,I1,q1⟩
theorem gv(ha:PT X a tA)(hb:PW X (.BoolOp .Or (b::rest) pos) tB'):PW X (.BoolOp .Or (a::b::rest) pos) (tOr tA tB'):=by
 intro wh pins s σ H Q I h;refine isTrue_or (ha.th I h λc s1 H1 I1 q1=> ?_);cases c with
 | true=>exact⟨H1,I1,q1⟩
 | false=>exact hb wh pins s1 σ H1 Q I1 q1
theorem gu(ha:PT X a tA):PT X (.UnaryOp .Not a pos) (Hk tA):=by
 intro pins s σ H Q I h;exact isTrue_not (ha pins s σ H (λc H1=>Q (!c) H1) I h)
def Gp(ta tb:TE):TE:=λσ H Q=>ta σ H λx H1=>∃c,x=.bl c/\if c=true then tb σ H1 Q else Q (.bl false) H1
def Hi(ta tb:TE):TE:=λσ H Q=>ta σ H λx H1=>∃c,x=.bl c/\if c=true then Q (.bl true) H1 else tb σ H1 Q
def Ga(ta:TE):TE:=λσ H Q=>ta σ H λx H1=>∃c,x=.bl c/\Q (.bl (!c)) H1
theorem mO{op}{t:TE}(h:PE X a t):PE X (.BoolOp op [a] pos) t:=λpins s σ H Q I hw=>BoolOp_one (h pins s σ H Q I hw)
theorem mF(ha:PE X a ta)(hb:PE X (.BoolOp .And (b::rest) pos) tb):PE X (.BoolOp .And (a::b::rest) pos) (Gp ta tb):=by
 intro pins s σ H Q I h;refine BoolOp_and (ha.th I h λv s1 x H1 I1 r1 q1=> ?_);obtain⟨c,rfl,q1⟩:=q1;cases r1;refine wpAny_truthy_bool ?_;cases c with
 | true=>exact hb pins s1 σ H1 Q I1 q1
 | false=>exact⟨.bl false,H1,I1,rfl,q1⟩
theorem GH(ha:PE X a ta)(hb:PE X (.BoolOp .Or (b::rest) pos) tb):PE X (.BoolOp .Or (a::b::rest) pos) (Hi ta tb):=by
 intro pins s σ H Q I h;refine BoolOp_or (ha.th I h λv s1 x H1 I1 r1 q1=> ?_);obtain⟨c,rfl,q1⟩:=q1;cases r1;refine wpAny_truthy_bool ?_;cases c with
 | false=>exact hb pins s1 σ H1 Q I1 q1
 | true=>exact⟨.bl true,H1,I1,rfl,q1⟩
theorem BQ(ha:PE X a ta):PE X (.UnaryOp .Not a pos) (Ga ta):=by
 intro pins s σ H Q I h;refine UnaryOp_ (ha.th I h λv s1 x H1 I1 r1 q1=> ?_);obtain⟨c,rfl,q1⟩:=q1;cases r1;exact not_of (wpAny_truthy_bool ⟨.bl (!c),H1,I1,rfl,q1⟩)
def tIf(t:TT)(ta tb:TE):TE:=λσ H Q=>t σ H λc H1=>if c=true then ta σ H1 Q else tb σ H1 Q
theorem BH{c:Expr}(hc:PT X c tA)(ha:PE X a ta)(hb:PE X b tb):PE X (.IfExp c a b pos) (tIf tA ta tb):=by
 intro pins s σ H Q I h;refine wpAny_IfExp (hc.th I h λd s1 H1 I1 q1=> ?_);cases d with
 | true=>exact ha pins s1 σ H1 Q I1 q1
 | false=>exact hb pins s1 σ H1 Q I1 q1
end
def SqL(K:PySem.W.Frag)(H:Hp)(a:Addr)(xs:List V):Prop:=
 Rd H a (.lst xs)∨
  ∃(o:Obj) (its:Array Value) (n:Nat),K.lookup a=some o/\o.cls=.type "list"/\o.dict=none/\o.data=.seq its n/\its.size<=sizeLine/\Vals xs its.toList
def SqT(K:PySem.W.Frag)(H:Hp)(a:Addr)(xs:List V):Prop:=
 Rd H a (.tup xs)∨
  ∃(o:Obj) (its:Array Value) (n:Nat),K.lookup a=some o/\o.cls=.type "tuple"/\o.data=.seq its n/\its.size<=sizeLine/\Vals xs its.toList
def G6:Value->Option V
 | .none=>some .non
 | .bool b=>some (.bl b)
 | .int i _=>some (.int i)
 | .str x _=>some (.str x)
 | .bytes b _=>some (.byt b)
 | .float b _=>some (.flt b)
 | .ref a=>some (.ref a)
 | .type n=>some (.ty n)
 | _=>none
theorem RelV.abs{x:V}{u:Value}(r:RelV x u):G6 u=some x:=by
 cases x with
 | non=>cases r;rfl
 | bl _=>cases r;rfl
 | int _=>obtain⟨t,rfl⟩:=r;rfl
 | str _=>obtain⟨t,rfl⟩:=r;rfl
 | byt _=>obtain⟨t,rfl⟩:=r;rfl
 | flt _=>obtain⟨t,rfl⟩:=r;rfl
 | ref _=>cases r;rfl
 | ty _=>cases r;rfl
theorem RelV.inj{x y:V}{u:Value}(r:RelV x u)(q:RelV y u):x=y:=Option.some.inj (r.abs.symm.trans q.abs)
theorem Vals.inj:∀{xs ys:List V} {us:List Value},Vals xs us->Vals ys us->xs=ys
 | _,_,_,.nil,.nil=>rfl
 | _,_,_,.cons r t,.cons r' t'=>by rw[r.inj r',Vals.inj t t']
section
variable{X:Cx}{pins:List (Addr × Obj)}{σ:St}{H:Hp}{s:Shared}{a:Addr}{xs ys:List V}
theorem SqL.of{K:PySem.W.Frag}(h:H a=some (.lst xs)):SqL K H a xs:= .inl (.inl h)
theorem SqT.of{K:PySem.W.Frag}(h:H a=some (.tup xs)):SqT K H a xs:= .inl (.inl h)
theorem Inv.list(I:Inv X pins σ H s)(h:SqL X.K H a xs):∃its:List Value,Vals xs its/\PlainL s.heap a its.toArray/\xs.length<=sizeLine:=by
 rcases h with h | ⟨o,its,n,hk,hc,hd,hs,hz,r⟩
 .obtain ⟨z,its,n,r,e⟩:=h.ok I.hok;exact⟨its,r,⟨_,n,e,rfl,rfl,rfl⟩,z⟩
 .refine ⟨its.toList,r,⟨o,n,I.kIn a o hk,hc,hd,by simpa using hs⟩,?_⟩;have e:=r.length;simp only [Array.length_toList] at e
  lia
theorem Inv.tuple(I:Inv X pins σ H s)(h:SqT X.K H a xs):∃its:List Value,Vals xs its/\IsTup s.heap a its.toArray/\xs.length<=sizeLine:=by
 rcases h with h | ⟨o,its,n,hk,hc,hs,hz,r⟩
 .obtain ⟨z,its,r,p⟩:=h.ok I.hok;exact⟨its,r,p,z⟩
 .refine ⟨its.toList,r,⟨o,I.kIn a o hk,hc,n,by simpa using hs⟩,?_⟩;have e:=r.length;simp only [Array.length_toList] at e
  lia
theorem Inv.lL(I:Inv X pins σ H s)(h:SqL X.K H a xs)(h':SqL X.K H a ys):xs=ys:=by
 obtain⟨its,r,⟨o,n,e,_,_,d⟩,_⟩:=I.list h;obtain⟨its',r',⟨o',n',e',_,_,d'⟩,_⟩:=I.list h';rw[e] at e';cases e';rw[d] at d';injection d' with d1 _;have:its=its':=by simpa using congrArg Array.toList d1
 subst this;exact r.inj r'
end
abbrev Cx.rT(X:Cx)(E:Value->Shared->Prop):Cx:={ X with xe:=E}
abbrev Cx.nox(X:Cx):Cx:=X.rT λ_ _=>False
theorem Cx.Ok.rT{X:Cx}(ok:X.Ok)(E:Value->Shared->Prop):(X.rT E).Ok:=
 ⟨ok.mod,ok.kind,ok.glob,ok.blt,ok.above,ok.inj,ok.has,ok.cab,ok.hd,ok.cl,ok.frames,ok.stk,ok.exf,ok.bs,ok.bsz,ok.rZ,ok.rP,ok.iA,ok.frf⟩
theorem Cx.Ok.iV{X:Cx}{E:Value->Shared->Prop}(ok:(X.rT E).Ok):X.Ok:=
 ⟨ok.mod,ok.kind,ok.glob,ok.blt,ok.above,ok.inj,ok.has,ok.cab,ok.hd,ok.cl,ok.frames,ok.stk,ok.exf,ok.bs,ok.bsz,ok.rZ,ok.rP,ok.iA,ok.frf⟩
section
variable{X:Cx}{pins:List (Addr × Obj)}{σ:St}{H:Hp}{s:Shared}{E:Value->Shared->Prop}
theorem Inv.rT(I:Inv X pins σ H s)(E:Value->Shared->Prop):Inv (X.rT E) pins σ H s:=⟨I.ok.rT E,I.os,I.bare,I.base,I.loc,I.cell,I.free,I.di,I.pin,I.hok,I.len⟩
theorem Inv.iV(I:Inv (X.rT E) pins σ H s):Inv X pins σ H s:=⟨I.ok.iV,I.os,I.bare,I.base,I.loc,I.cell,I.free,I.di,I.pin,I.hok,I.len⟩
theorem SP.iV{D:Ends}{f:Flow}{s':Shared}(h:SP (X.rT E) pins D f s'):SP X pins D f s':=by
 cases f with
 | next=>obtain⟨σ',H',I,q⟩:=h;exact⟨σ',H',I.iV,q⟩
 | brk=>obtain⟨σ',H',I,q⟩:=h;exact⟨σ',H',I.iV,q⟩
 | cont=>obtain⟨σ',H',I,q⟩:=h;exact⟨σ',H',I.iV,q⟩
 | ret u=>obtain⟨v,σ',H',I,r,q⟩:=h;exact⟨v,σ',H',I.iV,r,q⟩
theorem PSs.nox{st:List Stmt}{t:TS}(h:PSs X.nox st t):PSs X st t:=λpins s σ H D I hw=>
 wpAny_mono (h pins s σ H D (I.rT _) hw) (λ_ _ q=>q.iV) λ_ _ z=>False.elim z
end
section
variable{X:Cx}{st:Stmt}{rest:List Stmt}{t u:TS}{e:Expr}{te:TE}{pos:Pos}
def GP:TS:=λD σ H=>D.nx σ H
def zU(t u:TS):TS:=λD σ H=>t { D with nx:=u D} σ H
theorem ay:PSs X [] GP:=λ_ _ σ H _ I h=>wpAny_execs_nil ⟨σ,H,I,h⟩
theorem aa(h1:PS X st t)(h2:PSs X rest u):PSs X (st::rest) (zU t u):=by
 intro pins s σ H D I h;refine wpAny_execs_cons (thn (h1 pins s σ H { D with nx:=u D} I h) λf s1 q=> ?_);cases f with
 | next=>
  obtain⟨σ',H',I',q⟩:=q;exact h2 pins s1 σ' H' D I' q
 | ret v=>exact q
 | brk=>exact q
 | cont=>exact q
theorem af(h1:PS X st t):PSs X [st] t:=by
 intro pins s σ H D I h;refine wpAny_execs_cons (thn (h1 pins s σ H D I h) λf s1 q=> ?_);cases f with
 | next=>exact wpAny_execs_nil q
 | ret v=>exact q
 | brk=>exact q
 | cont=>exact q
theorem Inv.quiet{pins:List (Addr × Obj)}{σ:St}{H:Hp}{s:Shared}(I:Inv X pins σ H s):interactive X.env=false:=by simp [interactive,I.ok.kind]
def Gq(te:TE):TS:=λD σ H=>te σ H λ_ H1=>D.nx σ H1
theorem bu(he:PE X e te)(hs:swapsWith e none pos.line X.env=pure false:=by rfl):PS X (.Expr e pos) (Gq te):=by
 intro pins s σ H D I h;exact wpAny_Expr_any (he.th I h λv s1 x H1 I1 r1 q1=>⟨σ,H1,I1,q1⟩) I.quiet hs
def G1(te:TE):TS:=λD σ H=>te σ H D.rt
theorem av(he:PE X e te):PS X (.Return (some e) pos) (G1 te):=by
 intro pins s σ H D I h;exact wpAny_Return_some (he.th I h λv s1 x H1 I1 r1 q1=>⟨x,σ,H1,I1,r1,q1⟩)
def GF(c:TT)(t u:TS):TS:=λD σ H=>c σ H λb H1=>if b=true then t D σ H1 else u D σ H1
theorem aW{c:Expr}{a b:List Stmt}{tc:TT}(hc:PT X c tc)(ha:PSs X a t)(hb:PSs X b u):PS X (.If c a b pos) (GF tc t u):=by
 intro pins s σ H D I h;refine wpAny_If (hc.th I h λd s1 H1 I1 q1=> ?_);cases d with
 | true=>exact ha pins s1 σ H1 D I1 q1
 | false=>exact hb pins s1 σ H1 D I1 q1
def E4:TS:=λ_ _ _=>False
theorem jh:PS X st E4:=λ_ _ _ _ _ _ h=>h.elim
end
abbrev TG:=V->St->Hp->(St->Hp->Prop)->Prop
abbrev TGs:=List V->St->Hp->(St->Hp->Prop)->Prop
def PG(X:Cx)(target:Expr)(t:TG):Prop:=
 ∀(pins:List (Addr × Obj)) (s:Shared) (σ:St) (H:Hp) (v:V) (u:Value) (Q:St->Hp->Prop),Inv X pins σ H s->RelV v u->t v σ H Q→
  wpAny (model X.prog X.w) X.A (assign target X.env u) (λ_ s'=>∃σ' H',Inv X pins σ' H' s'/\Q σ' H') X.xe s
def PGs(X:Cx)(ts:List Expr)(t:TGs):Prop:=
 ∀(pins:List (Addr × Obj)) (s:Shared) (σ:St) (H:Hp) (vs:List V) (us:List Value) (Q:St->Hp->Prop),Inv X pins σ H s->Vals vs us->t vs σ H Q→
  wpAny (model X.prog X.w) X.A (assignInOrder ((assignEach ts X.env).map (·.2)) us) (λ_ s'=>∃σ' H',Inv X pins σ' H' s'/\Q σ' H') X.xe s
abbrev FC:=V->V->V->Hp->(Hp->Prop)->Prop
def FA(X:Cx)(t:FC):Prop:=
 ∀(pins:List (Addr × Obj)) (s:Shared) (σ:St) (H:Hp) (o i v:V) (ov iv u:Value) (Q:Hp->Prop),Inv X pins σ H s->RelV o ov->RelV i iv->RelV v u->t o i v H Q→
  wpAny (model X.prog X.w) X.A (setItem ov iv u) (λ_ s'=>∃H',Inv X pins σ H' s'/\Q H') X.xe s
abbrev TIp:=V->V->Hp->VK->Prop
def PIp(X:Cx)(op:Operator)(t:TIp):Prop:=
 ∀(pins:List (Addr × Obj)) (s:Shared) (σ:St) (H:Hp) (x y:V) (v u:Value) (Q:VK),Inv X pins σ H s->RelV x v->RelV y u->t x y H Q→
  wpAny (model X.prog X.w) X.A (inplaceOp op v u) (EP X pins σ Q) X.xe s
section
variable{X:Cx}{pos:Pos}
def ib(i:Nat):TG:=λv σ H Q=>Q (σ.set i (some v)) H
theorem b6{i:Nat}{x:Str}(hN:X.N.Nodup)(hi:X.N[i]? =some x)(hx:Loc X.env.scope x)(hf:X.fn x=true\/X.env.scope.names.lookup x=some .local:=by first | exact .inl rfl | exact .inr rfl | assumption):PG X (.Name x pos) (ib i):=by
 intro pins s σ H v u Q I r h;exact wpAny_assign_Name (vW I hN hi hx r (λs' I'=>⟨_,H,I',h⟩) hf)
def GG:TGs:=λvs σ H Q=>vs=[]/\Q σ H
def CI(t:TG)(u:TGs):TGs:=λvs σ H Q=>∃v r,vs=v::r/\t v σ H λσ' H'=>u r σ' H' Q
theorem uY:PGs X [] GG:=by
 intro pins s σ H vs us Q I r h;obtain⟨e,h⟩:=h;subst e;cases r;exact assignInOrder_nil ⟨σ,H,I,h⟩
theorem dH{e:Expr}{es:List Expr}{t:TG}{u:TGs}(h1:PG X e t)(h2:PGs X es u)
  (hs:(assignEach (e::es) X.env).map (·.2)=assign e X.env::(assignEach es X.env).map (·.2):=by rfl):PGs X (e::es) (CI t u):=by
 intro pins s σ H vs us Q I r h;obtain⟨v,vr,e1,h⟩:=h;subst e1;cases r with
 | cons r rr=>
  rw[hs];refine assignInOrder_cons (thn (h1 pins s σ H _ _ _ I r h) λ_ s1 zz=> ?_);obtain⟨σ1,H1,I1,q1⟩:=zz;exact h2 pins s1 σ1 H1 _ _ Q I1 rr q1
def Gs(K:PySem.W.Frag)(n:Nat)(t:TGs):TG:=λv σ H Q=>∃a xs,v=.ref a/\SqT K H a xs/\xs.length=n/\t xs σ H Q
theorem xx{es:List Expr}{k:Nat}{t:TGs}{n:Nat}(hc:X.calm=X.calm)(h:PGs X es t)
  (hn:(assignEach es X.env).length=n:=by rfl) (hst:(assignEach es X.env).findIdx? (·.1)=none:=by rfl):PG X (.Tuple es k pos) (Gs X.K n t):=by
 intro pins s σ H v u Q I r hw;obtain⟨a,xs,e1,hq,hl,hw⟩:=hw;subst e1;cases r;obtain⟨its,rv,ht,hz⟩:=I.tuple hq;refine DI I.cm ht (by simp [hn,<-hl,rv.length]) hst λh' hx=> ?_;have I1:Inv X pins σ H { s with heap:=h'}:=I.kept (t':=s.toks) λb o e=>hx b o (Nat.ne_of_lt (Heap.lt_size e)) e;exact h pins _ σ H xs _ Q I1 (by simpa using rv) hw
def Hd(to ti:TE)(t:FC):TG:=λv σ H Q=>to σ H λo H1=>ti σ H1 λi H2=>t o i v H2 λH3=>Q σ H3
theorem EN{o i:Expr}{to ti:TE}{t:FC}(ho:PE X o to)(hi:PE X i ti)(hs:FA X t)
  (ha:∀v,assign (.Subscript o i pos) X.env v=(do
   let ov<-holding [v] (eval o X.env)
   let iv<-holding [v,ov] (eval i X.env)
   standAt pos
   holding [v,ov,iv] (setItem ov iv v)
   release [v,ov,iv] []):=by intro _;rfl):PG X (.Subscript o i pos) (Hd to ti t):=by
 intro pins s σ H v u Q I r h;rw[ha];refine wpAny_bind (wpAny_holding (ho.th I h λov s1 x H1 I1 r1 q1=> ?_));refine wpAny_bind (wpAny_holding (hi.th I1 q1 λiv s2 y H2 I2 r2 q2=> ?_));refine wpAny_bind (wpAny_standAt (wpAny_bind (wpAny_holding (thn (hs pins s2 σ H2 x y v ov iv u _ I2 r1 r2 r q2) λ_ s3 zz=> ?_))));obtain⟨H3,I3,q3⟩:=zz;exact wpAny_release ⟨σ,H3,I3,q3⟩
def Bp(te:TE)(g:TG):TS:=λD σ H=>te σ H λx H1=>g x σ H1 D.nx
theorem Cu{tg e:Expr}{te:TE}{g:TG}(he:PE X e te)(hg:PG X tg g)(hs:swapsWithSole [tg] e pos.line X.env=pure false:=by rfl)(hw:swappedStores [tg] e X.env=pure none:=by rfl)
  (h1:(assignEach [tg] X.env).map (·.2)=[assign tg X.env]:=by rfl):PS X (.Assign [tg] e pos) (Bp te g):=by
 intro pins s σ H D I h;refine wpAny_Assign_stores (he.th I h λv s1 x H1 I1 r1 q1=> ?_) hs hw;rw[h1];exact thn (hg pins s1 σ H1 x v _ I1 r1 q1) λ_ s2 q=>q
theorem Fv{i:Nat}{x:Str}{e:Expr}{te:TE}{pos':Pos}(hN:X.N.Nodup)(hi:X.N[i]? =some x)(hx:Loc X.env.scope x)(he:PE X e te)(hs:swapsWith e (some (.Name x pos')) pos.line X.env=pure false:=by rfl)(hf:X.fn x=true\/X.env.scope.names.lookup x=some .local:=by first | exact .inl rfl | exact .inr rfl | assumption):
  PS X (.Assign [.Name x pos'] e pos) (Bp te (ib i)):=by
 intro pins s σ H D I h;refine wpAny_Assign_Name (he.th I h λv s1 y H1 I1 r1 q1=> ?_) hs;exact vW I1 hN hi hx r1 (λs2 I2=>⟨_,H1,I2,q1⟩) hf
end
structure It where
 go:Nat->Hp->Prop
 yld:Nat->Hp->V->Hp->Prop
 stop:Nat->Hp->Prop
def bR(X:Cx)(pins:List (Addr × Obj))(H:Hp)(b:Addr):Prop:=
 H b=none/\b≠X.env.locals/\b∉X.fs/\(b∈X.ex\/X.s₀.heap.get? b=none)/\(∀x c,X.env.cells.lookup x=some c->c≠b)/\∀p∈X.pn++pins,p.1≠b
theorem Inv.vm{X:Cx}{pins:List (Addr × Obj)}{σ:St}{H H':Hp}{s:Shared}{b:Addr}(I:Inv X pins σ H s)(hb:s.heap.objs.size<=b)(hn:H' b=none):bR X pins H' b:=by
 refine⟨hn,Nat.ne_of_gt (Nat.lt_of_lt_of_le I.lt hb),I.Hj hb,.inr (Heap.get?_none_of_le (Nat.le_trans I.sz hb)),λx c e z=> ?_,λp hp z=> ?_⟩
 .obtain ⟨v,q⟩:=I.cell x c e;exact absurd (Nat.lt_of_lt_of_le q.lt (by rw[z];exact hb)) (Nat.lt_irrefl _)
 .exact absurd (Nat.lt_of_lt_of_le (Heap.lt_size (I.pin p hp).1) (by rw[z];exact hb)) (Nat.lt_irrefl _)
structure Turn(P:Program)(w:World)(K:PySem.W.Frag)(tg:Expr)(J:It)(fp:List Addr)(it:Addr)(tn:Nat->Heap->Prop):Prop where
 mem:it∈fp
 obj:∀i h,tn i h->∀b∈fp,∃o,h.get? b=some o/\∀v,o.data≠ .cell v
 keep:∀i h h',tn i h->(∀b∈fp,∀o,h.get? b=some o->h'.get? b=some o)->tn i h'
 item:∀(X:Cx),X.prog=P->X.w=w->X.K=K->X.calm=X.calm->∀(i:Nat) (pins:List (Addr × Obj)) (s:Shared) (σ:St) (H:Hp) (E:Value->Shared->Prop),Inv X pins σ H s->(∀b∈fp,bR X pins H b)->tn i s.heap->J.go i H→
  wpAny (model P w) X.A (pyNext (.ref it)) (λr s1=>∃u,r=some u∧
   wpAny (model P w) X.A (letOwnedTupleGo tg (.ref it) u) (λ_ s2=>∃x H',Inv X pins σ H' s2/\RelV x u/\J.yld i H x H'/\tn (i + 1) s2.heap/\∀b∈fp,H' b=none) E s1) E s
 done:∀(X:Cx),X.prog=P->X.w=w->X.K=K->X.calm=X.calm->∀(i:Nat) (pins:List (Addr × Obj)) (s:Shared) (σ:St) (H:Hp) (E:Value->Shared->Prop),Inv X pins σ H s->(∀b∈fp,bR X pins H b)->tn i s.heap->J.stop i H→
  wpAny (model P w) X.A (pyNext (.ref it)) (λr s1=>r=none/\Inv X pins σ H s1) E s
 self:∀(A:Around) (i:Nat) (s:Shared) (Q:Value->Shared->Prop) (E:Value->Shared->Prop),tn i s.heap->Q (.ref it) s->wpAny (model P w) A (pyIter (.ref it)) Q E s
abbrev TI:=St->Hp->(It->Hp->Prop)->Prop
def PIE(X:Cx)(pins:List (Addr × Obj))(σ:St)(tg:Expr)(R:It->Hp->Prop)(itv:Value)(s2:Shared):Prop:=
 ∃(it:Addr) (fp:List Addr) (tn:Nat->Heap->Prop) (J:It) (H':Hp),itv=.ref it/\Inv X pins σ H' s2/\Turn X.prog X.w X.K tg J fp it tn/\tn 0 s2.heap/\(∀b∈fp,bR X pins H' b)/\R J H'
def PI(X:Cx)(tg iter:Expr)(wi:TI):Prop:=
 ∀(pins:List (Addr × Obj)) (s:Shared) (σ:St) (H:Hp) (R:It->Hp->Prop),Inv X pins σ H s->wi σ H R→
  wpAny (model X.prog X.w) X.A (eval iter X.env) (λv s1=>wpAny (model X.prog X.w) X.A (pyIter v) (PIE X pins σ tg R) X.xe s1) X.xe s
theorem BM{M:Model}{A:Around}{E:Value->Shared->Prop}{s:Shared}{tg:Expr}{it:Addr}{u:Value}{o:Obj}{n:String}{vs:Array Value}{Q:Unit->Shared->Prop}(ho:s.heap.get? it=some o)(hc:o.cls=.type n)(hd:o.data=.fields vs)
    (hn:["enumerate","zip","dict_itemiterator","dict_reverseitemiterator","odict_iterator","itertools.zip_longest","itertools.pairwise"].contains n=false) (hQ:Q () s):wpAny M A (letOwnedTupleGo tg (.ref it) u) Q E s:=by
  unfold letOwnedTupleGo
  cases tg <;> first
    | exact wpAny_pure hQ
    | (cases u <;> first
        | exact wpAny_pure hQ
        | (refine wpAny_bind (wpAny_load ho ?_)
           rw[hc,hd];show wpAny M A (if (["enumerate","zip","dict_itemiterator","dict_reverseitemiterator","odict_iterator","itertools.zip_longest","itertools.pairwise"].contains n && vs[0]? == some (rawInt _))=true then _ else _) Q E s;rw[if_neg (by intro h;rw[hn,Bool.false_and] at h;cases h)];exact wpAny_pure hQ))
def Itl(K:PySem.W.Frag)(a:Addr):It:=
 ⟨λi H=>∃xs x,SqL K H a xs/\xs[i]? =some x,λi H x H'=>H'=H/\∀xs,SqL K H a xs->xs[i]? =some x,λi H=>∃xs,SqL K H a xs/\xs.length<=i⟩
def Itr(lo:Int)(n:Nat):It:=⟨λi _=>i < n,λi H x H'=>H'=H/\x=.int (lo + i),λi _=>n<=i⟩
theorem Ag{P:Program}{w:World}{K:PySem.W.Frag}{tg:Expr}(a it:Addr):Turn P w K tg (Itl K a) [it] it (λi h=>h.IsListIter it a i) where
 mem:=by simp
 obj:=λi h st b hb=>by
  have e:b=it:=by simpa using hb
  subst e;obtain⟨o,e,c,d⟩:=st;exact⟨o,e,λv z=>by rw[d] at z;cases z⟩
 keep:=λi h h' st k=>st.at λo e=>k it (by simp) o e
 item:=by
  intro X hP hw hK hc i pins s σ H E I hf st hg;subst hP hw hK;obtain⟨xs,x,hq,hx⟩:=hg;obtain⟨its,rv,p,hz⟩:=I.list hq;obtain⟨u,hu,ru⟩:=rv.get hx;obtain⟨f0,f1,f2,f3,f4,f5⟩:=hf it (by simp);refine wpAny_pyNext_list_item st p.isList (x:=u) (by simpa using hu) λh' st' sb=> ?_;have I1:Inv X pins σ H { s with heap:=h'}:=I.turned (t':=s.toks) (λb o hb e=>(sb.2 b hb).trans e) f0 f1 f3 f4 f5;obtain⟨o,e,c,d⟩:=id st';exact⟨u,rfl,BM (s:={ s with heap:=h'}) e c d (by decide) ⟨x,H,I1,ru,⟨rfl,λys hy=>by rw[I.lL hy hq];exact hx⟩,st',λb hb=>(hf b hb).1⟩⟩
 done:=by
  intro X hP hw hK hc i pins s σ H E I hf st hg;subst hP hw hK;obtain⟨xs,hq,hx⟩:=hg;obtain⟨its,rv,p,hz⟩:=I.list hq;obtain⟨f0,f1,f2,f3,f4,f5⟩:=hf it (by simp);have hl:=rv.length;exact vT I.cm st p.isList (by simp;lia) λh' eb=>⟨rfl,I.turned (t':=s.toks) (λb o hb e=>eb b o hb e) f0 f1 f3 f4 f5⟩
 self:=λ_ _ _ _ _ st h=>wpAny_pyIter_listiter st h
theorem yt{P:Program}{w:World}{K:PySem.W.Frag}{tg:Expr}(it:Addr)(lo:Int)(n:Nat):Turn P w K tg (Itr lo n) [it] it (λi h=>IsRangeIter h it (lo + (i:Nat) * 1) ((n:Int) - (i:Nat)) 1) where
 mem:=by simp
 obj:=λi h st b hb=>by
  have e:b=it:=by simpa using hb
  subst e
  exact⟨_,st,λv z=>by
   have z':Data.fields _=Data.cell v:=z;cases z'⟩
 keep:=λi h h' st k=>k it (by simp) _ st
 item:=by
  intro X hP hw hK hc i pins s σ H E I hf st hg;subst hP hw hK;obtain⟨f0,f1,f2,f3,f4,f5⟩:=hf it (by simp);refine q0 lo 1 n i hg st λv h' tk hv st' kk=> ?_;obtain⟨t,rfl⟩:=hv;have I1:Inv X pins σ H { s with heap:=h',toks:=tk}:=I.turned (λb o hb e=>kk b o (by simpa using hb) e) f0 f1 f3 f4 f5;refine⟨_,rfl,BM (s:={ s with heap:=h',toks:=tk}) (n:="range_iterator") st' rfl rfl (by decide) ⟨.int (lo + i),H,I1,⟨t,?_⟩,⟨rfl,rfl⟩,st',λb hb=>(hf b hb).1⟩⟩;rw[Int.mul_one]
 done:=by
  intro X hP hw hK hc i pins s σ H E I hf st hg;subst hP hw hK;obtain⟨f0,f1,f2,f3,f4,f5⟩:=hf it (by simp);exact sG I.cm st (by have:n<=i:=hg;lia) λh' eb=>⟨rfl,I.turned (t':=s.toks) (λb o hb e=>eb b o hb e) f0 f1 f3 f4 f5⟩
 self:=λ_ _ _ _ _ st h=>wpAny_pyIter_rangeiter st h
section
variable{X:Cx}{tg:Expr}
def Gr(K:PySem.W.Frag)(tl:TE):TI:=λσ H R=>tl σ H λx H1=>∃a,x=.ref a/\(∃xs,SqL K H1 a xs)/\R (Itl K a) H1
theorem zp{l:Expr}{tl:TE}(hl:PE X l tl):PI X tg l (Gr X.K tl):=by
 intro pins s σ H R I h;refine thn (hl pins s σ H _ I h) λv s1 zz=> ?_;obtain⟨x,H1,I1,r1,q1⟩:=zz;obtain⟨a,e,⟨xs,hq⟩,q⟩:=q1;subst e;cases r1;obtain⟨its,rv,p,hz⟩:=I1.list hq;refine wpAny_pyIter_list p.isList ?_;refine⟨s1.heap.objs.size,[s1.heap.objs.size],_,_,H1,rfl,I1.kept (t':=s1.toks) λb o e=>Heap.get?_push_of_some _ e,Ag a _,⟨_,Heap.get?_push_size _ rfl,rfl,rfl⟩,λb hb=> ?_,q⟩;have e:b=s1.heap.objs.size:=by simpa using hb
 subst e;exact I1.vm (Nat.le_refl _) (I1.hok.fresh (Nat.le_refl _))
theorem we{pins:List (Addr × Obj)}{σ:St}{H:Hp}{s:Shared}{R:It->Hp->Prop}{E:Value->Shared->Prop}{lo hi:Int}{t u v:Tok}{tk:Nat}(I:Inv X pins σ H s)(h1: -(2 ^ 62)<=lo)(h2:lo < 2 ^ 62)(h3: -(2 ^ 62)<=hi)(h4:hi < 2 ^ 62)
  (q:R (Itr lo (hi - lo).toNat) H):wpAny (model X.prog X.w) X.A (pyIter (.ref s.heap.objs.size)) (PIE X pins σ tg R) E { s with heap:=s.heap.push { cls:= .type "range",data:= .fields #[.int lo t,.int hi u,.int 1 v]},toks:=tk}:=by
 refine wpAny_pyIter_range (IsRange.new ..) (small_one h1 h2 h3 h4) ?_;have I1:Inv X pins σ H { s with heap:=s.heap.push { cls:= .type "range",data:= .fields #[.int lo t,.int hi u,.int 1 v]},toks:=tk}:=I.kept λb o e=>Heap.get?_push_of_some _ e
 refine⟨(s.heap.push { cls:= .type "range",data:= .fields #[.int lo t,.int hi u,.int 1 v]}).objs.size,[(s.heap.push { cls:= .type "range",data:= .fields #[.int lo t,.int hi u,.int 1 v]}).objs.size],_,_,H,rfl,
  I1.kept (t':=tk) λb o e=>Heap.get?_push_of_some _ e,yt _ lo (hi - lo).toNat,?_,λb hb=> ?_,q⟩
 .have e1:lo + ((0:Nat):Int) * 1=lo:=by simp
  have e2:(((hi - lo).toNat:Nat):Int) - ((0:Nat):Int)=Builtin.Range.rangeSize lo hi 1:=by rw[rangeSize_one];split <;> lia
  show IsRangeIter _ _ (lo + ((0:Nat):Int) * 1) ((((hi - lo).toNat:Nat):Int) - ((0:Nat):Int)) 1;rw[e1,e2];exact Heap.get?_push_size _ rfl
 .have e:b=(s.heap.push { cls:= .type "range",data:= .fields #[.int lo t,.int hi u,.int 1 v]}).objs.size:=by simpa using hb
  subst e;exact I1.vm (Nat.le_refl _) (I1.hok.fresh (Nat.le_refl _))
def GB(ta:TA):TI:=λσ H R=>ta σ H λvs H1=>∃j:Int,vs=[.int j]/\ -(2 ^ 62)<=j/\j < 2 ^ 62/\R (Itr 0 j.toNat) H1
def Gw(ta:TA):TI:=λσ H R=>ta σ H λvs H1=>∃i j:Int,vs=[.int i,.int j]/\(-(2 ^ 62)<=i/\i < 2 ^ 62/\ -(2 ^ 62)<=j/\j < 2 ^ 62)/\R (Itr i (j - i).toNat) H1
theorem mm{a:Expr}{ta:TA}{p pos:Pos}(hg:Gl X "range")(hm:X.mg "range"=none)(ha:PA X [a] ta)(hs:starEach [a] X.env=[(false,eval a X.env)]:=by rfl):PI X tg (.Call (.Name "range" p) [a] [] pos) (GB ta):=by
 intro pins s σ H R I h;refine Call_ (iw I hg hm boot_range (PyProof.Rows.callWith_type1 (ha.th I h λus s1 vs H1 I1 r1 q1=> ?_) hs rfl));obtain⟨j,e,q1,q2,q⟩:=q1;subst e;cases r1 with
 | cons r rr=>
  cases rr;obtain⟨t,rfl⟩:=r;exact call_range_1 (we I1 (by lia) (by lia) q1 q2 (by simpa using q))
theorem zX{a b:Expr}{ta:TA}{p pos:Pos}(hg:Gl X "range")(hm:X.mg "range"=none)(ha:PA X [a,b] ta)(hs:starEach [a,b] X.env=[(false,eval a X.env),(false,eval b X.env)]:=by rfl)(hs2:starEach [b] X.env=[(false,eval b X.env)]:=by rfl):
  PI X tg (.Call (.Name "range" p) [a,b] [] pos) (Gw ta):=by
 intro pins s σ H R I h;refine Call_ (iw I hg hm boot_range (PyProof.Rows.callWith_type1 (ha.th I h λus s1 vs H1 I1 r1 q1=> ?_) (by rw[hs,hs2]) (by rw[hs2];rfl)));obtain⟨i,j,e,⟨q1,q2,q3,q4⟩,q⟩:=q1;subst e;cases r1 with
 | cons r rr=>
  cases rr with
  | cons r' rr=>
   cases rr;obtain⟨t,rfl⟩:=r;obtain⟨t',rfl⟩:=r';exact call_range_2 (we I1 q1 q2 q3 q4 q)
def G8(wi:TI)(g:TG)(tb:TS):TS:=λD σ H=>wi σ H λJ H1=>∃W:Nat->Nat->St->Hp->Prop,(∃m,W 0 m σ H1)/\∀i m σ H,W i m σ H→
 (J.stop i H/\D.nx σ H)\/(J.go i H/\∃N:St->Hp->Prop,(∀σ' H',N σ' H'->∃m',m' < m/\W (i + 1) m' σ' H')/\∀x H',J.yld i H x H'->g x σ H' λσ2 H2=>tb { D with nx:=N,ct:=N,bk:=D.nx} σ2 H2)
def cV(fp:List Addr)(h:Heap):List (Addr × Obj):=fp.filterMap λb=>(h.get? b).map λo=>(b,o)
theorem dn{fp:List Addr}{h:Heap}{b:Addr}{o:Obj}(hb:b∈fp)(e:h.get? b=some o):(b,o)∈cV fp h:=List.mem_filterMap.mpr ⟨b,hb,by rw[e];rfl⟩
theorem mP{fp:List Addr}{h:Heap}{p:Addr × Obj}(hp:p∈cV fp h):p.1∈fp/\h.get? p.1=some p.2:=by
 obtain⟨b,hb,e⟩:=List.mem_filterMap.mp hp;cases q:h.get? b with
 | none=>rw[q] at e;cases e
 | some o=>
  rw[q] at e;have e':(b,o)=p:=Option.some.inj e;subst e';exact⟨hb,q⟩
theorem Inv.pinned{pins:List (Addr × Obj)}{σ:St}{H:Hp}{s:Shared}{fp:List Addr}(I:Inv X pins σ H s)(hf:∀b∈fp,bR X pins H b)(ho:∀b∈fp,∃o,s.heap.get? b=some o/\∀v,o.data≠ .cell v):Inv X (pins++cV fp s.heap) σ H s:=
 I.jw λp hp=>(List.mem_append.mp hp).elim (λz=>I.pin p (List.mem_append_right _ z)) λz=>by
  obtain⟨hb,e⟩:=mP z;obtain⟨f0,f1,f2,_⟩:=hf p.1 hb;obtain⟨o,e',d⟩:=ho p.1 hb;rw[e] at e';cases e';exact⟨e,f0,f1,f2,d⟩
theorem Inv.jj{pins pl:List (Addr × Obj)}{σ:St}{H:Hp}{s:Shared}(I:Inv X (pins++pl) σ H s):Inv X pins σ H s:=I.jw λp hp=>I.pin p (List.mem_append_right _ (List.mem_append_left _ hp))
theorem pf{iter:Expr}{body:List Stmt}{wi:TI}{g:TG}{tb:TS}{pos:Pos}(hp:PassesOwn (model X.prog X.w) X.A X.env X.xe)(hc:X.calm=X.calm)(hi:PI X tg iter wi)(hg:PG X tg g)(hb:PSs X body tb)
  (hs:∀x,foldedSetIterable iter X.env x=pure x:=by intro _;rfl):PS X (.For tg iter body [] pos) (G8 wi g tb):=by
 intro pins s σ H D I h;refine wpAny_For (thn (hi pins s σ H _ I h) λv s1 h1=>thn h1 λitv s2 h2=> ?_) hs;obtain⟨it,fp,tn,J,H2,e,I2,T,st2,f2,W,⟨m0,w0⟩,turn⟩:=h2;subst e;have stat:∀{H':Hp},(∀b∈fp,H' b=none)->∀b∈fp,bR X pins H' b:=λhn b hb=>⟨hn b hb,(f2 b hb).2⟩;refine codeAny_forLoop_any (λn s'=>∃i σ' H',Inv X pins σ' H' s'/\tn i s'.heap/\(∀b∈fp,H' b=none)/\W i n σ' H') ?_ m0 ⟨0,σ,H2,I2,st2,λb hb=>(f2 b hb).1,w0⟩;rintro n s3 ⟨i,σ3,H3,I3,st3,fr3,w3⟩;rcases turn i n σ3 H3 w3 with⟨stop,qn⟩ | ⟨go,N,hN,step⟩
 .refine wpAny_passesOwn hp (thn (T.done X rfl rfl rfl hc i pins s3 σ3 H3 X.xe I3 (stat fr3) st3 stop) λr s4 zz=> ?_);obtain⟨hr,I4⟩:=zz;subst hr;exact wpAny_execs_nil ⟨σ3,H3,I4,qn⟩
 .refine wpAny_passesOwn hp (thn (T.item X rfl rfl rfl hc i pins s3 σ3 H3 X.xe I3 (stat fr3) st3 go) λr s4 zz=> ?_);obtain⟨u,hr,h4⟩:=zz;subst hr;refine wpAny_passesOwn hp (thn h4 λ_ s5 zz=> ?_);obtain⟨x,H5,I5,r5,y5,st5,fr5⟩:=zz;have I5':=I5.pinned (stat fr5) (T.obj _ _ st5);refine wpAny_passesOwn hp (thn (hg _ s5 σ3 H5 x u _ I5' r5 (step x H5 y5)) λ_ s6 zz=> ?_);obtain⟨σ6,H6,I6,q6⟩:=zz;refine wpAny_passesOwn hp (thn (hb _ s6 σ6 H6 _ I6 q6) λf s7 q7=> ?_)
  have again:∀{σ7:St} {H7:Hp},Inv X (pins++cV fp s5.heap) σ7 H7 s7->N σ7 H7->∃m,m < n/\∃i σ' H',Inv X pins σ' H' s7/\tn i s7.heap/\(∀b∈fp,H' b=none)/\W i m σ' H':=λ{σ7 H7} I7 n7=>by
   obtain⟨m',hm,w7⟩:=hN σ7 H7 n7;refine⟨m',hm,i + 1,σ7,H7,I7.jj,T.keep _ _ _ st5 λb hb o e=>(I7.pin (b,o) (List.mem_append_right _ (List.mem_append_right _ (dn hb e)))).1,λb hb=> ?_,w7⟩;obtain⟨o,e,d⟩:=T.obj _ _ st5 b hb;exact(I7.pin (b,o) (List.mem_append_right _ (List.mem_append_right _ (dn hb e)))).2.1
  cases f with
  | next=>obtain⟨σ7,H7,I7,n7⟩:=q7;exact again I7 n7
  | cont=>obtain⟨σ7,H7,I7,n7⟩:=q7;exact again I7 n7
  | brk=>obtain⟨σ7,H7,I7,q7⟩:=q7;exact⟨σ7,H7,I7.jj,q7⟩
  | ret v=>obtain⟨x7,σ7,H7,I7,r7,q7⟩:=q7;exact⟨x7,σ7,H7,I7.jj,r7,q7⟩
end
theorem m3{lo:Int}{n:Nat}{g:TG}{tb:TS}{D:Ends}{σ:St}{H:Hp}(Pv:Nat->St->Hp->Prop)(h0:Pv 0 σ H)
  (hs:∀i σ H,i < n->Pv i σ H->g (.int (lo + i)) σ H λσ2 H2=>tb { D with nx:=Pv (i + 1),ct:=Pv (i + 1),bk:=D.nx} σ2 H2) (hd:∀σ H,Pv n σ H->D.nx σ H):
  ∃W:Nat->Nat->St->Hp->Prop,(∃m,W 0 m σ H)/\∀i m σ H,W i m σ H→
   ((Itr lo n).stop i H/\D.nx σ H)\/((Itr lo n).go i H/\∃N:St->Hp->Prop,(∀σ' H',N σ' H'->∃m',m' < m/\W (i + 1) m' σ' H')/\∀x H',(Itr lo n).yld i H x H'->g x σ H' λσ2 H2=>tb { D with nx:=N,ct:=N,bk:=D.nx} σ2 H2):=by
 refine⟨λi m σ H=>m=n - i/\i<=n/\Pv i σ H,⟨n,by simp,Nat.zero_le _,h0⟩,?_⟩;rintro i m σ H ⟨rfl,hi,p⟩;by_cases hlt:i < n
 .refine .inr ⟨hlt,Pv (i + 1),λσ' H' p'=>⟨n - (i + 1),by lia,rfl,hlt,p'⟩,λx H' y=> ?_⟩;obtain⟨e,y⟩:=y;subst e y;exact hs i σ _ hlt p
 .have e:i=n:=by lia
  subst e;exact .inl ⟨Nat.le_refl _,hd σ H p⟩
abbrev R2:=V->V->Hp->VK->Prop
def OpR(X:Cx)(f:Value->Value->Sem Value)(r:R2):Prop:=
 ∀(pins:List (Addr × Obj)) (s:Shared) (σ:St) (H:Hp) (x y:V) (v u:Value) (Q:VK),Inv X pins σ H s->RelV x v->RelV y u->r x y H Q→
  wpAny (model X.prog X.w) X.A (f v u) (EP X pins σ Q) X.xe s
def UnR(X:Cx)(f:Value->Sem Value)(r:V->Hp->VK->Prop):Prop:=
 ∀(pins:List (Addr × Obj)) (s:Shared) (σ:St) (H:Hp) (x:V) (v:Value) (Q:VK),Inv X pins σ H s->RelV x v->r x H Q→
  wpAny (model X.prog X.w) X.A (f v) (EP X pins σ Q) X.xe s
def lV(X:Cx)(f:Value)(r:List V->Hp->VK->Prop):Prop:=
 ∀(pins:List (Addr × Obj)) (s:Shared) (σ:St) (H:Hp) (xs:List V) (us:List Value) (Q:VK),Inv X pins σ H s->Vals xs us->r xs H Q→
  wpAny (model X.prog X.w) X.A (call f us) (EP X pins σ Q) X.xe s
def tOp(r:R2)(ta tb:TE):TE:=λσ H Q=>ta σ H λx H1=>tb σ H1 λy H2=>r x y H2 Q
def tUn(r:V->Hp->VK->Prop)(ta:TE):TE:=λσ H Q=>ta σ H λx H1=>r x H1 Q
def rI(C:Int->Int->Prop)(g:Int->Int->V):R2:=λx y H Q=>∃i j,x=.int i/\y=.int j/\C i j/\Q (g i j) H
def rI0(g:Int->Int->V):R2:=λx y H Q=>∃i j,x=.int i/\y=.int j/\Q (g i j) H
def rU(g:Int->V):V->Hp->VK->Prop:=λx H Q=>∃i,x=.int i/\Q (g i) H
section
variable{X:Cx}{a b c:Expr}{ta tb tc:TE}{pos:Pos}
theorem C4(ha:PE X a ta)(hb:PE X b tb){pins:List (Addr × Obj)}{s:Shared}{σ:St}{H:Hp}{R:V->V->Hp->Prop}(I:Inv X pins σ H s)
  (h:ta σ H λx H1=>tb σ H1 λy H2=>R x y H2) {Q:Value->Shared->Prop} {f:Value->Value->Sem Value}
  (hf:∀v u s2 x y H2,Inv X pins σ H2 s2->RelV x v->RelV y u->R x y H2->wpAny (model X.prog X.w) X.A (f v u) Q X.xe s2):
  wpAny (model X.prog X.w) X.A (eval a X.env) (λv s₁=>wpAny (model X.prog X.w) X.A (eval b X.env) (λu s₂=>wpAny (model X.prog X.w) X.A (f v u) Q X.xe s₂) X.xe s₁) X.xe s:=by
 refine ha.th I h λv s1 x H1 I1 r1 q1=> ?_;refine hb.th I1 q1 λu s2 y H2 I2 r2 q2=> ?_;exact hf v u s2 x y H2 I2 r1 r2 q2
theorem ao{op:Operator}{r:R2}(ho:OpR X (binaryOp op) r)(ha:PE X a ta)(hb:PE X b tb):PE X (.BinOp a op b pos) (tOp r ta tb):=by
 intro pins s σ H Q I h;exact wpAny_BinOp (C4 ha hb I h λv u s2 x y H2 I2 rx ry q=>ho pins s2 σ H2 x y v u Q I2 rx ry q)
theorem n8{op:UnaryOp}{r:V->Hp->VK->Prop}(ho:UnR X (unaryOp op) r)(ha:PE X a ta):PE X (.UnaryOp op a pos) (tUn r ta):=by
 intro pins s σ H Q I h;exact UnaryOp_ (ha.th I h λv s1 x H1 I1 r1 q1=>ho pins s1 σ H1 x v Q I1 r1 q1)
theorem opI{f:Value->Value->Sem Value}{C:Int->Int->Prop}{g:Int->Int->Int}
  (rule:∀(i j:Int) (t u:Tok) (s:Shared) (Q:Value->Shared->Prop) (E:Value->Shared->Prop),C i j->Q (.int (g i j) s.toks) { s with toks:=s.toks + 1}->wpAny (model X.prog X.w) X.A (f (.int i t) (.int j u)) Q E s):
  OpR X f (rI C λi j=> .int (g i j)):=by
 intro pins s σ H x y v u Q I rx ry h;obtain⟨i,j,rfl,rfl,hc,q⟩:=h;obtain⟨t,rfl⟩:=rx;obtain⟨t',rfl⟩:=ry;exact rule i j t t' s _ _ hc ⟨.int (g i j),H,I.tok _,⟨_,rfl⟩,q⟩
theorem GL{f:Value->Value->Sem Value}{g:Int->Int->Int}
  (rule:∀(i j:Int) (t u:Tok) (s:Shared) (Q:Value->Shared->Prop) (E:Value->Shared->Prop),Q (.int (g i j) s.toks) { s with toks:=s.toks + 1}->wpAny (model X.prog X.w) X.A (f (.int i t) (.int j u)) Q E s):
  OpR X f (rI0 λi j=> .int (g i j)):=by
 intro pins s σ H x y v u Q I rx ry h;obtain⟨i,j,rfl,rfl,q⟩:=h;obtain⟨t,rfl⟩:=rx;obtain⟨t',rfl⟩:=ry;exact rule i j t t' s _ _ ⟨.int (g i j),H,I.tok _,⟨_,rfl⟩,q⟩
theorem Fq{f:Value->Value->Sem Value}{g:Int->Int->Bool}
  (rule:∀(i j:Int) (t u:Tok) (s:Shared) (Q:Value->Shared->Prop) (E:Value->Shared->Prop),Q (.bool (g i j)) s->wpAny (model X.prog X.w) X.A (f (.int i t) (.int j u)) Q E s):
  OpR X f (rI0 λi j=> .bl (g i j)):=by
 intro pins s σ H x y v u Q I rx ry h;obtain⟨i,j,rfl,rfl,q⟩:=h;obtain⟨t,rfl⟩:=rx;obtain⟨t',rfl⟩:=ry;exact rule i j t t' s _ _ ⟨.bl (g i j),H,I,rfl,q⟩
def Gu(i j:Int):Prop:=0 < j/\j < 1073741824
def FF(i j:Int):Prop:=(-(2 ^ 64) < i/\i < 2 ^ 64)\/(-(2 ^ 64) < j/\j < 2 ^ 64)
theorem FF.ok{i j:Int}(h:FF i j):IntMulOk i j:=by
 rcases h with⟨h1,h2⟩ | ⟨h1,h2⟩
 .exact .of_left (intBits_le_64 h1 h2)
 .exact .of_right (intBits_le_64 h1 h2)
theorem c9:OpR X (binaryOp .Add) (rI0 λi j=> .int (i + j)):=GL λ_ _ _ _ _ _ _ q=>add_int q
theorem yg:OpR X (binaryOp .Sub) (rI0 λi j=> .int (i - j)):=GL λ_ _ _ _ _ _ _ q=>sub_int q
theorem EE:OpR X (binaryOp .Mult) (rI FF λi j=> .int (i * j)):=opI λ_ _ _ _ _ _ _ hc q=>mul_int q hc.ok
theorem bt:OpR X (binaryOp .FloorDiv) (rI Gu λi j=> .int (i / j)):=opI λi j _ _ _ _ _ hc q=>by
 have h1:(0:Int) < j:=hc.1;have h2:j < 1073741824:=hc.2;exact floordiv_int (by lia) (by rw[Int.fdiv_eq_ediv_of_nonneg i (by lia)];exact q) (.inl (PyProof.noPylong_small (by lia)))
theorem aJ:OpR X (binaryOp .Mod) (rI (λ_ j=>0 < j) λi j=> .int (i % j)):=opI λi j _ _ _ _ _ hc q=>by
 have h1:(0:Int) < j:=hc;exact mod_int' (by lia) (by rw[Int.fmod_eq_emod_of_nonneg i (by lia)];exact q)
theorem unI{f:Value->Sem Value}{g:Int->Int}
  (rule:∀(i:Int) (t:Tok) (s:Shared) (Q:Value->Shared->Prop) (E:Value->Shared->Prop),Q (.int (g i) s.toks) { s with toks:=s.toks + 1}->wpAny (model X.prog X.w) X.A (f (.int i t)) Q E s):
  UnR X f (rU λi=> .int (g i)):=by
 intro pins s σ H x v Q I rx h;obtain⟨i,rfl,q⟩:=h;obtain⟨t,rfl⟩:=rx;exact rule i t s _ _ ⟨.int (g i),H,I.tok _,⟨_,rfl⟩,q⟩
theorem jo:UnR X (unaryOp .USub) (rU λi=> .int (-i)):=unI λ_ _ _ _ _ q=>neg_int q
end
def Gi:V->V->Bool
 | .non,.non=>true | .non,.int _=>true | .int _,.non=>true | .non,.bl _=>true | .bl _,.non=>true | .non,.str _=>true | .str _,.non=>true
 | .int _,.int _=>true | .bl _,.bl _=>true | .str _,.str _=>true | .byt _,.byt _=>true
 | .int _,.str _=>true | .str _,.int _=>true | .bl _,.str _=>true | .str _,.bl _=>true
 | _,_=>false
def rEq:R2:=λx y H Q=>Gi x y=true/\Q (.bl (decide (x=y))) H
def rNe:R2:=λx y H Q=>Gi x y=true/\Q (.bl (!decide (x=y))) H
theorem zj{i j:Int}:decide (V.int i=V.int j)=(i == j):=by
 rw[Bool.eq_iff_iff];simp
theorem BO{i j:Bool}:decide (V.bl i=V.bl j)=(i == j):=by
 rw[Bool.eq_iff_iff];simp
theorem yC{i j:Str}:decide (V.str i=V.str j)=(i == j):=by
 rw[Bool.eq_iff_iff];simp
theorem zq{i j:Array UInt8}:decide (V.byt i=V.byt j)=(i.toList == j.toList):=by
 rw[Bool.eq_iff_iff];cases i;cases j;simp
section
variable{X:Cx}{a b c:Expr}{ta tb tc:TE}{pos:Pos}
theorem aP{pins:List (Addr × Obj)}{σ:St}{H:Hp}{s:Shared}{Q:VK}{k k':Bool}(I:Inv X pins σ H s)(q:Q (.bl k) H)(e:k=k'):EP X pins σ Q (.bool k') s:=by
 subst e;exact⟨.bl k,H,I,rfl,q⟩
theorem cq:OpR X (compareOp .Eq) rEq:=by
 intro pins s σ H x y v u Q I rx ry h;obtain⟨hs,q⟩:=h;cases x with
 | non=>
  cases rx;cases y with
  | non=>cases ry;exact PySem.EqNone.eq_none_none (aP I q (by simp))
  | bl j=>cases ry;exact PySem.EqNone.eq_none_bool (aP I q (by simp))
  | int j=>obtain⟨t',rfl⟩:=ry;exact PySem.EqNone.eq_none_int (aP I q (by simp))
  | str j=>obtain⟨t',rfl⟩:=ry;exact PySem.EqNone.eq_none_str (aP I q (by simp))
  | _=>exact absurd (show false=true from hs) Bool.false_ne_true
 | bl i=>
  cases rx;cases y with
  | non=>cases ry;exact PySem.EqNone.eq_bool_none (aP I q (by simp))
  | bl j=>cases ry;exact eq_bool (aP I q BO)
  | str j=>obtain⟨t',rfl⟩:=ry;exact PySem.EqMixed.eq_bool_str (aP I q (by simp))
  | _=>exact absurd (show false=true from hs) Bool.false_ne_true
 | int i=>
  obtain⟨t,rfl⟩:=rx;cases y with
  | non=>cases ry;exact PySem.EqNone.eq_int_none (aP I q (by simp))
  | int j=>obtain⟨t',rfl⟩:=ry;exact eq_int (aP I q zj)
  | str j=>obtain⟨t',rfl⟩:=ry;exact PySem.EqMixed.eq_int_str (aP I q (by simp))
  | _=>exact absurd (show false=true from hs) Bool.false_ne_true
 | str i=>
  obtain⟨t,rfl⟩:=rx;cases y with
  | non=>cases ry;exact PySem.EqNone.eq_str_none (aP I q (by simp))
  | bl j=>cases ry;exact PySem.EqMixed.eq_str_bool (aP I q (by simp))
  | int j=>obtain⟨t',rfl⟩:=ry;exact PySem.EqMixed.eq_str_int (aP I q (by simp))
  | str j=>obtain⟨t',rfl⟩:=ry;exact eq_str (aP I q yC)
  | _=>exact absurd (show false=true from hs) Bool.false_ne_true
 | byt i=>
  obtain⟨t,rfl⟩:=rx;cases y with
  | byt j=>obtain⟨t',rfl⟩:=ry;exact PySem.W.eq_bytes (aP I q zq)
  | _=>exact absurd (show false=true from hs) Bool.false_ne_true
 | _=>cases y <;> exact absurd (show false=true from hs) Bool.false_ne_true
theorem kY:OpR X (compareOp .NotEq) rNe:=by
 intro pins s σ H x y v u Q I rx ry h;obtain⟨hs,q⟩:=h;cases x with
 | non=>
  cases rx;cases y with
  | non=>cases ry;exact PySem.EqNone.ne_none_none (aP I q (by simp))
  | bl j=>cases ry;exact PySem.EqNone.ne_none_bool (aP I q (by simp))
  | int j=>obtain⟨t',rfl⟩:=ry;exact PySem.EqNone.ne_none_int (aP I q (by simp))
  | str j=>obtain⟨t',rfl⟩:=ry;exact PySem.EqNone.ne_none_str (aP I q (by simp))
  | _=>exact absurd (show false=true from hs) Bool.false_ne_true
 | bl i=>
  cases rx;cases y with
  | non=>cases ry;exact PySem.EqNone.ne_bool_none (aP I q (by simp))
  | bl j=>cases ry;exact ne_bool (aP I q (congrArg not BO))
  | str j=>obtain⟨t',rfl⟩:=ry;exact PySem.EqMixed.ne_bool_str (aP I q (by simp))
  | _=>exact absurd (show false=true from hs) Bool.false_ne_true
 | int i=>
  obtain⟨t,rfl⟩:=rx;cases y with
  | non=>cases ry;exact PySem.EqNone.ne_int_none (aP I q (by simp))
  | int j=>obtain⟨t',rfl⟩:=ry;exact ne_int (aP I q (congrArg not zj))
  | str j=>obtain⟨t',rfl⟩:=ry;exact PySem.EqMixed.ne_int_str (aP I q (by simp))
  | _=>exact absurd (show false=true from hs) Bool.false_ne_true
 | str i=>
  obtain⟨t,rfl⟩:=rx;cases y with
  | non=>cases ry;exact PySem.EqNone.ne_str_none (aP I q (by simp))
  | bl j=>cases ry;exact PySem.EqMixed.ne_str_bool (aP I q (by simp))
  | int j=>obtain⟨t',rfl⟩:=ry;exact PySem.EqMixed.ne_str_int (aP I q (by simp))
  | str j=>obtain⟨t',rfl⟩:=ry;exact ne_str (aP I q (congrArg not yC))
  | _=>exact absurd (show false=true from hs) Bool.false_ne_true
 | byt i=>
  obtain⟨t,rfl⟩:=rx;cases y with
  | byt j=>obtain⟨t',rfl⟩:=ry;exact PySem.W.ne_bytes (aP I q (congrArg not zq))
  | _=>exact absurd (show false=true from hs) Bool.false_ne_true
 | _=>cases y <;> exact absurd (show false=true from hs) Bool.false_ne_true
theorem jM:OpR X (compareOp .Lt) (rI0 λi j=> .bl (decide (i < j))):=Fq λ_ _ _ _ _ _ _ q=>lt_int q
theorem EB:OpR X (compareOp .LtE) (rI0 λi j=> .bl (decide (i<=j))):=Fq λ_ _ _ _ _ _ _ q=>le_int q
theorem En:OpR X (compareOp .Gt) (rI0 λi j=> .bl (decide (j < i))):=Fq λ_ _ _ _ _ _ _ q=>gt_int q
theorem AM:OpR X (compareOp .In) (λx y H Q=>∃i j,x=.str i/\y=.str j/\Q (.bl (!(Builtin.Str.occurrences j i 0 j.length 1).isEmpty)) H):=by
 intro pins s σ H x y v u Q I rx ry h;obtain⟨i,j,rfl,rfl,q⟩:=h;obtain⟨t,rfl⟩:=rx;obtain⟨t',rfl⟩:=ry;exact in_str (aP I q rfl)
theorem FE:OpR X (compareOp .Is) (λx y H Q=>y=.non/\Q (.bl (decide (x=.non))) H):=by
 intro pins s σ H x y v u Q I rx ry h;obtain⟨rfl,q⟩:=h;cases ry;refine is_none_gen (aP I q ?_)
 cases x <;> first
  | (cases rx;rfl)
  | (obtain⟨t,rfl⟩:=rx;rfl)
theorem DO:OpR X (compareOp .IsNot) (λx y H Q=>y=.non/\Q (.bl (!decide (x=.non))) H):=by
 intro pins s σ H x y v u Q I rx ry h;obtain⟨rfl,q⟩:=h;cases ry;refine isnot_none_gen (aP I q ?_)
 cases x <;> first
  | (cases rx;rfl)
  | (obtain⟨t,rfl⟩:=rx;rfl)
theorem xW(b:Expr){op:CmpOp}(h:op≠ .In:=by decide)(h2:op≠ .NotIn:=by decide):behindInMarks op b=false:=by
 have e1:(op == CmpOp.In)=false:=by cases op <;> first | rfl | exact absurd rfl h
 have e2:(op == CmpOp.NotIn)=false:=by cases op <;> first | rfl | exact absurd rfl h2
 cases b <;> simp [behindInMarks,e1,e2]
theorem yL{op:CmpOp}{r:R2}(ho:OpR X (compareOp op) r)(ha:PE X a ta)(hb:PE X b tb)(hm:behindInMarks op b=false):PE X (.Compare a [op] [b] pos) (tOp r ta tb):=by
 intro pins s σ H Q I h;exact wpAny_Compare1 (C4 ha hb I h λv u s2 x y H2 I2 rx ry q=>ho pins s2 σ H2 x y v u Q I2 rx ry q) hm
def Eo(t:TE):TT:=λσ H Q=>t σ H λx H'=>∃k,x=.bl k/\Q k H'
theorem yD{op:CmpOp}{r:R2}(ho:OpR X (compareOp op) r)(ha:PE X a ta)(hb:PE X b tb)(hm:behindInMarks op b=false):PT X (.Compare a [op] [b] pos) (Eo (tOp r ta tb)):=by
 intro pins s σ H Q I h
 refine wpAny_isTrue_Compare1 (ha.th I h λv s1 x H1 I1 r1 q1=>hb.th I1 q1 λu s2 y H2 I2 r2 q2=>
  thE (ho pins s2 σ H2 x y v u _ I2 r1 r2 q2) λc s3 z H3 I3 r3 zz=> ?_) hm
 obtain⟨k,e,q3⟩:=zz;subst e;cases r3;exact wpAny_truthy_bool ⟨H3,I3,q3⟩
def FN(r r':R2)(ta tb tc:TE):TE:=λσ H Q=>ta σ H λx H1=>tb σ H1 λy H2=>r x y H2 λz H3=>∃k,z=.bl k∧
 (if k=true then tc σ H3 λw' H4=>r' y w' H4 Q else Q (.bl false) H3)
theorem B2{op op':CmpOp}{r r':R2}(ho:OpR X (compareOp op) r)(ho':OpR X (compareOp op') r')(ha:PE X a ta)(hb:PE X b tb)(hc:PE X c tc)
  (hm:lastMarks [op,op'] [b,c]=false:=by with_unfolding_all rfl):PE X (.Compare a [op,op'] [b,c] pos) (FN r r' ta tb tc):=by
 intro pins s σ H Q I h
 refine Compare_chain (ha.th I h λv s1 x H1 I1 r1 q1=>chain_link (hb.th I1 q1 λu s2 y H2 I2 r2 q2=>
  thE (ho pins s2 σ H2 x y v u _ I2 r1 r2 q2) λd s3 z H3 I3 r3 zz=> ?_)) hm
 obtain⟨k,e,q3⟩:=zz;subst e;cases r3;refine wpAny_truthy_bool ?_;cases k with
 | false=>exact ite_ff ⟨.bl false,H3,I3,rfl,q3⟩
 | true=>exact ite_tt (chain_last (hc.th I3 q3 λw' s4 z' H4 I4 r4 q4=>ho' pins s4 σ H4 y z' u w' Q I4 r2 r4 q4))
theorem vj:(sizeLine:Nat) < 2 ^ 63:=by rw[sizeLine_eq];decide
theorem aS:OpR X (binaryOp .Add) (λx y H Q=>∃i j,x=.str i/\y=.str j/\i.length + j.length<=sizeLine/\Q (.str (i++j)) H):=by
 intro pins s σ H x y v u Q I rx ry h;obtain⟨i,j,rfl,rfl,hz,q⟩:=h;obtain⟨t,rfl⟩:=rx;obtain⟨t',rfl⟩:=ry;exact add_str (λt' tk=>⟨.str (i++j),H,I.tok _,⟨_,rfl⟩,q⟩) hz
def CC(b:Expr):Prop:=∀o i,subscripted b false o i=operate [o,i] (getItem o i)
theorem fJ(ha:PE X a ta)(hb:PE X b tb)(hs:CC b):
  PE X (.Subscript a b pos) (tOp (λx y H Q=>∃z i c,x=.str z/\y=.int i/\0<=i/\i < 2 ^ 63/\i < z.length/\z.cps[i.toNat]? =some c/\Q (.str ⟨#[c]⟩) H) ta tb):=by
 intro pins s σ H Q I h;refine Subscript_ (C4 ha hb I h λv u s2 x y H2 I2 rx ry q=> ?_);obtain⟨z,i,c,rfl,rfl,h0,h63,h1,hc,q⟩:=q;obtain⟨t,rfl⟩:=rx;obtain⟨t',rfl⟩:=ry;have e:seqIndex? i z.length=some i.toNat:=PySem.StrLaws.seqIndex_nonneg h0 h1
 exact tail_any (typeIs_str s2 z t) slot_str_getitem.lookup (getItem_str (c:=c) (by
  have e1:decide (i < -(2 ^ 63:Int))=false:=decide_eq_false (by lia);have e2:decide (i>=2 ^ 63)=false:=decide_eq_false (by lia);rw[e1,e2] <;> rfl) (by rw[e];exact hc) ⟨.str ⟨#[c]⟩,H2,I2.tok _,⟨_,rfl⟩,q⟩) (hs _ _)
theorem vals1{x:V}{us:List Value}(r:Vals [x] us):∃u,us=[u]/\RelV x u:=by
 cases r with
 | cons r1 r2=>cases r2;exact⟨_,rfl,r1⟩
theorem vals2{x y:V}{us:List Value}(r:Vals [x,y] us):∃u w',us=[u,w']/\RelV x u/\RelV y w':=by
 cases r with
 | cons r1 r2=>
  cases r2 with
  | cons r3 r4=>cases r4;exact⟨_,_,rfl,r1,r3⟩
theorem An(hc:X.calm=X.calm):lV X (.builtin "min") (λxs H Q=>∃i j,xs=[.int i,.int j]/\Q (.int (if j < i then j else i)) H):=by
 intro pins s σ H xs us Q I r h;obtain⟨i,j,rfl,q⟩:=h;obtain⟨u,w',rfl,⟨t,rfl⟩,⟨t',rfl⟩⟩:=vals2 r;refine GJ I.cm λh' tk k=>⟨_,H,I.kept k,?_,q⟩;by_cases hj:j < i
 .rw [if_pos hj,if_pos hj];exact⟨_,rfl⟩
 .rw [if_neg hj,if_neg hj];exact⟨_,rfl⟩
theorem aM:lV X (.type "str") (λxs H Q=>∃i,xs=[.int i]/\i.natAbs.log2 < 1920/\Q (.str (toString i)) H):=by
 intro pins s σ H xs us Q I r h;obtain⟨i,rfl,hz,q⟩:=h;obtain⟨u,rfl,t,rfl⟩:=vals1 r;exact PySem.P.str_of_int hz ⟨.str _,H,I.tok _,⟨_,rfl⟩,q⟩
end
structure xi(h:Heap)(x dx C:Addr)(mA:Str->Option Value):Prop where
 obj:h.get? x=some (PySem.W.instObj C dx)
 ns:h.Ns1 dx mA
 ne:dx≠x
theorem AX{h:Heap}{dx:Addr}{mA:Str->Option Value}(n:h.Ns1 dx mA):∃od,h.get? dx=some od/\∀name,PySem.W.lookIn name od=some (mA name):=by
 obtain⟨o,es,ep,ho,hd,hk,_,hm⟩:=n;refine⟨o,ho,λname=> ?_⟩;have e:=hm name;unfold nsFind findBy at e;rw[<- Array.find?_toList] at e;unfold PySem.W.lookIn;rw[hd];dsimp only
 split
 .rename_i y q
  rw[q] at e;exact congrArg some e
 .rename_i q
  rw[q] at e
  have a:es.toList.any (·.refKey)=false:=by
   rw[List.any_eq_false];intro y hy;obtain⟨z,t,hkey⟩:=hk y (Array.mem_toList_iff.mp hy);simp [DictEntry.refKey,hkey]
  have a':¬es.toList.any (·.refKey)=true:=by rw[a];exact Bool.false_ne_true
  rw[if_neg a'];exact congrArg some e
theorem xi.look{h:Heap}{x dx C:Addr}{mA:Str->Option Value}(I:xi h x dx C mA):∃od,PySem.W.InstAt h x (PySem.W.instObj C dx) C (some od)/\∀name,PySem.W.lookIn name od=some (mA name):=
 let ⟨od,ho,hl⟩:=AX I.ns
 ⟨od,⟨I.obj,rfl,rfl,ho⟩,hl⟩
section
variable{prog:Program}{w:World}{A:Around}{E:Value->Shared->Prop}{s:Shared}{K:PySem.W.Frag}{x dx C f:Addr}{mA:Str->Option Value}{name:Str}{v:Value}
theorem get_map{expr:Bool}{Q:Value->Shared->Prop}(X:K.In s.heap)(I:xi s.heap x dx C mA)(hg:PySem.W.plainGet K C name=true)(hh:PySem.W.hasDictIn K C=true)
  (ha:PySem.W.findIn K (.ref C) name=some none) (hv:mA name=some v) (hv':PySem.W.handedIn v=true) (h:Q v { s with toks:=s.toks + 1}):
  wpAny (model prog w) A (getAttr (.ref x) name expr) Q E s:=by
 obtain⟨od,J,hl⟩:=I.look;exact PySem.W.get_value X J (PySem.W.plainGet_of hg).1 (PySem.W.findObj_own hh ha rfl (by rw[hl,hv])) hv' h
theorem CS{pl:Sem Bool}{Q:Value × List Value->Shared->Prop}(X:K.In s.heap)(I:xi s.heap x dx C mA)(hg:PySem.W.plainGet K C name=true)
  (hf:PySem.W.findIn K (.ref C) name=some (some (.ref f))) (ht:PySem.W.isFn K (.ref f)=true) (hv:mA name=none) (h:Q (.ref f,[.ref x]) s):
  wpAny (model prog w) A (getMethod (.ref x) name pl) Q E s:=by
 obtain⟨od,J,hl⟩:=I.look;exact PySem.W.method_fn X J (PySem.W.plainGet_of hg).1 (PySem.W.plainGet_of hg).2 hf (beq_iff_eq.mp ht) (by show(PySem.W.lookIn name od).map (·.isSome)=some false;rw[hl,hv];rfl) h
theorem Dw{ns:List Str}{Q:Unit->Shared->Prop}(X:K.In s.heap)(I:xi s.heap x dx C mA)
  (hs:PySem.W.findIn K (.ref C) "__setattr__"=some (some (.builtin "object.__setattr__"))) (hp:PySem.W.plainOver K C=true) (ht:PySem.W.takerIn K C name=some none) (hh:PySem.W.hasDictIn K C=true)
  (hw:PySem.Within mA ns) (hsz:ns.length<=sizeLine)
  (h:∀h',xi h' x dx C (λy=>if y=name then some v else mA y)->Heap.SameBut dx s.heap h'->Q () { s with heap:=h',toks:=s.toks + 2}):
  wpAny (model prog w) A (setAttr (.ref x) name v) Q E s:=by
 obtain⟨od,J,hl⟩:=I.look;refine PySem.W.set_plain X J hs (PySem.W.osa_open (s:={ s with toks:=s.toks + 1}) (r:=none) X J hp ht λb=> ?_);obtain⟨cd,hc,hd'⟩:=PySem.W.any_some hh;have hx:s.heap.get? x=some ⟨.ref C,some dx,.plain,#[]⟩:=I.obj;refine wpAny_bind (wpAny_pure (wpAny_bind (wpAny_bind (wpAny_loadPart hx (wpAny_bind (PySem.W.Looks.here (s:={ s with toks:=s.toks + 1}) (PySem.W.looks_clsIn X hc) ?_))))));rw[hd'];refine wpAny_pure (a:=some dx) (wpAny_bind (wpAny_pure (wpAny_bind ?_)));refine wpAny_nsSet1 (s:={ s with toks:=s.toks + 1}) I.ns λh' hn2 hs2=> ?_;obtain⟨oD,esD,epD,hoD,hdD,hcD⟩:=hn2.count (PySem.Within.cons name v hw);refine wpAny_bind (wpAny_lookBehind hoD (by rw[hdD];exact pastItsLine_dict (Nat.le_trans hcD (by rw[List.length_cons];lia))) ?_);exact wpAny_pure (h _ ⟨(hs2.2 _ (Ne.symm I.ne)).trans I.obj,hn2,I.ne⟩ hs2)
theorem CD{R:Result->Shared->Prop}{vs:List Value}{kw:List (Str × Value)}(X:K.In s.heap)(hm:PySem.W.makesIn K C=true)
  (hi:PySem.W.findIn K (.ref C) "__init__"=some (some (.ref f))) (hf:PySem.W.typeIn K (.ref f)=some (.type "function"))
  (h:codeAny (model prog w) (A.under (.builtin "type.__call__" ⟨.ref C::vs,kw⟩)) (.call (.ref f) ⟨.ref (s.heap.objs.size + 1)::vs,kw⟩) (PySem.W.InitBack (s.heap.objs.size + 1) R)
   { s with heap:=(s.heap.push PySem.W.emptyDict).push (PySem.W.instObj C s.heap.objs.size)}):
  codeAny (model prog w) A (.call (.ref C) ⟨vs,kw⟩) R s:=by
 obtain⟨hh,g,d,t,os⟩:=s;exact PySem.W.make_core (PySem.W.makes_of X hm) (PySem.W.looks_findIn X hi) (λself=>PySem.W.bind_fn X self hf) (.inl rfl) h
end
def jA(f:Str)(v:V):List (Str × V)->List (Str × V)
 | []=>[(f,v)]
 | (g,x)::r=>if g=f then (g,v)::r else (g,x)::jA f v r
theorem nP(f g:Str)(v:V):∀fs:List (Str × V),(jA f v fs).lookup g=if g=f then some v else fs.lookup g
 | []=>by
  show List.lookup g [(f,v)]=_;by_cases h:g=f
  .have hb:(g == f)=true:=beq_iff_eq.mpr h;simp only [List.lookup,hb,if_pos h]
  .have hb:(g == f)=false:=beq_eq_false_iff_ne.mpr h;simp only [List.lookup,hb,if_neg h]
 | (k,x)::r=>by
  have ih:=nP f g v r;rw[show jA f v ((k,x)::r)=(if k=f then (k,v)::r else (k,x)::jA f v r) from rfl];by_cases hk:k=f
  .rw [if_pos hk];by_cases h:g=k
   .have hb:(g == k)=true:=beq_iff_eq.mpr h;simp only [List.lookup,hb,if_pos (h.trans hk)]
   .have hb:(g == k)=false:=beq_eq_false_iff_ne.mpr h;simp only [List.lookup,hb,if_neg (λe:g=f=>h (e.trans hk.symm))]
  .rw [if_neg hk];by_cases h:g=k
   .have hb:(g == k)=true:=beq_iff_eq.mpr h;simp only [List.lookup,hb,if_neg (λe:g=f=>hk (h.symm.trans e))]
   .have hb:(g == k)=false:=beq_eq_false_iff_ne.mpr h;simp only [List.lookup,hb];exact ih
theorem mV(f:Str)(v:V):∀fs:List (Str × V),f∈(jA f v fs).map (·.1)/\∀g,g∈fs.map (·.1)->g∈(jA f v fs).map (·.1)
 | []=>⟨by simp [jA],λg h=>by simp at h⟩
 | (k,x)::r=>by
  obtain⟨i1,i2⟩:=mV f v r;rw[show jA f v ((k,x)::r)=(if k=f then (k,v)::r else (k,x)::jA f v r) from rfl];by_cases hk:k=f
  .rw [if_pos hk];subst hk;exact⟨by simp,λg h=>by simpa using h⟩
  .rw [if_neg hk];refine⟨?_,λg h=> ?_⟩
   .rw [List.map_cons];exact List.mem_cons_of_mem _ i1
   .rw [List.map_cons] at h ⊢;rcases List.mem_cons.mp h with e | e
    .exact List.mem_cons.mpr (.inl e)
    .exact List.mem_cons_of_mem _ (i2 g e)
theorem n9(f:Str)(v:V):∀fs:List (Str × V),(jA f v fs).length<=fs.length + 1
 | []=>by simp [jA]
 | (k,x)::r=>by
  have ih:=n9 f v r;rw[show jA f v ((k,x)::r)=(if k=f then (k,v)::r else (k,x)::jA f v r) from rfl];by_cases hk:k=f
  .rw [if_pos hk,List.length_cons,List.length_cons];lia
  .rw [if_neg hk,List.length_cons,List.length_cons];lia
theorem jH.some_of{v:V}{o:Option Value}(r:jH (some v) o):∃u,o=some u/\RelV v u:=by
 cases o with
 | none=>exact(show False from r).elim
 | some u=>exact⟨u,rfl,r⟩
theorem jH.none_of{o:Option Value}(r:jH none o):o=none:=by
 cases o with
 | none=>rfl
 | some u=>exact(show False from r).elim
theorem Ao{v:V}{u:Value}(r:RelV v u):PySem.W.handedIn u=true:=by
 cases v with
 | non=>cases (show u=Value.none from r);rfl
 | bl b=>cases (show u=Value.bool b from r);rfl
 | int i=>obtain⟨t,e⟩:=(show ∃t,u=Value.int i t from r);cases e;rfl
 | str x=>obtain⟨t,e⟩:=(show ∃t,u=Value.str x t from r);cases e;rfl
 | byt b=>obtain⟨t,e⟩:=(show ∃t,u=Value.bytes b t from r);cases e;rfl
 | flt b=>obtain⟨t,e⟩:=(show ∃t,u=Value.float b t from r);cases e;rfl
 | ref a=>cases (show u=Value.ref a from r);rfl
 | ty n=>cases (show u=Value.type n from r);rfl
section
variable{P:Program}{w:World}{H H':Hp}{h h':Heap}{a C dx:Addr}{fs fs':List (Str × V)}
theorem oS(hok:HOk P w H h)(e:H a=some (.ins C dx fs)):∃mA,xi h a dx C mA/\(∀f,jH (fs.lookup f) (mA f))/\PySem.Within mA (fs.map (·.1))/\fs.length<=1000/\H dx=some (.own a):=by
 obtain⟨d,z,ne,ob,mA,n,r,q⟩:=(show bM P w H h a (.ins C dx fs) from hok a _ e);exact⟨mA,⟨ob,n,ne⟩,r,q,z,d⟩
end
structure Cls(K:PySem.W.Frag)(C:Addr):Prop where
 pg:PySem.W.plainGet K C Str.empty=true
 hd:PySem.W.hasDictIn K C=true
 po:PySem.W.plainOver K C=true
 sa:PySem.W.findIn K (.ref C) "__setattr__"=some (some (.builtin "object.__setattr__"))
theorem Cls.get{K:PySem.W.Frag}{C:Addr}(c:Cls K C)(f:Str):PySem.W.plainGet K C f=true:=c.pg
def bC(K:PySem.W.Frag)(C:Addr)(f:Str):Prop:=PySem.W.findIn K (.ref C) f=some none
theorem bC.Gn{K:PySem.W.Frag}{C:Addr}{f:Str}(n:bC K C f):PySem.W.takerIn K C f=some none:=by
 unfold PySem.W.takerIn;rw[show PySem.W.findIn K (.ref C) f=some none from n]
 rfl
structure Meth(K:PySem.W.Frag)(C:Addr)(m:Str)(f:Addr):Prop where
 at_:PySem.W.findIn K (.ref C) m=some (some (.ref f))
 fn:PySem.W.isFn K (.ref f)=true
 kp:PySem.W.keepIn K (.ref f)=true
section
variable{X:Cx}{pins:List (Addr × Obj)}{σ:St}{H:Hp}{s:Shared}{a C dx:Addr}{fs:List (Str × V)}{f:Str}{v:V}{A:Around}{E:Value->Shared->Prop}
theorem xr{b:Bool}{Q:Value->Shared->Prop}(I:Inv X pins σ H s)(e:H a=some (.ins C dx fs))(c:Cls X.K C)(n:bC X.K C f)(l:fs.lookup f=some v)
  (h:∀u s',Inv X pins σ H s'->RelV v u->Q u s'):wpAny (model X.prog X.w) A (getAttr (.ref a) f b) Q E s:=by
 obtain⟨mA,O,r,_,_,_⟩:=oS I.hok e;obtain⟨u,hu,ru⟩:=jH.some_of (v:=v) (o:=mA f) (by rw[<- l];exact r f);exact get_map I.kIn O (c.get f) c.hd n hu (Ao ru) (h u _ (I.tok _) ru)
theorem qU{m:Str}{g:Addr}{pl:Sem Bool}{Q:Value × List Value->Shared->Prop}(I:Inv X pins σ H s)(e:H a=some (.ins C dx fs))(c:Cls X.K C)(k:Meth X.K C m g)(l:fs.lookup m=none)
  (h:Q (.ref g,[.ref a]) s):wpAny (model X.prog X.w) A (getMethod (.ref a) m pl) Q E s:=by
 obtain⟨mA,O,r,_,_,_⟩:=oS I.hok e;have hn:mA m=none:=jH.none_of (by rw[<- l];exact r m);exact CS I.kIn O (c.get m) k.at_ k.fn hn h
theorem yr{y:V}{u:Value}{Q:Unit->Shared->Prop}(I:Inv X pins σ H s)(e:H a=some (.ins C dx fs))(c:Cls X.K C)(n:bC X.K C f)(hl:fs.length < 1000)(ry:RelV y u)
  (h:∀s',Inv X pins σ (upd H a (.ins C dx (jA f y fs))) s'->Q () s'):wpAny (model X.prog X.w) A (setAttr (.ref a) f u) Q E s:=by
 obtain⟨mA,O,r,wi,_,ho⟩:=oS I.hok e;have hz:(fs.map (·.1)).length<=sizeLine:=by rw[List.length_map,sizeLine_eq];lia
 refine Dw I.kIn O c.sa c.po n.Gn c.hd wi hz λh' O' sb=>h _ ?_;have hd:∃o,h'.get? dx=some o:=let ⟨o,_,_,e',_⟩:=O'.ns;⟨o,e'⟩;refine I.write (x:=a) (e:=dx) (by rw[e];exact True.intro) (.inr ho) (λb q hb z=>(sb.2 b hb).trans z) hd ?_;refine⟨by rw[ak O.ne];exact ho,?_,O.ne,O'.obj,_,O'.ns,λg=> ?_,λg hg=> ?_⟩
 .have:=n9 f y fs;lia
 .show jH ((jA f y fs).lookup g) (if g=f then some u else mA g);rw[nP];by_cases q:g=f
  .rw [if_pos q,if_pos q];exact ry
  .rw [if_neg q,if_neg q];exact r g
 .by_cases q:g=f
  .rw [q];exact(mV f y fs).1
  .refine (mV f y fs).2 g (wi g λz=>hg ?_);show(if g=f then some u else mA g)=none;rw[if_neg q];exact z
theorem Inv.made(I:Inv X pins σ H s):Inv X pins σ (upd (upd H s.heap.objs.size (.own (s.heap.objs.size + 1))) (s.heap.objs.size + 1) (.ins C s.heap.objs.size []))
  { s with heap:=(s.heap.push PySem.W.emptyDict).push (PySem.W.instObj C s.heap.objs.size)}:=by
 have e1:(s.heap.push PySem.W.emptyDict).get? s.heap.objs.size=some PySem.W.emptyDict:=Heap.get?_push_size s.heap rfl
 have e2:((s.heap.push PySem.W.emptyDict).push (PySem.W.instObj C s.heap.objs.size)).get? (s.heap.objs.size + 1)=some (PySem.W.instObj C s.heap.objs.size):=by
  have:=Heap.get?_push_size (s.heap.push PySem.W.emptyDict) (o:=PySem.W.instObj C s.heap.objs.size) rfl;rwa [Heap.size_push] at this
 have e3:(s.heap.push PySem.W.emptyDict).Ns s.heap.objs.size (λ_=>none):=⟨PySem.W.emptyDict,#[],_,e1,rfl,(λe he=>absurd he (by simp)),λ_=>rfl⟩;have I1:=I.laid (a:=s.heap.objs.size) (o:= .own (s.heap.objs.size + 1)) (h':=s.heap.push PySem.W.emptyDict) (t':=s.toks) (λb u q=>Heap.get?_push_of_some _ q) (Nat.le_refl _) ⟨_,e1⟩;refine I1.laid (a:=s.heap.objs.size + 1) (o:= .ins C s.heap.objs.size []) (t':=s.toks) (λb u q=>Heap.get?_push_of_some _ q) (Nat.le_of_eq (Heap.size_push _ _)) ?_;have ne:s.heap.objs.size≠s.heap.objs.size + 1:=Nat.ne_of_lt (Nat.lt_succ_self _);refine⟨by rw[ak ne,ae],Nat.zero_le _,ne,e2,λ_=>none,(Heap.Ns1.of_empty e3).at λo q=>Heap.get?_push_of_some _ q,λ_=>True.intro,λy hy=>absurd rfl hy⟩
theorem Dk{prog:Program}{w:World}{env:Env}{e:Expr}{f:Str}{pos:Pos}{s:Shared}{Q:Value->Shared->Prop}(hb:attributeBase e f env (eval e env)=eval e env)
  (h:wpAny (model prog w) A (eval e env) (λo s₁=>wpAny (model prog w) A (getAttr o f true) Q E s₁) E s):wpAny (model prog w) A (eval (.Attribute e f pos) env) Q E s:=
 Attribute_any_ h (by rw[arm_eval_Attribute,hb])
end
def GW(K:PySem.W.Frag)(ta:TE)(f:Str):TE:=λσ H Q=>ta σ H λx H1=>∃a C dx fs v,x=.ref a/\H1 a=some (.ins C dx fs)/\Cls K C/\bC K C f/\fs.lookup f=some v/\Q v H1
def F7(K:PySem.W.Frag)(ta tv:TE)(f:Str):TS:=λD σ H=>tv σ H λy H1=>ta σ H1 λx H2=>∃a C dx fs,x=.ref a/\H2 a=some (.ins C dx fs)/\Cls K C/\bC K C f/\fs.length < 1000∧
 D.nx σ (upd H2 a (.ins C dx (jA f y fs)))
section
variable{X:Cx}{o e value:Expr}{f:Str}{pos pos' tpos:Pos}{ta tv:TE}
theorem aV(he:PE X e ta)(hb:attributeBase e f X.env (eval e X.env)=eval e X.env):PE X (.Attribute e f pos) (GW X.K ta f):=by
 intro pins s σ H Q I h;refine Dk hb (he.th I h λu s1 x H1 I1 rx zz=> ?_);obtain⟨a,C,dx,fs,v,ex,ea,c,n,l,q⟩:=zz;subst ex;obtain rfl:u=Value.ref a:=rx;exact xr I1 ea c n l λu' s2 I2 ru=>⟨v,H1,I2,ru,q⟩
theorem eV(ha:PE X o ta)(hv:PE X value tv)(hs:swapsWith value (some (.Attribute o f pos')) pos.line X.env=pure false):PS X (.Assign [.Attribute o f pos'] value pos) (F7 X.K ta tv f):=by
 intro pins s σ H D I h;refine plainObj_wpAny_Assign_Attribute (hv.th I h λu s1 y H1 I1 ry q=>ha.th I1 q λov s2 x H2 I2 rx zz=> ?_) hs;obtain⟨a,C,dx,fs,ex,ea,c,n,l,q2⟩:=zz;subst ex;obtain rfl:ov=Value.ref a:=rx;exact yr I2 ea c n l ry λs3 I3=>⟨σ,_,I3,q2⟩
end
section
variable{X:Cx}{pins:List (Addr × Obj)}{σ:St}{H:Hp}{s:Shared}{A:Around}{E:Value->Shared->Prop}{Q:Value->Shared->Prop}{c:Value}{b:Bool}
inductive mG(K:PySem.W.Frag)(H:Hp):V->Value->Prop where
 | non:mG K H .non (.type "NoneType")
 | bl (x:Bool):mG K H (.bl x) (.type "bool")
 | int (i:Int):mG K H (.int i) (.type "int")
 | str (x:Str):mG K H (.str x) (.type "str")
 | flt (x:UInt64):mG K H (.flt x) (.type "float")
 | lst {a:Addr} {xs:List V} (e:H a=some (.lst xs)):mG K H (.ref a) (.type "list")
 | frz {a:Addr} {o:Obj} {xs:List V} (e:H a=some (.frz o (.lst xs))):mG K H (.ref a) (.type "list")
 | tup {a:Addr} {xs:List V} (e:H a=some (.tup xs)):mG K H (.ref a) (.type "tuple")
 | dK {a:Addr} {kvs:List (Key × V)} (e:H a=some (.dK kvs)):mG K H (.ref a) (.type "dict")
 | dT {a:Addr} {kvs:List (List Key × V)} (e:H a=some (.dT kvs)):mG K H (.ref a) (.type "dict")
 | ins {a C dx:Addr} {fs:List (Str × V)} (e:H a=some (.ins C dx fs)) (cl:Cls K C) (ha:PySem.W.findIn K (.ref C) "__class__"=some (some (.builtin "object.__class__")))
   (hn:PySem.W.specialIn K (.builtin "object.__class__") "__get__"=some (some (.builtin "getset_descriptor.__get__"))) (htk:PySem.W.takesIn K (.builtin "object.__class__")=some true)
   (hm:PySem.W.mroIn K C (.type "object")=some true):mG K H (.ref a) (.ref C)
theorem zE{x:V}{u t:Value}(I:Inv X pins σ H s)(rx:RelV x u)(ty:mG X.K H x t)(e:PySem.W.kitOne X.K t c=some b)(h:∀tk,Q (.bool b) { s with toks:=tk}):
  wpAny (model X.prog X.w) A (call (.builtin "isinstance") [u,c]) Q E s:=by
 cases ty with
 | non=>cases (show u=Value.none from rx);exact PySem.W.kia_one PySem.W.kitx_none I.kIn True.intro e (λz=>nomatch z) h
 | bl y=>cases (show u=Value.bool y from rx);exact PySem.W.kia_one PySem.W.kitx_bool I.kIn True.intro e (λz=>nomatch z) h
 | int i=>obtain⟨t,q⟩:=(show ∃t,u=Value.int i t from rx);cases q;exact PySem.W.kia_one PySem.W.kitx_int I.kIn True.intro e (λz=>nomatch z) h
 | str y=>obtain⟨t,q⟩:=(show ∃t,u=Value.str y t from rx);cases q;exact PySem.W.kia_one PySem.W.kitx_str I.kIn True.intro e (λz=>nomatch z) h
 | flt y=>obtain⟨t,q⟩:=(show ∃t,u=Value.float y t from rx);cases q;exact PySem.W.kia_one PySem.W.kitx_float I.kIn True.intro e (λz=>nomatch z) h
 | @lst a xs ea=>
  cases (show u=Value.ref a from rx);obtain⟨_,_,n,_,h1⟩:=(show bM X.prog X.w H s.heap a (.lst xs) from I.hok a _ ea);exact PySem.W.kia_one PySem.W.kitx_list I.kIn ⟨_,h1,rfl⟩ e (λz=>nomatch z) h
 | @frz a ob xs ea=>
  cases (show u=Value.ref a from rx);obtain⟨_,_,_,n,_,h1⟩:=(show bM X.prog X.w H s.heap a (.frz ob (.lst xs)) from I.hok a _ ea);exact PySem.W.kia_one PySem.W.kitx_list I.kIn ⟨_,h1,rfl⟩ e (λz=>nomatch z) h
 | @tup a xs ea=>
  cases (show u=Value.ref a from rx);obtain⟨_,_,_,p⟩:=(show bM X.prog X.w H s.heap a (.tup xs) from I.hok a _ ea);obtain⟨o,h1,h2,_⟩:=p;exact PySem.W.kia_one PySem.W.kitx_tuple I.kIn ⟨o,h1,h2⟩ e (λz=>nomatch z) h
 | @dK a kvs ea=>
  cases (show u=Value.ref a from rx);obtain⟨_,_,vs,_,p⟩:=(show bM X.prog X.w H s.heap a (.dK kvs) from I.hok a _ ea);obtain⟨o,es,ep,h1,h2,_⟩:=p;exact PySem.W.kia_one PySem.W.kitx_dict I.kIn ⟨o,h1,h2.1⟩ e (λz=>nomatch z) h
 | @dT a kvs ea=>
  cases (show u=Value.ref a from rx);obtain⟨_,_,xs,_,o,es,ep,h1,h2,_⟩:=(show bM X.prog X.w H s.heap a (.dT kvs) from I.hok a _ ea);exact PySem.W.kia_one PySem.W.kitx_dict I.kIn ⟨o,h1,h2.1⟩ e (λz=>nomatch z) h
 | @ins a C dx fs ea cl ha hn htk hm=>
  cases (show u=Value.ref a from rx);obtain⟨mA,O,_⟩:=oS I.hok ea;obtain⟨od,J,_⟩:=O.look;exact PySem.W.kia_one (PySem.W.kitx_own (cl.get _) cl.hd ha hn htk hm) I.kIn J e (λz=>nomatch z) h
end
structure bx(cm:Bool)(k:Nat)(A:Around):Prop where
 hd:cm=false->A.handled=none
 dp:A.depth + 3 * k + 5 < recursionLimit
 un:A.units + 16 * k + 200 < cLine
theorem bx.mono{cm':Bool}{j k:Nat}{A:Around}(r:bx cm k A)(h:j<=k)(hm:cm'=false->cm=false:=by first | exact id | (intro z;cases z)):bx cm' j A:=⟨λz=>r.hd (hm z),by have:=r.dp;lia,by have:=r.un;lia⟩
theorem bx.deeper{k:Nat}{A:Around}(r:bx cm (k + 1) A)(env:Env):bx cm k (A.deeper env):=
 ⟨r.hd,by have:=r.dp;show A.depth + 1 + 3 * k + 5 < _;lia,by have:=r.un;show A.units + 3 + 16 * k + 200 < _;lia⟩
theorem xg{A:Around}{C:Addr}{us:List Value}{kw:List (Str × Value)}:(A.under (.builtin "type.__call__" ⟨.ref C::us,kw⟩)).depth=A.depth + 1:=by
 first | rfl | simp [Around.under,Code.weight,Code.isCreation,Code.isGuard,Code.isCaller,Code.frames,Code.isFrame,guardIds]
theorem xI{A:Around}{C:Addr}{us:List Value}{kw:List (Str × Value)}:(A.under (.builtin "type.__call__" ⟨.ref C::us,kw⟩)).units=A.units + 1:=by
 first | rfl | simp [Around.under,Code.cUnits,Code.frames,Code.isFrame]
theorem bx.make{k:Nat}{A:Around}(r:bx cm (k + 1) A)(C:Addr)(us:List Value)(kw:List (Str × Value)):bx cm k (A.under (.builtin "type.__call__" ⟨.ref C::us,kw⟩)):=
 ⟨r.hd,by have:=r.dp;rw[xg];lia,by have:=r.un;rw[xI];lia⟩
theorem bx.depth{k:Nat}{A:Around}(r:bx cm k A):A.depth < recursionLimit:=by have:=r.dp;lia
theorem bx.units{k:Nat}{A:Around}(r:bx cm k A):A.units + 64 < cLine:=by have:=r.un;lia
def BU:TA:=λ_ H Q=>Q [] H
def Ex(ta:TE)(tr:TA):TA:=λσ H Q=>ta σ H λx H1=>tr σ H1 λxs H2=>Q (x::xs) H2
section
variable{X:Cx}{e:Expr}{es:List Expr}{te:TE}{t:TA}{pos:Pos}
theorem g9:PA X [] BU:=λ_ _ _ _ H Q I h=>Calls.spliced_nil ⟨[],H,I,.nil,h⟩
theorem zi(ha:PE X e te)(hr:PA X es t)(hs:starEach (e::es) X.env=(false,eval e X.env)::starEach es X.env:=by rfl):PA X (e::es) (Ex te t):=by
 intro pos pins s σ H Q I h;rw[hs];show wpAny _ _ (spliced ((false,eval e X.env)::backTo pos (starEach es X.env))) _ _ s;refine Calls.spliced_cons (ha.th I h λu s1 x H1 I1 r1 q1=> ?_);exact thA (hr pos pins s1 σ H1 _ I1 q1) λus s2 xs H2 I2 r2 q2=>⟨x::xs,H2,I2,.cons r1 r2,q2⟩
def Hh(t:TA):TE:=λσ H Q=>t σ H λxs H1=>xs.length<=sizeLine/\∀p,H1 p=none->Q (.ref p) (upd H1 p (.tup xs))
def Ha(t:TA):TE:=λσ H Q=>t σ H λxs H1=>xs.length<=sizeLine/\∀p,H1 p=none->Q (.ref p) (upd H1 p (.lst xs))
theorem FI{x1}(h:PA X es t):PE X (.Tuple es x1 pos) (Hh t):=by
 intro pins s σ H Q I hq;refine wpAny_Tuple_spliced (h.th I hq λus s1 xs H1 I1 r ⟨z,q⟩=>⟨by rw[<- r.length];exact z,?_⟩);have hf:H1 s1.heap.objs.size=none:=I1.hok.fresh (Nat.le_refl _);refine⟨.ref s1.heap.objs.size,upd H1 s1.heap.objs.size (.tup xs),I1.laid (t':=s1.toks) (λb u e=>Heap.get?_push_of_some _ e) (Nat.le_refl _) ?_,rfl,q _ hf⟩;exact⟨z,us,r,⟨_,Heap.get?_push_size _ rfl,rfl,_,rfl⟩⟩
theorem aR(h:PA X es t):PE X (.List es pos) (Ha t):=by
 intro pins s σ H Q I hq;refine wpAny_List_spliced (h.th I hq λus s1 xs H1 I1 r ⟨z,q⟩=>⟨by rw[<- r.length];exact z,?_⟩);have hf:H1 s1.heap.objs.size=none:=I1.hok.fresh (Nat.le_refl _);refine⟨.ref s1.heap.objs.size,upd H1 s1.heap.objs.size (.lst xs),I1.laid (t':=s1.toks) (λb u e=>Heap.get?_push_of_some _ e) (Nat.le_refl _) ?_,rfl,q _ hf⟩;exact⟨z,us,0,r,Heap.get?_push_size _ rfl⟩
end
abbrev Sp:=List V->Hp->VK->XK->Prop
abbrev CXT:=List Env->Hp->Shared->XK->Value->Shared->Prop
structure xa(P:Program)(w:World)(K:PySem.W.Frag)(mg:Str->Option Value)(base:Heap)(A:Around)(outer:List Env)(s:Shared)(H:Hp):Prop where
 frames:A.frames=some outer
 mod:Mod K mg base
 bs:∀b o,base.get? b=some o->s.heap.get? b=some o/\H b=none
 bsz:base.objs.size<=s.heap.objs.size
 iA:s.heap.FunFrames base outer
 frf:∀b∈frs outer,H b=none
 hok:HOk P w H s.heap
 bare:AllBare s.gens
 cl:Cl0 A s.heap H (frs outer)
def CE(outer:List Env)(P:Program)(w:World)(H:Hp)(s:Shared)(Q:VK)(u:Value)(s':Shared):Prop:=
 ∃v H',s'.os=s.os/\AllBare s'.gens/\Un (frs outer) [] H H' s.heap s'.heap/\HOk P w H' s'.heap/\RelV v u/\Q v H'
def CR(CX:CXT)(outer:List Env)(P:Program)(w:World)(H:Hp)(s:Shared)(Q:VK)(E:XK)(r:Result)(s':Shared):Prop:=
 match r with
 | .ok (.ret u)=>CE outer P w H s Q u s'
 | .ok _=>False
 | .error e=>CX outer H s E e s'
structure aB(P:Program)(w:World)(K:PySem.W.Frag)(mg:Str->Option Value)(base:Heap)(CX:CXT)(cm:Bool)(k:Nat)(f:Addr)(fd:FuncData)(ps:List Str)(sp:Sp):Prop where
 len:∀vs H Q E,sp vs H Q E->vs.length=ps.length
 run:∀(A:Around) (outer:List Env) (s:Shared) (H:Hp) (args:Args) (us:List Value) (vs:List V) (Q:VK) (E:XK),bx cm k A->xa P w K mg base A outer s H->BindsTo s fd args (ps.zip us)->Vals vs us->sp vs H Q E→
  codeAny (model P w) A (.call (.ref f) args) (CR CX outer P w H s Q E) s
theorem aB.mono{P:Program}{w:World}{K:PySem.W.Frag}{mg:Str->Option Value}{base:Heap}{CX:CXT}{j k:Nat}{f:Addr}{fd:FuncData}{ps:List Str}{sp:Sp}(F:aB P w K mg base CX cm j f fd ps sp)(h:j<=k):
  aB P w K mg base CX cm k f fd ps sp:=⟨F.len,λA outer s H args us vs Q E hr=>F.run A outer s H args us vs Q E (hr.mono h)⟩
theorem aB.imp{P:Program}{w:World}{K:PySem.W.Frag}{mg:Str->Option Value}{base:Heap}{CX:CXT}{k:Nat}{f:Addr}{fd:FuncData}{ps:List Str}{sp sp':Sp}(F:aB P w K mg base CX cm k f fd ps sp)
  (h:∀vs H Q E,sp' vs H Q E->sp vs H Q E):aB P w K mg base CX cm k f fd ps sp':=
 ⟨λvs H Q E q=>F.len vs H Q E (h _ _ _ _ q),λA outer s H args us vs Q E hr he hb hv hs=>F.run A outer s H args us vs Q E hr he hb hv (h _ _ _ _ hs)⟩
theorem xa.make{P:Program}{w:World}{K:PySem.W.Frag}{mg:Str->Option Value}{base:Heap}{A:Around}{outer:List Env}{s:Shared}{H:Hp}(e:xa P w K mg base A outer s H)(C:Addr)(us:List Value)(kw:List (Str × Value)):
  xa P w K mg base (A.under (.builtin "type.__call__" ⟨.ref C::us,kw⟩)) outer s H:=⟨by first | exact e.frames | (simpa [Around.under,Code.envs,Code.isFrame,pushEnvs] using e.frames),e.mod,e.bs,e.bsz,e.iA,e.frf,e.hok,e.bare,e.cl⟩
section
variable{X:Cx}{pins:List (Addr × Obj)}{σ:St}{H:Hp}{s s':Shared}
theorem Inv.GD(I:Inv X pins σ H s):xa X.prog X.w X.K X.mg X.base X.A X.stack s H:=
 ⟨I.ok.frames,I.ok.mod,I.bs,Nat.le_trans I.ok.bsz I.sz,I.stack,I.o8,I.hok,I.bare,I.cl0⟩
theorem Inv.after{Q:VK}{u:Value}(I:Inv X pins σ H s)(h:CE X.stack X.prog X.w H s Q u s'):EP X pins σ Q u s':=by
 obtain⟨v,H',os,bare,un,hok,r,q⟩:=h;obtain⟨hh,g,d,t,os'⟩:=s';obtain rfl:os'=s.os:=os;exact⟨v,H',I.call (h':=hh) (g':=g) (d':=d) (t':=t) (ch:=[]) un hok bare (λb z=>absurd z (by simp)),r,q⟩
end
def wX(sp:Sp)(dvs:List V)(E:St->XK)(t:TA):TE:=λσ H Q=>t σ H λvs H1=>sp (vs++dvs) H1 Q (E σ)
def zm(C:Addr)(sp:Sp)(dvs:List V)(E:St->XK)(t:TA):TE:=λσ H Q=>t σ H λvs H1=>∀x dx,H1 x=none->H1 dx=none->dx≠x→
 sp (.ref x::(vs++dvs)) (upd (upd H1 dx (.own x)) x (.ins C dx [])) (λv H2=>v=.non/\Q (.ref x) H2) (E σ)
def Binds(K:PySem.W.Frag)(fd:FuncData)(ps:List Str)(ds:List Value):Prop:=
 ∀(s:Shared) (us:List Value),K.In s.heap->(us++ds).length=ps.length->BindsTo s fd ⟨us,[]⟩ (ps.zip (us++ds))
theorem Binds.all{K:PySem.W.Frag}{fd:FuncData}{ps:List Str}(h:∀us:List Value,us.length=ps.length->bindArgs fd ⟨us,[]⟩=pure (ps.zip us)):Binds K fd ps []:=λs us _ hl=>by
 rw[List.append_nil] at hl ⊢;exact .of_eq (h us hl)
def Passes(CX:CXT)(X:Cx)(E:St->XK):Prop:=∀(pins:List (Addr × Obj)) (σ:St) (H:Hp) (s:Shared) (e:Value) (s':Shared),Inv X pins σ H s->CX X.stack H s (E σ) e s'->X.xe e s'
section
variable{X:Cx}{CX:CXT}{k:Nat}{f C:Addr}{fd:FuncData}{ps:List Str}{sp:Sp}{dvs:List V}{ds:List Value}{E:St->XK}{x m:Str}{p pos apos:Pos}{e o:Expr}{es:List Expr}{ta:TE}{t:TA}
theorem vz{pins:List (Addr × Obj)}{σ:St}{H:Hp}{s:Shared}{Q:VK}{us:List Value}{vs:List V}(F:aB X.prog X.w X.K X.mg X.base CX cm k f fd ps sp)(hr:bx cm k X.A)(hb:Binds X.K fd ps ds)(hd:Vals dvs ds)(hx:Passes CX X E)
  (I:Inv X pins σ H s) (r:Vals vs us) (h:sp (vs++dvs) H Q (E σ)):wpAny (model X.prog X.w) X.A (call (.ref f) us) (EP X pins σ Q) X.xe s:=by
 have r2:Vals (vs++dvs) (us++ds):=r.append hd;have hl:(us++ds).length=ps.length:=by rw[<- r2.length];exact F.len _ _ _ _ h
 refine wpAny_call (codeAny_mono (F.run X.A X.stack s H ⟨us,[]⟩ (us++ds) (vs++dvs) Q (E σ) hr I.GD (hb s us I.kIn hl) r2 h) λr s' hq=> ?_);cases r with
 | error e=>exact hx pins σ H s e s' I hq
 | ok fl=>
  cases fl with
  | ret u=>exact I.after hq
  | next=>exact False.elim hq
  | brk=>exact False.elim hq
  | cont=>exact False.elim hq
theorem DM(F:aB X.prog X.w X.K X.mg X.base CX cm k f fd ps sp)(hr:bx cm k X.A)(hg:Gl X x)(hm:X.mg x=some (.ref f))(hk:PySem.W.keepIn X.K (.ref f)=true)(hb:Binds X.K fd ps ds)(hd:Vals dvs ds)(hx:Passes CX X E)
  (ha:PA X (e::es) t) (hdb:(x == ("__debug__":Str))=false:=by decide) (he:starEach (e::es) X.env=(false,eval e X.env)::starEach es X.env:=by rfl) (hpl:(backTo pos (starEach es X.env)).any (·.1)=false:=by rfl):
  PE X (.Call (.Name x p) (e::es) [] pos) (wX sp dvs E t):=by
 intro pins s σ H Q I h;refine wpAny_Call_Name_kw (jx I hg hm ?_ hdb);refine PySem.W.callWith_K (h₀:=X.base) I.ok.mod.kin hk (ha.th I h λus s1 vs H1 I1 r q=>⟨I1.kIn,?_⟩) he hpl;exact vz F hr hb hd hx I1 r q
structure Mk(K:PySem.W.Frag)(C f:Addr):Prop where
 makes:PySem.W.makesIn K C=true
 init:PySem.W.findIn K (.ref C) "__init__"=some (some (.ref f))
 fn:PySem.W.isFn K (.ref f)=true
 kp:PySem.W.keepIn K (.ref C)=true
theorem wg{pins:List (Addr × Obj)}{σ:St}{H:Hp}{s:Shared}{Q:VK}{us:List Value}{vs:List V}(M:Mk X.K C f)(F:aB X.prog X.w X.K X.mg X.base CX cm k f fd ps sp)(hr:bx cm (k + 1) X.A)(hb:Binds X.K fd ps ds)(hd:Vals dvs ds)
  (hx:Passes CX X E) (I:Inv X pins σ H s) (r:Vals vs us)
  (h:∀x dx,H x=none->H dx=none->dx≠x->sp (.ref x::(vs++dvs)) (upd (upd H dx (.own x)) x (.ins C dx [])) (λv H2=>v=.non/\Q (.ref x) H2) (E σ)):
  wpAny (model X.prog X.w) X.A (call (.ref C) us) (EP X pins σ Q) X.xe s:=by
 have hq:=h (s.heap.objs.size + 1) s.heap.objs.size (I.hok.fresh (Nat.le_succ _)) (I.hok.fresh (Nat.le_refl _)) (Nat.ne_of_lt (Nat.lt_succ_self _));have I2:=Inv.made (C:=C) I;have r2:Vals (V.ref (s.heap.objs.size + 1)::(vs++dvs)) (Value.ref (s.heap.objs.size + 1)::(us++ds)):= .cons rfl (r.append hd)
 have hl:(Value.ref (s.heap.objs.size + 1)::us++ds).length=ps.length:=by
  have e:=r2.length;rw[F.len _ _ _ _ hq] at e;exact e.symm
 refine wpAny_call (CD (f:=f) I.kIn M.makes M.init (beq_iff_eq.mp M.fn) (codeAny_mono (F.run _ X.stack _ _ ⟨Value.ref (s.heap.objs.size + 1)::us,[]⟩ (Value.ref (s.heap.objs.size + 1)::(us++ds)) _ _ (E σ) (hr.make C us [])
  (I2.GD.make C us []) (hb _ (Value.ref (s.heap.objs.size + 1)::us) I2.kIn hl) r2 hq) λr s' hq'=> ?_))
 cases r with
 | error e=>exact hx pins σ _ _ e s' I2 hq'
 | ok fl=>
  cases fl with
  | ret u=>
   obtain⟨v,H',I3,rv,ev,q3⟩:=I2.after hq';subst ev;exact⟨rv,⟨V.ref (s.heap.objs.size + 1),H',I3,rfl,q3⟩⟩
  | next=>exact False.elim hq'
  | brk=>exact False.elim hq'
  | cont=>exact False.elim hq'
theorem DG(M:Mk X.K C f)(F:aB X.prog X.w X.K X.mg X.base CX cm k f fd ps sp)(hr:bx cm (k + 1) X.A)(hg:Gl X x)(hm:X.mg x=some (.ref C))(hb:Binds X.K fd ps ds)(hd:Vals dvs ds)(hx:Passes CX X E)
  (ha:PA X (e::es) t) (hdb:(x == ("__debug__":Str))=false:=by decide) (he:starEach (e::es) X.env=(false,eval e X.env)::starEach es X.env:=by rfl) (hpl:(backTo pos (starEach es X.env)).any (·.1)=false:=by rfl):
  PE X (.Call (.Name x p) (e::es) [] pos) (zm C sp dvs E t):=by
 intro pins s σ H Q I h;refine wpAny_Call_Name_kw (jx I hg hm ?_ hdb);refine PySem.W.callWith_K (h₀:=X.base) I.ok.mod.kin M.kp (ha.th I h λus s1 vs H1 I1 r q=>⟨I1.kIn,?_⟩) he hpl;exact wg M F hr hb hd hx I1 r q
theorem Br(M:Mk X.K C f)(F:aB X.prog X.w X.K X.mg X.base CX cm k f fd ps sp)(hr:bx cm (k + 1) X.A)(hg:Gl X x)(hm:X.mg x=some (.ref C))(hb:Binds X.K fd ps ds)(hd:Vals dvs ds)(hx:Passes CX X E)
  (hdb:(x == ("__debug__":Str))=false:=by decide):PE X (.Call (.Name x p) [] [] pos) (zm C sp dvs E BU):=by
 intro pins s σ H Q I h;refine wpAny_Call_Name_kw (jx I hg hm ?_ hdb);exact PySem.W.callWith_K0 I.kIn M.kp (wg (us:=[]) M F hr hb hd hx I .nil h)
end
structure aw(N P:List Str)(sc:Scope):Prop where
 kind:sc.kind=.function
 co:sc.isCoroutine=false
 gen:sc.isGenerator=false
 nd:N.Nodup
 pre:N.take P.length=P
 par:∀x∈P,sc.names.lookup x=some .local\/sc.names.lookup x=some .cell
 Fy:∀y∈sc.names,y.2≠ .free
theorem sY{kindOf:Str->Option NameKind}{x:Str}:∀{binds:List (Str × Value)} {m:Str->Option Value},(∀v,(x,v)∉binds)->bindL kindOf binds m x=m x
 | [],_,_=>rfl
 | (n,v)::r,m,h=>by
  unfold bindL;rw[sY λw hw=>h w (List.mem_cons_of_mem _ hw)]
  split
  .have:x≠n:=by rintro rfl;exact h v List.mem_cons_self
   simp [this]
  .rfl
theorem sP{kindOf:Str->Option NameKind}{x:Str}:∀{binds:List (Str × Value)} {m:Str->Option Value},(∀v,(x,v)∉binds)->bindC kindOf binds m x=m x
 | [],_,_=>rfl
 | (n,v)::r,m,h=>by
  unfold bindC;rw[sP λw hw=>h w (List.mem_cons_of_mem _ hw)]
  split
  .rfl
  .have:x≠n:=by rintro rfl;exact h v List.mem_cons_self
   simp [this]
theorem sO{kindOf:Str->Option NameKind}{x:Str}{v:Value}:∀{P:List Str} {vs:List Value} {i:Nat} {m:Str->Option Value},P.Nodup->P[i]? =some x->vs[i]? =some v->kindOf x=some .local→
  bindL kindOf (P.zip vs) m x=some v
 | [],_,_,_,_,h,_,_=>by simp at h
 | _::_,[],_,_,_,_,h,_=>by simp at h
 | p::P,w::vs,0,m,nd,h1,h2,hk=>by
  simp at h1 h2;subst h1;subst h2;show bindL kindOf ((p,w)::P.zip vs) m p=_;unfold bindL;rw[sY λv hv=>(List.nodup_cons.mp nd).1 (List.of_mem_zip hv).1,if_pos hk];simp
 | p::P,w::vs,i + 1,m,nd,h1,h2,hk=>by
  show bindL kindOf ((p,w)::P.zip vs) m x=_;unfold bindL;exact sO (i:=i) (List.nodup_cons.mp nd).2 (by simpa using h1) (by simpa using h2) hk
theorem sU{kindOf:Str->Option NameKind}{x:Str}{v:Value}:∀{P:List Str} {vs:List Value} {i:Nat} {m:Str->Option Value},P.Nodup->P[i]? =some x->vs[i]? =some v->kindOf x≠some .local→
  bindC kindOf (P.zip vs) m x=some v
 | [],_,_,_,_,h,_,_=>by simp at h
 | _::_,[],_,_,_,_,h,_=>by simp at h
 | p::P,w::vs,0,m,nd,h1,h2,hk=>by
  simp at h1 h2;subst h1;subst h2;show bindC kindOf ((p,w)::P.zip vs) m p=_;unfold bindC;rw[sP λv hv=>(List.nodup_cons.mp nd).1 (List.of_mem_zip hv).1,if_neg hk];simp
 | p::P,w::vs,i + 1,m,nd,h1,h2,hk=>by
  show bindC kindOf ((p,w)::P.zip vs) m x=_;unfold bindC;exact sU (i:=i) (List.nodup_cons.mp nd).2 (by simpa using h1) (by simpa using h2) hk
def start(N:List Str)(vs:List V):St:=vs.map some++List.replicate (N.length - vs.length) none
def ip(cm:Bool)(CX:CXT)(P:Program)(w:World)(K:PySem.W.Frag)(mg:Str->Option Value)(base:Heap)(N:List Str)(qual:Str)(scope:Scope)(f:Addr)(cd:Value)(A:Around)(outer:List Env)(s:Shared)(H:Hp)(E:XK):Cx where
 prog:=P
 w:=w
 K:=K
 mg:=mg
 base:=base
 A:=A.deeper (envOfC qual scope s.heap.objs.size f cd)
 N:=N
 s₀:=s
 H₀:=H
 env:=envOfC qual scope s.heap.objs.size f cd
 outer:=outer
 stack:=envOfC qual scope s.heap.objs.size f cd::outer
 ex:=[]
 calm:=cm
 fn:=λ_=>true
 pn:=[]
 xe:=λe s'=>wpAny (model P w) (A.deeper (envOfC qual scope s.heap.objs.size f cd)) (leaving (envOfC qual scope s.heap.objs.size f cd) e) (λ_ s''=>CX outer H s E e s'') (λe' s''=>CX outer H s E e' s'') s'
theorem vN{sc:Scope}{n:Nat}{x:Str}(h:sc.names.lookup x=some .cell):∃c,(cellsFrom n sc.names []).lookup x=some c:=by
 have q:=PySem.W.cellsFrom_some sc.names n [] (.inl h);exact Option.isSome_iff_exists.mp q
theorem AB{CX:CXT}{P:Program}{w:World}{K:PySem.W.Frag}{mg:Str->Option Value}{base:Heap}{N ps:List Str}{qual:Str}{scope:Scope}{f:Addr}{cd:Value}{A:Around}{outer:List Env}{s s1:Shared}{H:Hp}{E:XK}{us:List Value}{vs:List V}
  (S:aw N ps scope) (hd:cm=false->A.handled=none) (e0:xa P w K mg base A outer s H) (hl:vs.length=ps.length) (r:Vals vs us)
  (x:InCallC s s.heap.objs.size (bindL (envOfC qual scope s.heap.objs.size f cd).kindOf (ps.zip us) λ_=>none) (cellsFrom (s.heap.objs.size + 1) scope.names []) (bindC (envOfC qual scope s.heap.objs.size f cd).kindOf (ps.zip us) λ_=>none) s1):
  Inv (ip cm CX P w K mg base N qual scope f cd A outer s H E) [] (start N vs) H s1:=by
 have hpl:ps.length<=N.length:=by have:=congrArg List.length S.pre;rw[List.length_take] at this;lia
 obtain⟨h1,tk,rfl,hk⟩:=x.done;have noA:∀b:Addr,b∉(ip cm CX P w K mg base N qual scope f cd A outer s H E).ex:=λb z=>absurd (show b∈([]:List Addr) from z) (by simp)
 refine⟨⟨e0.mod,S.kind,rfl,rfl,Nat.le_refl _,λy z c h1 h2=> ?_,λy hy=> ?_,λy c _ h=> ?_,hd,e0.cl.elim .inl (λ⟨e,o,vs,z,h1,h2,h3,h4,h5⟩=> .inr ⟨e,o,vs,z,h1,h2,.inr ⟨h3,h4,h5,noA e⟩⟩),Around.frames_deeper e0.frames,.inr ⟨rfl,rfl⟩,λb z=>absurd z (noA b),e0.bs,e0.bsz,λb _ _=>noA b,λb z=>absurd z (noA b),e0.iA,e0.frf⟩,
  rfl,e0.bare,Un.kept hk,⟨_,x.toInCall.ns,λi y v h1 h2 h3=> ?_⟩,λy c h=>⟨_,x.cell y c h⟩,e0.hok.fresh (Nat.le_refl _),λy c h=> ?_,λp hp=>absurd (show p∈([]:List (Addr × Obj)) from hp) (by simp),e0.hok.kept hk,?_⟩
 .exact name_of_addr x.apart (PySem.mem_of_lookup h1) (PySem.mem_of_lookup h2)
 .have hy:scope.names.lookup y=some .cell\/scope.names.lookup y=some .free:=hy;rcases hy with hy | hy
  .exact vN hy
  .exact absurd rfl (S.Fy _ (PySem.mem_of_lookup hy))
 .exact Nat.le_of_lt (x.above y c (PySem.mem_of_lookup h))
 .have hi:i < vs.length:=by
   unfold start at h2;by_cases hi:i < vs.length
   .exact hi
   .rw [List.getElem?_append_right (by simpa using hi)] at h2;rw[List.getElem?_replicate] at h2
    split at h2 <;> cases h2
  have ha:vs[i]? =some v:=by
   unfold start at h2;rw[List.getElem?_append_left (by simpa using hi),List.getElem?_map] at h2;cases e:vs[i]? with
   | none=>rw[e] at h2;cases h2
   | some a=>rw[e] at h2;cases h2;rfl
  obtain⟨u,hu,rv⟩:=r.get ha
  have hp:ps[i]? =some y:=by
   rw[<- S.pre,List.getElem?_take_of_lt (by lia)];exact h1
  have ndP:ps.Nodup:=by rw[<- S.pre];exact S.nd.sublist (List.take_sublist _ _)
  refine⟨u,rv,?_⟩;rcases S.par y (List.mem_of_getElem? hp) with k | k
  .exact .inl ⟨k,sO ndP hp hu k⟩
  .obtain ⟨c,e⟩:=vN (n:=s.heap.objs.size + 1) k;refine .inr ⟨.inl k,c,e,?_⟩;have q:=x.cell y c e;rw[sU ndP hp hu (by show scope.names.lookup y≠_;rw[k];decide)] at q;exact q
 .exact e0.hok.fresh (Nat.le_of_lt (x.above y c (PySem.mem_of_lookup h)))
 .unfold start;show _=N.length;rw[List.length_append,List.length_map,List.length_replicate]
  lia
theorem GK{CX:CXT}{P:Program}{w:World}{K:PySem.W.Frag}{mg:Str->Option Value}{base:Heap}{k:Nat}{f:Addr}{name qual:Str}{params:Arguments}{body:List Stmt}{scope:Scope}{dV kV doc pm cdv ct oc:Value}{an od:Option Addr}
  {osl:Array (Option Value)} {N ps:List Str} {sp:Sp} (lk:K.lookup f=some ⟨oc,od,.func (PySem.W.fnOf name qual params body scope dV kV doc pm an cdv ct),osl⟩) (hcd:PySem.W.codeIn K cdv qual=true) (S:aw N ps scope)
  (len:∀vs H Q E,sp vs H Q E->vs.length=ps.length)
  (hbody:∀(A:Around) (outer:List Env) (s:Shared) (H:Hp) (vs:List V) (Q:VK) (E:XK),bx cm k (A.deeper (envOfC qual scope s.heap.objs.size f cdv))->sp vs H Q E→
   ∃t,PSs (ip cm CX P w K mg base N qual scope f cdv A outer s H E) body t/\t { nx:=λ_ H'=>Q .non H',rt:=Q} (start N vs) H):
  aB P w K mg base CX cm (k + 1) f (PySem.W.fnOf name qual params body scope dV kV doc pm an cdv ct) ps sp:=by
 refine⟨len,λA outer s H args us vs Q E hr e0 hb r hsp=> ?_⟩;have hl:=len _ _ _ _ hsp;have KX:K.In s.heap:=e0.mod.kin.keeps λb o e=>(e0.bs b o e).1;have lim:s.heap.NoLimit:=e0.mod.nolimit.keeps λb o e=>(e0.bs b o e).1
 have hkind:∀y∈ps.zip us,scope.names.lookup y.1=some .local\/(scope.names.lookup y.1=some .cell/\((cellsFrom (s.heap.objs.size + 1) scope.names []).lookup y.1).isSome=true):=λ⟨n,v⟩ hy=>by
  rcases S.par n (List.of_mem_zip hy).1 with q | q
  .exact .inl q
  .exact .inr ⟨q,PySem.W.cellsFrom_some _ _ _ (.inl q)⟩
 refine codeAny_call_function hr.depth (KX _ _ lk) rfl S.co S.gen rfl (PySem.W.codeRec_of KX hcd) (hb _ _ _ _ ?_);refine wpAny_newFunctionEnv_cells S.kind hkind λenv he s1 x=> ?_;subst he;refine⟨lim.keeps x.toInCall.keep,codeAny_func ?_⟩;obtain⟨t,ht,hq⟩:=hbody A outer s H vs Q E (hr.deeper _) hsp;have I:Inv (ip cm CX P w K mg base N qual scope f cdv A outer s H E) [] (start N vs) H s1:=AB S hr.hd e0 hl r x;refine wpAny_mono (ht [] s1 (start N vs) H _ I hq) (λfl s' hs=> ?_) λe s' hs=>hs
 have fin:∀{σ':St} {H':Hp} {v:V} {u:Value},Inv (ip cm CX P w K mg base N qual scope f cdv A outer s H E) [] σ' H' s'->RelV v u->Q v H'->CE outer P w H s Q u s':=
  λ{σ' H' v u} J rv q=>⟨v,H',J.os,J.bare,J.base,J.hok,rv,q⟩
 cases fl with
 | ret u=>
  obtain⟨v,σ',H',J,rv,q⟩:=hs;exact fin J rv q
 | next=>
  obtain⟨σ',H',J,q⟩:=hs;exact fin (v:=V.non) (u:=Value.none) J rfl q
 | brk=>
  obtain⟨_,_,_,q⟩:=hs;exact False.elim q
 | cont=>
  obtain⟨_,_,_,q⟩:=hs;exact False.elim q
section
variable{X:Cx}{x:Str}{p pos:Pos}{e:Expr}{es:List Expr}{t:TA}{id T:String}{r:List V->Hp->VK->Prop}
def tCB(r:List V->Hp->VK->Prop)(t:TA):TE:=λσ H Q=>t σ H λvs H1=>r vs H1 Q
theorem aC(hc:lV X (.builtin id) r)(hg:Gl X x)(hm:X.mg x=none)(hv:bootBuiltins x=some (.builtin id))(ha:PA X (e::es) t)(hn:x≠"__name__":=by decide)(hdb:(x == ("__debug__":Str))=false:=by decide)
  (he:starEach (e::es) X.env=(false,eval e X.env)::starEach es X.env:=by rfl) (hpl:(backTo pos (starEach es X.env)).any (·.1)=false:=by rfl):PE X (.Call (.Name x p) (e::es) [] pos) (tCB r t):=by
 intro pins s σ H Q I h;refine wpAny_Call_Name_kw (iw I hg hm hv ?_ hn hdb);exact PyProof.Rows.callWith_builtin1 (ha.th I h λus s1 vs H1 I1 r1 q1=>hc pins s1 σ H1 vs us Q I1 r1 q1) he hpl
theorem aZ(hc:lV X (.type T) r)(hg:Gl X x)(hm:X.mg x=none)(hv:bootBuiltins x=some (.type T))(ha:PA X (e::es) t)(hn:x≠"__name__":=by decide)(hdb:(x == ("__debug__":Str))=false:=by decide)
  (he:starEach (e::es) X.env=(false,eval e X.env)::starEach es X.env:=by rfl) (hpl:(backTo pos (starEach es X.env)).any (·.1)=false:=by rfl):PE X (.Call (.Name x p) (e::es) [] pos) (tCB r t):=by
 intro pins s σ H Q I h;refine wpAny_Call_Name_kw (iw I hg hm hv ?_ hn hdb);exact PyProof.Rows.callWith_type1 (ha.th I h λus s1 vs H1 I1 r1 q1=>hc pins s1 σ H1 vs us Q I1 r1 q1) he hpl
end
end L2
namespace HT
open PySem PyProof.Rows
section
open PySem.SeqAt
open PySem.AutoSeq1 (wpAny_loadPart')
open PySem.MeetsSeq PySem.MeetsSeq2 PySem.MeetsSeq3
end
section
variable{prog:Program}{w:World}{A:Around}{E:Value->Shared->Prop}{s:Shared}
def sIx(n d:Nat):Option Int->Nat
 | none=>d
 | some v=>if v < 0 then (v + (n:Int)).toNat else min v.toNat n
end
end HT
namespace L2
open PySem PySem.Spec PyProof.Rows
abbrev TO:=St->Hp->(Option Int->Hp->Prop)->Prop
def PO(X:Cx)(e:Option Expr)(t:TO):Prop:=
 ∀(pins:List (Addr × Obj)) (s:Shared) (σ:St) (H:Hp) (Q:Option Int->Hp->Prop),Inv X pins σ H s->t σ H Q→
  wpAny (model X.prog X.w) X.A (evalPart e X.env) (λu s'=>∃o H',Inv X pins σ H' s'/\IsPart u o/\Q o H') X.xe s
def DL:TO:=λ_ H Q=>Q none H
def GU(t:TE):TO:=λσ H Q=>t σ H λx H1=>∃i,x=.int i/\Q (some i) H1
section
variable{X:Cx}{e:Expr}{te:TE}{lo hi:Option Expr}{tl th:TO}{pos p2:Pos}
theorem ze:PO X none DL:=by
 intro pins s σ H Q I h;rw[evalPart_none];exact wpAny_pure ⟨none,H,I,.none,h⟩
theorem o6(h:PE X e te):PO X (some e) (GU te):=by
 intro pins s σ H Q I hw;rw[evalPart_some];refine h.th I hw λu s1 x H1 I1 r1 q1=> ?_;obtain⟨i,rfl,q⟩:=q1;obtain⟨t,rfl⟩:=r1;exact⟨some i,H1,I1,.int i t,q⟩
def SlR(X:Cx)(r:V->Option Int->Option Int->Hp->VK->Prop):Prop:=
 ∀(pins:List (Addr × Obj)) (s:Shared) (σ:St) (H:Hp) (x:V) (v vl vu:Value) (lo hi:Option Int) (sl:Addr) (Q:VK),Inv X pins σ H s->RelV x v->s.heap.IsSliceOf sl vl vu .none->IsPart vl lo->IsPart vu hi->r x lo hi H Q→
  ∃T id,typeLookup (.type T) "__getitem__"=pure (some (.builtin id))/\s.TypeIs v T/\wpAny (model X.prog X.w) X.A (getItem v (.ref sl)) (EP X pins σ Q) X.xe s
def tSl(r:V->Option Int->Option Int->Hp->VK->Prop)(te:TE)(tl th:TO):TE:=λσ H Q=>te σ H λx H1=>tl σ H1 λl H2=>th σ H2 λu H3=>r x l u H3 Q
theorem pI{r:V->Option Int->Option Int->Hp->VK->Prop}(hr:SlR X r)(he:PE X e te)(hl:PO X lo tl)(hu:PO X hi th):PE X (.Subscript e (.Slice lo hi none p2) pos) (tSl r te tl th):=by
 intro pins s σ H Q I h;refine Subscript_ (he.th I h λv s1 x H1 I1 r1 q1=> ?_);refine wpAny_Slice (thn (hl pins s1 σ H1 _ I1 q1) λvl s2 ⟨l,H2,I2,pl,q2⟩=>thn (hu pins s2 σ H2 _ I2 q2) λvu s3 zz=> ?_);obtain⟨u,H3,I3,pu,q3⟩:=zz;rw[evalPart_none];refine wpAny_pure ?_;have I4:Inv X pins σ H3 { s3 with heap:=s3.heap.push { cls:= .type "slice",data:= .fields #[vl,vu,.none]}}:=I3.kept (t':=s3.toks) λb ob q=>Heap.get?_push_of_some _ q;obtain⟨T,id,hT,ht,hg⟩:=hr pins { s3 with heap:=s3.heap.push { cls:= .type "slice",data:= .fields #[vl,vu,.none]}} σ H3 x v vl vu l u s3.heap.objs.size Q I4 r1 (Heap.IsSliceOf.new ..) pl pu q3;show wpAny (model X.prog X.w) X.A (subscriptTail e (.Slice lo hi none p2) v (.ref s3.heap.objs.size)) (EP X pins σ Q) X.xe { s3 with heap:=s3.heap.push { cls:= .type "slice",data:= .fields #[vl,vu,.none]}};exact tail_any (ops:=[.ref s3.heap.objs.size,v]) ht hT hg (by with_unfolding_all rfl)
def zx(xs:List V)(lo hi:Option Int):List V:=(xs.drop (HT.sIx xs.length 0 lo)).take (HT.sIx xs.length xs.length hi - HT.sIx xs.length 0 lo)
theorem v5(xs:List V)(lo hi:Option Int):(zx xs lo hi).length<=xs.length:=by
 unfold zx;rw[List.length_take,List.length_drop]
 lia
end
def ixN(n:Nat)(i:Int):Option Nat:=if 0<=i then (if i < n then some i.toNat else none) else if -(n:Int)<=i then some (i + n).toNat else none
def atI{α:Type}(xs:List α)(i:Int):Option α:=(ixN xs.length i).bind λj=>xs[j]?
theorem yN{n:Nat}{i:Int}{j:Nat}(h:ixN n i=some j):seqIndex? i n=some j/\j < n/\ -(n:Int)<=i/\i < n:=by
 unfold ixN at h;by_cases h0:0<=i
 .rw [if_pos h0] at h;by_cases h1:i < n
  .rw [if_pos h1] at h;have e:i.toNat=j:=Option.some.inj h;exact⟨by rw[seqIndex_of h0 h1,e],by lia,by lia,h1⟩
  .rw [if_neg h1] at h;cases h
 .rw [if_neg h0] at h;by_cases h1: -(n:Int)<=i
  .rw [if_pos h1] at h;have e:(i + n).toNat=j:=Option.some.inj h;exact⟨by rw[seqIndex_neg (by lia) h1,e],by lia,h1,by lia⟩
  .rw [if_neg h1] at h;cases h
theorem Ej{α:Type}{xs:List α}{i:Int}{v:α}(h:atI xs i=some v):∃j,seqIndex? i xs.length=some j/\xs[j]? =some v/\j < xs.length/\ -(xs.length:Int)<=i/\i < xs.length:=by
 unfold atI at h;cases e:ixN xs.length i with
 | none=>rw[e] at h;cases h
 | some j=>
  rw[e] at h;obtain⟨h1,h2,h3,h4⟩:=yN e;exact⟨j,h1,h,h2,h3,h4⟩
theorem cj{α:Type}{xs:List α}{j:Nat}{v:α}(h:xs[j]? =some v):atI xs (j:Int)=some v:=by
 have hj:j < xs.length:=(List.getElem?_eq_some_iff.mp h).1
 have e:ixN xs.length (j:Int)=some j:=by
  unfold ixN;rw[if_pos (by lia),if_pos (by lia)];simp
 unfold atI;rw[e];exact h
def yR(b:Expr):Prop:=∀o i,subscripted b false o i=operate [o,i] (getItem o i)
def IxR(X:Cx)(r:R2):Prop:=
 ∀(value slice:Expr) (pins:List (Addr × Obj)) (s:Shared) (σ:St) (H:Hp) (x y:V) (v u:Value) (Q:VK),Inv X pins σ H s->RelV x v->RelV y u->r x y H Q→
  subscripted slice false v u=operate [v,u] (getItem v u)->wpAny (model X.prog X.w) X.A (subscriptTail value slice v u) (EP X pins σ Q) X.xe s
def MtR(X:Cx)(id:String)(r:V->List V->Hp->VK->Prop):Prop:=
 ∀(pins:List (Addr × Obj)) (s:Shared) (σ:St) (H:Hp) (x:V) (xs:List V) (v:Value) (us:List Value) (Q:VK),Inv X pins σ H s->RelV x v->Vals xs us->r x xs H Q→
  wpAny (model X.prog X.w) X.A (call (.builtin id) (v::us)) (EP X pins σ Q) X.xe s
section
variable{X:Cx}{a b:Expr}{ta tb:TE}{pos:Pos}
theorem Gx{r:R2}(hr:IxR X r)(ha:PE X a ta)(hb:PE X b tb)(hs:yR b):PE X (.Subscript a b pos) (tOp r ta tb):=by
 intro pins s σ H Q I h;exact Subscript_ (C4 ha hb I h λv u s2 x y H2 I2 rx ry q=>hr a b pins s2 σ H2 x y v u Q I2 rx ry q (hs _ _))
def GX(K:PySem.W.Frag):R2:=λx y H Q=>∃p xs i v,x=.ref p/\y=.int i/\SqL K H p xs/\atI xs i=some v/\Q v H
theorem az:IxR X (GX X.K):=by
 intro value slice pins s σ H x y v u Q I rx ry h hs;obtain⟨p,xs,i,z,rfl,rfl,hq,he,q⟩:=h;cases rx;obtain⟨t,rfl⟩:=ry;obtain⟨its,r,pl,hz⟩:=I.list hq;obtain⟨j,h1,h2,h3,h4,h5⟩:=Ej he;obtain⟨w,ew,rw'⟩:=r.get h2;have hl:=r.length;have hn:=vj;have fin:EP X pins σ Q w s:=⟨z,H,I,rw',q⟩;by_cases h0:0<=i
 .have hj:i.toNat=j:=by
   rw[seqIndex_of h0 h5] at h1;exact Option.some.inj h1
  exact item_listR pl.isList h0 (by lia) (by rw[hj];simpa using ew) fin hs
 .have hj:(i + (its.toArray.size:Int)).toNat=j:=by
   rw[seqIndex_neg (by lia) h4] at h1;rw[List.size_toArray,<-hl];exact Option.some.inj h1
  exact subscriptTail_builtinR (x:=w) pl.isList.typeIs slot_list_getitem.lookup
   (wpAny_getItem_list_neg (Q:=λr s'=>r=w/\EP X pins σ Q r s') pl.isList (by lia) (by rw[List.size_toArray] <;> lia) (by lia) (by rw[hj];simpa using ew) ⟨rfl,fin⟩) hs
theorem xG(its:List Value)(n j:Nat)(u:Value):Obj.mapSeq (·.setIfInBounds j u) { cls:= .type "list",data:= .seq its.toArray n}={ cls:= .type "list",data:= .seq (its.set j u).toArray n}:=by
 simp [Obj.mapSeq]
theorem Inv.lst{pins:List (Addr × Obj)}{σ:St}{H:Hp}{s:Shared}{p:Addr}{xs:List V}(I:Inv X pins σ H s)(h:H p=some (.lst xs)):
  ∃(its:List Value) (n:Nat),Vals xs its/\s.heap.get? p=some { cls:= .type "list",data:= .seq its.toArray n}/\xs.length<=sizeLine:=by
 obtain⟨z,its,n,r,e⟩:=I.hok p _ h;exact⟨its,n,r,e,z⟩
theorem Inv.FJ{pins:List (Addr × Obj)}{σ:St}{H:Hp}{s:Shared}{p:Addr}{xs ys:List V}{its its':List Value}{n n':Nat}{f:Obj->Obj}(I:Inv X pins σ H s)(h:H p=some (.lst xs))
  (ho:s.heap.get? p=some { cls:= .type "list",data:= .seq its.toArray n}) (hf:f { cls:= .type "list",data:= .seq its.toArray n}={ cls:= .type "list",data:= .seq its'.toArray n'}) (r:Vals ys its') (hz:ys.length<=sizeLine) (t:Nat):
  Inv X pins σ (upd H p (.lst ys)) { s with heap:=s.heap.update p f,toks:=t}:=by
 have e:(s.heap.update p f).get? p=some { cls:= .type "list",data:= .seq its'.toArray n'}:=by
  rw[Heap.get?_update_self f ho (by rw[hf] <;> rfl),hf]
 refine I.write (x:=p) (e:=p) (by rw[h];trivial) (.inl rfl) (λb u hb q=>(Heap.get?_update_other _ _ (Ne.symm hb)).trans q) ⟨_,e⟩ ?_;exact⟨hz,its',n',r,e⟩
def Gd:V->V->V->Hp->(Hp->Prop)->Prop:=λo i v H Q=>∃p xs k j,o=.ref p/\i=.int k/\H p=some (.lst xs)/\ixN xs.length k=some j/\Q (upd H p (.lst (xs.set j v)))
theorem set_list:FA X Gd:=by
 intro pins s σ H o i v ov iv u Q I ro ri rv h;obtain⟨p,xs,k,j,rfl,rfl,hp,hj,q⟩:=h;cases ro;obtain⟨t,rfl⟩:=ri;obtain⟨its,n,r,ho,hz⟩:=I.lst hp;obtain⟨h1,h2,h3,h4⟩:=yN hj;have hl:=r.length;have hn:=vj
 have I':Inv X pins σ (upd H p (.lst (xs.set j v))) { s with heap:=s.heap.update p (Obj.mapSeq (·.setIfInBounds j u))}:=
  I.FJ hp ho (xG its n j u) (r.set rv j) (by rw[List.length_set];exact hz) s.toks
 by_cases h0:0<=k
 .have hk:k.toNat=j:=by
   rw[seqIndex_of h0 h4] at h1;exact Option.some.inj h1
  exact PySem.W.ki_setAt ho h0 (by lia) (by rw[List.size_toArray,<-hl];exact h4) (by rw[hk];exact⟨_,I',q⟩)
 .have hk:(k + (its.toArray.size:Int)).toNat=j:=by
   rw[seqIndex_neg (by lia) h3] at h1;rw[List.size_toArray,<-hl];exact Option.some.inj h1
  exact PySem.W.ki_setBack ho (by lia) (by rw[List.size_toArray,<-hl];exact h3) (by lia) (by rw[hk];exact⟨_,I',q⟩)
theorem uI(lo hi:Option Int)(n:Nat):(sliceBounds lo hi none n).1=((HT.sIx n 0 lo:Nat):Int)/\(sliceBounds lo hi none n).2.1=((HT.sIx n n hi:Nat):Int)/\(sliceBounds lo hi none n).2.2=1:=by
 refine⟨?_,?_,rfl⟩
 .cases lo with
  | none=>simp [sliceBounds,HT.sIx]
  | some i=>
   simp only [sliceBounds,HT.sIx,Option.getD_none,show(1:Int) > 0 by decide,if_true];by_cases h:i < 0
   .simp only [h,if_true] <;> lia
   .simp only [h,if_false] <;> lia
 .cases hi with
  | none=>simp [sliceBounds,HT.sIx]
  | some i=>
   simp only [sliceBounds,HT.sIx,Option.getD_none,show(1:Int) > 0 by decide,if_true];by_cases h:i < 0
   .simp only [h,if_true] <;> lia
   .simp only [h,if_false] <;> lia
theorem rQ(its:List Value)(lo hi:Option Int):slicePick its.toArray lo hi none=((its.drop (HT.sIx its.length 0 lo)).take (HT.sIx its.length its.length hi - HT.sIx its.length 0 lo)).toArray:=by
 obtain⟨h1,h2,h3⟩:=uI lo hi its.toArray.size;unfold slicePick;rw[h1,h2,h3];simp only [sliceRange_one,pick_run,List.size_toArray] <;> rfl
def G4(K:PySem.W.Frag):V->Option Int->Option Int->Hp->VK->Prop:=λx lo hi H Q=>∃a xs,x=.ref a/\SqL K H a xs/\∀p,H p=none->Q (.ref p) (upd H p (.lst (zx xs lo hi)))
theorem yV:SlR X (G4 X.K):=by
 intro pins s σ H x v vl vu lo hi sl Q I rx hs pl pu h;obtain⟨a,xs,rfl,hx,q⟩:=h;cases rx;obtain⟨its,r,ht,hz⟩:=I.list hx;have hlen:=r.length;refine⟨"list",_,slot_list_getitem.lookup,ht.isList.typeIs,?_⟩;refine wpAny_getItem_list_slice ht.isList hs pl pu .none (by simp) ?_ (by rw[List.size_toArray] <;> lia)
 rw[rQ,<-hlen];refine⟨.ref s.heap.objs.size,_,I.laid (t':=s.toks) (o:= .lst (zx xs lo hi)) (λb ob q=>Heap.get?_push_of_some _ q) (Nat.le_refl _) ?_,rfl,q _ (I.hok.fresh (Nat.le_refl _))⟩;exact⟨Nat.le_trans (v5 xs lo hi) hz,_,0,(r.drop (HT.sIx xs.length 0 lo)).take (HT.sIx xs.length xs.length hi - HT.sIx xs.length 0 lo),Heap.get?_push_size _ rfl⟩
def gH:V->Bool
 | .non=>true
 | .bl _=>true
 | .int _=>true
 | .str _=>true
 | _=>false
def eqV:V->V->Bool
 | .non,.non=>true
 | .bl a,.bl b=>a == b
 | .bl a,.int b=>(if a then 1 else 0) == b
 | .int a,.bl b=>a == (if b then 1 else 0)
 | .int a,.int b=>a == b
 | .str a,.str b=>a == b
 | _,_=>false
theorem C0{A:Around}{s:Shared}{y x:V}{u v:Value}(ry:RelV y u)(rx:RelV x v)(fy:gH y=true)(fx:gH x=true):SeqAt.EqAt A s u v (eqV y x):=by
 cases y with
 | non=>
  cases ry;cases x with
  | non=>cases rx;exact SeqAt.EqAt.same _
  | bl b=>cases rx;exact SeqAt.EqAt.none_bool b
  | int b=>obtain⟨t,rfl⟩:=rx;exact SeqAt.EqAt.none_int b t
  | str b=>obtain⟨t,rfl⟩:=rx;exact SeqAt.EqAt.none_str b t
  | _=>exact absurd (show false=true from fx) Bool.false_ne_true
 | bl a=>
  cases ry;cases x with
  | non=>cases rx;exact SeqAt.EqAt.bool_none a
  | bl b=>cases rx;exact SeqAt.EqAt.bool_bool a b
  | int b=>obtain⟨t,rfl⟩:=rx;exact SeqAt.EqAt.bool_int a b t
  | str b=>obtain⟨t,rfl⟩:=rx;exact SeqAt.EqAt.bool_str a b t
  | _=>exact absurd (show false=true from fx) Bool.false_ne_true
 | int a=>
  obtain⟨t',rfl⟩:=ry;cases x with
  | non=>cases rx;exact SeqAt.EqAt.int_none a t'
  | bl b=>cases rx;exact SeqAt.EqAt.int_bool a t' b
  | int b=>obtain⟨t,rfl⟩:=rx;exact SeqAt.EqAt.int_int a t' b t
  | str b=>obtain⟨t,rfl⟩:=rx;exact SeqAt.EqAt.int_str a t' b t
  | _=>exact absurd (show false=true from fx) Bool.false_ne_true
 | str a=>
  obtain⟨t',rfl⟩:=ry;cases x with
  | non=>cases rx;exact SeqAt.EqAt.str_none a t'
  | bl b=>cases rx;exact SeqAt.EqAt.str_bool a t' b
  | int b=>obtain⟨t,rfl⟩:=rx;exact SeqAt.EqAt.str_int a t' b t
  | str b=>obtain⟨t,rfl⟩:=rx;exact SeqAt.EqAt.str_str a t' b t
  | _=>exact absurd (show false=true from fx) Bool.false_ne_true
 | _=>exact absurd (show false=true from fy) Bool.false_ne_true
def eqU(x:V)(u:Value):Bool:=match u with
 | .none=>eqV .non x
 | .bool b=>eqV (.bl b) x
 | .int i _=>eqV (.int i) x
 | .str z _=>eqV (.str z) x
 | _=>false
theorem CZ{x y:V}{u:Value}(r:RelV y u)(f:gH y=true):eqU x u=eqV y x:=by
 cases y with
 | non=>cases r;rfl
 | bl b=>cases r;rfl
 | int i=>obtain⟨t,rfl⟩:=r;rfl
 | str z=>obtain⟨t,rfl⟩:=r;rfl
 | _=>exact absurd (show false=true from f) Bool.false_ne_true
theorem uH{x:V}:∀{xs:List V} {us:List Value},Vals xs us->xs.all gH=true->us.any (eqU x)=xs.any λy=>eqV y x
 | _,_,.nil,_=>rfl
 | y::xs,u::us,.cons r t,f=>by
  rw[List.all_cons,Bool.and_eq_true] at f;rw[List.any_cons,List.any_cons,CZ r f.1,uH t f.2]
theorem qe{A:Around}{s:Shared}{x:V}{v:Value}(rx:RelV x v)(fx:gH x=true):∀{xs:List V} {us:List Value},Vals xs us->xs.all gH=true->∀u∈us,SeqAt.EqAt A s u v (eqU x u)
 | _,_,.nil,_=>λu hu=>by cases hu
 | y::xs,u::us,.cons r t,f=>λu' hu=>by
  rw[List.all_cons,Bool.and_eq_true] at f;rcases List.mem_cons.mp hu with rfl | hu
  .rw [CZ r f.1];exact C0 r rx f.1 fx
  .exact qe rx fx t f.2 u' hu
def inV(x:V)(xs:List V):Bool:=xs.any λy=>eqV y x
def rIn(K:PySem.W.Frag)(neg:Bool):R2:=λx y H Q=>∃p xs,y=.ref p/\(SqL K H p xs\/SqT K H p xs)/\gH x=true/\xs.all gH=true/\Q (.bl (if neg then !inV x xs else inV x xs)) H
theorem um:OpR X (compareOp .NotIn) (rIn X.K true):=by
 intro pins s σ H x y v u Q I rx ry h;obtain⟨p,xs,rfl,hq,fx,fs,q⟩:=h;cases ry;rcases hq with hq | hq
 .obtain ⟨its,r,pl,hz⟩:=I.list hq;refine SeqAt.notIn_listAt (eqU x) pl.isList (λw hw=>qe rx fx r fs w (by simpa using hw)) ⟨.bl _,H,I,rfl,?_⟩;rw[show its.toArray.any (eqU x)=its.any (eqU x) by simp,uH r fs];exact q
 .obtain ⟨its,r,pl,hz⟩:=I.tuple hq;refine SeqAt.notIn_tupleAt (eqU x) pl (λw hw=>qe rx fx r fs w (by simpa using hw)) ⟨.bl _,H,I,rfl,?_⟩;rw[show its.toArray.any (eqU x)=its.any (eqU x) by simp,uH r fs];exact q
theorem aG:lV X (.builtin "len") (λxs H Q=>∃p ys,xs=[.ref p]/\(SqL X.K H p ys\/SqT X.K H p ys)/\Q (.int ys.length) H):=by
 intro pins s σ H xs us Q I r h;obtain⟨p,ys,rfl,hq,q⟩:=h;obtain⟨u,rfl,rx⟩:=vals1 r;cases rx;have hn:=vj;rcases hq with hq | hq
 .obtain ⟨its,r',pl,hz⟩:=I.list hq;have hlen:=r'.length;exact Calls.call_len_list pl.isList (by simp only [List.size_toArray] <;> lia) ⟨.int ys.length,H,I.tok _,⟨s.toks + 1,by rw[List.size_toArray,hlen]⟩,q⟩
 .obtain ⟨its,r',pl,hz⟩:=I.tuple hq;have hlen:=r'.length;exact len_tuple pl (by simp only [List.size_toArray] <;> lia) ⟨.int ys.length,H,I.tok _,⟨s.toks + 1,by rw[List.size_toArray,hlen]⟩,q⟩
theorem eN:lV X (.builtin "len") (λxs H Q=>∃z,xs=[.str z]/\z.length<=sizeLine/\Q (.int z.length) H):=by
 intro pins s σ H xs us Q I r h;obtain⟨z,rfl,hz,q⟩:=h;obtain⟨u,rfl,t,rfl⟩:=vals1 r;have hn:=vj;exact len_str (by lia) ⟨.int z.length,H,I.tok _,⟨_,rfl⟩,q⟩
def tyV(K:PySem.W.Frag)(T:String)(x:V)(H:Hp):Prop:=match x with
 | .str _=>T="str"
 | .int _=>T="int"
 | .ref p=>(T="list"/\∃xs,SqL K H p xs)\/(T="tuple"/\∃o,K.lookup p=some o/\o.cls=.type "tuple"/\o.dict=none)∨
   (T="dict"/\((∃kvs,H p=some (.dK kvs))\/∃kvs,H p=some (.dT kvs)))\/(T="set"/\∃S n,H p=some (.set S n))
 | _=>False
theorem EZ{pins:List (Addr × Obj)}{σ:St}{H:Hp}{s:Shared}{T:String}{x:V}{v:Value}(I:Inv X pins σ H s)(r:RelV x v)(ty:tyV X.K T x H):
  s.TypeIs v T/\∀a,v=.ref a->∃ob,s.heap.get? a=some ob/\ob.dict=none:=by
 cases x with
 | str z=>
  obtain⟨t,rfl⟩:=r;cases (show T="str" from ty);exact⟨typeIs_str s z t,λ_ e=>nomatch e⟩
 | int i=>
  obtain⟨t,rfl⟩:=r;cases (show T="int" from ty);exact⟨typeIs_int s i t,λ_ e=>nomatch e⟩
 | ref p=>
  cases r;rcases ty with⟨rfl,xs,hq⟩ | ⟨rfl,o,hk,hc,hd⟩ | ⟨rfl,hk⟩ | ⟨rfl,S,n,hk⟩
  .obtain ⟨its,_,pl,_⟩:=I.list hq;refine⟨pl.isList.typeIs,λa e=> ?_⟩;cases e;obtain⟨o,n,e,c,hd,_⟩:=pl;exact⟨o,e,hd⟩
  .refine ⟨⟨o,I.kIn p o hk,hc⟩,λa e=> ?_⟩;cases e;exact⟨o,I.kIn _ o hk,hd⟩
  .have z:∃o,s.heap.get? p=some o/\o.ExactDict:=by
    rcases hk with⟨kvs,hk⟩ | ⟨kvs,hk⟩
    .obtain ⟨_,_,_,_,o,_,_,e,ex,_⟩:=I.hok p _ hk;exact⟨o,e,ex⟩
    .obtain ⟨_,_,_,_,o,_,_,e,ex,_⟩:=I.hok p _ hk;exact⟨o,e,ex⟩
   obtain⟨o,e,ex⟩:=z;refine⟨⟨o,e,ex.1⟩,λa e2=> ?_⟩;cases e2;exact⟨o,e,ex.2.1⟩
  .obtain ⟨o,_,_,_,e,ex,_⟩:=I.hok p _ hk;refine⟨⟨o,e,ex.1⟩,λa e2=> ?_⟩;cases e2;exact⟨o,e,ex.2.1⟩
 | _=>exact False.elim ty
def tBM(K:PySem.W.Frag)(T:String)(r:V->List V->Hp->VK->Prop)(to:TE)(t:TA):TE:=λσ H Q=>to σ H λx H1=>tyV K T x H1/\t σ H1 λxs H2=>r x xs H2 Q
variable{o e:Expr}{es:List Expr}{to:TE}{t:TA}{name:Str}{apos cpos:Pos}{T id:String}{r:V->List V->Hp->VK->Prop}
theorem cn(pa:PlainAttrs T)(slot:Slot T name id)(hty:typeOf (.builtin id)=pure (.type "method_descriptor"))(hm:MtR X id r)(ho:PE X o to)(ha:PA X (e::es) t)
  (hbase:attributeBase o name X.env (eval o X.env)=eval o X.env:=by rfl)
  (hfew:((backTo cpos (starEach (e::es) X.env)).all (λx=> !x.1) && (backToKw cpos (keywordEach [] X.env)).all (λx=>x.1.isSome)
   && decide ((e::es).length + ([]:List Keyword).length + (if ([]:List Keyword).isEmpty then 0 else 1) < 30))=true:=by rfl)
  (hline:(apos.endLine == cpos.line)=true:=by rfl) (hs:starEach (e::es) X.env=(false,eval e X.env)::starEach es X.env:=by rfl) (hplain:(backTo cpos (starEach es X.env)).any (·.1)=false:=by rfl):
  PE X (.Call (.Attribute o name apos) (e::es) [] cpos) (tBM X.K T r to t):=by
 intro pins s σ H Q I h;refine wpAny_Call_method_late hbase hfew hline rfl (ho.th I h λv s1 x H1 I1 r1 zz=> ?_);obtain⟨ty,q1⟩:=zz;obtain⟨h1,h2⟩:=EZ I1 r1 ty;refine⟨T,id,pa,slot,hty,h1,h2,?_⟩;have hA:=ha cpos pins s1 σ H1 _ I1 q1;rw[hs] at hA ⊢;refine Calls.callWith_builtin (by show(false || (backTo cpos (starEach es X.env)).any (·.1))=false;rw[hplain] <;> rfl) (Calls.evalArgs_plain ?_)
 exact thn hA λus s2 zz=>by obtain⟨vs,H2,I2,r2,q2⟩:=zz;exact hm pins s2 σ H2 x vs v us Q I2 r1 r2 q2
end
def MtM(X:Cx)(id:String)(r:V->List V->Hp->VK->Prop):Prop:=
 ∀(pins:List (Addr × Obj)) (s:Shared) (σ:St) (H:Hp) (x:V) (xs:List V) (v:Value) (us:List Value) (Q:VK),Inv X pins σ H s->RelV x v->Vals xs us->r x xs H Q→
  wpAny (model X.prog X.w) X.A (call (.builtin id) (v::us)) (EP X pins σ Q) X.xe s
theorem Vals.one:∀{x:V} {us:List Value},Vals [x] us->∃u,us=[u]/\RelV x u
 | _,_,.cons r .nil=>⟨_,rfl,r⟩
section
variable{X:Cx}{pins:List (Addr × Obj)}{σ:St}{H:Hp}{s:Shared}{l b:Addr}{xs ys zs:List V}
theorem Inv.G7{its its':List Value}{n:Nat}{f:Array Value->Array Value}{t':Nat}(I:Inv X pins σ H s)(hH:H l=some (.lst xs))
  (e:s.heap.get? l=some { cls:= .type "list",data:= .seq its.toArray n}) (hf:f its.toArray=its'.toArray) (hv:Vals ys its') (hz:ys.length<=sizeLine):
  Inv X pins σ (upd H l (.lst ys)) { s with heap:=s.heap.update l (Obj.mapSeq f),toks:=t'}:=by
 have q:=PySem.IsL.update e f;rw[hf] at q;refine I.write (x:=l) (e:=l) (by rw[hH];exact trivial) (.inl rfl) (λb' u hb hu=>(Heap.get?_update_other s.heap (Obj.mapSeq f) (Ne.symm hb)).trans hu) ⟨_,q⟩ ?_;exact⟨hz,its',_,hv,q⟩
theorem Inv.Fe{its:List Value}{t':Nat}(I:Inv X pins σ H s)(hv:Vals ys its)(hz:ys.length<=sizeLine):
  Inv X pins σ (upd H s.heap.objs.size (.lst ys)) { s with heap:=s.heap.push { cls:= .type "list",data:= .seq its.toArray},toks:=t'}:=
 I.laid (λ_ _ q=>Heap.get?_push_of_some _ q) (Nat.le_refl _) ⟨hz,its,0,hv,Heap.get?_push_size _ rfl⟩
theorem Inv.fresh(I:Inv X pins σ H s):H s.heap.objs.size=none:=I.hok.fresh (Nat.le_refl _)
theorem Inv.Fd(I:Inv X pins σ H s)(hH:H l=some (.lst xs)):xs.length<=sizeLine/\∃(its:List Value) (n:Nat),Vals xs its/\xs.length=its.length/\s.heap.get? l=some { cls:= .type "list",data:= .seq its.toArray n}:=by
 obtain⟨z,its,n,r,e⟩:=I.hok l _ hH;exact⟨z,its,n,r,r.length,e⟩
end
section
variable{X:Cx}
def Dl:V->List V->Hp->VK->Prop:=λx vs H Q=>∃l xs y,x=.ref l/\vs=[y]/\H l=some (.lst xs)/\xs.length < sizeLine/\Q .non (upd H l (.lst (xs++[y])))
theorem bJ:MtM X "list.append" Dl:=by
 intro pins s σ H x vs v us Q I rx rv h;obtain⟨l,xs,y,rfl,rfl,hH,hz,q⟩:=h;cases rx;obtain⟨u,rfl,ru⟩:=rv.one;obtain⟨z,its,n,r,hl,e⟩:=I.Fd hH;refine call_meets F.slot_list_append ⟨_,e,rfl⟩ F.entry_list_append (F.args_list_append_2 _ _) (PySem.list_append l its.toArray n u (by rw[List.size_toArray];lia)) ⟨e,?_⟩;refine⟨.non,_,I.G7 (its':=its++[u]) hH e (by simp) (r.append (.cons ru .nil)) ?_,rfl,q⟩;rw[List.length_append,List.length_singleton]
 lia
def G9:R2:=λx y H Q=>∃l b xs zs,x=.ref l/\y=.ref b/\H l=some (.lst xs)/\H b=some (.lst zs)/\xs.length + zs.length<=sizeLine/\∀p,H p=none->Q (.ref p) (upd H p (.lst (xs++zs)))
theorem qm:OpR X (binaryOp .Add) G9:=by
 intro pins s σ H x y v u Q I rx ry h;obtain⟨l,b,xs,zs,rfl,rfl,hH,hB,hz,q⟩:=h;cases rx;cases ry;obtain⟨z,its,n,r,hl,e⟩:=I.Fd hH;obtain⟨z2,its2,n2,r2,hl2,e2⟩:=I.Fd hB;refine PySem.P.add_list e e2 ?_ (by rw[List.size_toArray,List.size_toArray];lia);have ea:its.toArray++its2.toArray=(its++its2).toArray:=by simp
 rw[ea];exact⟨.ref _,_,I.Fe (t':=s.toks) (r.append r2) (by rw[List.length_append];lia),rfl,q _ I.fresh⟩
end
section
variable{κ:Type}[DecidableEq κ]
def ik(kvs:List (κ × V))(k:κ):Option V:=(kvs.find? λkv=>decide (kv.1=k)).map (·.2)
def putK(kvs:List (κ × V))(k:κ)(v:V):List (κ × V):=
 if (kvs.any λkv=>decide (kv.1=k))=true then kvs.map (λkv=>if kv.1=k then (kv.1,v) else kv) else kvs++[(k,v)]
theorem pM{p:κ × V}{r:List (κ × V)}{k:κ}(e:p.1=k):ik (p::r) k=some p.2:=by simp [ik,List.find?_cons,e]
theorem pE{p:κ × V}{r:List (κ × V)}{k:κ}(e:¬p.1=k):ik (p::r) k=ik r k:=by simp [ik,List.find?_cons,e]
theorem vU(k:κ):∀kvs:List (κ × V),(kvs.any λkv=>decide (kv.1=k))=(ik kvs k).isSome
 | []=>rfl
 | p::r=>by
  rw[List.any_cons];by_cases e:p.1=k
  .simp only [pM e,decide_eq_true e,Bool.true_or,Option.isSome_some]
  .rw [pE e,decide_eq_false e,Bool.false_or];exact vU k r
theorem nQ(kvs:List (κ × V))(k:κ)(v:V):(putK kvs k v).length<=kvs.length + 1:=by
 unfold putK
 split
 .rw [List.length_map];lia
 .rw [List.length_append,List.length_cons,List.length_nil];lia
theorem jH.nG{o:Option V}{u:Option Value}(r:jH o u):o.isSome=u.isSome:=by
 cases o with
 | none=>cases u with
  | none=>rfl
  | some _=>exact(show False from r).elim
 | some _=>cases u with
  | none=>exact(show False from r).elim
  | some _=>rfl
theorem KV.val{kvs:List (κ × V)}{vs:List (κ × Value)}(r:KV kvs vs)(k:κ):jH (ik kvs k) (valueAt vs k):=by
 unfold KV at r
 induction r with
 | nil=>exact True.intro
 | @cons p q ps qs h t ih=>
  obtain⟨h1,h2⟩:=h;by_cases e:p.1=k
  .have e':q.1=k:=h1.symm.trans e;have b:valueAt (q::qs) k=some q.2:=by simp [valueAt,List.find?_cons,e']
   rw[pM e,b];exact h2
  .have e':¬q.1=k:=λz=>e (h1.trans z);have b:valueAt (q::qs) k=valueAt qs k:=by simp [valueAt,List.find?_cons,e']
   rw[pE e,b];exact ih
theorem KV.any{kvs:List (κ × V)}{vs:List (κ × Value)}(r:KV kvs vs)(k:κ):(kvs.any λkv=>decide (kv.1=k))=vs.any λkv=>decide (kv.1=k):=by
 unfold KV at r
 induction r with
 | nil=>rfl
 | cons h t ih=>rw[List.any_cons,List.any_cons,ih,h.1]
theorem KV.Fu{kvs:List (κ × V)}{vs:List (κ × Value)}(r:KV kvs vs)(k:κ){y:V}{u:Value}(ry:RelV y u):
  KV (kvs.map λkv=>if kv.1=k then (kv.1,y) else kv) (vs.map λkv=>if kv.1=k then (kv.1,u) else kv):=by
 unfold KV at r ⊢
 induction r with
 | nil=>exact .nil
 | @cons p q ps qs h t ih=>
  rw[List.map_cons,List.map_cons];refine .cons ?_ ih;obtain⟨h1,h2⟩:=h;by_cases e:p.1=k
  .rw [if_pos e,if_pos (h1.symm.trans e)];exact⟨h1,ry⟩
  .rw [if_neg e,if_neg (λz=>e (h1.trans z))];exact⟨h1,h2⟩
theorem KV.put{kvs:List (κ × V)}{vs:List (κ × Value)}(r:KV kvs vs)(k:κ){y:V}{u:Value}(ry:RelV y u):KV (putK kvs k y) (stored vs k u):=by
 unfold putK stored;rw[r.any k];by_cases e:(vs.any λkv=>decide (kv.1=k))=true
 .rw [if_pos e,if_pos e];exact r.Fu k ry
 .rw [if_neg e,if_neg e];exact Paired.snoc r ⟨rfl,ry⟩
theorem KV.length{kvs:List (κ × V)}{vs:List (κ × Value)}(r:KV kvs vs):kvs.length=vs.length:=Paired.length r
end
theorem yB{P:Program}{w:World}{k:Key}{u:Value}(r:RelV (kV k) u):(cb P w).is k u=true:=by
 cases k with
 | inl i=>obtain⟨t,e⟩:=(show ∃t,u=Value.int i t from r);subst e;exact vA P w i t
 | inr x=>obtain⟨t,e⟩:=(show ∃t,u=Value.str x t from r);subst e;exact vK P w x t
theorem sr{P:Program}{w:World}:∀{ks:List Key} {us:List Value},Vals (ks.map kV) us->ItemsAre (cb P w) ks us
 | [],_,r=>by rw[List.map_nil] at r;cases r;exact .nil
 | k::ks,_,r=>by
  rw[List.map_cons] at r;cases r with
  | cons h t=>exact .cons (yB h) (sr t)
abbrev KT(H:Hp):List (List Key × V)->List (List Key × Addr × Value)->Prop:=Paired λp q=>p.1=q.1/\H q.2.1=some (.tup (p.1.map kV))/\RelV p.2 q.2.2
theorem KT.val{H:Hp}{kvs:List (List Key × V)}{xs:List (List Key × Addr × Value)}(r:KT H kvs xs)(k:List Key):jH (ik kvs k) ((atKey xs k).map (·.2)):=by
 induction r with
 | nil=>exact True.intro
 | @cons p q ps qs h t ih=>
  obtain⟨h1,_,h2⟩:=h;by_cases e:p.1=k
  .have e':q.1=k:=h1.symm.trans e;have b:atKey (q::qs) k=some q.2:=by simp [atKey,List.find?_cons,e']
   rw[pM e,b];exact h2
  .have e':¬q.1=k:=λz=>e (h1.trans z);have b:atKey (q::qs) k=atKey qs k:=by simp [atKey,List.find?_cons,e']
   rw[pE e,b];exact ih
theorem KT.Fu{H:Hp}{kvs:List (List Key × V)}{xs:List (List Key × Addr × Value)}(r:KT H kvs xs)(k:List Key){y:V}{u:Value}(ry:RelV y u):
  KT H (kvs.map λkv=>if kv.1=k then (kv.1,y) else kv) (xs.map (putAt k u)):=by
 induction r with
 | nil=>exact .nil
 | @cons p q ps qs h t ih=>
  rw[List.map_cons,List.map_cons];refine .cons ?_ ih;obtain⟨h1,h2,h3⟩:=h;unfold putAt;by_cases e:p.1=k
  .rw [if_pos e,if_pos (h1.symm.trans e)];exact⟨h1,h2,ry⟩
  .rw [if_neg e,if_neg (λz=>e (h1.trans z))];exact⟨h1,h2,h3⟩
theorem KT.put{H:Hp}{kvs:List (List Key × V)}{xs:List (List Key × Addr × Value)}(r:KT H kvs xs)(k:List Key){b:Addr}{y:V}{u:Value}(hb:H b=some (.tup (k.map kV)))(ry:RelV y u):
  KT H (putK kvs k y) (storedH xs k b u):=by
 have e:(kvs.any λkv=>decide (kv.1=k))=(atKey xs k).isSome:=by
  rw[vU,(r.val k).nG,Option.isSome_map]
 unfold putK storedH;rw[e];by_cases q:(atKey xs k).isSome=true
 .rw [if_pos q,if_pos q];exact r.Fu k ry
 .rw [if_neg q,if_neg q];exact Paired.snoc r ⟨rfl,hb,ry⟩
theorem KT.keeps{H H':Hp}{kvs:List (List Key × V)}{xs:List (List Key × Addr × Value)}(r:KT H kvs xs)(ht:∀b ys,H b=some (.tup ys)->H' b=some (.tup ys)):KT H' kvs xs:=
 Paired.E9 r λ_ _ z=>⟨z.1,ht _ _ z.2.1,z.2.2⟩
section
variable{P:Program}{w:World}{H:Hp}{h:Heap}{a:Addr}
theorem ED{u:HO}(ok:HOk P w H h)(e:Rd H a u):bM P w H h a u:=e.ok ok
theorem yS{kvs:List (Key × V)}(ok:HOk P w H h)(e:Rd H a (.dK kvs)):kvs.length<=sizeLine/\(a == sysModules)=false/\∃vs,KV kvs vs/\h.DictOf (cb P w) a vs:=
 show bM P w H h a (.dK kvs) from ED ok e
theorem Gf{kvs:List (Key × V)}(ok:HOk P w H h)(e:H a=some (.dK kvs)):kvs.length<=sizeLine/\(a == sysModules)=false/\∃vs,KV kvs vs/\h.DictOf (cb P w) a vs:=yS ok (.inl e)
theorem vb{ks:List Key}(ok:HOk P w H h)(e:H a=some (.tup (ks.map kV))):(tupleKind (cb P w)).is h ks a:=by
 obtain⟨_,its,r,o,h1,h2,n,h3⟩:=(show bM P w H h a (.tup (ks.map kV)) from ok a _ e);exact⟨o,its.toArray,n,h1,h2,h3,by simpa using sr r⟩
theorem zb{kvs:List (List Key × V)}(ok:HOk P w H h)(e:Rd H a (.dT kvs)):kvs.length<=sizeLine/\(a == sysModules)=false∧
  ∃xs,KT H kvs xs/\h.DictOfH (tupleKind (cb P w)) a xs:=by
 obtain⟨z,y,xs,r,o,es,ep,h1,h2,h3,h4,h5⟩:=(show bM P w H h a (.dT kvs) from ED ok e);refine⟨z,y,xs,r,o,es,ep,h1,h2,h3,h4,λx hx=> ?_,h5⟩
 have all:∀{l:List (List Key × V)} {m:List (List Key × Addr × Value)},KT H l m->∀x∈m,(tupleKind (cb P w)).is h x.1 x.2.1:=by
  intro l m q
  induction q with
  | nil=>intro x hx;exact nomatch hx
  | @cons p q ps qs hq t ih=>
   intro x hx;rcases List.mem_cons.mp hx with e | hx
   .subst e;exact vb ok (by rw[<- hq.1];exact hq.2.1)
   .exact ih x hx
 exact all r x hx
theorem GO{kvs:List (List Key × V)}(ok:HOk P w H h)(e:H a=some (.dT kvs)):kvs.length<=sizeLine/\(a == sysModules)=false∧
  ∃xs,KT H kvs xs/\h.DictOfH (tupleKind (cb P w)) a xs:=zb ok (.inl e)
end
def mx(H:Hp)(a:Addr)(y:V)(r:Option V):Prop:=
 (∃kvs k,Rd H a (.dK kvs)/\y=kV k/\r=ik kvs k)\/∃kvs k b,Rd H a (.dT kvs)/\y=.ref b/\H b=some (.tup (k.map kV))/\r=ik kvs k
def B0(H:Hp)(a:Addr)(y v:V)(H':Hp):Prop:=
 (∃kvs k,H a=some (.dK kvs)/\y=kV k/\kvs.length < sizeLine/\H'=upd H a (.dK (putK kvs k v)))∨
 ∃kvs k b,H a=some (.dT kvs)/\y=.ref b/\H b=some (.tup (k.map kV))/\kvs.length < sizeLine/\H'=upd H a (.dT (putK kvs k v))
theorem mx.k{H:Hp}{a:Addr}{kvs:List (Key × V)}{k:Key}(e:H a=some (.dK kvs)):mx H a (kV k) (ik kvs k):= .inl ⟨kvs,k,.inl e,rfl,rfl⟩
theorem B0.k{H:Hp}{a:Addr}{kvs:List (Key × V)}{k:Key}{v:V}(e:H a=some (.dK kvs))(hl:kvs.length < sizeLine):B0 H a (kV k) v (upd H a (.dK (putK kvs k v))):= .inl ⟨kvs,k,e,rfl,hl,rfl⟩
section
variable{X:Cx}{pins:List (Addr × Obj)}{σ:St}{H:Hp}{s:Shared}{a:Addr}{y v:V}{u r:Value}{o:Option V}{A:Around}{E:Value->Shared->Prop}
theorem Inv.big(I:Inv X pins σ H s):sysModules < s.heap.objs.size:=by
 have h:mainGlobals < s.heap.objs.size:=(I.mod.glob.keeps I.bk).lt;exact Nat.lt_trans (by decide) h
theorem zA{Q:Value->Shared->Prop}(hu:A.units + 1 < cLine)(I:Inv X pins σ H s)(g:mx H a y (some v))(ry:RelV y u)(h:∀w' s',Inv X pins σ H s'->RelV v w'->Q w' s'):
  wpAny (model X.prog X.w) A (getItem (.ref a) u) Q E s:=by
 rcases g with⟨kvs,k,e,ey,l⟩ | ⟨kvs,k,b,e,ey,eb,l⟩
 .subst ey;obtain⟨z,hd,vs,rel,dd⟩:=yS I.hok e;obtain⟨w',hw,rw'⟩:=jH.some_of (v:=v) (o:=valueAt vs k) (by rw[l];exact rel.val k);exact wpAny_getItem_of (yB ry) dd.mapOf hw (h w' _ (I.tok _) rw')
 .subst ey;cases (show u=Value.ref b from ry);obtain⟨z,hd,xs,rel,dd⟩:=zb I.hok e;obtain⟨w',hw,rw'⟩:=jH.some_of (v:=v) (o:=(atKey xs k).map (·.2)) (by rw[l];exact rel.val k);obtain⟨p,hp,hp2⟩:=Option.map_eq_some_iff.mp hw;refine wpAny_getItem_heap (tupleKind_room_in1 hu) (vb I.hok eb) dd hp ?_;rw[hp2];exact h w' _ (I.tok _) rw'
theorem Dq{Q:Value->Shared->Prop}(hu:A.units + 1 < cLine)(I:Inv X pins σ H s)(g:mx H a y o)(ry:RelV y u)(h:∀s',Inv X pins σ H s'->Q (.bool (!o.isSome)) s'):
  wpAny (model X.prog X.w) A (compareOp .NotIn u (.ref a)) Q E s:=by
 rcases g with⟨kvs,k,e,ey,l⟩ | ⟨kvs,k,b,e,ey,eb,l⟩
 .subst ey;obtain⟨z,hd,vs,rel,dd⟩:=yS I.hok e;refine wpAny_notIn_of (yB ry) hd dd.mapOf ?_;rw[<- (rel.val k).nG,<-l];exact h _ (I.tok _)
 .subst ey;cases (show u=Value.ref b from ry);obtain⟨z,hd,xs,rel,dd⟩:=zb I.hok e;refine wpAny_notIn_heap (tupleKind_room_in1 hu) (vb I.hok eb) hd dd ?_;have q:=(rel.val k).nG;rw[Option.isSome_map] at q;rw[<- q,<-l];exact h _ (I.tok _)
theorem yX{h':Heap}{t':Nat}{ob:HO}(I:Inv X pins σ H s)(mu:Mut (H a))(hs:Heap.SameBut a s.heap h')(he:∃q,h'.get? a=some q)(new:bM X.prog X.w (upd H a ob) h' a ob):
  Inv X pins σ (upd H a ob) { s with heap:=h',toks:=t'}:=
 I.write (x:=a) (e:=a) mu (.inl rfl) (λb q hb z=>(hs.2 b hb).trans z) he new
theorem Fm{P:Program}{w:World}{H':Hp}{h':Heap}{kvs:List (Key × V)}{vs:List (Key × Value)}(z:kvs.length<=sizeLine)(hd:(a == sysModules)=false)(rel:KV kvs vs)(dd:h'.DictOf (cb P w) a vs):
  bM P w H' h' a (.dK kvs):=⟨z,hd,vs,rel,dd⟩
theorem zP{H':Hp}{Q:Unit->Shared->Prop}(hu:A.units + 1 < cLine)(I:Inv X pins σ H s)(g:B0 H a y v H')(ry:RelV y u)(rv:RelV v r)(h:∀s',Inv X pins σ H' s'->Q () s'):
  wpAny (model X.prog X.w) A (setItem (.ref a) u r) Q E s:=by
 rcases g with⟨kvs,k,e,ey,l,eH⟩ | ⟨kvs,k,b,e,ey,eb,l,eH⟩
 .subst ey eH;obtain⟨z,hd,vs,rel,dd⟩:=Gf I.hok e;have hz:vs.length<=sizeLine:=by rw[<- rel.length];exact z
  have hl:(putK kvs k v).length<=sizeLine:=by have:=nQ kvs k v;lia
  refine wpAny_setItem_pairs (hsz:=hz) (yB ry) dd λh' dd' hs=>h _ ?_;have he:∃q,h'.get? a=some q:=let ⟨q,_,_,hq,_⟩:=dd';⟨q,hq⟩;exact yX I (by rw[e];exact True.intro) hs he (Fm hl hd (rel.put k rv) dd')
 .subst ey eH;cases (show u=Value.ref b from ry);obtain⟨z,hd,xs,rel,dd⟩:=GO I.hok e;have hz:xs.length<=sizeLine:=by rw[<- Paired.length rel];exact z
  have hl:(putK kvs k v).length<=sizeLine:=by have:=nQ kvs k v;lia
  refine wpAny_setItem_heap (hsz:=hz) (tupleKind_room_in1 hu) (vb I.hok eb) dd λh' dd' hs=>h _ ?_;obtain⟨q,es,ep,hq,h2,h3,h4,_,h5⟩:=dd';refine yX I (by rw[e];exact True.intro) hs ⟨q,hq⟩ ⟨hl,hd,_,(rel.put k eb rv).keeps λc ys ec=> ?_,q,es,ep,hq,h2,h3,h4,h5⟩;rw[ak (Gj ec e (λz=>nomatch z))];exact ec
end
def EY(i:Expr):Prop:=∀ov iv,subscripted i false ov iv=operate [ov,iv] (getItem ov iv)
theorem Ek{prog:Program}{w:World}{A:Around}{E:Value->Shared->Prop}{s:Shared}{env:Env}{value slice:Expr}{pos:Pos}{T id:String}{Q:Value->Shared->Prop}
  (hl:typeLookup (.type T) "__getitem__"=pure (some (.builtin id))) (hs:EY slice)
  (h:wpAny (model prog w) A (eval value env) (λo s₁=>wpAny (model prog w) A (eval slice env) (λi s₂=>s₂.TypeIs o T/\wpAny (model prog w) A (getItem o i) Q E s₂) E s₁) E s):
  wpAny (model prog w) A (eval (.Subscript value slice pos) env) Q E s:=by
 refine Subscript_ (wpAny_mono h (λo s₁ h₁=>wpAny_mono h₁ (λi s₂ h₂=> ?_) λ_ _ x=>x) λ_ _ x=>x);obtain⟨hT,h₂⟩:=h₂;unfold subscriptTail;refine wpAny_bind ?_;rw[getitemInPython_of_ne hT.not_modules];refine wpAny_bind (wpAny_specialOf hT hl ?_)
 have fin:wpAny (model prog w) A (subscripted slice false o i) (λr s₃=>wpAny (model prog w) A (letTemporaryGo value o r >>= λ_=>pure r) Q E s₃) E s₂:=by
  rw[hs o i];exact wpAny_operating (wpAny_mono h₂ (λr s₃ h₃=>wpAny_bind (wpAny_letTemporaryGo (wpAny_pure h₃))) λ_ _ x=>x)
 first
  | exact wpAny_pure (wpAny_bind fin)
  | exact wpAny_bind (wpAny_pure (wpAny_bind fin))
  | exact wpAny_bind fin
theorem vQ{X:Cx}{pins:List (Addr × Obj)}{σ:St}{H:Hp}{s:Shared}{a:Addr}{y:V}{o:Option V}(I:Inv X pins σ H s)(g:mx H a y o):s.TypeIs (.ref a) "dict":=by
 rcases g with⟨kvs,k,e,_,_⟩ | ⟨kvs,k,b,e,_,_,_⟩
 .obtain ⟨_,_,vs,_,dd⟩:=yS I.hok e;exact dd.typeIs
 .obtain ⟨_,_,xs,_,dd⟩:=zb I.hok e;exact dd.typeIs
def Es(td ty:TE):TE:=λσ H Q=>td σ H λx H1=>ty σ H1 λy H2=>∃a v,x=.ref a/\mx H2 a y (some v)/\Q v H2
def Dn(ty td:TE):TE:=λσ H Q=>ty σ H λy H1=>td σ H1 λx H2=>∃a o,x=.ref a/\mx H2 a y o/\Q (.bl (!o.isSome)) H2
def F6(td ty tv:TE):TS:=λD σ H=>tv σ H λv H1=>td σ H1 λx H2=>ty σ H2 λy H3=>∃a H4,x=.ref a/\B0 H3 a y v H4/\D.nx σ H4
section
variable{X:Cx}{o i e value:Expr}{pos pos' tpos:Pos}{td ty tv:TE}
theorem y7(hu:X.A.units + 1 < cLine)(ho:PE X o td)(hi:PE X i ty)(hs:EY i):PE X (.Subscript o i pos) (Es td ty):=by
 intro pins s σ H Q I h;refine Ek PySem.F.slot_dict_getitem.lookup hs (ho.th I h λu s1 x H1 I1 rx q1=>hi.th I1 q1 λiv s2 y H2 I2 ry zz=> ?_);obtain⟨a,v,ex,g,q2⟩:=zz;subst ex;obtain rfl:u=Value.ref a:=rx;exact⟨vQ I2 g,zA hu I2 g ry λw' s3 I3 rw'=>⟨v,H2,I3,rw',q2⟩⟩
theorem nv(hu:X.A.units + 1 < cLine)(hi:PE X i ty)(ho:PE X o td):PC X .NotIn i o (Dn ty td):=by
 intro pins s σ H Q I h;refine hi.th I h λiv s1 y H1 I1 ry q1=>ho.th I1 q1 λu s2 x H2 I2 rx zz=> ?_;obtain⟨a,ov,ex,g,q2⟩:=zz;subst ex;obtain rfl:u=Value.ref a:=rx;exact Dq hu I2 g ry λs3 I3=>⟨.bl (!ov.isSome),H2,I3,rfl,q2⟩
theorem Dp(hu:X.A.units + 1 < cLine)(ho:PE X o td)(hi:PE X i ty)(hv:PE X value tv)(hs:swapsWith value (some (.Subscript o i pos')) pos.line X.env=pure false):
  PS X (.Assign [.Subscript o i pos'] value pos) (F6 td ty tv):=by
 intro pins s σ H D I h;refine wpAny_Assign_Subscript (hv.th I h λr s1 v H1 I1 rv q1=>ho.th I1 q1 λu s2 x H2 I2 rx q2=>hi.th I2 q2 λiv s3 y H3 I3 ry zz=> ?_) hs;obtain⟨a,H4,ex,g,q3⟩:=zz;subst ex;obtain rfl:u=Value.ref a:=rx;exact zP hu I3 g ry rv λs4 I4=>⟨σ,H4,I4,q3⟩
end
theorem Ca{P:Program}{w:World}{H:Hp}(h:Heap)(hb:sysModules < h.objs.size):bM P w H (h.push { cls:= .type "dict",data:= .dict #[]}) h.objs.size (.dK []):=
 ⟨Nat.zero_le _,beq_eq_false_iff_ne.mpr (Ne.symm (Nat.ne_of_lt hb)),[],.nil,Heap.DictOf.new h⟩
def FP:TE:=λ_ H Q=>∀p,H p=none->Q (.ref p) (upd H p (.dK []))
section
variable{X:Cx}{pos:Pos}
theorem BB:PE X (.Dict [] [] pos) FP:=λpins s σ H Q I h=>
 wpAny_Dict_empty ⟨.ref s.heap.objs.size,_,I.laid (a:=s.heap.objs.size) (o:= .dK []) (t':=s.toks) (λ_ _ q=>Heap.get?_push_of_some _ q) (Nat.le_refl _) (Ca s.heap I.big),rfl,h _ (I.hok.fresh (Nat.le_refl _))⟩
end
end L2
namespace Att
open PySem PySem.W PySem.Calls PyProof.Rows
theorem oh{P:Params}{h:Heap}:∀(ns:List Int) (vs:List Value),WellAll P h vs (ns.map WData.int)->IntsAre vs ns:=by
 intro ns
 induction ns with
 | nil=>
  intro vs w;rw[List.map_nil] at w;cases w;exact .nil
 | cons n ns ih=>
  intro vs w;rw[List.map_cons] at w;cases w with
  | cons a b=>
   cases a;exact .cons _ _ (ih _ b)
theorem AA{l:OpenLaw}{n:Nat}(hn:l.most=some n){P:Params}{h:Heap}{args:List WData}{vals:List Value}
  (hpre:l.row.toRowW.claim.pre args=true) (hwl:WellAll P h vals args):
  ∃a vs ns,vals=[Value.ref a]/\args=[WData.list (ns.map WData.int)]/\h.get? a=some { cls:= .type "list",data:= .seq vs.toArray}/\IntsAre vs ns/\ns.length<=n:=by
 have hsh:WShape.hasAll [] args [.list .int]=true:=(pre_splitW hpre).1;have hc:l.pre.holds [] { args:=args}=true:=(pre_splitW hpre).2;obtain⟨d,r,rfl,h1,h2⟩:=hasAllW_cons hsh;obtain rfl:=hasAllW_nil h2;obtain⟨xs,rfl,h3⟩:=hasW_list h1;obtain⟨ns,rfl⟩:=items_int h3
 have hlen:ns.length<=n:=by
  unfold OpenLaw.pre at hc
  have h4:(WTm.not (.lt (.lit (.int (n:Int))) (.len (.arg 0)))).holds [] { args:=[.list (ns.map .int)]}=true:=by
   have h4:=(holds_andW hc).1;rw[hn] at h4;exact h4
  have h5:=condW_of h4 (w_not (w_lt w_lit (w_len_list (w_arg rfl))));rw[List.length_map] at h5;refine Nat.le_of_not_lt λq=> ?_;have q':(n:Int) < ((ns.length:Nat):Int):=by lia
  first
   | (rw[decide_eq_true q'] at h5;exact absurd h5 (by decide))
   | (simp at h5;lia)
 cases hwl with
 | cons w1 w2=>
  cases w2;cases w1 with
  | list ho hall=>exact⟨_,_,ns,rfl,rfl,ho,oh ns _ hall,hlen⟩
theorem AJ(l:OpenLaw)(args:List WData):l.row.toRowW.claim.post args (.bool true) args=true:=
 postW_of (r:=l.row.toRowW) (X:=(true == true))
  (show WShape.has [] (.bool true) .bool=true by first | rfl | decide | simp [WShape.has,WShape.arms,WShape.armsAll])
  (show(WTm.eq .res (.lit (.bool true))).value [] { args:=args,res:=some (.bool true),after:=args}=some (.bool (true == true)) from w_eq_bool (w_res rfl) w_lit) rfl
theorem vB{l:OpenLaw}{n:Nat}{q:Program}{loose:List Str}{XP:(Str->Option Value)->Heap->Prop}{YP:World->Heap->Prop}{d:DefRec}
  (hn:l.most=some n) (hdf:d.params.defaults=[])
  (call:∀(w:World) (s₀ s₁:Shared) (mg mb:Str->Option Value) (fa:Addr) (o:Obj) (pm cd doc:Value) (a:Addr) (vs:List Value) (ns:List Int),
   Ground q loose [] XP w s₀ mg mb s₁.heap->YP w s₁.heap→
   s₁.heap.get? fa=some o->o.data=.func (docDef d.name d.params d.body d.scope pm cd doc)->s₁.heap.CodeRec cd d.name->mg d.name=some (.ref fa)→
   s₁.heap.get? a=some { cls:= .type "list",data:= .seq vs.toArray}->IntsAre vs ns->ns.length<=n->s₁.gens=#[]→
   codeAny (model l.prog w) callerA (.call (.ref fa) ⟨[.ref a],[]⟩) (λr s'=>r=.ok (.ret (.bool true))/\OldK s₁.heap s'.heap/\s'.os=s₁.os/\AllBare s'.gens) s₁):
  WalkO q loose XP YP l.row.toRowW d [] (λf vs=>PySem.call f vs):=by
 intro w s₀ s₁ mg mb G Y fa o pm cd doc dV kV ho hd hcd hD hmg hg args vals as hpre hlay hrd hwl hlo;obtain rfl:dV=.none:=Dflts.none hD hdf;obtain rfl:kV=.none:=Dflts.noKw hD;obtain⟨a,vs,ns,rfl,rfl,hobj,hints,hlen⟩:=AA hn hpre hwl;refine enter_call (codeAny_mono (call w s₀ s₁ mg mb fa o pm cd doc a vs ns G Y ho (fd_plain hd) hcd hmg hobj hints hlen hg) λr s' hq=> ?_);obtain⟨rfl,h2,h3,h4⟩:=hq;exact⟨.inl ⟨.bool true,.bool true,[],rfl,λ_=>rfl,.bool true,AJ l _,λ_=>⟨List.Pairwise.nil,λ_ hm=>(nomatch hm)⟩⟩,h2,h3,h4⟩
end Att
namespace L2
open PySem PySem.Spec PyProof.Rows
theorem sZ:∀{vs:List Value} {ns:List Int},IntsAre vs ns->Vals (ns.map V.int) vs
 | _,_,.nil=> .nil
 | _,_,.cons n t h=> .cons ⟨t,rfl⟩ (sZ h)
def EU(H:Hp):Prop:=∀b,H b=none\/∃o xs,H b=some (.frz o (.lst xs))
theorem By{P:Program}{w:World}{K:PySem.W.Frag}{mg mb:Str->Option Value}{CX:CXT}{k:Nat}{fa a:Addr}{fd:FuncData}{x:Str}{sp:Sp}{s₁:Shared}{vs:List Value}{ns:List Int}
  (KX:K.In s₁.heap) (hns:s₁.heap.Ns mainGlobals mg) (hb:s₁.heap.Ns builtinsNs mb) (hbb:∀x:Str,x≠"__name__"->mb x=bootBuiltins x) (hlim:s₁.heap.NoLimit) (hg:s₁.gens=#[])
  (ha:s₁.heap.get? a=some { cls:= .type "list",data:= .seq vs.toArray}) (hi:IntsAre vs ns) (hl:ns.length<=sizeLine) (hr:bx cm k callerA)
  (F:∀base:Heap,K.In base->base.Ns mainGlobals mg->aB P w K mg base CX cm k fa fd [x] sp) (hbind:∀(s:Shared) (u:Value),BindsTo s fd ⟨[u],[]⟩ [(x,u)])
  (hsp:∀H:Hp,EU H->SqL K H a (ns.map V.int)->sp [.ref a] H (λv _=>v=.bl true) λ_ _ _=>False)
  (hCX:∀H e s',CX [] H s₁ (λ_ _ _=>False) e s'->False):
  codeAny (model P w) callerA (.call (.ref fa) ⟨[.ref a],[]⟩) (λr s'=>r=.ok (.ret (.bool true))/\OldK s₁.heap s'.heap/\s'.os=s₁.os/\AllBare s'.gens) s₁:=by
 have rv:=sZ hi;have lenV:=hi.length
 have core:∀H:Hp,EU H->SqL K H a (ns.map V.int)->HOk P w H s₁.heap->(∀b,H b≠none->b=a)->(H a≠none->K.lookup a=none)→
   codeAny (model P w) callerA (.call (.ref fa) ⟨[.ref a],[]⟩) (λr s'=>r=.ok (.ret (.bool true))/\OldK s₁.heap s'.heap/\s'.os=s₁.os/\AllBare s'.gens) s₁:=by
  intro H hO hS hok hA hK;have base_of:∀{b:Addr} {o:Obj},s₁.heap.get? b=some o->H b=none->(vy s₁.heap H).get? b=some o:=λe n=>B8 e n
  have noA:∀{b:Addr} {o:Obj} {es:Array DictEntry} {ep:Nat},s₁.heap.get? b=some o->o.data=.dict es ep->H b=none:=λ{b o es ep} e d=>by
   cases q:H b with
   | none=>rfl
   | some u=>
    have e':b=a:=hA b (by rw[q];simp);subst e';rw[ha] at e;cases e;have d':Data.seq vs.toArray _=Data.dict es ep:=d;cases d'
  have nsK:∀{b:Addr} {m:Str->Option Value},s₁.heap.Ns b m->(vy s₁.heap H).Ns b m:=λ{b m} ⟨o,es,ep,e,d,r⟩=>⟨o,es,ep,base_of e (noA e d),d,r⟩
  have hKb:K.In (vy s₁.heap H):=λb o e=>base_of (KX b o e) (by
   cases q:H b with
   | none=>rfl
   | some u=>
    have e':b=a:=hA b (by rw[q];simp);subst e';rw[hK (by rw[q];simp)] at e;cases e)
  have hM:Mod K mg (vy s₁.heap H):=⟨hKb,nsK hns,⟨mb,nsK hb,hbb⟩,let ⟨mc,h1,h2⟩:=hlim;⟨mc,nsK h1,h2⟩⟩;have e0:xa P w K mg (vy s₁.heap H) callerA [] s₁ H:=⟨rfl,hM,λb o e=>Dv e,Nat.le_of_eq (Ae _ _),trivial,λb hb=>absurd (show b∈([]:List Addr) from hb) (by simp),hok,.of_eq hg,.inl rfl⟩;refine codeAny_mono ((F _ hKb (nsK hns)).run callerA [] s₁ H ⟨[.ref a],[]⟩ [.ref a] [.ref a] _ _ hr e0 (hbind s₁ (.ref a)) (.cons rfl .nil) (hsp H hO hS)) λr s' h=> ?_;cases r with
  | error e=>exact(hCX H e s' h).elim
  | ok fl=>
   cases fl with
   | next=>exact False.elim h
   | brk=>exact False.elim h
   | cont=>exact False.elim h
   | ret u=>
    obtain⟨v,H',os,bare,un,hok',r',q⟩:=h;have q':v=.bl true:=q;subst q';obtain rfl:u=Value.bool true:=r';refine⟨rfl,OldK.of_keep λb o e=> ?_,os,bare⟩;cases q:H b with
    | none=>exact un.keep b o e q (by intro z;exact absurd (show b∈([]:List Addr) from z) (by simp)) (by simp)
    | some u=>
     rcases hO b with z | ⟨ob,xs,z⟩
     .rw [q] at z;cases z
     .have z2:=un.sd b ob _ z;obtain⟨e1,_⟩:=hok b _ z;obtain⟨e2,_⟩:=hok' b _ z2;rw[e] at e1;cases e1;exact e2
 cases hk:K.lookup a with
 | some o=>
  have e:=KX a o hk;rw[ha] at e;cases e;refine core (λ_=>none) (λ_=> .inl rfl) (.inr ⟨_,vs.toArray,_,hk,rfl,rfl,rfl,by rw[List.size_toArray,lenV];exact hl,by simpa using rv⟩) (λb u z=>by have z':(none:Option HO)=some u:=z;cases z') (λb z=>absurd rfl z) λz=>absurd rfl z
 | none=>
  refine core (λb=>if b=a then some (.frz { cls:= .type "list",data:= .seq vs.toArray} (.lst (ns.map V.int))) else none) (λb=> ?_) (.inl (.inr ⟨{ cls:= .type "list",data:= .seq vs.toArray},if_pos rfl⟩)) (λb u z=> ?_) (λb z=> ?_) λ_=>hk
  .by_cases hb:b=a
   .exact .inr ⟨_,_,if_pos hb⟩
   .exact .inl (if_neg hb)
  .by_cases hb:b=a
   .have z':=(if_pos hb).symm.trans z;cases z';subst hb;exact⟨ha,by rw[List.length_map];exact hl,vs,_,rv,ha⟩
   .have z':=(if_neg hb).symm.trans z;cases z'
  .by_cases hb:b=a
   .exact hb
   .exact absurd (if_neg hb) z
theorem DY{l:PySem.W.OpenLaw}{n k:Nat}{q:Program}{loose:List Str}{XP:(Str->Option Value)->Heap->Prop}{YP:World->Heap->Prop}{d:DefRec}{K:Params->PySem.W.Frag}{CX:World->CXT}{sp:World->Sp}{x:Str}
  (hn:l.most=some n) (hn2:n<=sizeLine) (hdf:d.params.defaults=[]) (hr:bx cm k callerA)
  (hY:∀(w:World) (h:Heap),YP w h->(K w.params).In h)
  (F:∀(w:World) (mg:Str->Option Value) (fa:Addr) (h:Heap),(K w.params).In h->h.Ns mainGlobals mg->mg d.name=some (.ref fa)→
   ∃fd:FuncData,(∀(s:Shared) (u:Value),BindsTo s fd ⟨[u],[]⟩ [(x,u)])∧
    ∀base:Heap,(K w.params).In base->base.Ns mainGlobals mg->aB l.prog w (K w.params) mg base (CX w) cm k fa fd [x] (sp w))
  (hsp:∀(w:World) (H:Hp) (a:Addr) (ns:List Int),ns.length<=n->EU H->SqL (K w.params) H a (ns.map V.int)->sp w [.ref a] H (λv _=>v=.bl true) λ_ _ _=>False)
  (hCX:∀(w:World) (H:Hp) (s:Shared) (e:Value) (s':Shared),CX w [] H s (λ_ _ _=>False) e s'->False):
  PySem.W.WalkO q loose XP YP l.row.toRowW d [] (λf vs=>PySem.call f vs):=by
 refine Att.vB hn hdf λw s₀ s₁ mg mb fa o pm cd doc a vs ns G Y ho hd hcd hmg hobj hints hlen hg=> ?_;have KX:=hY w _ Y;obtain⟨fd,hb,hF⟩:=F w mg fa _ KX G.T.g hmg;exact By KX G.T.g G.T.b G.T.builtins G.T.nolimit hg hobj hints (Nat.le_trans hlen hn2) hr hF hb (λH hO hS=>hsp w H a ns hlen hO hS) λH e s'=>hCX w H s₁ e s'
def eJ(s:Stmt):Arguments:=match s with
 | .FunctionDef _ a _ _ _ _ _ _ _ _=>a
 | _=>{ posonlyargs:=[],args:=[],vararg:=none,kwonlyargs:=[],kw_defaults:=[],kwarg:=none,defaults:=[]}
def bf(s:Stmt):List Stmt:=match s with
 | .FunctionDef _ _ b _ _ _ _ _ _ _=>b
 | _=>[]
def ah(s:Stmt):Scope:=match s with
 | .FunctionDef _ _ _ _ _ _ sc _ _ _=>sc
 | _=>{ kind:= .function,names:=[],isGenerator:=false,isCoroutine:=false}
theorem qb{A:Around}{k:Nat}(hr:bx cm k A):A.units + 1 < cLine:=Nat.lt_of_le_of_lt (Nat.add_le_add_left (by decide:1<=64) _) hr.units
theorem aE{n:Nat}(h:n<=1000):n < sizeLine:=Nat.lt_of_le_of_lt h (by decide)
section
variable{X:Cx}
theorem pv(i:Nat){x:Str}{pos:Pos}(hN:X.N[i]? =some x:=by rfl)(hv:Vis X.env.scope x:=by first | exact Or.inl rfl | exact Or.inr (Or.inl rfl) | exact Or.inr (Or.inr rfl))(hd:(x == ("__debug__":Str))=false:=by decide)
  (hcd:(x == ("__classdict__":Str))=false:=by decide):PE X (.Name x pos) (F1 i):=E5 hN hv hd hcd
end
theorem bF{c A B:Prop}[Decidable c](h1:c->A)(h2:¬c->B):if c then A else B:=by
 by_cases h:c
 .rw [if_pos h];exact h1 h
 .rw [if_neg h];exact h2 h
def aF(H H':Hp):Prop:=∀b o,H b=some o->H' b=some o
theorem aF.refl(H:Hp):aF H H:=λ_ _ h=>h
theorem aF.trans{H H1 H2:Hp}(a:aF H H1)(b:aF H1 H2):aF H H2:=λc o h=>b c o (a c o h)
theorem aF.free{H H':Hp}(e:aF H H'){l:Addr}(h:H' l=Option.none):H l=Option.none:=by
 cases q:H l with
 | none=>rfl
 | some o=>
  rw[e l o q] at h;cases h
theorem aF.seq{K:PySem.W.Frag}{H H':Hp}{a:Addr}{xs:List V}(e:aF H H')(h:SqL K H a xs):SqL K H' a xs:=by
 rcases h with(h | ⟨o,h⟩) | h
 .exact .inl (.inl (e _ _ h))
 .exact .inl (.inr ⟨o,e _ _ h⟩)
 .exact .inr h
theorem exP{α:Sort _}{p r:α->Prop}{a:α}(e:p a)(h:r a):∃c,p c/\r c:=⟨a,e,h⟩
theorem ex2{α0:Sort _}{α1:Sort _}{R:α0->α1->Prop}(a:α0)(b:α1)(hh:R a b):∃a b,R a b:=⟨a,b,hh⟩
theorem ex3{α0:Sort _}{α1:Sort _}{α2:Sort _}{R:α0->α1->α2->Prop}(a:α0)(b:α1)(c:α2)(hh:R a b c):∃a b c,R a b c:=⟨a,b,c,hh⟩
theorem ex4{α0:Sort _}{α1:Sort _}{α2:Sort _}{α3:Sort _}{R:α0->α1->α2->α3->Prop}(a:α0)(b:α1)(c:α2)(d:α3)(hh:R a b c d):∃a b c d,R a b c d:=⟨a,b,c,d,hh⟩
theorem ex5{α0:Sort _}{α1:Sort _}{α2:Sort _}{α3:Sort _}{α4:Sort _}{R:α0->α1->α2->α3->α4->Prop}(a:α0)(b:α1)(c:α2)(d:α3)(e:α4)(hh:R a b c d e):∃a b c d e,R a b c d e:=⟨a,b,c,d,e,hh⟩
theorem ex7{α0:Sort _}{α1:Sort _}{α2:Sort _}{α3:Sort _}{α4:Sort _}{α5:Sort _}{α6:Sort _}{R:α0->α1->α2->α3->α4->α5->α6->Prop}(a:α0)(b:α1)(c:α2)(d:α3)(e:α4)(f:α5)(g:α6)(hh:R a b c d e f g):∃a b c d e f g,R a b c d e f g:=⟨a,b,c,d,e,f,g,hh⟩
theorem ex8{α0:Sort _}{α1:Sort _}{α2:Sort _}{α3:Sort _}{α4:Sort _}{α5:Sort _}{α6:Sort _}{α7:Sort _}{R:α0->α1->α2->α3->α4->α5->α6->α7->Prop}(a:α0)(b:α1)(c:α2)(d:α3)(e:α4)(f:α5)(g:α6)(h:α7)(hh:R a b c d e f g h):∃a b c d e f g h,R a b c d e f g h:=⟨a,b,c,d,e,f,g,h,hh⟩
theorem FV{α0:Sort _}{α1:Sort _}{α2:Sort _}{α3:Sort _}{α4:Sort _}{α5:Sort _}{α6:Sort _}{α7:Sort _}{α8:Sort _}{α9:Sort _}{R:α0->α1->α2->α3->α4->α5->α6->α7->α8->α9->Prop}(a:α0)(b:α1)(c:α2)(d:α3)(e:α4)(f:α5)(g:α6)(h:α7)(i:α8)(j:α9)(hh:R a b c d e f g h i j):∃a b c d e f g h i j,R a b c d e f g h i j:=⟨a,b,c,d,e,f,g,h,i,j,hh⟩
theorem an3{a b c:Prop}(ha:a)(hb:b)(hc:c):a/\b/\c:=⟨ha,hb,hc⟩
theorem an4{a b c d:Prop}(ha:a)(hb:b)(hc:c)(hd:d):a/\b/\c/\d:=⟨ha,hb,hc,hd⟩
theorem an5{a b c d e:Prop}(ha:a)(hb:b)(hc:c)(hd:d)(he:e):a/\b/\c/\d/\e:=⟨ha,hb,hc,hd,he⟩
theorem an6{a b c d e f:Prop}(ha:a)(hb:b)(hc:c)(hd:d)(he:e)(hf:f):a/\b/\c/\d/\e/\f:=⟨ha,hb,hc,hd,he,hf⟩
theorem an7{a b c d e f g:Prop}(ha:a)(hb:b)(hc:c)(hd:d)(he:e)(hf:f)(hg:g):a/\b/\c/\d/\e/\f/\g:=⟨ha,hb,hc,hd,he,hf,hg⟩
theorem an9{a b c d e f g h i:Prop}(ha:a)(hb:b)(hc:c)(hd:d)(he:e)(hf:f)(hg:g)(hh:h)(hi:i):a/\b/\c/\d/\e/\f/\g/\h/\i:=⟨ha,hb,hc,hd,he,hf,hg,hh,hi⟩
section
variable{K:PySem.W.Frag}{H:Hp}{f:Str}{a C dx:Addr}{fs:List (Str × V)}{v:V}
theorem iC{R:Addr->Addr->V->Prop}(h:H a=some (.ins C dx fs))(c:Cls K C)(n:bC K C f)(l:fs.lookup f=some v)(r:R a C v):∃a' C dx fs v,V.ref a=.ref a'/\H a'=some (.ins C dx fs)/\Cls K C/\bC K C f/\fs.lookup f=some v/\R a' C v:=⟨a,C,dx,fs,v,rfl,h,c,n,l,r⟩
theorem qo{R:Addr->Addr->Addr->List (Str × V)->Prop}(h:H a=some (.ins C dx fs))(c:Cls K C)(n:bC K C f)(l:fs.length < 1000)(r:R a C dx fs):∃a' C dx fs,V.ref a=.ref a'/\H a'=some (.ins C dx fs)/\Cls K C/\bC K C f/\fs.length < 1000/\R a' C dx fs:=⟨a,C,dx,fs,rfl,h,c,n,l,r⟩
theorem mJ{Dt:Addr->Sp->List V->Prop}{sp:Sp}{dvs:List V}{R:Addr->Sp->List V->Prop}(h:H a=some (.ins C dx fs))(d:Dt C sp dvs)(l:fs.lookup f=none)(r:R a sp dvs):∃a' C dx fs sp dvs,V.ref a=.ref a'/\H a'=some (.ins C dx fs)/\Dt C sp dvs/\fs.lookup f=none/\R a' sp dvs:=⟨a,C,dx,fs,sp,dvs,rfl,h,d,l,r⟩
theorem pQ{R:V->Prop}{p:Addr}{xs:List V}{i:Int}{v:V}(s:SqL K H p xs)(e:atI xs i=some v)(r:R v):∃p' xs i' v,V.ref p=.ref p'/\V.int i=.int i'/\SqL K H p' xs/\atI xs i'=some v/\R v:=⟨p,xs,i,v,rfl,rfl,s,e,r⟩
end
theorem Inv.Et{X:Cx}{pins:List (Addr × Obj)}{σ:St}{H:Hp}{s:Shared}{a:Addr}{o:HO}(I:Inv X pins σ H s)(hn:H a=none)(ha:X.s₀.heap.get? a=none)(hL:a≠X.env.locals)
  (hc:∀x c,X.env.cells.lookup x=some c->c≠a) (hp:∀p∈X.pn++pins,p.1≠a) (new:bM X.prog X.w (upd H a o) s.heap a o):Inv X pins σ (upd H a o) s:=by
 refine⟨I.ok,I.os,I.bare,⟨I.base.keep,I.base.slot,λb ob q n hx=> ?_,I.base.there,λb xs q=> ?_,λb ob u q=> ?_,λb ps q=> ?_⟩,I.loc,I.cell,?_,λx c e=> ?_,λp hp'=> ?_,λb u e=> ?_,I.len⟩
 .rw [ak λz=>by rw[z,ha] at q;cases q];exact I.base.free b ob q n hx
 .have z:=I.base.u4 b xs q;rw[ak (au z hn)];exact z
 .have z:=I.base.sd b ob u q;rw[ak (au z hn)];exact z
 .obtain ⟨more,z⟩:=I.base.uo b ps q;exact⟨more,by rw[ak (au z hn)];exact z⟩
 .rw [ak (Ne.symm hL)];exact I.free
 .rw [ak (hc x c e)];exact I.di x c e
 .obtain ⟨h1,h2,h3⟩:=I.pin p hp';exact⟨h1,by rw[ak (hp p hp')];exact h2,h3⟩
 .by_cases hb:b=a
  .subst hb;rw[ae] at e;cases e;exact new
  .rw [ak hb] at e;exact(I.hok b u e).u9 (λ_ _ _ q=>q) (λc q=>by rw[ak (au q hn)];exact q) λc xs q=>by rw[ak (au q hn)];exact q
section
variable{prog:Program}{w:World}{A:Around}{R:Result->Shared->Prop}{s:Shared}
theorem lQ{elt target iter:Expr}{ifs:List Expr}{scope:Scope}{pos:Pos}{it acc:Value}{env:Env}(I:Nat->Shared->Prop)
  (turn:∀n s,I n s->wpAny (model prog w) A (pyNext it) (λr s₁=>match r with
   | none=>R (.ok .next) s₁
   | some v=>wpAny (model prog w) A (letOwnedTupleGo target it v) (λ_ s₁'=>wpAny (model prog w) A (assign target env v) (λ_ s₂=>
     wpAny (model prog w) A (forIn ifs true λc r=>if r=true then do let ok<-isTrue c env (eval c env);pure (ForInStep.yield ok) else pure (ForInStep.yield r)) (λok s₃=>
      if ok=true then wpAny (model prog w) A (eval elt env) (λx s₄=>
       wpAny (model prog w) A (call (.builtin "list.append") [acc,x]) (λ_ s₅=>∃m,m < n/\I m s₅) (λ_ _=>False) s₄) (λ_ _=>False) s₃
      else ∃m,m < n/\I m s₃) (λ_ _=>False) s₂) (λ_ _=>False) s₁') (λ_ _=>False) s₁) (λ_ _=>False) s)
  (n:Nat) (h:I n s):
  codeAny (model prog w) A (.compLoop (.ListComp elt [⟨target,iter,ifs,0⟩] scope pos) 0 it acc env) R s:=by
 refine codeAny_loop rfl I (λn s hI=> ?_) n h;show wpAny _ A ((compTurn (.ListComp elt [⟨target,iter,ifs,0⟩] scope pos) 0 it acc env).onRaise (λx=>do noteFrame x env;theTreesLotGoes x)) _ _ s;refine wpAny_noted ?_;rw[compTurn_list];refine wpAny_bind (wpAny_standAt (wpAny_bind (wpAny_mono (turn n s hI) (λr s₁ h₁=> ?_) λ_ _ f=>f.elim)));cases r with
 | none=>exact wpAny_pure h₁
 | some v=>
  refine wpAny_bind (wpAny_mono h₁ (λ_ s₁' h₁'=> ?_) λ_ _ f=>f.elim);refine wpAny_bind (wpAny_mono h₁' (λ_ s₂ h₂=>wpAny_bind (wpAny_mono h₂ (λok s₃ h₃=> ?_) λ_ _ f=>f.elim)) λ_ _ f=>f.elim);cases ok with
  | false=>exact wpAny_pure ⟨rfl,h₃⟩
  | true=>
   exact wpAny_bind (wpAny_bind (wpAny_mono h₃ (λx s₄ h₄=>wpAny_bind (wpAny_mono h₄ (λ_ s₅ h₅=>wpAny_pure (wpAny_pure ⟨rfl,h₅⟩)) λ_ _ f=>f.elim)) λ_ _ f=>f.elim))
end
def PF(X:Cx)(ifs:List Expr)(t:TT):Prop:=
 ∀(pins:List (Addr × Obj)) (s:Shared) (σ:St) (H:Hp) (Q:Bool->Hp->Prop),Inv X pins σ H s->t σ H Q→
  wpAny (model X.prog X.w) X.A (forIn ifs true λc r=>if r=true then do let ok<-isTrue c X.env (eval c X.env);pure (ForInStep.yield ok) else pure (ForInStep.yield r)) (TP X pins σ Q) X.xe s
def GY:TT:=λ_ H Q=>Q true H
theorem vw{X:Cx}:PF X [] GY:=λ_ _ _ H _ I h=>wpAny_tests_nil ⟨H,I,h⟩
theorem Fn{X:Cx}{c:Expr}{t:TT}(h:PT X c t):PF X [c] t:=λpins s σ H Q I q=>wpAny_tests_one (h pins s σ H Q I q)
def Cx.comp(X:Cx)(NC:List Str)(scope:Scope)(cl:List (Str × Addr))(C:Addr)(fp:List Addr)(s2:Shared)(H2:Hp):Cx:=
 { X with N:=NC,s₀:=s2,H₀:=H2,env:=compEnvC scope cl C X.env,outer:=X.stack,ex:=fp,fn:=λ_=>false,pn:=[],xe:=λ_ _=>False}
def rO{α:Type}(P:α->Prop):List α->Prop
 | []=>True
 | a::r=>P a/\rO P r
theorem rO.mem{α:Type}{P:α->Prop}:∀{l:List α},rO P l->∀a∈l,P a
 | _::_,⟨h,_⟩,_,.head _=>h
 | _::_,⟨_,t⟩,_,.tail _ m=>rO.mem t _ m
structure ka(X:Cx)(scope:Scope)(x:Str)(fr:List (Str × Nat))(cl:List (Str × Addr)):Prop where
 kind:scope.kind=.function
 C6:closureFor scope X.env=pure cl
 qO:∀y∈scope.names,y.2≠ .cell
 names:∀y∈scope.names,y.2=.local->scope.names.lookup y.1=some .local
 own:scope.names.lookup x=some .local
 nd:(x::fr.map (·.1)).Nodup
 cells:rO (λp:Str × Addr=>X.env.cells.lookup p.1=some p.2) cl
 has:rO (λy:Str × NameKind=>y.2=.free->∃c,cl.lookup y.1=some c) scope.names
 slot:rO (λp:Str × Nat=>X.N[p.2]? =some p.1/\(X.env.kindOf p.1=some .cell\/X.env.kindOf p.1=some .free)/\scope.names.lookup p.1=some .free/\cl.lookup p.1=X.env.cells.lookup p.1) fr
theorem ka.cell{X:Cx}{scope:Scope}{x:Str}{fr:List (Str × Nat)}{cl:List (Str × Addr)}(S:ka X scope x fr cl){y:Str}{c:Addr}(e:cl.lookup y=some c):X.env.cells.lookup y=some c:=
 S.cells.mem _ (PySem.mem_of_lookup e)
theorem gN{scope:Scope}{env:Env}{y:Str}:∀{l:List (Str × NameKind)} {k:NameKind},
  (l.map λ(n,k)=>if (k == NameKind.free && env.scope.kind == .function && env.kindOf n == some .cell) then (n,NameKind.cell) else (n,k)).lookup y=some k→
  ∃k0,l.lookup y=some k0/\(k=k0\/(k0=.free/\k=.cell))
 | [],_,h=>by simp at h
 | (n,k0)::r,k,h=>by
  have ih:=@gN scope env y r k;have h:List.lookup y ((if (k0 == NameKind.free && env.scope.kind == .function && env.kindOf n == some .cell)=true then (n,NameKind.cell) else (n,k0))::(r.map λ(n,k)=>if (k == NameKind.free && env.scope.kind == .function && env.kindOf n == some .cell) then (n,NameKind.cell) else (n,k)))=some k:=h;cases hx:y == n with
  | true=>
   refine⟨k0,by simp [List.lookup_cons,hx],?_⟩;by_cases hc:(k0 == NameKind.free && env.scope.kind == .function && env.kindOf n == some .cell)=true
   .rw [if_pos hc] at h;simp only [List.lookup_cons,hx] at h;simp only [Bool.and_eq_true,beq_iff_eq] at hc;exact .inr ⟨hc.1.1,(Option.some.inj h).symm⟩
   .rw [if_neg hc] at h;simp only [List.lookup_cons,hx] at h;exact .inl (Option.some.inj h).symm
  | false=>
   have h':List.lookup y (r.map λ(n,k)=>if (k == NameKind.free && env.scope.kind == .function && env.kindOf n == some .cell) then (n,NameKind.cell) else (n,k))=some k:=by
    by_cases hc:(k0 == NameKind.free && env.scope.kind == .function && env.kindOf n == some .cell)=true
    .rw [if_pos hc] at h;simpa only [List.lookup_cons,hx] using h
    .rw [if_neg hc] at h;simpa only [List.lookup_cons,hx] using h
   obtain⟨k1,e1,e2⟩:=ih h';exact⟨k1,by simpa [List.lookup_cons,hx] using e1,e2⟩
theorem kS{scope:Scope}{env:Env}{y:Str}:∀{l:List (Str × NameKind)},l.lookup y=some .free→
  (l.map λ(n,k)=>if (k == NameKind.free && env.scope.kind == .function && env.kindOf n == some .cell) then (n,NameKind.cell) else (n,k)).lookup y=some .free∨
  (l.map λ(n,k)=>if (k == NameKind.free && env.scope.kind == .function && env.kindOf n == some .cell) then (n,NameKind.cell) else (n,k)).lookup y=some .cell
 | [],h=>by simp at h
 | (n,k0)::r,h=>by
  have ih:=@kS scope env y r;show List.lookup y ((if (k0 == NameKind.free && env.scope.kind == .function && env.kindOf n == some .cell)=true then (n,NameKind.cell) else (n,k0))::_)=_\/List.lookup y ((if (k0 == NameKind.free && env.scope.kind == .function && env.kindOf n == some .cell)=true then (n,NameKind.cell) else (n,k0))::_)=_;cases hx:y == n with
  | true=>
   simp only [List.lookup_cons,hx] at h;cases h;by_cases hc:(NameKind.free == NameKind.free && env.scope.kind == .function && env.kindOf n == some .cell)=true
   .rw [if_pos hc];exact .inr (by simp [List.lookup_cons,hx])
   .rw [if_neg hc];exact .inl (by simp [List.lookup_cons,hx])
  | false=>
   simp only [List.lookup_cons,hx] at h;by_cases hc:(k0 == NameKind.free && env.scope.kind == .function && env.kindOf n == some .cell)=true
   .rw [if_pos hc];simpa only [List.lookup_cons,hx] using ih h
   .rw [if_neg hc];simpa only [List.lookup_cons,hx] using ih h
def inner(σ:St)(fr:List (Str × Nat))(v:Option V):St:=v::fr.map λp=>(σ[p.2]?).join
section
variable{X:Cx}{pins:List (Addr × Obj)}{σ:St}{H2:Hp}{s2:Shared}{scope:Scope}{x:Str}{fr:List (Str × Nat)}{cl:List (Str × Addr)}{C:Addr}{fp:List Addr}
theorem zr(S:ka X scope x fr cl)(I:Inv X pins σ H2 s2)(hC:s2.heap.objs.size<=C)(hf:∀b∈fp,bR X pins H2 b)(hfo:∀b∈fp,b < s2.heap.objs.size):
  (X.comp (x::fr.map (·.1)) scope cl C fp s2 H2).Ok where
 mod:=I.mod
 kind:=S.kind
 glob:=I.ok.glob
 blt:=I.ok.blt
 above:=hC
 inj:=λy z c h1 h2=>I.ok.inj y z c (S.cell h1) (S.cell h2)
 has:=λy hy=>by
  have hy:(relabel scope X.env).names.lookup y=some .cell\/(relabel scope X.env).names.lookup y=some .free:=hy
  have key:∀k,(relabel scope X.env).names.lookup y=some k->(k=.cell\/k=.free)->∃c,cl.lookup y=some c:=λk hk hkk=>by
   obtain⟨k0,e1,e2⟩:=gN (scope:=scope) hk;have hm:=PySem.mem_of_lookup e1
   have hfr:k0=.free:=by
    rcases e2 with e2 | e2
    .subst e2;rcases hkk with z | z
     .exact absurd z (S.qO _ hm)
     .exact z
    .exact e2.1
   exact S.has.mem _ hm hfr
  rcases hy with z | z
  .exact key _ z (.inl rfl)
  .exact key _ z (.inr rfl)
 cab:=λy c h _=>absurd (show(false:Bool)=true from h) (by decide)
 hd:=I.ok.hd
 cl:=by
  rcases I.cl with z | ⟨e,o,vs,z,h1,h2,h3,h4,h5,h6,h7⟩
  .exact .inl z
  .refine .inr ⟨e,o,vs,z,h1,h2,.inr ⟨h3,h4,λhm=> ?_,λhm=> ?_⟩⟩
   .rcases List.mem_cons.mp (I.mX e hm) with y | y
    .exact h6 y
    .exact h5 y
   .rcases h7 with y | ⟨y,y2⟩
    .exact (hf e hm).2.2.2.2.2 _ (List.mem_append_left _ y) rfl
    .rcases (hf e hm).2.2.2.1 with q | q
     .exact y2 q
     .rw [q] at y;cases y
 frames:=I.ok.frames
 stk:= .inl rfl
 exf:=λb hb=>⟨Nat.ne_of_lt (Nat.lt_of_lt_of_le (hfo b hb) hC),λy c e=>(hf b hb).2.2.2.2.1 y c (S.cell e)⟩
 bs:=I.bs
 bsz:=Nat.le_trans I.ok.bsz I.sz
 rZ:=λb o e hb=>by
  rcases(hf b hb).2.2.2.1 with z | z
  .exact I.ok.rZ b o e z
  .have q:=(I.ok.bs b o e).1;rw[z] at q;cases q
 rP:=λb hb hm=>by
  rcases List.mem_cons.mp (I.mX b hm) with z | z
  .exact (hf b hb).2.1 z
  .exact (hf b hb).2.2.1 z
 iA:=I.stack
 frf:=I.o8
theorem BX{h1:Heap}{t1:Nat}(S:ka X scope x fr cl)(I:Inv X pins σ H2 s2)(hC:s2.heap.objs.size<=C)(hf:∀b∈fp,bR X pins H2 b)(hfo:∀b∈fp,b < s2.heap.objs.size)
  (old:∀b o,s2.heap.get? b=some o->h1.get? b=some o) (hn:h1.Ns C λ_=>none) {D:Addr} {oD:Obj} (hD:h1.get? D=some oD) (hDn:s2.heap.objs.size<=D) (hDC:D≠C) (hDc:∀v,oD.data≠ .cell v):
  Inv (X.comp (x::fr.map (·.1)) scope cl C fp s2 H2) [(D,oD)] (inner σ fr none) H2 { s2 with heap:=h1,toks:=t1} where
 ok:=zr S I hC hf hfo
 os:=rfl
 bare:=I.bare
 base:=Un.kept old
 loc:=by
  refine⟨_,hn,λi y v e1 e2 e3=> ?_⟩;obtain⟨m,hm,hl⟩:=I.loc;cases i with
  | zero=>simp [inner] at e2
  | succ i=>
   have e1:(fr.map (·.1))[i]? =some y:=e1;have e2:(fr.map λp=>(σ[p.2]?).join)[i]? =some (some v):=e2;rw[List.getElem?_map] at e1 e2;cases q:fr[i]? with
   | none=>rw[q] at e1;cases e1
   | some p=>
    rw[q] at e1 e2;have e1:p.1=y:=Option.some.inj e1;have e2:(σ[p.2]?).join=some v:=Option.some.inj e2;subst e1;obtain⟨n1,n2,n3,n4⟩:=S.slot.mem p (List.mem_of_getElem? q)
    have e2':σ[p.2]? =some (some v):=by
     cases r:σ[p.2]? with
     | none=>rw[r] at e2;cases e2
     | some r0=>
      rw[r] at e2;cases r0 with
      | none=>cases e2
      | some r1=>rw[show r1=v from Option.some.inj e2]
    have vis:Vis X.env.scope p.1:=by
     rcases n2 with z | z
     .exact .inr (.inl z)
     .exact .inr (.inr z)
    obtain⟨u,ru,lk⟩:=hl p.2 p.1 v n1 e2' vis;refine⟨u,ru,.inr ⟨?_,?_⟩⟩
    .have:=kS (scope:=scope) (env:=X.env) n3;rcases this with z | z
     .exact .inr z
     .exact .inl z
    .rcases lk with⟨k,_⟩ | ⟨_,c,ec,ic⟩
     .rcases n2 with z | z <;> (rw[z] at k;cases k)
     .refine ⟨c,n4.trans ec,?_⟩;obtain⟨o,ho,hd⟩:=ic;exact⟨o,old _ _ ho,hd⟩
 cell:=λy c e=>by
  obtain⟨v,o,ho,hd⟩:=I.cell y c (S.cell e);exact⟨v,o,old _ _ ho,hd⟩
 free:=I.hok.fresh hC
 di:=λy c e=>I.di y c (S.cell e)
 pin:=λp hp=>by
  have hp:p=(D,oD):=by simpa [Cx.comp] using hp
  subst hp;refine⟨hD,I.hok.fresh hDn,hDC,λhm=> ?_,hDc⟩;obtain⟨_,o,ho,_⟩:=I.stack.mem (show D∈X.stack.filterMap (·.frame) from hm);exact absurd (Nat.lt_of_lt_of_le (Heap.lt_size ho) hDn) (Nat.lt_irrefl _)
 hok:=I.hok.kept old
 len:=by simp [inner,Cx.comp]
end
abbrev ij(its:List Value)(n:Nat):Obj:={ cls:= .type "list",data:= .seq its.toArray n}
def Cb(J:It)(σ:St)(fr:List (Str × Nat))(tf:TT)(te:TE)(H1:Hp)(Q:VK):Prop:=∃W:Nat->Nat->List V->Hp->Prop,(∃m,W 0 m [] H1)/\∀i m ys H',W i m ys H'→
 (J.stop i H'/\ys.length<=sizeLine/\∀p,H' p=none->Q (.ref p) (upd H' p (.lst ys)))∨
 (J.go i H'/\∃N:List V->Hp->Prop,(∀zs H5,N zs H5->∃m',m' < m/\W (i + 1) m' zs H5)/\∀v H2,J.yld i H' v H2->tf (inner σ fr (some v)) H2 λok H3=>
  if ok=true then te (inner σ fr (some v)) H3 λy H4=>ys.length < sizeLine/\N (ys++[y]) H4 else N ys H3)
def Ep(wi:TI)(fr:List (Str × Nat))(tf:TT)(te:TE):TE:=λσ H Q=>wi σ H λJ H1=>Cb J σ fr tf te H1 Q
section
variable{X:Cx}{scope:Scope}{x:Str}{fr:List (Str × Nat)}{cl:List (Str × Addr)}{px pos:Pos}{iter elt:Expr}{ifs:List Expr}{wi:TI}{tf:TT}{te:TE}
theorem wq(S:ka X scope x fr cl)(hc:X.calm=X.calm)
  (hf:∀C fp s2 H2,PF (X.comp (x::fr.map (·.1)) scope cl C fp s2 H2) ifs tf) (he:∀C fp s2 H2,PE (X.comp (x::fr.map (·.1)) scope cl C fp s2 H2) elt te)
  {pins:List (Addr × Obj)} {σ:St} {s2:Shared} {H2:Hp} {it:Addr} {fp:List Addr} {tn:Nat->Heap->Prop} {J:It} {Q:V->Hp->Prop} {E:Value->Shared->Prop} {RR:Value->Addr->Result->Shared->Prop}
  (I:Inv X pins σ H2 s2) (T:Turn X.prog X.w X.K (.Name x px) J fp it tn) (st:tn 0 s2.heap) (fo:∀b∈fp,bR X pins H2 b)
  (h:Cb J σ fr tf te H2 Q)
  (fin:∀D C m s' H',Inv X pins σ H' s'->s'.heap.Ns C m->bR X pins H' C->Q (.ref D) H'->RR (.ref D) C (.ok .next) s'):
  wpAny (model X.prog X.w) X.A (newList []) (λacc s₃=>wpAny (model X.prog X.w) X.A (newFunctionEnv scope X.env.globals cl [] X.env.qual none .none (some X.env)) (λcenv s₄=>
   codeAny (model X.prog X.w) X.A (.compStart (.ListComp elt [⟨.Name x px,iter,ifs,0⟩] scope pos) 0 (.ref it) acc { cenv with scope:=relabel scope X.env}) (RR acc cenv.locals) s₄) E s₃) E s2:=by
 obtain⟨W,⟨m0,w0⟩,turn⟩:=h;refine wpAny_newObj_type (wpAny_newFunctionEnv S.qO (by intro y hy;simp at hy) (λh₁ hns₁ hsb₁=> ?_) S.kind);dsimp only at hns₁ hsb₁ ⊢;generalize hH2:s2.heap.push { cls:= .type "list",dict:=none,data:= .seq ([]:List Value).toArray}=G2 at hns₁ hsb₁ ⊢;have hC:G2.objs.size=s2.heap.objs.size + 1:=by rw[<- hH2,Heap.size_push]
 have hDC:s2.heap.objs.size≠G2.objs.size:=by rw[hC];exact Nat.ne_of_lt (Nat.lt_succ_self _)
 have hCle:s2.heap.objs.size<=G2.objs.size:=by rw[hC];exact Nat.le_succ _
 have below:∀b,b < s2.heap.objs.size->b≠G2.objs.size:=λb hb=>by rw[hC];exact Nat.ne_of_lt (Nat.lt_succ_of_lt hb)
 have old:∀b o,s2.heap.get? b=some o->h₁.get? b=some o:=λb o e=>hsb₁.extBut b o (below b (Heap.lt_size e)) (Heap.get?_push_of_some _ (hH2 ▸ Heap.get?_push_of_some _ e));have hacc:h₁.get? s2.heap.objs.size=some (ij [] 0):=hsb₁.extBut _ _ hDC (Heap.get?_push_of_some _ (hH2 ▸ Heap.get?_push_size _ rfl))
 have fob:∀b∈fp,b < s2.heap.objs.size:=λb hb=>by
  obtain⟨o,e,_⟩:=T.obj _ _ st b hb;exact Heap.lt_size e
 generalize hDD:s2.heap.objs.size=D at *;generalize hCC:G2.objs.size=C at *;have nsE:(λy:Str=>([]:List (Str × Value)).reverse.lookup y)=λ_=>none:=rfl;have hns₁:h₁.Ns C λ_=>none:=hns₁;have IY:=BX (t1:=s2.toks + ([]:List (Str × Value)).length) S I (C:=C) (by rw[hDD];exact hCle) fo (λb hb=>by rw[hDD];exact fob b hb) old hns₁ hacc (by rw[hDD];exact Nat.le_refl _) hDC (λv z=>by cases z);have st₁:tn 0 h₁:=T.keep _ _ _ st λb hb o e=>old b o e
 let Y:Cx:=X.comp (x::fr.map (·.1)) scope cl C fp s2 H2
 have fpY:∀{H':Hp} {oD:Obj},(∀b∈fp,H' b=none)->∀b∈fp,bR Y [(D,oD)] H' b:=λ{H' oD} hn b hb=>
  ⟨hn b hb,below b (fob b hb),λhm=>(zr S I (C:=C) (by rw[hDD];exact hCle) fo (λb hb=>by rw[hDD];exact fob b hb)).rP b hb hm,.inl hb,λy c e=>(fo b hb).2.2.2.2.1 y c (S.cell e),λp hp=>by
   have hp:p=(D,oD):=by simpa [Y,Cx.comp] using hp
   subst hp;exact Nat.ne_of_gt (fob b hb)⟩
 have nNd:Y.N.Nodup:=S.nd;have pg:PG Y (.Name x px) (ib 0):=b6 (i:=0) nNd rfl (.inl (lookup_relabel_local S.own)) (.inr (lookup_relabel_local S.own))
 have loop:∀s3:Shared,s3={ s2 with heap:=h₁,toks:=s2.toks + ([]:List (Str × Value)).length}→
   codeAny (model X.prog X.w) X.A (.compLoop (.ListComp elt [⟨.Name x px,iter,ifs,0⟩] scope pos) 0 (.ref it) (.ref D) (compEnvC scope cl C X.env)) (RR (.ref D) C) s3:=by
  rintro s3 rfl;refine lQ (λn s'=>∃i v H' ys its k,Inv Y [(D,ij its k)] (inner σ fr v) H' s'/\tn i s'.heap/\(∀b∈fp,H' b=none)/\Vals ys its/\W i n ys H') ?_ m0 ⟨0,none,H2,[],[],0,IY,st₁,λb hb=>(fo b hb).1,.nil,w0⟩;rintro n s3 ⟨i,v0,H3,ys,its,k,I3,st3,fr3,vs3,w3⟩;rcases turn i n ys H3 w3 with⟨stop,hz,qn⟩ | ⟨go,N,hN,step⟩
  .refine thn (T.done Y rfl rfl rfl hc i _ s3 _ H3 _ I3 (fpY fr3) st3 stop) λr s4 zz=> ?_;obtain⟨hr,I4⟩:=zz;subst hr;have pD:=I4.pin (D,ij its k) (List.mem_append_right _ (List.mem_singleton.mpr rfl));obtain⟨mC,hmC,_⟩:=I4.loc;have nC:H3 C=none:=I4.free;have IX:Inv X pins σ H3 s4:=I.BS I4.os I4.base I4.hok I4.bare λb hb=>⟨(fo b hb).2.2.2.1,(fo b hb).2.1,(fo b hb).2.2.2.2.1,(fo b hb).2.2.2.2.2⟩;have lt2:∀{b:Addr},b < D->b < s2.heap.objs.size:=λh=>by rw[hDD];exact h
   have nL:∀a,D<=a->a≠X.env.locals/\(∀y c,X.env.cells.lookup y=some c->c≠a)/\(∀p∈X.pn++pins,p.1≠a)/\a∉X.fs:=λa ha=>by
    have ha':s2.heap.objs.size<=a:=by rw[hDD];exact ha
    have z:=I.vm (H':=H2) ha' (I.hok.fresh ha');exact⟨z.2.1,z.2.2.2.2.1,z.2.2.2.2.2,z.2.2.1⟩
   have sz:∀a,D<=a->X.s₀.heap.get? a=none:=λa ha=>Heap.get?_none_of_le (Nat.le_trans I.sz (by rw[hDD];exact ha));obtain⟨d1,d2,d3,d4⟩:=nL D (Nat.le_refl _);have IT:=IX.Et (a:=D) (o:= .lst ys) pD.2.1 (sz D (Nat.le_refl _)) d1 d2 d3 ⟨hz,its,k,vs3,pD.1⟩;obtain⟨c1,c2,c3,c4⟩:=nL C hCle;exact fin D C mC s4 _ IT hmC ⟨by rw[ak (Ne.symm hDC)];exact nC,c1,c4,.inr (sz C hCle),c2,c3⟩ (qn D pD.2.1)
  .refine thn (T.item Y rfl rfl rfl hc i _ s3 _ H3 _ I3 (fpY fr3) st3 go) λr s4 zz=> ?_;obtain⟨u,hr,h4⟩:=zz;subst hr;refine thn h4 λ_ s5 zz=> ?_;obtain⟨v,H5,I5,r5,y5,st5,fr5⟩:=zz;have I5':=I5.pinned (fpY fr5) (T.obj _ _ st5);have ev:(inner σ fr v0).set 0 (some v)=inner σ fr (some v):=rfl;refine thn (pg _ s5 _ H5 v u _ I5' r5 (show ib 0 v (inner σ fr v0) H5 (λσ6 H6=>σ6=inner σ fr (some v)/\H6=H5) from⟨ev,rfl⟩)) λ_ s6 zz=> ?_;obtain⟨σ6,H6,I6,e6,e6'⟩:=zz;subst e6;subst e6';refine thn (hf C fp s2 H2 _ s6 _ _ _ I6 (step v _ y5)) λok s7 zz=> ?_;obtain⟨H7,I7,q7⟩:=zz
   have back:∀{vv:Option V} {H':Hp} {s':Shared} {its':List Value} {k':Nat},Inv Y ([(D,ij its' k')]++cV fp s5.heap) (inner σ fr vv) H' s'->Inv Y [(D,ij its' k')] (inner σ fr vv) H' s'/\tn (i + 1) s'.heap/\∀b∈fp,H' b=none:=λ{vv H' s' its' k'} J'=>by
    refine⟨J'.jj,T.keep _ _ _ st5 λb hb o e=>(J'.pin (b,o) (List.mem_append_right _ (List.mem_append_right _ (dn hb e)))).1,λb hb=> ?_⟩;obtain⟨o,e,d⟩:=T.obj _ _ st5 b hb;exact(J'.pin (b,o) (List.mem_append_right _ (List.mem_append_right _ (dn hb e)))).2.1
   cases ok with
   | false=>
    obtain⟨m',hm,w7⟩:=hN _ _ q7;obtain⟨J1,J2,J3⟩:=back I7;exact⟨m',hm,i + 1,some v,H7,ys,its,k,J1,J2,J3,vs3,w7⟩
   | true=>
    refine thn (he C fp s2 H2 _ s7 _ _ _ I7 q7) λuy s8 zz=> ?_;obtain⟨y,H8,I8,r8,q8⟩:=zz;obtain⟨hz,q8⟩:=q8;obtain⟨m',hm,w8⟩:=hN _ _ q8;have pD:=I8.pin (D,ij its k) (List.mem_append_right _ (List.mem_append_left _ (List.mem_singleton.mpr rfl)));have hlen:=vs3.length;refine call_meets F.slot_list_append ⟨_,pD.1,rfl⟩ F.entry_list_append (F.args_list_append_2 _ _) (PySem.list_append D its.toArray k uy (by rw[List.size_toArray];lia)) ⟨pD.1,?_⟩;have q:=PySem.IsL.update pD.1 (·.push uy);have eq1:its.toArray.push uy=(its++[uy]).toArray:=by simp
    rw[eq1] at q;obtain⟨k',q⟩:∃k',(s8.heap.update D (Obj.mapSeq (·.push uy))).get? D=some (ij (its++[uy]) k'):=⟨_,q⟩;have oth:∀b o,b≠D->s8.heap.get? b=some o->(s8.heap.update D (Obj.mapSeq (·.push uy))).get? b=some o:=λb o hb e=>(Heap.get?_update_other s8.heap _ (Ne.symm hb)).trans e;have I8':Inv Y (cV fp s5.heap) (inner σ fr (some v)) H8 s8:=I8.jw λp hp=>I8.pin p (List.mem_append_right _ (List.mem_append_right _ hp))
    have nDp:∀p∈Y.pn++cV fp s5.heap,p.1≠D:=λp hp=>by
     have hp:p∈cV fp s5.heap:=by simpa [Y,Cx.comp] using hp
     exact Nat.ne_of_lt (fob _ (mP hp).1)
    have nDc:∀y c,Y.env.cells.lookup y=some c->c≠D:=λy c e z=>by
     obtain⟨vv,o,ho,hd⟩:=I8.cell y c e;rw[z,pD.1] at ho;cases ho;cases hd
    have I9:=I8'.turned (t':=s8.toks) (it:=D) oth pD.2.1 hDC (.inr (by show s2.heap.get? D=none;exact Heap.get?_none_of_le (by rw[hDD];exact Nat.le_refl _))) nDc nDp
    have I10:Inv Y ([(D,ij (its++[uy]) k')]++cV fp s5.heap) (inner σ fr (some v)) H8 { s8 with heap:=s8.heap.update D (Obj.mapSeq (·.push uy)),toks:=s8.toks}:=I9.jw λp hp=>by
     rcases List.mem_append.mp hp with z | z
     .have z:p=(D,ij (its++[uy]) k'):=List.mem_singleton.mp z;subst z;exact⟨q,pD.2.1,hDC,pD.2.2.2.1,λvv z=>by cases z⟩
     .exact I9.pin p (List.mem_append_right _ z)
    obtain⟨J1,J2,J3⟩:=back I10;exact⟨m',hm,i + 1,some v,H8,ys++[y],its++[uy],k',J1,J2,J3,vs3.append (.cons r8 .nil),w8⟩
 exact codeAny_compStart_list (loop _ rfl) (T.self _ 0 _ _ _ st₁ (loop _ rfl))
theorem uS(S:ka X scope x fr cl)(hc:X.calm=X.calm)(hi:PI X (.Name x px) iter wi)
  (hf:∀C fp s2 H2,PF (X.comp (x::fr.map (·.1)) scope cl C fp s2 H2) ifs tf) (he:∀C fp s2 H2,PE (X.comp (x::fr.map (·.1)) scope cl C fp s2 H2) elt te)
  (hs:∀v,foldedSetIterable iter X.env v=pure v:=by intro _;rfl):PE X (.ListComp elt [⟨.Name x px,iter,ifs,0⟩] scope pos) (Ep wi fr tf te):=by
 intro pins s σ H Q I h;rw[eval_ListComp];refine wpAny_comprehension_free (use:=none) rfl hs S.C6 S.kind S.names (thn (hi pins s σ H _ I h) λv s1 h1=>thn h1 λitv s2 h2=> ?_);obtain⟨it,fp,tn,J,H2,e,I2,T,st2,f2,h2⟩:=h2;subst e;refine wq (Q:=Q) (RR:=λacc C=>compPost (model X.prog X.w) X.A X.xe none (EP X pins σ Q) acc C) S hc hf he I2 T st2 f2 h2 ?_;intro D C m s' H' I' hm fC q;refine⟨m,hm,λh' sb=> ?_⟩;exact⟨.ref D,H',I'.turned (t':=s'.toks) (λb o hb e=>(sb.2 b hb).trans e) fC.1 fC.2.1 fC.2.2.2.1 fC.2.2.2.2.1 fC.2.2.2.2.2,rfl,q⟩
theorem yk{y:Str}{py spos:Pos}{j:Nat}(hN:X.N.Nodup)(hj:X.N[j]? =some y)(hy:Loc X.env.scope y)(S:ka X scope x fr cl)(hc:X.calm=X.calm)(hi:PI X (.Name x px) iter wi)
  (hf:∀C fp s2 H2,PF (X.comp (x::fr.map (·.1)) scope cl C fp s2 H2) ifs tf) (he:∀C fp s2 H2,PE (X.comp (x::fr.map (·.1)) scope cl C fp s2 H2) elt te)
  (hsw:swapsWith (.ListComp elt [⟨.Name x px,iter,ifs,0⟩] scope pos) (some (.Name y py)) spos.line X.env=pure true:=by rfl)
  (hfn:X.fn y=true\/X.env.scope.names.lookup y=some .local:=by first | exact .inl rfl | exact .inr rfl | assumption)
  (hs:∀v,foldedSetIterable iter X.env v=pure v:=by intro _;rfl):PS X (.Assign [.Name y py] (.ListComp elt [⟨.Name x px,iter,ifs,0⟩] scope pos) spos) (Bp (Ep wi fr tf te) (ib j)):=by
 intro pins s σ H D I h;rw[exec_Assign_Name_used _ _ _ _ hsw];refine wpAny_bind (wpAny_standAt (wpAny_bind ?_));show wpAny _ X.A (do let _<-comprehension (.ListComp elt [⟨.Name x px,iter,ifs,0⟩] scope pos) scope X.env _ (newList []) false (eval iter X.env) (some (assign (.Name y py) X.env))) _ _ s
 refine wpAny_bind (wpAny_mono (wpAny_comprehension_free (use:=some (assign (.Name y py) X.env)) (Q:=λ_ s'=>SP X pins D .next s') rfl hs S.C6 S.kind S.names
  (thn (hi pins s σ H _ I h) λv s1 h1=>thn h1 λitv s2 h2=> ?_)) (λ_ s' hq=>wpAny_pure (wpAny_pure hq)) λ_ _ e=>e)
 obtain⟨it,fp,tn,J,H2,e,I2,T,st2,f2,h2⟩:=h2;subst e;refine wq (Q:=λv H'=>ib j v σ H' D.nx) (RR:=λacc C=>compPost (model X.prog X.w) X.A X.xe (some (assign (.Name y py) X.env)) (λ_ s'=>SP X pins D .next s') acc C) S hc hf he I2 T st2 f2 h2 ?_;intro D' C m s' H' I' hm fC q;show wpAny _ X.A (assign (.Name y py) X.env (.ref D')) _ _ _;refine wpAny_assign_Name (ml I' hN hj hy (show RelV (.ref D') (.ref D') from rfl) (λs3 I3 zz=> ?_) hfn);obtain⟨a,sb,ha⟩:=zz
 have nCa:C≠a:=by
  rcases ha with z | z
  .rw [z];exact fC.2.1
  .exact λw=>fC.2.2.2.2.1 y a z w.symm
 refine⟨m,hm.sameBut sb nCa,λh' sb'=> ?_⟩;exact⟨_,H',I3.turned (t':=s3.toks) (λb o hb e=>(sb'.2 b hb).trans e) fC.1 fC.2.1 fC.2.2.2.1 fC.2.2.2.2.1 fC.2.2.2.2.2,q⟩
end
theorem gL{J:It}{n:Nat}{σ:St}{fr:List (Str × Nat)}{tf:TT}{te:TE}{H:Hp}{Q:VK}(Pv:Nat->List V->Hp->Prop)(h0:Pv 0 [] H)(go:∀i ys H',i < n->Pv i ys H'->J.go i H')(stop:∀ys H',Pv n ys H'->J.stop n H')
  (step:∀i ys H' v H2,i < n->Pv i ys H'->J.yld i H' v H2->tf (inner σ fr (some v)) H2 λok H3=>if ok=true then te (inner σ fr (some v)) H3 λy H4=>ys.length < sizeLine/\Pv (i + 1) (ys++[y]) H4 else Pv (i + 1) ys H3)
  (fin:∀ys H',Pv n ys H'->ys.length<=sizeLine/\∀p,H' p=none->Q (.ref p) (upd H' p (.lst ys))):
  Cb J σ fr tf te H Q:=by
 refine⟨λi m ys H'=>Pv i ys H'/\i<=n/\m=n - i,⟨n,h0,Nat.zero_le _,rfl⟩,?_⟩;rintro i m ys H' ⟨hp,hi,rfl⟩;by_cases e:i=n
 .subst e;obtain⟨f1,f2⟩:=fin ys H' hp;exact .inl ⟨stop ys H' hp,f1,f2⟩
 .have hlt:i < n:=Nat.lt_of_le_of_ne hi e;exact .inr ⟨go i ys H' hlt hp,λzs H5=>Pv (i + 1) zs H5,λzs H5 q=>⟨n - (i + 1),by omega,q,hlt,rfl⟩,λv H2 y=>step i ys H' v H2 hlt hp y⟩
def uA(h:Heap)(e:Addr)(cls:Value)(d:Option Addr):Option (Addr × Value)->Prop
 | none=>∃oe vs,h.get? e=some oe/\oe.cls=cls/\oe.dict=d/\oe.data=.fields vs/\vs[1]? =some .none/\vs[2]? =some .none
 | some (T,fl)=>T≠e/\(∃oe vs,h.get? e=some oe/\oe.cls=cls/\oe.dict=d/\oe.data=.fields vs/\vs[1]? =some (.ref T)/\vs[2]? =some .none)/\∃oT ts,h.get? T=some oT/\oT.data=.fields ts/\ts[3]? =some fl
structure Nt(fs ch:List Addr)(h h':Heap):Prop where
 keep:∀b o,b∉fs->b∉ch->h.get? b=some o->h'.get? b=some o
 slot:∀b o,b∉ch->h.get? b=some o->∃sl,h'.get? b=some { o with slots:=sl}
theorem Nt.refl(fs ch:List Addr)(h:Heap):Nt fs ch h h:=⟨λ_ _ _ _ e=>e,λ_ o _ e=>⟨o.slots,e⟩⟩
theorem Nt.trans{fs ch:List Addr}{h h1 h2:Heap}(a:Nt fs ch h h1)(b:Nt fs ch h1 h2):Nt fs ch h h2:=
 ⟨λc o h1 h2 e=>b.keep c o h1 h2 (a.keep c o h1 h2 e),λc o hc e=>by
  obtain⟨_,e1⟩:=a.slot c o hc e;obtain⟨sl,e2⟩:=b.slot c _ hc e1;exact⟨sl,e2⟩⟩
theorem Nt.mono{fs ch ch':List Addr}{h h':Heap}(a:Nt fs ch h h')(s:∀b∈ch,b∈ch'):Nt fs ch' h h':=
 ⟨λc o h1 h2 e=>a.keep c o h1 (λz=>h2 (s c z)) e,λc o hc e=>a.slot c o (λz=>hc (s c z)) e⟩
section
variable{M:Model}{A:Around}{E:Value->Shared->Prop}{s:Shared}{base:Heap}{env:Env}{outer:List Env}{L e:Addr}
theorem mD{T:Addr}{oT:Obj}{ts:Array Value}{k:Nat}{v:Value}{Q:Unit->Shared->Prop}(hT:s.heap.get? T=some oT)(hd:oT.data=.fields ts)(hk:k < ts.size)
  (h:∀h',h'.get? T=some (oT.mapFields (·.setIfInBounds k v))->(∀b,b≠T->h'.get? b=s.heap.get? b)->h'.objs.size=s.heap.objs.size->Q () { s with heap:=h'}):wpAny M A (setField (.ref T) k v) Q E s:=by
 refine wpAny_setField hT hd hk (h _ ?_ (λb hb=>Heap.get?_update_other _ _ (Ne.symm hb)) (Heap.size_after_update ..));exact Heap.get?_update_self _ hT (Obj.isFreed_of_fields (Obj.data_mapFields hd _))
theorem pL{oe:Obj}{vs:Array Value}{head:Value}{had:Bool}{Q:Unit->Shared->Prop}(hfr:A.frames=some (env::outer))(hl:s.heap.FunFrames base (env::outer))(hf:env.frame=some L)
  (he:s.heap.get? e=some oe) (hd:oe.data=.fields vs) (hsz:1 < vs.size)
  (h:∀h' T oT ts,Nt (frs (env::outer)) [e] s.heap h'->s.heap.get? T=none->s.heap.objs.size<=T->h'.get? e=some (oe.mapFields (·.setIfInBounds 1 (.ref T)))->h'.get? T=some oT->oT.data=.fields ts→
   ts[3]? =some (rawInt L)->Q () { s with heap:=h'}):
  wpAny M A (do let a<-frameOf env;let pl<-entryPlaceOf L had;let b<-EntryCells.newEntry head a .none (rawInt L) .none pl;setField (.ref e) 1 b) Q E s:=by
 have ne:e∉frs (env::outer):=λhm=>by
  obtain⟨_,o,ho,nf⟩:=hl.mem hm;rw[he] at ho;cases ho;exact nf vs hd
 refine wpAny_bind (wpAny_frameOf_fun hfr hl hf λh1 s1=>wpAny_bind (wpAny_entryPlaceOf λpl hpl=> ?_));unfold EntryCells.newEntry newFields;refine wpAny_bind (wpAny_newObj_type ?_ (hpl.sizeOk5 _ _ _ _ _));have e1:h1.get? e=some oe:=(s1.2.1 e ne).trans he;have neT:h1.objs.size≠e:=Nat.ne_of_gt (Heap.lt_size e1);refine mD (Heap.get?_push_of_some _ e1) hd hsz λh2 g1 g2 _=> ?_;refine h h2 h1.objs.size _ _ ⟨λb o hb hc q=> ?_,λb o hc q=> ?_⟩ (Heap.get?_none_of_le (by rw[s1.1];exact Nat.le_refl _)) (by rw[s1.1];exact Nat.le_refl _) g1 ((g2 _ neT).trans (Heap.get?_push_size _ rfl)) rfl ?_
 .have hb':b≠e:=λz=>hc (by rw[z];exact List.mem_singleton.mpr rfl);rw[g2 b hb'];exact Heap.get?_push_of_some _ ((s1.2.1 b hb).trans q)
 .have hb':b≠e:=λz=>hc (by rw[z];exact List.mem_singleton.mpr rfl);obtain⟨sl,z⟩:=s1.2.2 b o q;exact⟨sl,by rw[g2 b hb'];exact Heap.get?_push_of_some _ z⟩
 .first | (simp;done) | (rcases hpl with rfl | ⟨_,_,_,_,_,_,_,rfl⟩ <;> simp)
def C1(L:Addr):Option (Addr × Value)->Prop
 | none=>True
 | some (_,fl)=>fl=.none\/fl=rawInt L
def AD:Option (Addr × Value)->List Addr
 | none=>[]
 | some (T,_)=>[T]
theorem BF{cls:Value}{d:Option Addr}{tr:Option (Addr × Value)}{Q:Unit->Shared->Prop}(hfr:A.frames=some (env::outer))(hl:s.heap.FunFrames base (env::outer))(hf:env.frame=some L)
  (x:uA s.heap e cls d tr) (hk:C1 L tr)
  (h:∀h' T',Nt (frs (env::outer)) (e::AD tr) s.heap h'->(T'∈AD tr\/(s.heap.get? T'=none/\s.heap.objs.size<=T'))->uA h' e cls d (some (T',rawInt L))->Q () { s with heap:=h'}):
  wpAny M A (noteFrame (.ref e) env) Q E s:=by
 cases tr with
 | none=>
  obtain⟨oe,vs,he,hc,hdd,hd,h1,h2⟩:=x;have hsz:1 < vs.size:=(Array.getElem?_eq_some_iff.mp h1).1;unfold noteFrame;simp only [hf];refine wpAny_bind (wpAny_field he hd h1 ?_);rw[if_neg (by decide)];refine pL hfr hl hf he hd hsz λh' T oT ts n hT hTz g1 g2 g3 g4=>h h' T n (.inr ⟨hT,hTz⟩) ⟨?_,⟨_,_,g1,?_,?_,Obj.data_mapFields hd _,by simp [hsz],(Array.getElem?_setIfInBounds_ne (by decide)).trans h2⟩,oT,ts,g2,g3,g4⟩
  .intro z;rw[z,he] at hT;cases hT
  .rw [Obj.cls_mapFields];exact hc
  .obtain ⟨c,dd,dt,sl⟩:=oe;cases dt <;> exact hdd
 | some p=>
  obtain⟨T,fl⟩:=p;obtain⟨hTe,⟨oe,vs,he,hc,hdd,hd,h1,hn⟩,oT,ts,gT,gd,g3⟩:=x;have hsz:1 < vs.size:=(Array.getElem?_eq_some_iff.mp h1).1;have hsz3:3 < ts.size:=(Array.getElem?_eq_some_iff.mp g3).1;rcases hk with rfl | rfl
  .unfold noteFrame;simp only [hf];refine wpAny_bind (wpAny_field he hd h1 ?_);rw[if_pos (show(Value.ref T != Value.none)=true from by simp)];refine wpAny_bind (wpAny_field gT gd g3 ?_);rw[if_neg (show ¬((Value.none == rawInt L)=true) from by simp [rawInt])];refine wpAny_bind (mD gT gd hsz3 λh2 k1 k2 k3=> ?_);have nt0:Nt (frs (env::outer)) [e,T] s.heap h2:=⟨λb o _ hb q=>by rw[k2 b λz=>hb (by simp [z])];exact q,λb o hb q=>⟨o.slots,by rw[k2 b λz=>hb (by simp [z])];exact q⟩⟩;have hl2:h2.FunFrames base (env::outer):=hl.of_keeps λb o q nf=>⟨o,by rw[k2 b λz=>by rw[z,gT] at q;cases q;exact nf ts gd];exact q,rfl⟩;refine pL (s:={ s with heap:=h2}) hfr hl2 hf ((k2 e (Ne.symm hTe)).trans he) hd hsz λh' T' oT' ts' n hT hTz g1 g2 g3' g4=>h h' T' (nt0.trans (n.mono (by simp))) (.inr ⟨?_,?_⟩) ⟨?_,⟨_,_,g1,?_,?_,Obj.data_mapFields hd _,by simp [hsz],(Array.getElem?_setIfInBounds_ne (by decide)).trans hn⟩,oT',ts',g2,g3',g4⟩
   .by_cases z:T'=T
    .rw [z,k1] at hT;cases hT
    .rw [<- k2 T' z];exact hT
   .exact k3 ▸ hTz
   .intro z;rw[z,k2 e (Ne.symm hTe),he] at hT;cases hT
   .rw [Obj.cls_mapFields];exact hc
   .obtain ⟨c,dd,dt,sl⟩:=oe;cases dt <;> exact hdd
  .refine wpAny_noteFrame_inFlight hf he hd h1 gT gd g3 ?_;exact h s.heap T (Nt.refl _ _ _) (.inl (by simp [AD])) ⟨hTe,⟨oe,vs,he,hc,hdd,hd,h1,hn⟩,oT,ts,gT,gd,g3⟩
theorem nS{T:Addr}{cls fl:Value}{d:Option Addr}{Q:Unit->Shared->Prop}(x:uA s.heap e cls d (some (T,fl)))
  (h:∀h',Nt [] [T] s.heap h'->uA h' e cls d (some (T,.none))->Q () { s with heap:=h'}):wpAny M A (setFlight (.ref e) none) Q E s:=by
 obtain⟨hTe,⟨oe,vs,he,hc,hdd,hd,h1,hn⟩,oT,ts,gT,gd,g3⟩:=x;have hsz3:3 < ts.size:=(Array.getElem?_eq_some_iff.mp g3).1;unfold setFlight;refine wpAny_bind (wpAny_field he hd h1 ?_);rw[if_pos (show(Value.ref T != Value.none)=true from by simp)];refine mD gT gd hsz3 λh' k1 k2 _=>h h' ⟨λb o _ hb q=>by rw[k2 b λz=>hb (by simp [z])];exact q,λb o hb q=>⟨o.slots,by rw[k2 b λz=>hb (by simp [z])];exact q⟩⟩ ?_;exact⟨hTe,⟨oe,vs,(k2 e (Ne.symm hTe)).trans he,hc,hdd,hd,h1,hn⟩,_,_,k1,Obj.data_mapFields gd _,by simp [hsz3]⟩
end
theorem Nt.EA{fs fs' ch:List Addr}{h h':Heap}(a:Nt fs ch h h')(s:∀b∈fs,b∈fs'):Nt fs' ch h h':=⟨λc o h1 h2 e=>a.keep c o (λz=>h1 (s c z)) h2 e,a.slot⟩
section
variable{X:Cx}{pins:List (Addr × Obj)}{σ:St}{H:Hp}{s:Shared}
theorem Inv.Er{h':Heap}{ch:List Addr}{t':Nat}(I:Inv X pins σ H s)(n:Nt (frs X.stack) ch s.heap h')(hch:∀b∈ch,bR X pins H b):Inv X pins σ H { s with heap:=h',toks:=t'}:=by
 refine I.call (g':=s.gens) (d':=s.drawn) (t':=t') (ch:=ch) ⟨λb o q _ hb hx=>n.keep b o hb hx q,λb o q _ _ hx=>n.slot b o hx q,λ_ _ _ z _=>z,λb o q hx=> ?_,λ_ _ z=>z,λ_ _ _ z=>z,λb ps z=>⟨#[],by rw[z];simp⟩⟩ ?_ I.bare
  λb hb=>⟨(hch b hb).2.2.2.1,(hch b hb).2.1,(hch b hb).2.2.2.2.1,(hch b hb).2.2.2.2.2⟩
 .obtain ⟨sl,z⟩:=n.slot b o hx q;exact⟨_,z⟩
 .intro b u e;refine(I.hok b u e).u9 (λc v hc q=> ?_) (λ_ z=>z) λ_ _ z=>z
  have hH:H c≠none:=by
   rcases hc with z | z
   .rw [z,e];intro q;cases q
   .rw [z];intro q;cases q
  exact n.keep c v (λz=>hH (I.o8 c z)) (λz=>hH (hch c z).1) q
theorem Inv.y8{H':Hp}{b:Addr}(I:Inv X pins σ H s)(hb:s.heap.get? b=none)(hn:H' b=none):bR X pins H' b:=by
 have ne:∀c o,s.heap.get? c=some o->c≠b:=λc o e z=>by rw[z,hb] at e;cases e
 refine⟨hn,?_,λhm=> ?_,?_,λx c e=> ?_,λp hp=> ?_⟩
 .obtain ⟨m,⟨o,_,_,ho,_⟩,_⟩:=I.loc;exact Ne.symm (ne _ o ho)
 .obtain ⟨_,o,ho,_⟩:=I.iA.mem hm;exact ne _ o ho rfl
 .by_cases hx:b∈X.ex
  .exact .inl hx
  .refine .inr ?_;cases q:X.s₀.heap.get? b with
   | none=>rfl
   | some o=>
    obtain⟨o',z⟩:=I.base.there b o q hx;rw[hb] at z;cases z
 .obtain ⟨v,o,ho,_⟩:=I.cell x c e;exact ne _ o ho
 .exact ne _ _ (I.pin p hp).1
theorem Inv.sM{b:Addr}(I:Inv X pins σ H s)(hb:s.heap.get? b=none):H b=none:=by
 cases q:H b with
 | none=>rfl
 | some o=>
  have z:=I.hok b o q
  have:∃ob,s.heap.get? b=some ob:=by
   cases o with
   | lst xs=>obtain⟨_,_,_,_,e⟩:=z;exact⟨_,e⟩
   | tup xs=>obtain⟨_,_,_,ob,e,_⟩:=z;exact⟨_,e⟩
   | dK kvs=>obtain⟨_,_,_,_,ob,_,_,e,_⟩:=z;exact⟨_,e⟩
   | dT kvs=>obtain⟨_,_,_,_,ob,_,_,e,_⟩:=z;exact⟨_,e⟩
   | set S n=>obtain⟨ob,_,_,_,e,_⟩:=z;exact⟨_,e⟩
   | ins C dx fs=>obtain⟨_,_,_,e,_⟩:=z;exact⟨_,e⟩
   | own y=>obtain⟨_,e⟩:=z;exact⟨_,e⟩
   | xd fs=>obtain⟨_,⟨_,_,_,e,_⟩,_⟩:=z;exact⟨_,e⟩
   | rng lo hi=>obtain⟨_,_,_,e⟩:=z;exact⟨_,e⟩
   | frz ob u=>obtain⟨e,_⟩:=z;exact⟨_,e⟩
   | tbl ps=>exact⟨_,show s.heap.get? b=some _ from z⟩
   | met f y=>exact⟨_,show s.heap.get? b=some _ from z⟩
   | ext φ=>obtain⟨_,⟨_,e⟩,_⟩:=z;exact⟨_,e⟩
  obtain⟨ob,e⟩:=this;rw[hb] at e;cases e
end
def CXE(P:Program)(w:World):CXT:=λouter H s E ev s'=>∃(e:Addr) (cls:Value) (d:Option Addr) (T:Addr) (H':Hp),ev=.ref e/\s'.os=s.os/\AllBare s'.gens/\Un (frs outer) [] H H' s.heap s'.heap/\HOk P w H' s'.heap∧
 uA s'.heap e cls d (some (T,.none))/\(H' e=none/\s.heap.get? e=none)/\(H' T=none/\s.heap.get? T=none)/\E cls d H'
structure Arr(X:Cx)(pins:List (Addr × Obj))(σ:St)(H:Hp)(s:Shared)(e:Addr)(cls:Value)(d:Option Addr):Prop where
 inv:Inv X pins σ H s
 tr:∃tr,uA s.heap e cls d tr/\C1 X.env.locals tr/\∀T∈AD tr,bR X pins H T
 fp:bR X pins H e
def Throws(X:Cx)(E:St->XK):Prop:=∀(pins:List (Addr × Obj)) (σ:St) (H:Hp) (s:Shared) (e:Addr) (cls:Value) (d:Option Addr),Arr X pins σ H s e cls d->E σ cls d H->X.xe (.ref e) s
def CL(X:Cx):Prop:=X.stack=X.env::X.outer/\X.env.frame=some X.env.locals/\X.ex=[]
section
variable{X:Cx}{pins:List (Addr × Obj)}{σ:St}{H:Hp}{s:Shared}{e:Addr}{cls:Value}{d:Option Addr}
theorem Arr.land{M:Model}{E:Value->Shared->Prop}{Q:Unit->Shared->Prop}(a:Arr X pins σ H s e cls d)(hd:CL X)
  (h:∀h' T,Inv X pins σ H { s with heap:=h'}->uA h' e cls d (some (T,.none))->bR X pins H T->Q () { s with heap:=h'}):
  wpAny M X.A (noteFrame (.ref e) X.env) (λ_ s2=>wpAny M X.A (setFlight (.ref e) none) Q E s2) E s:=by
 obtain⟨tr,x,hk,ft⟩:=a.tr;refine BF (base:=X.base) (by rw[<- hd.1];exact a.inv.ok.frames) (by rw[<- hd.1];exact a.inv.stack) hd.2.1 x hk λh1 T' n hT x1=> ?_
 have fT:bR X pins H T':=by
  rcases hT with z | ⟨z,_⟩
  .exact ft T' z
  .exact a.inv.y8 z (a.inv.sM z)
 refine nS x1 λh2 n2 x2=>h h2 T' ?_ x2 fT
 have nn:Nt (frs X.stack) (e::T'::AD tr) s.heap h2:=by
  rw[hd.1];refine(n.mono λb hb=> ?_).trans ((n2.mono λb hb=> ?_).EA λb hb=>absurd hb (by simp))
  .rcases List.mem_cons.mp hb with z | z
   .rw [z];exact List.mem_cons_self
   .exact List.mem_cons_of_mem _ (List.mem_cons_of_mem _ z)
  .rw [List.mem_singleton.mp hb];exact List.mem_cons_of_mem _ List.mem_cons_self
 refine a.inv.Er (t':=s.toks) nn λb hb=> ?_;rcases List.mem_cons.mp hb with z | z
 .rw [z];exact a.fp
 .rcases List.mem_cons.mp z with z | z
  .rw [z];exact fT
  .exact ft b z
theorem passes{E:St->XK}(ht:Throws X E):Passes (CXE X.prog X.w) X E:=λpins σ H s ev s' I h=>by
 obtain⟨e,cls,d,T,H',rfl,os,bare,un,hok,x,⟨n1,g1⟩,⟨n2,g2⟩,q⟩:=h;have I':Inv X pins σ H' s':=I.BS os un hok bare λb hb=>absurd hb (by simp);exact ht pins σ H' s' e cls d ⟨I',⟨_,x,.inl rfl,λT' hT=>by rw[List.mem_singleton.mp hT];exact I.y8 g2 n2⟩,I.y8 g1 n1⟩ q
end
theorem yp{P:Program}{w:World}{K:PySem.W.Frag}{mg:Str->Option Value}{base:Heap}{N:List Str}{qual:Str}{scope:Scope}{f:Addr}{cd:Value}{A:Around}{outer:List Env}{s0:Shared}{H0:Hp}{E:XK}{cm:Bool}:
  Throws (ip cm (CXE P w) P w K mg base N qual scope f cd A outer s0 H0 E) λ_=>E:=λpins σ H s e cls d a q=>by
 show wpAny (model P w) (A.deeper (envOfC qual scope s0.heap.objs.size f cd)) (leaving (envOfC qual scope s0.heap.objs.size f cd) (.ref e)) _ _ s;unfold leaving;refine wpAny_bind (a.land ⟨rfl,rfl,rfl⟩ λh' T I' x' fT=>⟨e,cls,d,T,H,rfl,I'.os,I'.bare,I'.base,I'.hok,x',⟨a.fp.1,?_⟩,⟨fT.1,?_⟩,q⟩)
 .rcases a.fp.2.2.2.1 with z | z
  .exact absurd (show e∈([]:List Addr) from z) (by simp)
  .exact z
 .rcases fT.2.2.2.1 with z | z
  .exact absurd (show T∈([]:List Addr) from z) (by simp)
  .exact z
abbrev bmV:List Value:=[.type "ValueError",.type "Exception",.type "BaseException",.type "object"]
abbrev rS(K:PySem.W.Frag)(C:Addr):Prop:=PySem.W.excIn K C bmV "ValueError.__new__"=true
theorem rS.obj{K:PySem.W.Frag}{C:Addr}{h:Heap}(q:rS K C)(k:K.In h):∃bm N nm qn bs hdct sn sub ab col dd k0 k1 k2 k3 k5 mN,
  h.get? C=some (excClassObj nm qn C N bs bm hdct sn sub ab col dd k0 k1 k2 k3 k5 "ValueError.__new__")/\h.Ns N mN/\mN "__init__"=none/\OwnTail h bmV bm:=by
 unfold rS PySem.W.excIn at q
 split at q
 .rename_i dd cd sl ho
  split at q
  .rename_i C' bm k0 k1 k2 k3 n k5 hm hs
   simp only [Bool.and_eq_true,beq_iff_eq,Bool.not_eq_true'] at q;obtain⟨⟨⟨⟨⟨rfl,rfl⟩,hdel⟩,ht⟩,hok⟩,hni⟩:=q;obtain⟨nm,bs,mro,ns,qn,hd,sn,sub,ab,col,del⟩:=cd;dsimp only at hm hdel hok hni;subst hm hdel;obtain⟨l⟩:=sl;dsimp only at hs;subst hs;exact⟨bm,ns,nm,qn,bs,hd,sn,sub,ab,col,dd,k0,k1,k2,k3,k5,_,k _ _ ho,.of_isNs (PySem.W.isNs_of_in k hok),PySem.W.nsMap_none_of_in k hok hni,PySem.W.tail_of_in k ht⟩
  .cases q
 .cases q
def EM(C:Addr)(E:St->XK)(ta:TA):TS:=λ_ σ H=>ta σ H λvs H1=>vs.length<=sizeLine/\E σ (.ref C) none H1
section
variable{X:Cx}{x:Str}{C:Addr}{np cpos pos:Pos}{a:Expr}{es:List Expr}{ta:TA}{E:St->XK}
theorem xS{pins:List (Addr × Obj)}{σ:St}{H:Hp}{s:Shared}{h':Heap}{e:Addr}{vs:List Value}(ht:Throws X E)(I:Inv X pins σ H s)(m:Heap.MadeExcOf s.heap h' e (.ref C) vs)(q:E σ (.ref C) none H):
  X.xe (.ref e) { s with heap:=h'}:=by
 obtain⟨t,h1,_,_⟩:=m.there;exact ht pins σ H _ e (.ref C) none ⟨I.kept (t':=s.toks) m.keeps,⟨none,⟨_,_,h1,rfl,rfl,rfl,rfl,rfl⟩,trivial,λT hT=>absurd hT (by simp [AD])⟩,I.y8 m.new (I.sM m.new)⟩ q
theorem B3(hc:X.calm=false)(ht:Throws X E)(xc:rS X.K C)(hg:Gl X x)(hm:X.mg x=some (.ref C))(ha:PA X (a::es) ta)(hd:(x == ("__debug__":Str))=false:=by decide)
  (he:starEach (a::es) X.env=(false,eval a X.env)::starEach es X.env:=by rfl) (hpl:(backTo cpos (starEach es X.env)).any (·.1)=false:=by rfl):
  PS X (.Raise (some (.Call (.Name x np) (a::es) [] cpos)) none pos) (EM C E ta):=by
 intro pins s σ H D I h;obtain⟨bm,N,nm,qn,bs,hdct,sn,sub,ab,col,dd,k0,k1,k2,k3,k5,mN,hC,hN,hni,T⟩:=xc.obj I.mod.kin
 refine wpAny_Raise_call_subT (C:=C) (nm:=nm) (q:=qn) (N:=N) (bs:=bs) (bm:=bm) (hdct:=hdct) (sn:=sn) (sub:=sub) (ab:=ab) (col:=col) (dd:=dd) (k0:=k0) (k1:=k1) (k2:=k2) (k3:=k3) (k5:=k5)
  PySem.F.excBase_ValueError (mN:=mN) (T.hasType PySem.F.excBase_ValueError.hasBase) (I.ok.hd hc) (by rw[he];show(false || (backTo cpos (starEach es X.env)).any (·.1))=false;rw[hpl];rfl) hni (jx I hg hm ⟨rfl,?_⟩ hd)
 have w:=ha cpos pins s σ H _ I h;rw[he] at w ⊢;refine Calls.evalArgs_plain (wpAny_mono w (λus s2 h2=> ?_) λ_ _ y=>y);obtain⟨vs,H2,I2,r2,hl,q⟩:=h2;exact⟨rfl,by rw[<- r2.length];exact hl,I2.bk _ _ hC,hN.keeps I2.bk,T.keeps I2.bk,λh' e m=>xS ht I2 m q⟩
end
end L2
namespace Cut
open PySem PySem.Builtin PySem.Builtin.Str
def at'(n d:Nat):Option Int->Nat
 | none=>d
 | some i=>if i < 0 then (i + (n:Int)).toNat else min i.toNat n
theorem pick{α:Type}(xs:List α)(a k:Nat)(h:a + k<=xs.length):((List.range k).map (· + a)).filterMap (λi=>xs[i]?)=(xs.drop a).take k:=by
 induction k with
 | zero=>simp
 | succ k ih=>
  rw[List.range_succ,List.map_append,List.filterMap_append,ih (by lia)];have hlt:k + a < xs.length:=by lia
  have h1:xs[k + a]? =some xs[k + a]:=List.getElem?_eq_getElem hlt;have h2:(xs.drop a)[k]? =some xs[k + a]:=by rw[List.getElem?_drop,Nat.add_comm a k];exact h1
  rw[List.take_add_one,h2];simp [h1]
theorem indices(lo hi:Option Int)(n:Nat):strSliceIndices lo hi 1 n=(List.range (at' n n hi - at' n 0 lo)).map (· + at' n 0 lo):=by
 have key:∀(a b:Nat),a<=n->b<=n->sliceRange (a:Int) (b:Int) 1=(List.range (b - a)).map (· + a):=by
  intro a b _ _;unfold sliceRange
  have e:(if (1:Int) > 0 then (if (a:Int) < b then ((b:Int) - a + 1 - 1) / 1 else 0) else (if (a:Int) > b then ((a:Int) - b - 1 - 1) / (-1) else 0)).toNat=b - a:=by
   rw[if_pos (by decide)]
   split
   .rw [Int.ediv_one];lia
   .simp only [Int.toNat_zero];lia
  dsimp only;rw[e];refine List.map_congr_left λk _=> ?_
  lia
 have clip:∀(v:Option Int) (d:Nat),d<=n->(match v with
   | none=>(d:Int)
   | some i=>max 0 (min (if i < 0 then i + (n:Int) else i) (n:Int)))=((at' n d v:Nat):Int)/\at' n d v<=n:=by
  intro v d hd;cases v with
  | none=>exact⟨rfl,hd⟩
  | some i=>
   unfold at';by_cases h:i < 0
   .simp only [h,if_true];lia
   .simp only [h,if_false];lia
 obtain⟨e1,l1⟩:=clip lo 0 (Nat.zero_le _);obtain⟨e2,l2⟩:=clip hi n (Nat.le_refl _);rw[<- key _ _ l1 l2,<-e1,<-e2];unfold strSliceIndices;cases lo <;> cases hi <;> simp
theorem le(n d:Nat)(hd:d<=n)(v:Option Int):at' n d v<=n:=by
 cases v with
 | none=>exact hd
 | some i=>unfold at';dsimp only;split <;> lia
theorem signs(x:Str)(lo hi:Option Int):(Txt.slice x lo hi).cps.toList=(x.cps.toList.drop (at' x.length 0 lo)).take (at' x.length x.length hi - at' x.length 0 lo):=by
 have l1:=le x.length 0 (Nat.zero_le _) lo;have l2:=le x.length x.length (Nat.le_refl _) hi;have hl:x.cps.toList.length=x.length:=Array.length_toList;unfold Txt.slice;rw[indices]
 split
 .rename_i h
  have e:at' x.length x.length hi - at' x.length 0 lo=x.length:=by simpa using h
  have a0:at' x.length 0 lo=0:=by lia
  rw[a0,List.drop_zero,List.take_of_length_le (by lia)]
 .show (List.filterMap (λi=>x.cps[i]?) _)=_;have e:(λi:Nat=>x.cps[i]?)=λi=>x.cps.toList[i]? :=by funext i;simp
  rw[e,pick]
  lia
end Cut
namespace L2
open PySem PySem.Spec PyProof.Rows
section
variable{X:Cx}
def Hf:V->Option Int->Option Int->Hp->VK->Prop:=λx lo hi H Q=>∃z,x=.str z/\z.length<=sizeLine/\Q (.str (Txt.slice z lo hi)) H
theorem FO:SlR X Hf:=by
 intro pins s σ H x v vl vu lo hi sl Q I rx hs pl pu h;obtain⟨z,rfl,hz,q⟩:=h;obtain⟨t,rfl⟩:=(show ∃t,v=Value.str z t from rx);refine⟨"str",_,F.slot_str_getitem.lookup,typeIs_str _ _ _,?_⟩;have fin:∀t' k,EP X pins σ Q (.str (Txt.slice z lo hi) t') { s with toks:=k}:=λt' k=>⟨.str _,H,I.tok k,⟨t',rfl⟩,q⟩;have le:=Nat.le_trans (Txt.slice_le z lo hi) hz;cases pl with
 | none=>
  cases pu with
  | none=>exact wpAny_getItem_str_slice (l:=none) (u:=none) (st:=none) hs rfl (post_val_or_str ⟨le,fin⟩)
  | int j uj=>exact wpAny_getItem_str_slice (l:=none) (u:=some (j,uj)) (st:=none) hs rfl (post_val_or_str ⟨le,fin⟩)
 | int i ui=>
  cases pu with
  | none=>exact wpAny_getItem_str_slice (l:=some (i,ui)) (u:=none) (st:=none) hs rfl (post_val_or_str ⟨le,fin⟩)
  | int j uj=>exact wpAny_getItem_str_slice (l:=some (i,ui)) (u:=some (j,uj)) (st:=none) hs rfl (post_val_or_str ⟨le,fin⟩)
theorem jV:lV X (.type "int") (λxs H Q=>∃z n,xs=[.str z]/\PySem.intText? z=some n/\z.length<=640/\Q (.int n) H):=by
 intro pins s σ H xs us Q I r h;obtain⟨z,n,rfl,hn,hl,q⟩:=h;obtain⟨u,rfl,ru⟩:=vals1 r;obtain⟨t,rfl⟩:=(show ∃t,u=Value.str z t from ru);exact PySem.W.KIN.call_text hn hl ⟨.int n,H,I.tok _,⟨_,rfl⟩,q⟩
def Its(z:Str):It:=⟨λi _=>i < z.cps.size,λi H x H'=>H'=H/\∃c,z.cps[i]? =some c/\x=.str ⟨#[c]⟩,λi _=>i=z.cps.size⟩
def Wk(P:Program)(w:World)(A:Around)(it:Addr)(z:Str)(t:Tok)(ty:String):Prop:=(∀(i:Nat) (s:Shared) (Q:Option Value->Shared->Prop) (E:Value->Shared->Prop),i < z.cps.size->s.heap.IsStrIter it ty z t i->(∀v h' tk,SignAt z i v->h'.IsStrIter it ty z t (i + 1)->(∀b o,b∉[it]->s.heap.get? b=some o->h'.get? b=some o)→
  Q (some v) { s with heap:=h',toks:=tk})->wpAny (model P w) A (pyNext (.ref it)) Q E s)/\∀(s:Shared) (Q:Option Value->Shared->Prop) (E:Value->Shared->Prop),Clm A s.heap->s.heap.IsStrIter it ty z t z.cps.size→
  (∀h' tk,(∀b o,b∉[it]->s.heap.get? b=some o->h'.get? b=some o)->Q none { s with heap:=h',toks:=tk})->wpAny (model P w) A (pyNext (.ref it)) Q E s
theorem Bk{P:Program}{w:World}{A:Around}{it:Addr}{z:Str}{t:Tok}:Wk P w A it z t "str_ascii_iterator":=
 ⟨λi s Q E hi st q=>wpAny_pyNext_ascii_item st (c:=z.cps[i]) (by simp [hi]) λh' x k=>q _ h' (s.toks + 1) ⟨_,_,by simp [hi],rfl⟩ x λb o hb e=>k.extBut b o (λh=>hb (by simp [h])) e,
  λs Q E c st q=>zV c st (by simp) λh' k=>q h' s.toks λb o hb e=>k b o (λh=>hb (by simp [h])) e⟩
theorem Ed{P:Program}{w:World}{A:Around}{it:Addr}{z:Str}{t:Tok}:Wk P w A it z t "str_iterator":=
 ⟨λi s Q E hi st q=>wpAny_pyNext_wide_item st (c:=z.cps[i]) (by simp [hi]) λh' x k=>q _ h' (s.toks + 1) ⟨_,_,by simp [hi],rfl⟩ x λb o hb e=>k.extBut b o (λh=>hb (by simp [h])) e,
  λs Q E c st q=>BC c st (by simp) λh' k=>q h' s.toks λb o hb e=>k b o (λh=>hb (by simp [h])) e⟩
theorem CH{P:Program}{w:World}{K:PySem.W.Frag}{x:Str}{px:Pos}{it:Addr}{ty:String}{z:Str}{t:Tok}(W:(A:Around)->Wk P w A it z t ty)
  (self:∀(A:Around) (i:Nat) (s:Shared) (Q:Value->Shared->Prop) (E:Value->Shared->Prop),s.heap.IsStrIter it ty z t i->Q (.ref it) s->wpAny (model P w) A (pyIter (.ref it)) Q E s):
  Turn P w K (.Name x px) (Its z) [it] it (λi h=>h.IsStrIter it ty z t i) where
 mem:=by simp
 obj:=λi h st b hb=>by
  have e:b=it:=by simpa using hb
  subst e;obtain⟨o,e,c,d⟩:=st;exact⟨o,e,λv q=>by rw[d] at q;cases q⟩
 keep:=λi h h' st k=>let ⟨o,ho,r⟩:=st;⟨o,k it (by simp) o ho,r⟩
 item:=by
  intro X hP hw hK hc i pins s σ H E I hf st hg;subst hP hw hK;obtain⟨f0,f1,f2,f3,f4,f5⟩:=hf it (by simp);refine(W X.A).1 i s _ _ hg st λv h' tk pv st' k=> ?_;obtain⟨c,u,e,rfl⟩:=pv;have I1:Inv X pins σ H { s with heap:=h',toks:=tk}:=I.turned (t':=tk) (λb o hb q=>k b o (by simpa using hb) q) f0 f1 f3 f4 f5;exact⟨_,rfl,wpAny_pure ⟨.str ⟨#[c]⟩,H,I1,⟨u,rfl⟩,⟨rfl,c,e,rfl⟩,st',λb hb=>(hf b hb).1⟩⟩
 done:=by
  intro X hP hw hK hc i pins s σ H E I hf st hg;subst hP hw hK;have hg:i=z.cps.size:=hg;subst hg;obtain⟨f0,f1,f2,f3,f4,f5⟩:=hf it (by simp);exact(W X.A).2 s _ _ I.cm st λh' tk k=>⟨rfl,I.turned (t':=tk) (λb o hb q=>k b o (by simpa using hb) q) f0 f1 f3 f4 f5⟩
 self:=self
def Hg(tl:TE):TI:=λσ H R=>tl σ H λx H1=>∃z,x=.str z/\R (Its z) H1
theorem Fg{l:Expr}{tl:TE}{x:Str}{px:Pos}(hl:PE X l tl):PI X (.Name x px) l (Hg tl):=by
 intro pins s σ H R I h;refine thn (hl pins s σ H _ I h) λv s1 zz=> ?_;obtain⟨y,H1,I1,r1,q1⟩:=zz;obtain⟨z,rfl,q⟩:=q1;obtain⟨t,rfl⟩:=(show ∃t,v=Value.str z t from r1)
 have fin:∀{ty:String} {o:Obj},((A:Around)->Wk X.prog X.w A s1.heap.objs.size z t ty)→
   (∀(A:Around) (i:Nat) (s:Shared) (Q:Value->Shared->Prop) (E:Value->Shared->Prop),s.heap.IsStrIter s1.heap.objs.size ty z t i->Q (.ref s1.heap.objs.size) s->wpAny (model X.prog X.w) A (pyIter (.ref s1.heap.objs.size)) Q E s)→
   (s1.heap.push o).IsStrIter s1.heap.objs.size ty z t 0->PIE X pins σ (.Name x px) R (.ref s1.heap.objs.size) { s1 with heap:=s1.heap.push o}:=λ{ty o} W self st=>by
  refine⟨s1.heap.objs.size,[s1.heap.objs.size],_,_,H1,rfl,I1.kept (t':=s1.toks) λb ob e=>Heap.get?_push_of_some _ e,CH W self,st,λb hb=> ?_,q⟩;have e:b=s1.heap.objs.size:=by simpa using hb
  subst e;exact I1.vm (Nat.le_refl _) (I1.hok.fresh (Nat.le_refl _))
 cases ha:z.cps.all (· < 128)
 .exact wpAny_pyIter_wide ha (fin (λA=>Ed) (λ_ _ _ _ _ st q=>wpAny_pyIter_striter_wide st q) ⟨_,Heap.get?_push_size _ rfl,rfl,rfl⟩)
 .exact wpAny_pyIter_ascii ha (fin (λA=>Bk) (λ_ _ _ _ _ st q=>wpAny_pyIter_striter_ascii st q) ⟨_,Heap.get?_push_size _ rfl,rfl,rfl⟩)
theorem F5{bs:List Bool}:∀{its:List Value} {i:Nat} {v:Value},Vals (bs.map V.bl) its->its[i]? =some v->∃b,bs[i]? =some b/\v=.bool b:=λ{its i v} r e=>by
 have hl:=r.length
 have hi:i < bs.length:=by
  have:=(List.getElem?_eq_some_iff.mp e).1;rw[List.length_map] at hl
  lia
 have eb:bs[i]? =some bs[i]:=List.getElem?_eq_getElem hi;obtain⟨u,hu,ru⟩:=r.get (show(bs.map V.bl)[i]? =some (V.bl bs[i]) by rw[List.getElem?_map,eb];rfl);rw[e] at hu;cases hu;exact⟨_,eb,ru⟩
theorem ym(bs:List Bool):((List.range bs.length).all λi=>(bs[i]?).getD true)=bs.all id:=by
 rw[Bool.eq_iff_iff,List.all_eq_true,List.all_eq_true]
 constructor
 .intro h b hb;obtain⟨i,hi,e⟩:=List.getElem_of_mem hb;have:=h i (List.mem_range.mpr hi);rw[List.getElem?_eq_getElem hi,e] at this;exact this
 .intro h i hi;have hi:=List.mem_range.mp hi;rw[List.getElem?_eq_getElem hi];exact h _ (List.getElem_mem hi)
theorem CM(hc:X.calm=X.calm):lV X (.builtin "all") (λxs H Q=>∃(p:Addr) (bs:List Bool),xs=[.ref p]/\SqL X.K H p (bs.map V.bl)/\Q (.bl (bs.all id)) H):=by
 intro pins s σ H xs us Q I r h;obtain⟨p,bs,rfl,hp,q⟩:=h;obtain⟨u,rfl,ru⟩:=vals1 r;cases ru;obtain⟨its,rv,ht,hz⟩:=I.list hp;have hl:=ht.isList;have hlt:p < s.heap.objs.size:=by obtain⟨_,e,_⟩:=hl;exact Heap.lt_size e
 have hlen:its.length=bs.length:=by have:=rv.length;rw[List.length_map] at this;lia
 refine call_all_walk (wpAny_pyIter_list hl ?_)
 refine⟨s.heap.objs.size,s.heap.objs.size::p::hnd X.A.in1,[s.heap.objs.size],its.toArray.size,_,_,λi=>(bs[i]?).getD true,rfl,zy (A:=X.A.in1) p (Nat.ne_of_lt hlt) its.toArray,
  ⟨⟨_,Heap.get?_push_size _ rfl,rfl,rfl⟩,hl.push _,Clm.keep (A:=X.A.in1) I.cm λe o vs _ he _ _=>Heap.get?_push_of_some _ he⟩,λi v s' Q' E' hP hQ=> ?_,λh' tk hk=> ?_⟩
 .obtain ⟨b,e,rfl⟩:=F5 rv (by simpa using hP);simp only [e,Option.getD_some] at hQ;exact wpAny_truthy_bool hQ
 .rw [List.size_toArray,hlen,ym];refine⟨.bl (bs.all id),H,I.kept (t':=tk) λb o e=>hk b o (λhm=> ?_) (Heap.get?_push_of_some _ e),rfl,q⟩;rw[List.mem_singleton.mp hm] at e;exact Nat.lt_irrefl _ (Heap.lt_size e)
def PJ(X:Cx)(es:List Expr)(t:St->Hp->Str->(Str->Hp->Prop)->Prop):Prop:=∀(pins:List (Addr × Obj)) (s:Shared) (σ:St) (H:Hp) (out:Str) (Q:Str->Hp->Prop),Inv X pins σ H s->t σ H out Q→
 wpAny (model X.prog X.w) X.A (joinParts out (evalEach es X.env)) (EP X pins σ λx H'=>∃z,x=.str z/\Q z H') X.xe s
theorem EV:PJ X [] (λ_ H out Q=>out.length<=sizeLine/\Q out H):=λpins s σ H out Q I h=>joinParts_nil ⟨.str out,H,I.tok _,⟨_,rfl⟩,out,rfl,h.2⟩ h.1
theorem y6{e:Expr}{es:List Expr}{te:TE}{t:St->Hp->Str->(Str->Hp->Prop)->Prop}(he:PE X e te)(hr:PJ X es t)(hs:evalEach (e::es) X.env=eval e X.env::evalEach es X.env:=by rfl):
  PJ X (e::es) (λσ H out Q=>te σ H λx H1=>∃y,x=.str y/\(out++y).length<=sizeLine/\t σ H1 (out++y) Q):=by
 intro pins s σ H out Q I h;rw[hs];refine joinParts_cons (he.th I h λv s1 x H1 I1 r1 q1=> ?_);obtain⟨y,rfl,hz,q⟩:=q1;obtain⟨t,rfl⟩:=(show ∃t,v=Value.str y t from r1);exact⟨hz,hr pins s1 σ H1 _ Q I1 q⟩
theorem DW{v1 v2:Expr}{rest:List Expr}{pos:Pos}{t:St->Hp->Str->(Str->Hp->Prop)->Prop}(h:PJ X (v1::v2::rest) t)(hs:evalEach (v1::v2::rest) X.env=eval v1 X.env::eval v2 X.env::evalEach rest X.env:=by rfl):
  PE X (.JoinedStr (v1::v2::rest) pos) (λσ H Q=>t σ H Str.empty λz H'=>Q (.str z) H'):=by
 intro pins s σ H Q I q;have w:=h pins s σ H Str.empty _ I q;rw[hs] at w;exact JoinedStr_many (thn w λv s1 zz=>by obtain⟨x,H1,I1,r1,z,e,q1⟩:=zz;exact⟨x,H1,I1,r1,by rw[e];exact q1⟩)
end
section
variable{X:Cx}{pins pins':List (Addr × Obj)}{σ:St}{H:Hp}{s:Shared}{pn':List (Addr × Obj)}{E':Value->Shared->Prop}
abbrev Cx.hJ(X:Cx)(pn':List (Addr × Obj))(E':Value->Shared->Prop):Cx:={ X with pn:=pn',xe:=E'}
theorem Cx.Ok.hJ(ok:X.Ok)(pn':List (Addr × Obj))(hp:∀p∈X.pn,p∈pn')(E':Value->Shared->Prop):(X.hJ pn' E').Ok:=
 ⟨ok.mod,ok.kind,ok.glob,ok.blt,ok.above,ok.inj,ok.has,ok.cab,ok.hd,ok.cl.elim .inl (λ⟨e,o,vs,z,h1,h2,h3⟩=> .inr ⟨e,o,vs,z,h1,h2,h3.imp (hp _) id⟩),ok.frames,ok.stk,ok.exf,ok.bs,ok.bsz,ok.rZ,ok.rP,ok.iA,ok.frf⟩
theorem Inv.hJ(I:Inv X pins σ H s)(E':Value->Shared->Prop):Inv (X.hJ (X.pn++pins) E') [] σ H s:=
 ⟨I.ok.hJ _ (λ_ h=>List.mem_append_left _ h) _,I.os,I.bare,I.base,I.loc,I.cell,I.free,I.di,λp hp=>I.pin p (by simpa using hp),I.hok,I.len⟩
theorem Inv.c6(ok:X.Ok)(I:Inv (X.hJ (X.pn++pins) E') pins' σ H s):Inv X pins σ H s:=
 ⟨ok,I.os,I.bare,I.base,I.loc,I.cell,I.free,I.di,λp hp=>I.pin p (List.mem_append_left _ hp),I.hok,I.len⟩
theorem bR.c6{b:Addr}(f:bR (X.hJ (X.pn++pins) E') pins' H b):bR X pins H b:=
 ⟨f.1,f.2.1,f.2.2.1,f.2.2.2.1,f.2.2.2.2.1,λp hp=>f.2.2.2.2.2 p (List.mem_append_left _ hp)⟩
theorem Arr.c6{e:Addr}{cls:Value}{d:Option Addr}(ok:X.Ok)(a:Arr (X.hJ (X.pn++pins) E') pins' σ H s e cls d):Arr X pins σ H s e cls d:=
 ⟨a.inv.c6 ok,let ⟨tr,x,hk,ft⟩:=a.tr;⟨tr,x,hk,λT hT=>(ft T hT).c6⟩,a.fp.c6⟩
def PH(X:Cx)(hs:List ExceptHandler)(t:Ends->St->XK):Prop:=∀(pins:List (Addr × Obj)) (s:Shared) (σ:St) (H:Hp) (e:Addr) (cls:Value) (d:Option Addr) (T:Addr) (D:Ends),
 Inv X pins σ H s->uA s.heap e cls d (some (T,.none))->bR X pins H e->bR X pins H T->t D σ cls d H->wpAny (model X.prog X.w) X.A (handleBy (.ref e) X.env hs) (SP X pins D) X.xe s
theorem xb{body orelse:List Stmt}{h0:ExceptHandler}{hs:List ExceptHandler}{pos:Pos}{tb:Ends->TS}{to:TS}{th:Ends->St->XK}(hdef:CL X)
  (hb:∀D pn' E',Throws (X.hJ pn' E') (th D)->PassesOwn (model X.prog X.w) X.A X.env E'->PSs (X.hJ pn' E') body (tb D)) (ho:PSs X orelse to) (hh:PH X (h0::hs) th):
  PS X (.Try body (h0::hs) orelse [] pos) (λD σ H=>tb D { D with nx:=to D} σ H):=by
 intro pins s σ H D I h;refine wpAny_Try_except ?_
 let E':Value->Shared->Prop:=λev s1=>wpAny (model X.prog X.w) X.A (noteFrame ev X.env) (λ_ s2=>wpAny (model X.prog X.w) X.A (setFlight ev none) (λ_ s3=>wpAny (model X.prog X.w) X.A (handleBy ev X.env (h0::hs)) (SP X pins D) X.xe s3) X.xe s2) X.xe s1
 have hT:Throws (X.hJ (X.pn++pins) E') (th D):=λpins' σ1 H1 s1 e cls d a q=>(a.c6 I.ok).land hdef λh' T I' x' fT=>hh pins _ σ1 H1 e cls d T D I' x' (a.c6 I.ok).fp fT q;refine wpAny_mono (hb D _ E' hT PassesOwn.looking [] s σ H _ (I.hJ E') h) (λf s1 h1=> ?_) λev s1 h1=>h1;cases f with
 | next=>obtain⟨σ1,H1,I1,q⟩:=h1;exact ho pins s1 σ1 H1 D (I1.c6 I.ok) q
 | brk=>obtain⟨σ1,H1,I1,q⟩:=h1;exact⟨σ1,H1,(I1.c6 I.ok),q⟩
 | cont=>obtain⟨σ1,H1,I1,q⟩:=h1;exact⟨σ1,H1,(I1.c6 I.ok),q⟩
 | ret u=>obtain⟨v,σ1,H1,I1,r,q⟩:=h1;exact⟨v,σ1,H1,(I1.c6 I.ok),r,q⟩
end
section
variable{M:Model}{A:Around}{E:Value->Shared->Prop}
theorem vF{K:PySem.W.Frag}{s:Shared}{e C C':Addr}{oe:Obj}{b:Bool}{Q:Bool->Shared->Prop}(k:K.In s.heap)(he:s.heap.get? e=some oe)(hc:oe.cls=.ref C)(xc:rS K C')(m:PySem.W.mroIn K C (.ref C')=some b)(h:Q b s):
  wpAny M A (excMatches (.ref e) (.ref C')) Q E s:=by
 obtain⟨bm,N,nm,qn,bs,hdct,sn,sub,ab,col,dd,k0,k1,k2,k3,k5,mN,hC,hN,hni,T⟩:=xc.obj k;have hb:(Value.ref C'::bm).contains (.type "BaseException")=true:=by rw[List.contains_cons,T.hasType (show bmV.contains (.type "BaseException")=true from rfl),Bool.or_true]
 have L:=PySem.W.looks_mroIn (M:=M) k m;obtain⟨hh,g,d,t,os⟩:=s;have f:=tc_notTuple;unfold excMatches
 repeat (first | (with_reducible refine wpAny_loadPart_at he ?_;rw[hc]) | with_reducible refine wpAny_loadPart_at hC ?_ | (with_reducible refine wpAny_isSubtype_exc hC ?_;rw[hb]) | (with_reducible refine L.at ?_) | wp_step)
 cases b <;> (wp_walk;exact h)
end
section
variable{X:Cx}{pins:List (Addr × Obj)}{σ:St}{H:Hp}{s:Shared}{e:Addr}
abbrev Cx.bX(X:Cx)(e:Addr)(o:Obj):Cx:={ X with A:=X.A.mark (some (.ref e)),calm:=true,pn:=(e,o)::X.pn,xe:=λ_ _=>False}
variable{o:Obj}{vs:Array Value}
theorem Cx.Ok.bX(ok:X.Ok)(e:Addr)(hd:o.data=.fields vs)(h2:vs[2]? =some .none):(X.bX e o).Ok:=
 ⟨ok.mod,ok.kind,ok.glob,ok.blt,ok.above,ok.inj,ok.has,ok.cab,λz=>absurd (show(true:Bool)=false from z) (by decide),.inr ⟨e,o,vs,rfl,hd,h2,.inl List.mem_cons_self⟩,ok.frames,ok.stk,ok.exf,ok.bs,ok.bsz,ok.rZ,ok.rP,ok.iA,ok.frf⟩
theorem Inv.bX(I:Inv X pins σ H s)(ho:s.heap.get? e=some o)(hd:o.data=.fields vs)(h2:vs[2]? =some .none)(f:bR X pins H e):Inv (X.bX e o) pins σ H s:=
 ⟨I.ok.bX e hd h2,I.os,I.bare,I.base,I.loc,I.cell,I.free,I.di,λp hp=>(List.mem_cons.mp hp).elim (λz=>by rw[z];exact⟨ho,f.1,f.2.1,f.2.2.1,λv y=>by rw[hd] at y;cases y⟩) (I.pin p),I.hok,I.len⟩
theorem Inv.du(I:Inv (X.bX e o) pins σ H s)(ok:X.Ok):Inv X pins σ H s:=⟨ok,I.os,I.bare,I.base,I.loc,I.cell,I.free,I.di,λp hp=>I.pin p (List.mem_cons_of_mem _ hp),I.hok,I.len⟩
theorem SP.du{D:Ends}{f:Flow}(h:SP (X.bX e o) pins D f s)(ok:X.Ok):SP X pins D f s:=by
 cases f with
 | next=>obtain⟨σ1,H1,I1,q⟩:=h;exact⟨σ1,H1,I1.du ok,q⟩
 | brk=>obtain⟨σ1,H1,I1,q⟩:=h;exact⟨σ1,H1,I1.du ok,q⟩
 | cont=>obtain⟨σ1,H1,I1,q⟩:=h;exact⟨σ1,H1,I1.du ok,q⟩
 | ret u=>obtain⟨v,σ1,H1,I1,r,q⟩:=h;exact⟨v,σ1,H1,I1.du ok,r,q⟩
end
section
variable{X:Cx}{x n:Str}{C':Addr}{np pos:Pos}{b0:Stmt}{suite:List Stmt}{rest:List ExceptHandler}{ts:TS}{tr:Ends->St->XK}
theorem x8{pins:List (Addr × Obj)}{s:Shared}{σ:St}{H:Hp}{e:Addr}{cls:Value}{d:Option Addr}{T:Addr}(I:Inv X pins σ H s)(xo:uA s.heap e cls d (some (T,.none)))(fe:bR X pins H e)(fT:bR X pins H T)
  {Q:Unit->Shared->Prop} {M:Model} {A:Around} {E:Value->Shared->Prop} (h:∀h' o,Inv (X.bX e o) pins σ H { s with heap:=h'}->Q () { s with heap:=h'}):wpAny M A (setFlight (.ref e) none) Q E s:=by
 refine nS xo λh' nt x'=> ?_;have I':Inv X pins σ H { s with heap:=h'}:=I.Er (t':=s.toks) (nt.EA λb hb=>absurd hb (by simp)) λb hb=>by rw[List.mem_singleton.mp hb];exact fT
 obtain⟨_,⟨oe,vs,e1,e2,e3,e4,e5,e6⟩,_⟩:=x';exact h h' oe (I'.bX e1 e4 e6 fe)
theorem bx.mark{k:Nat}{cm:Bool}{A:Around}(r:bx cm k A)(h:Option Value):bx true k (A.mark h):=⟨λz=>(by cases z),r.dp,r.un⟩
theorem hG{X:Cx}{e:Addr}{o:Obj}:Throws (X.bX e o) λ_ _ _ _=>False:=λ_ _ _ _ _ _ _ _ q=>q
theorem yq(_:CL X)(hg:Gl X x)(hm:X.mg x=some (.ref C'))(xc:rS X.K C')(hs:∀e o,PSs (X.bX e o) (b0::suite) ts)(hr:PH X rest tr)(hd:(x == ("__debug__":Str))=false:=by decide):
  PH X (.ExceptHandler (some (.Name x np)) none (b0::suite) pos::rest) (λD σ cls d H=>∃C b,cls=.ref C/\PySem.W.mroIn X.K C (.ref C')=some b/\if b=true then ts D σ H else tr D σ cls d H):=by
 intro pins s σ H e cls d T D I xo fe fT h;obtain⟨C,b,rfl,m,q⟩:=h;refine wpAny_handleBy_cons (codeAny_handlers_test (Calls.Name_function_global I.ok.kind hg (Calls.loadGlobal_global (by rw[I.ok.glob];exact I.mod.glob.keeps I.bk) hm ?_) hd)) (by intro z;cases z);obtain⟨oe,vs,e1,e2,_⟩:=id xo.2.1;refine vF I.kIn e1 e2 xc m ?_;cases b with
 | false=>exact hr pins s σ H e _ d T D I xo fe fT q
 | true=>
  refine codeAny_handlers_suite (x8 I xo fe fT λh' o IH=> ?_);exact wpAny_mono (hs e o pins _ _ _ _ IH q) (λf s3 h3=>SP.du h3 I.ok) λ_ _ z=>z.elim
end
structure aL(K:PySem.W.Frag)(x qual:Str)(st:Stmt)(dV:Value)(f:Addr)(fd:FuncData):Prop where
 ex:∃(oc:Value) (od:Option Addr) (kV doc pm:Value) (an:Option Addr) (cdv ct:Value) (osl:Array (Option Value)),
  fd=PySem.W.fnOf x qual (eJ st) (bf st) (ah st) dV kV doc pm an cdv ct/\K.lookup f=some ⟨oc,od,.func fd,osl⟩/\PySem.W.codeIn K cdv qual=true
 kp:PySem.W.keepIn K (.ref f)=true
abbrev XNo:St->XK:=λ_ _ _ _=>False
theorem xY{X:Cx}:Throws X.nox XNo:=λ_ _ _ _ _ _ _ _ q=>q
theorem bL{X:Cx}:Passes (CXE X.nox.prog X.nox.w) X.nox XNo:=passes xY
section
variable{P:Program}{w:World}{K:PySem.W.Frag}{mg:Str->Option Value}{base:Heap}{x qual:Str}{st:Stmt}{dV:Value}{f:Addr}{fd:FuncData}{N ps:List Str}{k:Nat}{cm:Bool}{sp:Sp}
theorem aL.ok(F:aL K x qual st dV f fd)(S:aw N ps (ah st))(len:∀vs H Q E,sp vs H Q E->vs.length=ps.length)
  (hbody:∀(cdv:Value) (A:Around) (outer:List Env) (s:Shared) (H:Hp) (vs:List V) (Q:VK) (E:XK),bx cm k (A.deeper (envOfC qual (ah st) s.heap.objs.size f cdv))->sp vs H Q E→
   ∃t,PSs (ip cm (CXE P w) P w K mg base N qual (ah st) f cdv A outer s H E) (bf st) t/\t { nx:=λ_ H'=>Q .non H',rt:=Q} (start N vs) H):aB P w K mg base (CXE P w) cm (k + 1) f fd ps sp:=by
 obtain⟨oc,od,kV,doc,pm,an,cdv,ct,osl,rfl,lk,hcd⟩:=F.ex;exact GK lk hcd S len λA outer s H vs Q E hr hsp=>hbody cdv A outer s H vs Q E hr hsp
theorem aL.okN(F:aL K x qual st dV f fd)(S:aw N ps (ah st))(len:∀vs H Q E,sp vs H Q E->vs.length=ps.length)
  (hbody:∀(cdv:Value) (A:Around) (outer:List Env) (s:Shared) (H:Hp) (vs:List V) (Q:VK) (E:XK),bx cm k (A.deeper (envOfC qual (ah st) s.heap.objs.size f cdv))->sp vs H Q E→
   ∃t,PSs (ip cm (CXE P w) P w K mg base N qual (ah st) f cdv A outer s H E).nox (bf st) t/\t { nx:=λ_ H'=>Q .non H',rt:=Q} (start N vs) H):aB P w K mg base (CXE P w) cm (k + 1) f fd ps sp:=
 F.ok S len λcdv A outer s H vs Q E hr hsp=>let ⟨t,h,q⟩:=hbody cdv A outer s H vs Q E hr hsp;⟨t,h.nox,q⟩
theorem aL.ok1(F:aL K x qual st dV f fd)(S:aw N ps (ah st))(h:∀vs H Q E,sp vs H Q E->vs.length=ps.length∧
   ∀(cdv:Value) (A:Around) (outer:List Env) (s:Shared),bx cm k (A.deeper (envOfC qual (ah st) s.heap.objs.size f cdv))→
   ∃t,PSs (ip cm (CXE P w) P w K mg base N qual (ah st) f cdv A outer s H E) (bf st) t/\t { nx:=λ_ H'=>Q .non H',rt:=Q} (start N vs) H):aB P w K mg base (CXE P w) cm (k + 1) f fd ps sp:=
 F.ok S (λvs H Q E q=>(h vs H Q E q).1) λcdv A outer s H vs Q E hr q=>(h vs H Q E q).2 cdv A outer s hr
theorem aL.pF(F:aL K x qual st dV f fd)(S:aw N ps (ah st))(h:∀vs H Q E,sp vs H Q E->vs.length=ps.length∧
   ∀(cdv:Value) (A:Around) (outer:List Env) (s:Shared),bx cm k (A.deeper (envOfC qual (ah st) s.heap.objs.size f cdv))→
   ∃t,PSs (ip cm (CXE P w) P w K mg base N qual (ah st) f cdv A outer s H E).nox (bf st) t/\t { nx:=λ_ H'=>Q .non H',rt:=Q} (start N vs) H):aB P w K mg base (CXE P w) cm (k + 1) f fd ps sp:=
 F.okN S (λvs H Q E q=>(h vs H Q E q).1) λcdv A outer s H vs Q E hr q=>(h vs H Q E q).2 cdv A outer s hr
theorem aL.binds(F:aL K x qual st dV f fd)
  (h:∀(kV doc pm:Value) (an:Option Addr) (cdv ct:Value) (us:List Value),us.length=ps.length->bindArgs (PySem.W.fnOf x qual (eJ st) (bf st) (ah st) dV kV doc pm an cdv ct) ⟨us,[]⟩=pure (ps.zip us)):Binds K fd ps []:=by
 obtain⟨oc,od,kV,doc,pm,an,cdv,ct,osl,rfl,lk,hcd⟩:=F.ex;exact .all (h kV doc pm an cdv ct)
theorem aL.ud{T:Addr}{o:Obj}{items:Array Value}{n:Nat}{ds:List Value}(F:aL K x qual st (.ref T) f fd)(lt:K.lookup T=some o)(hs:o.data=.seq items n)
  (h:∀(kV doc pm:Value) (an:Option Addr) (cdv ct:Value) (us:List Value),(us++ds).length=ps.length→
   ∃k,bindArgs (PySem.W.fnOf x qual (eJ st) (bf st) (ah st) (.ref T) kV doc pm an cdv ct) ⟨us,[]⟩=seqItems? (.ref T) >>= k/\k (some items)=pure (ps.zip (us++ds))):Binds K fd ps ds:=by
 obtain⟨oc,od,kV,doc,pm,an,cdv,ct,osl,rfl,lk,hcd⟩:=F.ex;intro s us kin hl;obtain⟨kk,h1,h2⟩:=h kV doc pm an cdv ct us hl;exact BindsTo.of_defaults (fd:=PySem.W.fnOf x qual (eJ st) (bf st) (ah st) (.ref T) kV doc pm an cdv ct) rfl (kin _ _ lt) hs h1 h2
theorem DP{oc:Value}{od an:Option Addr}{osl:Array (Option Value)}{kV doc pm cdv ct:Value}(l:K.lookup f=some ⟨oc,od,.func (PySem.W.fnOf x qual (eJ st) (bf st) (ah st) dV kV doc pm an cdv ct),osl⟩)
  (c:PySem.W.codeIn K cdv qual=true) (k:PySem.W.keepIn K (.ref f)=true):aL K x qual st dV f (PySem.W.fnOf x qual (eJ st) (bf st) (ah st) dV kV doc pm an cdv ct):=⟨⟨oc,od,kV,doc,pm,an,cdv,ct,osl,rfl,l,c⟩,k⟩
end
section
variable{X:Cx}
theorem gz:lV X (.builtin "isinstance") (λxs H Q=>∃(x c:V) (t vc:Value) (b:Bool),xs=[x,c]/\mG X.K H x t/\(∃n,c=.ty n/\vc=.type n\/∃a,c=.ref a/\vc=.ref a)/\PySem.W.kitOne X.K t vc=some b/\Q (.bl b) H):=by
 intro pins s σ H xs us Q I r h;obtain⟨x,c,t,vc,b,rfl,ty,rc,kt,q⟩:=h;obtain⟨u1,u2,rfl,r1,r2⟩:=vals2 r
 have e2:u2=vc:=by
  obtain⟨n,⟨rfl,rfl⟩ | ⟨a,rfl,rfl⟩⟩:=rc
  .exact r2
  .exact r2
 subst e2;exact zE I r1 ty kt λtk=>⟨.bl b,H,I.tok tk,rfl,q⟩
theorem gO{x:Str}{i:Int}{t:Tok}{pos:Pos}(hg:Gl X x)(hm:X.mg x=some (.int i t))(hd:(x == ("__debug__":Str))=false:=by decide):PE X (.Name x pos) (tC (.int i)):=uB hg hm ⟨t,rfl⟩ hd
theorem u5{x z:Str}{t:Tok}{pos:Pos}(hg:Gl X x)(hm:X.mg x=some (.str z t))(hd:(x == ("__debug__":Str))=false:=by decide):PE X (.Name x pos) (tC (.str z)):=uB hg hm ⟨t,rfl⟩ hd
theorem C7{x:Str}{a:Addr}{pos:Pos}(hg:Gl X x)(hm:X.mg x=some (.ref a))(hd:(x == ("__debug__":Str))=false:=by decide):PE X (.Name x pos) (tC (.ref a)):=uB hg hm (v:= .ref a) rfl hd
theorem mI{x:Str}{n:String}{pos:Pos}(hg:Gl X x)(hm:X.mg x=none)(hv:bootBuiltins x=some (.type n))(hn:x≠"__name__":=by decide)(hd:(x == ("__debug__":Str))=false:=by decide):PE X (.Name x pos) (tC (.ty n)):=D1 hg hm hv (v:= .ty n) rfl hn hd
end
def MethAt(P:Program)(w:World)(K:PySem.W.Frag)(mg:Str->Option Value)(base:Heap)(CX:CXT)(cm:Bool)(k:Nat)(m:Str)(C:Addr)(sp:Sp)(dvs:List V):Prop:=
 ∃f fd ps ds,Cls K C/\Meth K C m f/\aB P w K mg base CX cm k f fd ps sp/\Binds K fd ps ds/\Vals dvs ds
def uC(Dt:Addr->Sp->List V->Prop)(m:Str)(E:St->XK)(ta:TE)(t:TA):TE:=λσ H Q=>ta σ H λx H1=>∃a C dx fs sp dvs,x=.ref a/\H1 a=some (.ins C dx fs)/\Dt C sp dvs/\fs.lookup m=none∧
 t σ H1 λvs H2=>sp (x::(vs++dvs)) H2 Q (E σ)
section
variable{X:Cx}{CX:CXT}{k:Nat}{cm:Bool}{E:St->XK}{m:Str}{pos apos:Pos}{e o:Expr}{es:List Expr}{ta:TE}{t:TA}{Dt:Addr->Sp->List V->Prop}
theorem wJ{pl:Sem Bool}(he:PE X o ta)(hD:∀C sp dvs,Dt C sp dvs->MethAt X.prog X.w X.K X.mg X.base CX cm k m C sp dvs)(hr:bx cm k X.A)(hx:Passes CX X E)(ha:PA X (e::es) t)
  (hst:starEach (e::es) X.env=(false,eval e X.env)::starEach es X.env:=by rfl) (hpl:(backTo pos (starEach es X.env)).any (·.1)=false:=by rfl)
  (ht:eval (.Call (.Attribute o m apos) (e::es) [] pos) X.env=(do
   let ov<-eval o X.env
   standAt apos.atName
   let (f,first)<-holding [ov] (getMethod ov m pl)
   callWith pos f first (backTo pos (starEach (e::es) X.env)) (backToKw pos (keywordEach [] X.env))):=by rfl):
  PE X (.Call (.Attribute o m apos) (e::es) [] pos) (uC Dt m E ta t):=by
 intro pins s σ H Q I h;refine PySem.W.methodCall_KW (pl:=pl) (he.th I h λu s1 x H1 I1 rx zz=> ?_) ht;obtain⟨a,C,dx,fs,sp,dvs,ex,ea,dt,l,q⟩:=zz;subst ex;obtain rfl:u=Value.ref a:=rx;obtain⟨f,fd,ps,ds,c,hm,F,hb,hd⟩:=hD C sp dvs dt;refine qU I1 ea c hm l ?_;refine PySem.W.callWith_K (first:=[.ref a]) (h₀:=X.base) I.ok.mod.kin hm.kp (ha.th I1 q λus s2 vs H2 I2 r q2=>⟨I2.kIn,?_⟩) hst hpl;exact vz (us:= .ref a::us) (vs:= .ref a::vs) F hr hb hd hx I2 (.cons rfl r) q2
theorem zR{pl:Sem Bool}(he:PE X o ta)(hD:∀C sp dvs,Dt C sp dvs->MethAt X.prog X.w X.K X.mg X.base CX cm k m C sp dvs)(hr:bx cm k X.A)(hx:Passes CX X E)
  (ht:eval (.Call (.Attribute o m apos) [] [] pos) X.env=(do
   let ov<-eval o X.env
   standAt apos.atName
   let (f,first)<-holding [ov] (getMethod ov m pl)
   callWith pos f first (backTo pos (starEach [] X.env)) (backToKw pos (keywordEach [] X.env))):=by rfl):
  PE X (.Call (.Attribute o m apos) [] [] pos) (uC Dt m E ta BU):=by
 intro pins s σ H Q I h;refine PySem.W.methodCall_KW (pl:=pl) (he.th I h λu s1 x H1 I1 rx zz=> ?_) ht;obtain⟨a,C,dx,fs,sp,dvs,ex,ea,dt,l,q⟩:=zz;subst ex;obtain rfl:u=Value.ref a:=rx;obtain⟨f,fd,ps,ds,c,hm,F,hb,hd⟩:=hD C sp dvs dt;refine qU I1 ea c hm l ?_;exact PySem.W.callWith_K0 (first:=[.ref a]) I1.kIn hm.kp (vz (us:=[.ref a]) (vs:=[.ref a]) F hr hb hd hx I1 (.cons rfl .nil) q)
end
structure Cg(K:PySem.W.Frag)(C:Addr)(m:Str)(f:Addr):Prop where
 sp:PySem.W.specialIn K (.ref C) "__getattribute__"=some (some (.builtin "type.__getattribute__"))
 rd:PySem.W.readsIn K C (.type "type")=true
 fc:PySem.W.findCls K (.ref C) (.type "type") m=some (.val (.ref f))
 kp:PySem.W.keepIn K (.ref f)=true
section
variable{X:Cx}{CX:CXT}{k:Nat}{cm:Bool}{f C:Addr}{fd:FuncData}{ps:List Str}{sp:Sp}{dvs:List V}{ds:List Value}{E:St->XK}{x m:Str}{p pos apos:Pos}{e:Expr}{es:List Expr}{t:TA}
theorem BD{pl:Sem Bool}(F:aB X.prog X.w X.K X.mg X.base CX cm k f fd ps sp)(hr:bx cm k X.A)(hg:Gl X x)(hm:X.mg x=some (.ref C))(bc:Cg X.K C m f)(hb:Binds X.K fd ps ds)(hd:Vals dvs ds)(hx:Passes CX X E)(ha:PA X (e::es) t)
  (hdb:(x == ("__debug__":Str))=false:=by decide)
  (hst:starEach (e::es) X.env=(false,eval e X.env)::starEach es X.env:=by rfl) (hpl:(backTo pos (starEach es X.env)).any (·.1)=false:=by rfl)
  (ht:eval (.Call (.Attribute (.Name x p) m apos) (e::es) [] pos) X.env=(do
   let ov<-eval (.Name x p) X.env
   standAt apos.atName
   let (f,first)<-holding [ov] (getMethod ov m pl)
   callWith pos f first (backTo pos (starEach (e::es) X.env)) (backToKw pos (keywordEach [] X.env))):=by rfl):
  PE X (.Call (.Attribute (.Name x p) m apos) (e::es) [] pos) (wX sp dvs E t):=by
 intro pins s σ H Q I h;refine PySem.W.methodCall_KW (pl:=pl) (jx I hg hm ?_ hdb) ht;refine PySem.W.method_cls I.kIn bc.sp (PySem.W.cls_value I.kIn bc.rd bc.fc rfl ?_);have I1:Inv X pins σ H { s with toks:=s.toks + 1}:=I.tok _;refine PySem.W.callWith_K (first:=[]) (h₀:=X.base) I.ok.mod.kin bc.kp (ha.th I1 h λus s2 vs H2 I2 r q2=>⟨I2.kIn,?_⟩) hst hpl;exact vz F hr hb hd hx I2 r q2
end
def oj:List V->List V->Bool
 | [],[]=>true
 | x::xs,y::ys=>eqV x y && oj xs ys
 | _,_=>false
theorem vP:∀{xs ys:List V},xs.length≠ys.length->oj xs ys=false
 | [],[],h=>absurd rfl h
 | [],_::_,_=>rfl
 | _::_,[],_=>rfl
 | x::xs,y::ys,h=>by
  have:=vP (xs:=xs) (ys:=ys) λz=>h (by rw[List.length_cons,List.length_cons,z]);show(eqV x y && oj xs ys)=false;rw[this,Bool.and_false]
theorem qi:∀{xs ys:List V},xs.length=ys.length->((List.range xs.length).all λj=>match xs[j]?,ys[j]? with | some a,some b=>eqV a b | _,_=>true)=oj xs ys
 | [],[],_=>rfl
 | x::xs,y::ys,h=>by
  have ih:=qi (xs:=xs) (ys:=ys) (by simpa using h);rw[List.length_cons,List.range_succ_eq_map,List.all_cons,List.all_map];show(eqV x y && (List.range xs.length).all λj=>match xs[j]?,ys[j]? with | some a,some b=>eqV a b | _,_=>true)=(eqV x y && oj xs ys);rw[ih]
section
variable{X:Cx}
theorem items_eqAt{A:Around}{s:Shared}{xs ys:List V}{is js:List Value}(r1:Vals xs is)(r2:Vals ys js)(f1:xs.all gH=true)(f2:ys.all gH=true)(j:Nat)(h1:j < is.toArray.size)(h2:j < js.toArray.size):
  SeqAt.EqAt A s is.toArray[j] js.toArray[j] (match xs[j]?,ys[j]? with | some a,some b=>eqV a b | _,_=>true):=by
 rw[List.size_toArray] at h1 h2;have l1:=r1.length;have l2:=r2.length;have e1:xs[j]? =some xs[j]:=List.getElem?_eq_getElem (by omega);have e2:ys[j]? =some ys[j]:=List.getElem?_eq_getElem (by omega);obtain⟨u1,q1,v1⟩:=r1.get e1;obtain⟨u2,q2,v2⟩:=r2.get e2;rw[List.getElem?_eq_getElem h1] at q1;rw[List.getElem?_eq_getElem h2] at q2;cases q1;cases q2;rw[e1,e2];simp only [List.getElem_toArray];exact C0 v1 v2 (List.all_eq_true.mp f1 _ (List.getElem_mem _)) (List.all_eq_true.mp f2 _ (List.getElem_mem _))
def He(K:PySem.W.Frag)(neg:Bool):R2:=λx y H Q=>∃(a b:Addr) (xs ys:List V),x=.ref a/\y=.ref b/\SqL K H a xs/\SqL K H b ys/\xs.all gH=true/\ys.all gH=true/\Q (.bl (if neg=true then !oj xs ys else oj xs ys)) H
theorem xk(hu:X.A.units < cLine):OpR X (compareOp .Eq) (He X.K false):=by
 intro pins s σ H x y v u Q I rx ry h;obtain⟨a,b,xs,ys,rfl,rfl,h1,h2,f1,f2,q⟩:=h;cases rx;cases ry;obtain⟨is,r1,p1,z1⟩:=I.list h1;obtain⟨js,r2,p2,z2⟩:=I.list h2;have l1:=r1.length;have l2:=r2.length;have q:Q (.bl (oj xs ys)) H:=q;by_cases hl:xs.length=ys.length
 .refine SeqAt.eq_listAt (e:=λj=>match xs[j]?,ys[j]? with | some a,some b=>eqV a b | _,_=>true) p1.isList p2.isList (by rw[List.size_toArray,List.size_toArray];lia) hu (items_eqAt r1 r2 f1 f2) ?_;rw[List.size_toArray,<-l1,qi hl];exact⟨.bl _,H,I,rfl,q⟩
 .refine SeqAt.eq_list_lengthsAt p1.isList p2.isList (by rw[List.size_toArray,List.size_toArray,bne_iff_ne];lia) hu ?_;rw[vP hl] at q;exact⟨.bl _,H,I,rfl,q⟩
end
def Cal(P:Program)(w:World)(K:PySem.W.Frag)(mg:Str->Option Value)(base:Heap)(cm:Bool)(k:Nat)(x:Str)(sp:Sp)(dvs:List V):Prop:=
 ∃f fd ps ds,aB P w K mg base (CXE P w) cm k f fd ps sp/\mg x=some (.ref f)/\PySem.W.keepIn K (.ref f)=true/\Binds K fd ps ds/\Vals dvs ds
def Mak(P:Program)(w:World)(K:PySem.W.Frag)(mg:Str->Option Value)(base:Heap)(cm:Bool)(k:Nat)(x:Str)(C:Addr)(sp:Sp)(dvs:List V):Prop:=
 ∃f fd ps ds,Mk K C f/\aB P w K mg base (CXE P w) cm k f fd ps sp/\mg x=some (.ref C)/\Binds K fd ps ds/\Vals dvs ds
def Cmt(P:Program)(w:World)(K:PySem.W.Frag)(mg:Str->Option Value)(base:Heap)(cm:Bool)(k:Nat)(x m:Str)(sp:Sp)(dvs:List V):Prop:=
 ∃C f fd ps ds,Cg K C m f/\aB P w K mg base (CXE P w) cm k f fd ps sp/\mg x=some (.ref C)/\Binds K fd ps ds/\Vals dvs ds
section
variable{X:Cx}{k:Nat}{cm:Bool}{C:Addr}{sp:Sp}{dvs:List V}{E:St->XK}{x m:Str}{p pos apos:Pos}{e:Expr}{es:List Expr}{t:TA}
theorem kP(c:Cal X.prog X.w X.K X.mg X.base cm k x sp dvs)(hr:bx cm k X.A)(hg:Gl X x)(hx:Passes (CXE X.prog X.w) X E)
  (ha:PA X (e::es) t) (hdb:(x == ("__debug__":Str))=false:=by decide) (he:starEach (e::es) X.env=(false,eval e X.env)::starEach es X.env:=by rfl) (hpl:(backTo pos (starEach es X.env)).any (·.1)=false:=by rfl):
  PE X (.Call (.Name x p) (e::es) [] pos) (wX sp dvs E t):=by
 obtain⟨f,fd,ps,ds,F,hm,hk,hb,hd⟩:=c;exact DM F hr hg hm hk hb hd hx ha hdb he hpl
theorem m4(c:Mak X.prog X.w X.K X.mg X.base cm k x C sp dvs)(hr:bx cm (k + 1) X.A)(hg:Gl X x)(hx:Passes (CXE X.prog X.w) X E)
  (ha:PA X (e::es) t) (hdb:(x == ("__debug__":Str))=false:=by decide) (he:starEach (e::es) X.env=(false,eval e X.env)::starEach es X.env:=by rfl) (hpl:(backTo pos (starEach es X.env)).any (·.1)=false:=by rfl):
  PE X (.Call (.Name x p) (e::es) [] pos) (zm C sp dvs E t):=by
 obtain⟨f,fd,ps,ds,M,F,hm,hb,hd⟩:=c;exact DG M F hr hg hm hb hd hx ha hdb he hpl
theorem yl{pl:Sem Bool}(c:Cmt X.prog X.w X.K X.mg X.base cm k x m sp dvs)(hr:bx cm k X.A)(hg:Gl X x)(hx:Passes (CXE X.prog X.w) X E)(ha:PA X (e::es) t)
  (hdb:(x == ("__debug__":Str))=false:=by decide)
  (hst:starEach (e::es) X.env=(false,eval e X.env)::starEach es X.env:=by rfl) (hpl:(backTo pos (starEach es X.env)).any (·.1)=false:=by rfl)
  (ht:eval (.Call (.Attribute (.Name x p) m apos) (e::es) [] pos) X.env=(do
   let ov<-eval (.Name x p) X.env
   standAt apos.atName
   let (f,first)<-holding [ov] (getMethod ov m pl)
   callWith pos f first (backTo pos (starEach (e::es) X.env)) (backToKw pos (keywordEach [] X.env))):=by rfl):
  PE X (.Call (.Attribute (.Name x p) m apos) (e::es) [] pos) (wX sp dvs E t):=by
 obtain⟨C,f,fd,ps,ds,bc,F,hm,hb,hd⟩:=c;exact BD F hr hg hm bc hb hd hx ha hdb hst hpl ht
end
theorem sD{X:Cx}{NC:List Str}{scope:Scope}{cl:List (Str × Addr)}{C:Addr}{fp:List Addr}{s2:Shared}{H2:Hp}:Passes (CXE (X.comp NC scope cl C fp s2 H2).prog (X.comp NC scope cl C fp s2 H2).w) (X.comp NC scope cl C fp s2 H2) XNo:=passes λ_ _ _ _ _ _ _ _ q=>q
def isStar:Expr->Bool
 | .Starred .. =>true
 | _=>false
theorem yM{e:Expr}{es:List Expr}{env:Env}(h:isStar e=false):starEach (e::es) env=(false,eval e env)::starEach es env:=by
 cases e <;> first | rfl | cases h
theorem G0{X:Cx}{e:Expr}{es:List Expr}{te:TE}{t:TA}(ha:PE X e te)(hr:PA X es t)(h:isStar e=false:=by rfl):PA X (e::es) (Ex te t):=zi ha hr (yM h)
def isConst:Expr->Bool
 | .Constant (.str _) _ _=>true
 | .Constant (.int _) _ _=>true
 | _=>false
def Cs:Expr->V
 | .Constant (.str x) _ _=> .str x
 | .Constant (.int x) _ _=> .int x
 | _=> .non
def Dr(vs:List V):TA:=λ_ H Q=>Q vs H
theorem Cy{e:Expr}(h:isConst e=true):(∃x j p,e=.Constant (.str x) j p)\/∃x j p,e=.Constant (.int x) j p:=by
 unfold isConst at h
 split at h
 .exact .inl ⟨_,_,_,rfl⟩
 .exact .inr ⟨_,_,_,rfl⟩
 .cases h
theorem sQ{X:Cx}:∀{es:List Expr},es.all isConst=true->PA X es (Dr (es.map Cs))
 | [],_=>λpos pins s σ H Q I h=>g9 pos pins s σ H Q I h
 | e::es,h=>by
  rw[List.all_cons,Bool.and_eq_true] at h;have ih:=sQ (X:=X) (es:=es) h.2;intro pos pins s σ H Q I q
  have hs:PE X e (tC (Cs e))/\isStar e=false:=by
   rcases Cy h.1 with⟨x,j,p,rfl⟩ | ⟨x,j,p,rfl⟩
   .exact ⟨aq,rfl⟩
   .exact ⟨ag,rfl⟩
  exact zi hs.1 ih (yM hs.2) pos pins s σ H Q I q
theorem yz{A:Around}{k:Nat}{cm:Bool}(hr:bx cm k A):A.units < cLine:=Nat.lt_of_succ_lt (qb hr)
def df(c:Stmt)(j:Nat):Stmt:=match c with
 | .ClassDef _ _ _ body .. =>body.getD j (.Pass ⟨0,0,0,0⟩)
 | _=> .Pass ⟨0,0,0,0⟩
theorem bS:bootBuiltins "len"=some (.builtin "len"):=by decide +kernel
theorem bP:bootBuiltins "isinstance"=some (.builtin "isinstance"):=by decide +kernel
theorem Fz:bootBuiltins "min"=some (.builtin "min"):=by decide +kernel
theorem EX:bootBuiltins "all"=some (.builtin "all"):=by decide +kernel
theorem xX:bootBuiltins "int"=some (.type "int"):=by decide +kernel
theorem Ea:bootBuiltins "bool"=some (.type "bool"):=by decide +kernel
theorem cu:bootBuiltins "str"=some (.type "str"):=by decide +kernel
theorem El:bootBuiltins "list"=some (.type "list"):=by decide +kernel
theorem iX{K:PySem.W.Frag}{t:Value}:PySem.W.kitOne K t t=some true:=by
 unfold PySem.W.kitOne;rw[if_pos (beq_self_eq_true _)]
theorem Ff{K:PySem.W.Frag}{n m:String}{b:Bool}(hne:((Value.type n) == (Value.type m))=false)(hm:PySem.W.kitMeta m=true)(h:(fastBuiltinMro n).map (·.contains (.type m))=some b):PySem.W.kitOne K (.type n) (.type m)=some b:=by
 unfold PySem.W.kitOne;rw[if_neg (by rw[hne];decide)];unfold PySem.W.kitCls;dsimp only;rw[if_pos hm];exact h
theorem uq{K:PySem.W.Frag}:PySem.W.kitOne K (.type "int") (.type "bool")=some false:=Ff (by decide) (by decide +kernel) (by decide +kernel)
theorem Ge{i j:Int}(h:(decide (0 < j) && decide (j < 1073741824))=true):Gu i j:=by
 rw[Bool.and_eq_true,decide_eq_true_iff,decide_eq_true_iff] at h;exact h
theorem qg:∀{ys:List Str} {its:List Value},Vals (ys.map V.str) its->StrsAre its ys
 | [],[],_=> .nil
 | [],_::_,r=>by cases r
 | _::_,[],r=>by cases r
 | y::ys,_::its,r=>by
  cases r with
  | cons ru r'=>
   obtain⟨t,rfl⟩:=ru;exact .cons _ _ (qg r')
section
variable{X:Cx}
theorem zk{pins:List (Addr × Obj)}{s:Shared}{σ:St}{H:Hp}{Q:VK}{z:Str}(I:Inv X pins σ H s)(q:Q (.str z) H):∀(t':Tok) (k:Nat),EP X pins σ Q (.str z t') { s with toks:=k}:=λ_ _=>⟨.str z,H,I.tok _,⟨_,rfl⟩,q⟩
theorem cJ:MtM X "str.join" (λx vs H Q=>∃(sep:Str) (p:Addr) (ys:List Str),x=.str sep/\vs=[.ref p]/\SqL X.K H p (ys.map V.str)/\(ys.map (·.length)).sum + ys.length * sep.length<=16777216/\Q (.str (Txt.join sep ys)) H):=by
 intro pins s σ H x vs v us Q I rx rv h;obtain⟨sep,p,ys,rfl,rfl,hS,hz,q⟩:=h;obtain⟨t,rfl⟩:=rx;obtain⟨u,rfl,ru⟩:=rv.one;cases ru;obtain⟨its,r,pl,_⟩:=I.list hS;exact join_list pl.isList (qg r) hz (zk I q)
theorem iW:MtM X "str.lstrip" (λx vs H Q=>∃z y:Str,x=.str z/\vs=[.str y]/\z.length<=sizeLine/\Q (.str (Txt.lstripChars z y)) H):=by
 intro pins s σ H x vs v us Q I rx rv h;obtain⟨z,y,rfl,rfl,hz,q⟩:=h;obtain⟨t,rfl⟩:=rx;obtain⟨u,rfl,⟨u2,rfl⟩⟩:=rv.one;exact call_gives F.slot_str_lstrip (typeIs_str _ _ _) F.entry_str_lstrip (F.args_str_lstrip_2 _ _) (gives_str_lstrip_chars z y t u2) (post_val_or_made (λ_=>fits_stripped _ _ _ hz) (zk I q))
theorem lH:MtM X "str.startswith" (λx vs H Q=>∃z y:Str,x=.str z/\vs=[.str y]/\Q (.bl (Txt.startswith z y)) H):=by
 intro pins s σ H x vs v us Q I rx rv h;obtain⟨z,y,rfl,rfl,q⟩:=h;obtain⟨t,rfl⟩:=rx;obtain⟨u,rfl,⟨u2,rfl⟩⟩:=rv.one;exact call_gives F.slot_str_startswith (typeIs_str _ _ _) F.entry_str_startswith (F.args_str_startswith_2 _ _) (gives_str_startswith z y t u2) ⟨.bl _,H,I,rfl,q⟩
theorem sX:∀(tk:Nat) (ys:List Str),Vals (ys.map V.str) (strsFrom tk ys)
 | _,[]=> .nil
 | tk,_::ys=> .cons ⟨_,rfl⟩ (sX (tk + 1) ys)
theorem jQ:MtM X "str.split" (λx vs H Q=>∃z y:Str,x=.str z/\vs=[.str y]/\z.length<=sizeLine/\(y.length == 0)=false/\(Builtin.Str.partsBetween z (Builtin.Str.occurrences z y 0 z.length (z.length + 1)) y.length).length<=sizeLine∧
  (Txt.split z y).length<=sizeLine/\∀p,H p=none->Q (.ref p) (upd H p (.lst ((Txt.split z y).map V.str)))):=by
 intro pins s σ H x vs v us Q I rx rv h;obtain⟨z,y,rfl,rfl,hz,hy,hn,hw,q⟩:=h;obtain⟨t,rfl⟩:=rx;obtain⟨u,rfl,⟨u2,rfl⟩⟩:=rv.one;have q:=q _ I.fresh
 have one:∀(q:Q (.ref s.heap.objs.size) (upd H s.heap.objs.size (.lst [V.str z]))),EP X pins σ Q (.ref s.heap.objs.size) { s with heap:=s.heap.push { cls:= .type "list",data:= .seq [Value.str z t].toArray}}:=λq=>
  ⟨.ref _,_,I.Fe (t':=s.toks) (its:=[.str z t]) (ys:=[V.str z]) (.cons ⟨_,rfl⟩ .nil) (by rw[List.length_singleton,sizeLine_eq];lia),rfl,q⟩
 unfold Txt.split at q hw;by_cases h1:(decide (z.length < y.length) || decide (Builtin.Str.strKind z < Builtin.Str.strKind y))=true
 .rw [if_pos h1] at q;exact call_meets F.slot_str_split (typeIs_str _ _ _) F.entry_str_split (F.args_str_split_2 _ _) (meets_str_split_cannot_occur z y t u2 h1) (one q)
 .rw [if_neg h1] at q hw;have h1:=Bool.eq_false_iff.mpr h1;by_cases hf:(Builtin.Str.occurrences z y 0 z.length (z.length + 1)).isEmpty=true
  .rw [if_pos hf] at q;exact call_meets F.slot_str_split (typeIs_str _ _ _) F.entry_str_split (F.args_str_split_2 _ _) (meets_str_split_not_found z y t u2 h1 hy hf) (one q)
  .rw [if_neg hf] at q hw;refine call_meets F.slot_str_split (typeIs_str _ _ _) F.entry_str_split (F.args_str_split_2 _ _) (meets_str_split_sep z y t u2 h1 hy (Bool.eq_false_iff.mpr hf) hz hn) ?_;exact⟨.ref _,_,I.Fe (its:=strsFrom s.toks _) (ys:=_) (sX _ _) (by rw[List.length_map];exact hw),rfl,q⟩
theorem bY:OpR X (binaryOp .Mult) (λx y H Q=>∃(z:Str) (n:Nat),x=.str z/\y=.int n/\z.length * n<=100000/\n<=100000/\z.length<=100000/\Q (.str ⟨(List.replicate n z.cps).foldl (·++·) #[]⟩) H):=by
 intro pins s σ H x y v u Q I rx ry h;obtain⟨z,n,rfl,rfl,h1,h2,h3,q⟩:=h;obtain⟨t,rfl⟩:=rx;obtain⟨t2,rfl⟩:=ry;have hs:(100000:Nat)<=sizeLine:=by decide
 refine P.mul_str ?_ ?_ ?_ ?_
 .rw [decide_eq_false (by lia),decide_eq_false (by lia)];rfl
 .intro a b;have:(0:Int) < n:=by lia
  rw[Int.not_lt,Int.le_ediv_iff_mul_le this];have h1:((z.length * n:Nat):Int)<=((100000:Nat):Int):=Int.ofNat_le.mpr h1;rw[Int.natCast_mul] at h1
  lia
 .intro a b;rw[Int.toNat_natCast];unfold Builtin.Str.tooLong;exact decide_eq_false (by lia)
 .by_cases a:(n:Int) < 1
  .rw [if_pos a];obtain rfl:n=0:=by lia
   exact⟨by decide,.str _,H,I.tok _,⟨_,rfl⟩,q⟩
  .rw [if_neg a];by_cases b:((n:Int) == 1 || z.length == 0)=true
   .rw [if_pos b]
    have e:(⟨(List.replicate n z.cps).foldl (·++·) #[]⟩:Str)=z:=by
     rw[Bool.or_eq_true,beq_iff_eq,beq_iff_eq] at b;rcases b with b | b
     .obtain rfl:n=1:=by lia
      show(⟨#[]++z.cps⟩:Str)=z;rw[Array.empty_append]
     .have z0:z.cps=#[]:=Array.size_eq_zero_iff.mp b
      have f:∀m:Nat,(List.replicate m (#[]:Array Nat)).foldl (·++·) #[]=#[]:=λm=>by
       induction m with
       | zero=>rfl
       | succ m ih=>exact ih
      rw[z0,f];cases z;exact congrArg Str.mk z0.symm
    rw[e] at q;exact⟨.str _,H,I,⟨_,rfl⟩,q⟩
   .rw [if_neg b,Int.toNat_natCast];refine⟨?_,.str _,H,I.tok _,⟨_,rfl⟩,q⟩
    have sz:∀(m:Nat) (acc:Array Nat),((List.replicate m z.cps).foldl (·++·) acc).size=acc.size + m * z.cps.size:=λm=>by
     induction m with
     | zero=>intro acc;simp
     | succ m ih=>intro acc;rw[List.replicate_succ,List.foldl_cons,ih,Array.size_append,Nat.succ_mul];lia
    show((List.replicate n z.cps).foldl (·++·) #[]).size<=sizeLine;rw[sz,Nat.mul_comm];have:z.cps.size * n<=100000:=h1;simp only [List.size_toArray,List.length_nil]
    lia
end
theorem vd{X:Cx}{hs:List ExceptHandler}:PH X hs (λ_ _ _ _ _=>False):=λ_ _ _ _ _ _ _ _ _ _ _ _ _ z=>z.elim
theorem lr{X:Cx}{K0:PySem.W.Frag}(h:X.K=K0:=by rfl):MtM X "str.join" (λx vs H Q=>∃(sep:Str) (p:Addr) (ys:List Str),x=.str sep/\vs=[.ref p]/\SqL K0 H p (ys.map V.str)/\(ys.map (·.length)).sum + ys.length * sep.length<=16777216/\Q (.str (Txt.join sep ys)) H):=by
 subst h;exact cJ
section
variable{X:Cx}{K0:PySem.W.Frag}
theorem BV{T id:String}{name:Str}{r:V->List V->Hp->VK->Prop}{o e:Expr}{es:List Expr}{to:TE}{t:TA}{apos cpos:Pos}(hK:X.K=K0)(pa:PlainAttrs T)(slot:Slot T name id)(hty:typeOf (.builtin id)=pure (.type "method_descriptor"))(hm:MtR X id r)(ho:PE X o to)(ha:PA X (e::es) t)
  (hbase:attributeBase o name X.env (eval o X.env)=eval o X.env:=by rfl)
  (hfew:((backTo cpos (starEach (e::es) X.env)).all (λx=> !x.1) && (backToKw cpos (keywordEach [] X.env)).all (λx=>x.1.isSome)
   && decide ((e::es).length + ([]:List Keyword).length + (if ([]:List Keyword).isEmpty then 0 else 1) < 30))=true:=by rfl)
  (hline:(apos.endLine == cpos.line)=true:=by rfl) (hs:starEach (e::es) X.env=(false,eval e X.env)::starEach es X.env:=by rfl) (hplain:(backTo cpos (starEach es X.env)).any (·.1)=false:=by rfl):
  PE X (.Call (.Attribute o name apos) (e::es) [] cpos) (tBM K0 T r to t):=by
 subst hK;exact cn pa slot hty hm ho ha hbase hfew hline hs hplain
end
section
variable{X:Cx}{K0:PySem.W.Frag}
theorem Cq(h:X.K=K0):IxR X (GX K0):=by
 subst h;exact az
end
end L2
namespace Shp
open PySem L2
structure Sh where
 kind:Nat
 keep:Str
 many:Int
 bG:Int
 cX:Int
 name:Str
structure OkS(s:Sh):Prop where
 kd:s.kind<=5
 kp:s.keep="always"\/s.keep="fallen"\/s.keep="never"
 m0:0<=s.many
 m1:s.many<=1000001
 g0:0<=s.bG
 g1:s.bG<=1000001
 s0:0<=s.cX
 s1:s.cX<=1000001
abbrev bI(i:Int):Str:=Str.ofString (toString i)
def words(s:Sh):List Str:=match s.kind with
 | 0=>["leaf",s.keep,bI s.bG,bI s.cX,"idle"]
 | 1=>["leaf",s.keep,bI s.bG,bI s.cX,"steady",bI s.many]
 | 2=>["leaf",s.keep,bI s.bG,bI s.cX,"falls",bI s.many]
 | 3=>["minder",s.keep,"one",bI s.bG,bI s.cX]
 | 4=>["minder",s.keep,"all",bI s.bG,bI s.cX]
 | _=>["minder",s.keep,"rest",bI s.bG,bI s.cX]
abbrev Rep:=Hp->Addr->Sh->Prop
def rN(R:Rep)(C:Addr)(mk:List V->Sh->Prop):Sp:=λvs H Q _=>∃(x dx:Addr) (H0:Hp) (us:List V) (s:Sh),vs=.ref x::us/\mk us s/\H0 x=none/\H0 dx=none/\dx≠x∧
 H=upd (upd H0 dx (.own x)) x (.ins C dx [])/\∀H',aF H0 H'->R H' x s->Q .non H'
def CG(us:List V)(s:Sh):Prop:=∃(nm kp:Str) (g l:Int),us=[.str nm,.str kp,.int g,.int l]/\s=⟨0,kp,0,g,l,nm⟩/\OkS s
def vY(us:List V)(s:Sh):Prop:=∃(nm kp:Str) (m g l:Int),us=[.str nm,.str kp,.int m,.int g,.int l]/\s=⟨1,kp,m,g,l,nm⟩/\OkS s
def w5(us:List V)(s:Sh):Prop:=∃(nm kp:Str) (m g l:Int),us=[.str nm,.str kp,.int m,.int g,.int l]/\s=⟨2,kp,m,g,l,nm⟩/\OkS s
def lh(kd:Nat)(us:List V)(s:Sh):Prop:=∃(nm kp:Str) (g l:Int),us=[.str nm,.str kp,.int g,.int l]/\s=⟨kd,kp,0,g,l,nm⟩/\OkS s
def o1(R:Rep)(C:Addr):Sp:=λvs H Q _=>∃(a dx:Addr) (fs:List (Str × V)) (s:Sh),vs=[.ref a]/\R H a s/\H a=some (.ins C dx fs)∧
 ∀(q:Addr) (H':Hp),aF H H'->H q=none->H' q=some (.lst ((words s).map V.str))->Q (.ref q) H'
def pG(R:Rep)(C:Addr):Sp:=λvs H Q _=>∃(a dx:Addr) (fs:List (Str × V)) (s:Sh),vs=[.ref a]/\R H a s/\H a=some (.ins C dx fs)/\∀H',aF H H'->Q (.bl (decide (s.kind < 3))) H'
structure If(P:Program)(w:World)(K:PySem.W.Frag)(mg:Str->Option Value)(base:Heap)(k:Nat)(R:Rep)(Cl:Nat->Addr->Prop):Prop where
 mono:∀{H H':Hp} {a:Addr} {s:Sh},aF H H'->R H a s->R H' a s
 ok:∀{H:Hp} {a:Addr} {s:Sh},R H a s->OkS s
 inst:∀{H:Hp} {a:Addr} {s:Sh},R H a s->∃C dx fs,H a=some (.ins C dx fs)/\Cl s.kind C/\fs.lookup ("words":Str)=none/\fs.lookup ("leaf":Str)=none/\fs.lookup ("begun_again":Str)=none/\fs.lookup ("end_at":Str)=none/\fs.lookup ("chosen":Str)=none
 words:∀{C j},Cl j C->MethAt P w K mg base (CXE P w) true k "words" C (o1 R C) []
 leaf:∀{C j},Cl j C->MethAt P w K mg base (CXE P w) true k "leaf" C (pG R C) []
def gy(P:Program)(w:World)(K:PySem.W.Frag)(mg:Str->Option Value)(base:Heap)(k:Nat)(m:Str)(sp:Addr->Sp)(Cl:Addr->Prop):Prop:=∀C,Cl C->MethAt P w K mg base (CXE P w) true k m C (sp C) []
def Dt(sp:Addr->Sp)(Cl:Addr->Prop)(C:Addr)(s:Sp)(dvs:List V):Prop:=Cl C/\s=sp C/\dvs=[]
theorem gy.d{P:Program}{w:World}{K:PySem.W.Frag}{mg:Str->Option Value}{base:Heap}{k:Nat}{m:Str}{sp:Addr->Sp}{Cl:Addr->Prop}(h:gy P w K mg base k m sp Cl):
  ∀C s dvs,Dt sp Cl C s dvs->MethAt P w K mg base (CXE P w) true k m C s dvs:=by
 rintro C s dvs ⟨c,rfl,rfl⟩;exact h C c
end Shp
namespace Nm
open PySem PySem.NumText PySem.StrLaws
abbrev cds(x:Str):List Nat:=x.cps.toList
def ofC(l:List Nat):Str:=⟨l.toArray⟩
theorem lY(l:List Nat):cds (ofC l)=l:=rfl
theorem fI{x y:Str}(h:cds x=cds y):x=y:=PyProof.Rows.ext_toList h
theorem gR(x:Str):ofC (cds x)=x:=fI rfl
theorem aA(x:Str):(cds x).length=x.length:=Array.length_toList
theorem aT(x y:Str):cds (x++y)=cds x++cds y:=PySem.W.KT.app_list x y
theorem cc(x y:Str):(x++y).length=x.length + y.length:=by rw[<- aA,aT,List.length_append,aA,aA]
theorem FL(x:Str)(c:Nat):(!(Builtin.Str.occurrences x ⟨#[c]⟩ 0 x.length 1).isEmpty)=(cds x).contains c:=by
 rw[Bool.eq_iff_iff,found_iff]
 constructor
 .rintro ⟨i,h⟩;exact List.contains_iff_mem.mpr (List.mem_of_getElem? ((subAt_one x c i).mp h))
 .intro h;obtain⟨i,hi⟩:=List.mem_iff_getElem?.mp (List.contains_iff_mem.mp h);exact⟨i,(subAt_one x c i).mpr hi⟩
def dg(m:Nat):List Nat:=(Nat.toDigits 10 m).map Char.toNat
theorem zu(m:Nat):dg m≠[]:=by
 unfold dg;intro e;exact Nat.toDigits_ne_nil (List.map_eq_nil_iff.mp e)
theorem Fl(m:Nat):(dg m).length<=7↔m < 10 ^ 7:=by
 unfold dg;rw[List.length_map];exact Nat.length_toDigits_le_iff (by decide) (by decide)
theorem Ac{c:Char}(h:c.isDigit=true):48<=c.toNat/\c.toNat<=57:=by
 unfold Char.isDigit at h;simp only [Bool.and_eq_true,decide_eq_true_eq] at h;exact⟨h.1,h.2⟩
theorem Bv{m c:Nat}(h:c∈dg m):48<=c/\c<=57:=by
 obtain⟨ch,hch,e⟩:=List.mem_map.mp h;rw[<- e];exact Ac (Nat.isDigit_of_mem_toDigits (by decide) (by decide) hch)
theorem vE{d:Nat}(h:d < 10):(Nat.digitChar d).toNat=d + 48:=by
 revert h;revert d;decide
theorem vJ{m:Nat}(h:m < 10):dg m=[m + 48]:=by
 unfold dg;rw[Nat.toDigits_of_lt_base h,List.map_cons,List.map_nil,vE h]
theorem Bm{m:Nat}(h:10<=m):dg m=dg (m / 10)++[m % 10 + 48]:=by
 unfold dg;rw[Nat.toDigits_eq_if (n:=m) (by decide),if_neg (by lia),List.map_append,List.map_cons,List.map_nil,vE (by lia)]
theorem pA(cs:List Nat)(c:Nat):digitsVal (cs++[c])=digitsVal cs * 10 + (c - 48):=by
 unfold digitsVal;rw[List.foldl_append];rfl
theorem EH(m:Nat):digitsVal (dg m)=m:=by
 induction m using Nat.strongRecOn with
 | _ m ih=>
  by_cases h:m < 10
  .rw [vJ h];show 0 * 10 + (m + 48 - 48)=m
   lia
  .rw [Bm (by lia),pA,ih (m / 10) (by lia)]
   lia
theorem De(m:Nat):∀t,dg m=48::t->m=0/\t=[]:=by
 induction m using Nat.strongRecOn with
 | _ m ih=>
  intro t e;by_cases h:m < 10
  .rw [vJ h] at e;injection e with e1 e2;exact⟨by lia,e2.symm⟩
  .rw [Bm (by lia)] at e;cases q:dg (m / 10) with
   | nil=>exact absurd q (zu _)
   | cons a r=>
    rw[q] at e;injection e with e1 e2;subst e1;have:=(ih (m / 10) (by lia) r q).1
    lia
theorem mS{v:Int}(h0:0<=v):cds (PySem.Str.ofString (toString v))=dg v.toNat:=by
 obtain⟨m,rfl⟩:=Int.eq_ofNat_of_zero_le h0;exact PySem.W.KIN.signs_num m
def ir(c:Nat):Bool:=decide (48<=c/\c<=57)
def tJ(c:Nat):Bool:=decide (97<=c/\c<=122) || decide (48<=c/\c<=57)
theorem zB:cds "0123456789"=[48,49,50,51,52,53,54,55,56,57]:=by decide +kernel
theorem D4(c:Nat):(cds "0123456789").contains c=ir c:=by
 rw[zB,Bool.eq_iff_iff,List.contains_iff_mem];unfold ir;rw[decide_eq_true_iff];simp only [List.mem_cons,List.not_mem_nil,or_false];omega
theorem CQ:cds "abcdefghijklmnopqrstuvwxyz0123456789"=[97,98,99,100,101,102,103,104,105,106,107,108,109,110,111,112,113,114,115,116,117,118,119,120,121,122,48,49,50,51,52,53,54,55,56,57]:=by decide +kernel
theorem Fj(c:Nat):(cds "abcdefghijklmnopqrstuvwxyz0123456789").contains c=tJ c:=by
 rw[CQ];by_cases h:c < 128
 .have q:∀c,c < 128->[97,98,99,100,101,102,103,104,105,106,107,108,109,110,111,112,113,114,115,116,117,118,119,120,121,122,48,49,50,51,52,53,54,55,56,57].contains c=tJ c:=by decide +kernel
  exact q c h
 .have e:tJ c=false:=by
   unfold tJ;rw[decide_eq_false (by lia),decide_eq_false (by lia)]
   rfl
  rw[e,<-Bool.not_eq_true,List.contains_iff_mem];intro m;have q:∀x∈[97,98,99,100,101,102,103,104,105,106,107,108,109,110,111,112,113,114,115,116,117,118,119,120,121,122,48,49,50,51,52,53,54,55,56,57],x < 128:=by decide +kernel
  exact h (q c m)
theorem C5(m k:Nat):(List.replicate k 48++dg m).all ir=true:=by
 rw[List.all_eq_true];intro c hc;unfold ir;rw[decide_eq_true_iff];rcases List.mem_append.mp hc with h | h
 .rw [(List.mem_replicate.mp h).2]
  lia
 .exact Bv h
def aD(sep:List Nat):List (List Nat)->List Nat
 | []=>[]
 | [a]=>a
 | a::b::r=>a++sep++aD sep (b::r)
theorem jU(sep:Str):∀ys:List Str,cds (Str.join sep ys)=aD (cds sep) (ys.map cds)
 | []=>rfl
 | [_]=>rfl
 | a::b::r=>by
  show cds (a++sep++Str.join sep (b::r))=cds a++cds sep++aD (cds sep) ((b::r).map cds);rw[aT,aT,jU sep (b::r)]
theorem cG(sep:Str)(ys:List Str):cds (Txt.join sep ys)=aD (cds sep) (ys.map cds):=by
 show cds (Builtin.Str.glued sep ys)=_;rw[StrLaws.glued_eq_join,jU]
theorem EF(n d a:Nat):Cut.at' n d (some (a:Int))=min a n:=by
 unfold Cut.at';dsimp only;rw[if_neg (by lia),Int.toNat_natCast]
theorem FW(x:Str)(b:Nat):cds (Txt.slice x none (some (b:Int)))=(cds x).take b:=by
 have h:=Cut.signs x none (some (b:Int));have hl:x.cps.toList.length=x.length:=Array.length_toList;have hl2:(cds x).length=x.length:=Array.length_toList;rw[show cds (Txt.slice x none (some (b:Int)))=_ from h];rw[EF,show Cut.at' x.length 0 none=0 from rfl,List.drop_zero,Nat.sub_zero];by_cases hb:b<=x.length
 .rw [Nat.min_eq_left hb]
 .rw [Nat.min_eq_right (by lia),List.take_of_length_le (by lia),List.take_of_length_le (by lia)]
theorem AI(x:Str)(lo hi:Option Int):(Txt.slice x lo hi).length<=x.length:=Txt.slice_le x lo hi
theorem Dy{x:Str}(hn:cds x≠[])(hd:(cds x).all ir=true)(hl:x.length<=60):PySem.intText? x=some ((digitsVal (cds x):Nat):Int):=
 intText_digits (λc hc=>by have:=List.all_eq_true.mp hd c hc;unfold ir at this;exact of_decide_eq_true this) hn (by lia)
end Nm
namespace Tr
open PySem Shp Nm PySem.NumText
def dX(x:Str):Prop:=1<=x.length/\x.length<=12/\(cds x).all tJ=true
structure Row where
 dep:Nat
 sh:Sh
def Row.isM(r:Row):Bool:=decide (3<=r.sh.kind)
instance:Inhabited Row:=⟨⟨0,⟨0,"",0,0,0,""⟩⟩⟩
abbrev Path:=List (Nat × Bool)
def pN(p:Path)(k:Nat)(r:Row):Path:=p.take r.dep++[(k,r.isM)]
def aU(rows:List Row):Nat->Path
 | 0=>[]
 | k + 1=>pN (aU rows k) k (rows.getD k default)
def fits(p:Path)(k:Nat)(r:Row):Prop:=if k=0 then r.dep=0/\r.isM=true else 1<=r.dep/\r.dep<=8/\∃j,p[r.dep - 1]? =some (j,true)
instance(p:Path)(k:Nat)(r:Row):Decidable (fits p k r):=by
 unfold fits;refine @instDecidableIte _ _ _ _ inferInstance ?_;refine @instDecidableAnd _ _ inferInstance (@instDecidableAnd _ _ inferInstance ?_);cases h:p[r.dep - 1]? with
 | none=>exact isFalse λzz=>by obtain⟨j,e⟩:=zz;cases e
 | some x=>
  obtain⟨j,b⟩:=x;cases b with
  | true=>exact isTrue ⟨j,rfl⟩
  | false=>exact isFalse λzz=>by obtain⟨j,e⟩:=zz;cases e
def bE(rows:List Row)(k:Nat):Int:=match (aU rows k)[(rows.getD k default).dep - 1]? with
 | some x=>if k=0 then -1 else (x.1:Int)
 | none=> -1
theorem eW{α:Type}(xs ys:List α)(d:α){k:Nat}(h:k < xs.length):(xs++ys).getD k d=xs.getD k d:=by
 rw[List.getD_eq_getElem?_getD,List.getD_eq_getElem?_getD,List.getElem?_append_left h]
theorem bq(rows more:List Row):∀k,k<=rows.length->aU (rows++more) k=aU rows k
 | 0,_=>rfl
 | k + 1,h=>by
  unfold aU;rw[bq rows more k (by lia),eW _ _ _ (by lia)]
theorem sE(rows more:List Row){k:Nat}(h:k < rows.length):bE (rows++more) k=bE rows k:=by
 unfold bE;rw[bq rows more k (by omega),eW _ _ _ (by omega)]
structure OkR(s:Sh):Prop where
 kd:s.kind<=5
 kp:s.keep="always"\/s.keep="fallen"\/s.keep="never"
 m0:0<=s.many
 m1:s.many<=1000000
 m2:¬(s.kind=1\/s.kind=2)->s.many=0
 g0:0<=s.bG
 g1:s.bG<=1000000
 s0:0<=s.cX
 s1:s.cX<=1000000
 s2:3<=s.kind->1<=s.cX
 nm:dX s.name
theorem OkR.okS{s:Sh}(h:OkR s):OkS s:=⟨h.kd,h.kp,h.m0,by have:=h.m1;lia,h.g0,by have:=h.g1;lia,h.s0,by have:=h.s1;lia⟩
structure OkT(rows:List Row):Prop where
 ne:rows≠[]
 len:rows.length<=64
 fit:∀k,k < rows.length->fits (aU rows k) k (rows.getD k default)
 sh:∀r∈rows,OkR r.sh
 nd:(rows.map (·.sh.name)).Nodup
def spl(c:Nat):List Nat->List (List Nat)
 | []=>[[]]
 | a::r=>if a=c then []::spl c r else match spl c r with
  | []=>[[a]]
  | w::ws=>(a::w)::ws
theorem iJ(c a:Nat)(r:List Nat):spl c (a::r)=if a=c then []::spl c r else match spl c r with
  | []=>[[a]]
  | w::ws=>(a::w)::ws:=rfl
theorem yy(c:Nat):∀l,spl c l≠[]
 | []=>List.cons_ne_nil _ _
 | a::r=>by
  unfold spl
  split
  .exact List.cons_ne_nil _ _
  .cases spl c r <;> exact List.cons_ne_nil _ _
theorem tO(c:Nat)(y:List Nat):∀x,spl c (x++c::y)=spl c x++spl c y
 | []=>by
  show(if c=c then []::spl c y else _)=_;rw[if_pos rfl]
  rfl
 | a::r=>by
  have ih:=tO c y r;rw[List.cons_append,iJ,iJ];by_cases h:a=c
  .rw [if_pos h,if_pos h,ih]
   rfl
  .rw [if_neg h,if_neg h,ih];cases z:spl c r with
   | nil=>exact absurd z (yy c r)
   | cons w ws=>rfl
theorem oV(c:Nat):∀x,c∉x->spl c x=[x]
 | [],_=>rfl
 | a::r,h=>by
  have h1:a≠c:=λe=>h (by rw[e];exact List.mem_cons_self);unfold spl;rw[if_neg h1,oV c r (λz=>h (List.mem_cons_of_mem _ z))]
theorem qB(c:Nat):∀ls:List (List Nat),ls≠[]->(∀l∈ls,c∉l)->spl c (aD [c] ls)=ls
 | [],h,_=>absurd rfl h
 | [a],_,h=>oV c a (h a List.mem_cons_self)
 | a::b::r,_,h=>by
  have ih:=qB c (b::r) (List.cons_ne_nil _ _) λl hl=>h l (List.mem_cons_of_mem _ hl);show spl c (a++[c]++aD [c] (b::r))=_;rw[List.append_assoc,List.singleton_append,tO,ih,oV c a (h a List.mem_cons_self)]
  rfl
def bh(l:List Nat):List (List Nat):=(spl 32 l).filter λw=> !w.isEmpty
theorem ku(x y:List Nat):bh (x++32::y)=bh x++bh y:=by
 unfold bh;rw[tO,List.filter_append]
theorem ye:bh []=[]:=rfl
theorem zH(y:List Nat):bh (32::y)=bh y:=by
 have:=ku [] y;rwa [ye,List.nil_append,List.nil_append] at this
theorem g8(n:Nat)(y:List Nat):bh (List.replicate n 32++y)=bh y:=by
 induction n with
 | zero=>rfl
 | succ n ih=>rw[List.replicate_succ,List.cons_append,zH,ih]
theorem jY{w:List Nat}(h:w≠[])(h2:32∉w):bh w=[w]:=by
 unfold bh;rw[oV 32 w h2];cases w with
 | nil=>exact absurd rfl h
 | cons a r=>rfl
theorem nZ(n m:Nat):∀ws:List (List Nat),(∀w∈ws,w≠[]/\32∉w)->bh (aD (List.replicate (n + 1) 32) ws++List.replicate m 32)=ws
 | [],_=>by
  show bh ([]++_)=[];rw[List.nil_append];have:=g8 m [];rwa [List.append_nil] at this
 | [a],h=>by
  show bh (a++_)=[a];obtain⟨h1,h2⟩:=h a List.mem_cons_self;cases m with
  | zero=>rw[List.replicate_zero,List.append_nil];exact jY h1 h2
  | succ m=>
   rw[List.replicate_succ,ku,jY h1 h2];have:=g8 m [];rw[List.append_nil] at this;rw[this]
   rfl
 | a::b::r,h=>by
  obtain⟨h1,h2⟩:=h a List.mem_cons_self;have ih:=nZ n m (b::r) λw hw=>h w (List.mem_cons_of_mem _ hw);show bh (a++List.replicate (n + 1) 32++aD _ (b::r)++_)=_;rw[List.replicate_succ] at ih ⊢;rw[List.append_assoc,List.append_assoc,List.cons_append,ku,g8,jY h1 h2];rw[ih]
  rfl
def numOf(x:Str):Option Int:=if cds x≠[]/\(cds x).all ir=true/\((cds x).head? =some 48->cds x=[48])/\digitsVal (cds x)<=1000000 then some ((digitsVal (cds x):Nat):Int) else none
def bD(x:Str):Prop:=x="always"\/x="fallen"\/x="never"
instance(x:Str):Decidable (bD x):=inferInstanceAs (Decidable (_\/_))
instance(x:Str):Decidable (dX x):=inferInstanceAs (Decidable (_/\_))
def xw(x:Str):Option Nat:=if x="one" then some 3 else if x="all" then some 4 else if x="rest" then some 5 else none
def rowOf:List Str->Option Sh
 | [a,kp,g,s,wk,nm]=>if a="leaf"/\bD kp/\wk="idle"/\dX nm then (numOf g).bind λg=>(numOf s).bind λs=>some ⟨0,kp,0,g,s,nm⟩
   else if a="minder"/\bD kp/\dX nm then (xw g).bind λk=>(numOf s).bind λm=>(numOf wk).bind λp=>if p=0 then none else some ⟨k,kp,0,m,p,nm⟩ else none
 | [a,kp,g,s,wk,m,nm]=>if a="leaf"/\bD kp/\dX nm then (if wk="steady" then some 1 else if wk="falls" then some 2 else none).bind λk=>(numOf g).bind λg=>(numOf s).bind λs=>(numOf m).bind λm=>some ⟨k,kp,m,g,s,nm⟩ else none
 | _=>none
def lead(l:List Nat):Nat:=(l.takeWhile (· == 32)).length
def cB(l:List Nat):Bool:=match l.dropWhile (· == 32) with
 | []=>true
 | c::_=>c == 35
def gh(l:List Nat):Option Row:=if lead l % 2=0 then (rowOf ((bh l).map ofC)).map λs=>⟨lead l / 2,s⟩ else none
inductive Res
 | ok (rows:List Row)
 | bad (n:Nat)
 | many
 | Ew
def scan(rows:List Row)(n:Nat):List (List Nat)->Res
 | []=>if rows=[] then .Ew else .ok rows
 | l::ls=>if cB l=true then scan rows (n + 1) ls else match gh l with
  | none=> .bad (n + 1)
  | some r=>if fits (aU rows rows.length) rows.length r/\r.sh.name∉rows.map (·.sh.name) then (if rows.length=64 then .many else scan (rows++[r]) (n + 1) ls) else .bad (n + 1)
theorem mW(rows:List Row)(n:Nat)(l:List Nat)(ls:List (List Nat)):scan rows n (l::ls)=if cB l=true then scan rows (n + 1) ls else match gh l with
  | none=> .bad (n + 1)
  | some r=>if fits (aU rows rows.length) rows.length r/\r.sh.name∉rows.map (·.sh.name) then (if rows.length=64 then .many else scan (rows++[r]) (n + 1) ls) else .bad (n + 1):=rfl
def parse(x:List Nat):Res:=scan [] 0 (spl 10 x)
theorem xh{i:Int}(h0:0<=i)(h1:i<=1000000):numOf (bI i)=some i:=by
 have hc:cds (bI i)=dg i.toNat:=mS h0;unfold numOf;rw[hc,EH,if_pos]
 .rw [Int.toNat_of_nonneg h0]
 .refine ⟨zu _,?_,?_,by lia⟩
  .have:=C5 i.toNat 0;rwa [List.replicate_zero,List.nil_append] at this
  .intro e;cases z:dg i.toNat with
   | nil=>exact absurd z (zu _)
   | cons a r=>
    rw[z] at e;obtain rfl:a=48:=by simpa using e
    rw[(De _ _ z).2]
theorem xK(kp w m p nm:Str)(h1:bD kp)(h2:dX nm):rowOf ["minder",kp,w,m,p,nm]=(xw w).bind λk=>(numOf m).bind λm=>(numOf p).bind λp=>if p=0 then none else some ⟨k,kp,0,m,p,nm⟩:=by
 unfold rowOf;dsimp only;rw[if_neg (λz=>absurd z.1 (by decide)),if_pos ⟨rfl,h1,h2⟩]
theorem As{s:Sh}(h:OkR s):rowOf (words s++[s.name])=some s:=by
 obtain⟨kd,kp,m,g,l,nm⟩:=s;have hk:kd=0\/kd=1\/kd=2\/kd=3\/kd=4\/kd=5:=by have:=h.kd;dsimp only at this;lia
 have hg:=xh h.g0 h.g1;have hs:=xh h.s0 h.s1;have hm:=xh h.m0 h.m1;have hkp:bD kp:=h.kp;have hnm:dX nm:=h.nm;have h2:=h.m2;have h3:=h.s2;dsimp only at hg hs hm h2 h3;rcases hk with rfl | rfl | rfl | rfl | rfl | rfl
 .have e:m=0:=h2 (by decide);subst e;show(if ("leaf":Str)="leaf"/\bD kp/\("idle":Str)="idle"/\dX nm then _ else _)=_;rw[if_pos ⟨rfl,hkp,rfl,hnm⟩,hg,Option.bind_some,hs,Option.bind_some]
 .show (if ("leaf":Str)="leaf"/\bD kp/\dX nm then _ else _)=_;rw[if_pos ⟨rfl,hkp,hnm⟩,if_pos rfl,Option.bind_some,hg,Option.bind_some,hs,Option.bind_some,hm,Option.bind_some]
 .show (if ("leaf":Str)="leaf"/\bD kp/\dX nm then _ else _)=_;rw[if_pos ⟨rfl,hkp,hnm⟩,if_neg (by decide),if_pos rfl,Option.bind_some,hg,Option.bind_some,hs,Option.bind_some,hm,Option.bind_some]
 all_goals
  have e:m=0:=h2 (by decide);subst e;have h4:l≠0:=by have:=h3 (by decide);lia
  show rowOf ["minder",kp,_,bI g,bI l,nm]=_;rw[xK _ _ _ _ _ hkp hnm];dsimp only [xw]
 .rw [if_pos rfl,Option.bind_some,hg,Option.bind_some,hs,Option.bind_some,if_neg h4]
 .rw [if_neg (by decide),if_pos rfl,Option.bind_some,hg,Option.bind_some,hs,Option.bind_some,if_neg h4]
 .rw [if_neg (by decide),if_neg (by decide),if_pos rfl,Option.bind_some,hg,Option.bind_some,hs,Option.bind_some,if_neg h4]
def okW(w:List Nat):Prop:=w≠[]/\∀c∈w,33<=c/\c<=126
theorem vn{i:Int}(h:0<=i):okW (cds (bI i)):=by
 rw[show cds (bI i)=dg i.toNat from mS h];exact⟨zu _,λc hc=>by have:=Bv hc;lia⟩
theorem xD{x:Str}(h:dX x):okW (cds x):=by
 refine⟨λe=> ?_,λc hc=> ?_⟩
 .have:=aA x;rw[e] at this;have:=h.1;simp at *
  lia
 .have:=List.all_eq_true.mp h.2.2 c hc;unfold tJ at this;rw[Bool.or_eq_true,decide_eq_true_iff,decide_eq_true_iff] at this
  lia
theorem yF(l:List Nat)(h:(!l.isEmpty && l.all λc=>decide (33<=c/\c<=126))=true):okW l:=by
 rw[Bool.and_eq_true] at h;refine⟨λe=> ?_,λc hc=>of_decide_eq_true (List.all_eq_true.mp h.2 c hc)⟩;rw[e] at h;exact absurd h.1 (by decide)
theorem Ba{x:Str}(h:bD x):okW (cds x):=by
 rcases h with rfl | rfl | rfl <;> exact yF _ (by decide +kernel)
theorem sW{s:Sh}(h:OkR s):∀w∈(words s++[s.name]).map cds,okW w:=by
 intro w hw;obtain⟨x,hx,rfl⟩:=List.mem_map.mp hw;rcases List.mem_append.mp hx with hx | hx
 .have hl:∀x:Str,x="leaf"\/x="minder"\/x="idle"\/x="steady"\/x="falls"\/x="one"\/x="all"\/x="rest"->okW (cds x):=by
   rintro x (rfl | rfl | rfl | rfl | rfl | rfl | rfl | rfl) <;> exact yF _ (by decide +kernel)
  have hg:=vn h.g0;have hs:=vn h.s0;have hm:=vn h.m0;have hk:=Ba h.kp;unfold words at hx
  split at hx <;> simp only [List.mem_cons,List.not_mem_nil,or_false] at hx
  .rcases hx with rfl | rfl | rfl | rfl | rfl
   .exact hl _ (by simp)
   .exact hk
   .exact hg
   .exact hs
   .exact hl _ (by simp)
  .rcases hx with rfl | rfl | rfl | rfl | rfl | rfl
   .exact hl _ (by simp)
   .exact hk
   .exact hg
   .exact hs
   .exact hl _ (by simp)
   .exact hm
  .rcases hx with rfl | rfl | rfl | rfl | rfl | rfl
   .exact hl _ (by simp)
   .exact hk
   .exact hg
   .exact hs
   .exact hl _ (by simp)
   .exact hm
  all_goals
   rcases hx with rfl | rfl | rfl | rfl | rfl
   .exact hl _ (by simp)
   .exact hk
   .exact hl _ (by simp)
   .exact hg
   .exact hs
 .obtain rfl:x=s.name:=by simpa using hx
  exact xD h.nm
theorem A9(s:Sh):∃a r,words s++[s.name]=a::r/\(a="leaf"\/a="minder"):=by
 unfold words
 split
 .exact ⟨_,_,rfl,.inl rfl⟩
 .exact ⟨_,_,rfl,.inl rfl⟩
 .exact ⟨_,_,rfl,.inl rfl⟩
 .exact ⟨_,_,rfl,.inr rfl⟩
 .exact ⟨_,_,rfl,.inr rfl⟩
 .exact ⟨_,_,rfl,.inr rfl⟩
theorem qA(sep:List Nat){a:List Nat}{c:Nat}{t:List Nat}(r:List (List Nat))(h:a=c::t):∃u,aD sep (a::r)=c::u:=by
 subst h;cases r with
 | nil=>exact⟨t,rfl⟩
 | cons b r=>exact⟨t++sep++aD sep (b::r),rfl⟩
def gf(d n m:Nat)(s:Sh):List Nat:=List.replicate (2 * d) 32++(aD (List.replicate (n + 1) 32) ((words s++[s.name]).map cds)++List.replicate m 32)
theorem vX(d n m:Nat)(s:Sh):∃c u,(c=108\/c=109)/\gf d n m s=List.replicate (2 * d) 32++c::u:=by
 obtain⟨a,r,e,ha⟩:=A9 s;unfold gf;rw[e,List.map_cons];rcases ha with rfl | rfl
 .obtain ⟨u,hu⟩:=qA (List.replicate (n + 1) 32) (r.map cds) (show cds "leaf"=108::[101,97,102] by decide +kernel);exact⟨108,_,.inl rfl,by rw[hu,List.cons_append]⟩
 .obtain ⟨u,hu⟩:=qA (List.replicate (n + 1) 32) (r.map cds) (show cds "minder"=109::[105,110,100,101,114] by decide +kernel);exact⟨109,_,.inr rfl,by rw[hu,List.cons_append]⟩
theorem Fx(k:Nat){c:Nat}(u:List Nat)(h:c≠32):(List.replicate k 32++c::u).takeWhile (· == 32)=List.replicate k 32:=by
 rw[List.takeWhile_append_of_pos (λa ha=>by rw[(List.mem_replicate.mp ha).2];rfl),List.takeWhile_cons_of_neg (by simpa using h),List.append_nil]
theorem Bi(k:Nat){c:Nat}(u:List Nat)(h:c≠32):(List.replicate k 32++c::u).dropWhile (· == 32)=c::u:=by
 rw[List.dropWhile_append_of_pos (λa ha=>by rw[(List.mem_replicate.mp ha).2];rfl),List.dropWhile_cons_of_neg (by simpa using h)]
theorem gP(d n m:Nat)(s:Sh):cB (gf d n m s)=false:=by
 obtain⟨c,u,hc,e⟩:=vX d n m s;unfold cB;rw[e,Bi _ _ (by lia)];show(c == 35)=false;rw[beq_eq_false_iff_ne]
 lia
theorem lG(d n m:Nat){s:Sh}(h:OkR s):gh (gf d n m s)=some ⟨d,s⟩:=by
 obtain⟨c,u,hc,e⟩:=vX d n m s
 have hl:lead (gf d n m s)=2 * d:=by
  unfold lead;rw[e,Fx _ _ (by lia),List.length_replicate]
 have hw:bh (gf d n m s)=(words s++[s.name]).map cds:=by
  unfold gf;rw[g8,nZ];intro w hw;obtain⟨h1,h2⟩:=sW h w hw;exact⟨h1,λz=>by have:=h2 32 z;lia⟩
 unfold gh;rw[hl,hw,if_pos (by lia),List.map_map,show ofC∘cds=id from funext gR,List.map_id,As h];show some (⟨2 * d / 2,s⟩:Row)=_;rw[show 2 * d / 2=d by lia]
theorem Ck(d n m:Nat){s:Sh}(h:OkR s):10∉gf d n m s:=by
 unfold gf;intro z;rcases List.mem_append.mp z with z | z
 .have:=(List.mem_replicate.mp z).2;lia
 rcases List.mem_append.mp z with z | z
 .have hj:∀ws:List (List Nat),(∀w∈ws,okW w)->10∉aD (List.replicate (n + 1) 32) ws:=by
   intro ws
   induction ws with
   | nil=>intro _ z;cases z
   | cons a r ih=>
    intro hw z;have ha:=(hw a List.mem_cons_self).2;cases r with
    | nil=>have:=ha 10 z;lia
    | cons b r=>
     have z:10∈a++List.replicate (n + 1) 32++aD (List.replicate (n + 1) 32) (b::r):=z;rcases List.mem_append.mp z with z | z
     .rcases List.mem_append.mp z with z | z
      .have:=ha 10 z;lia
      .have:=(List.mem_replicate.mp z).2;lia
     .exact ih (λw hh=>hw w (List.mem_cons_of_mem _ hh)) z
  exact hj _ (sW h) z
 .have:=(List.mem_replicate.mp z).2;lia
inductive eG:List (List Nat)->List Row->Prop
 | nil:eG [] []
 | skip {l:List Nat} {ls:List (List Nat)} {rows:List Row}:cB l=true->eG ls rows->eG (l::ls) rows
 | row {l:List Nat} {ls:List (List Nat)} {r:Row} {rows:List Row}:cB l=false->gh l=some r->eG ls rows->eG (l::ls) (r::rows)
theorem eG.app{a b:List (List Nat)}{r s:List Row}(h:eG a r)(g:eG b s):eG (a++b) (r++s):=by
 induction h with
 | nil=>exact g
 | skip p _ ih=>exact .skip p ih
 | row p q _ ih=>exact .row p q ih
theorem cD{α:Type}(pre:List α)(r:α)(rest:List α)(d:α):(pre++r::rest).getD pre.length d=r:=by
 rw[List.getD_eq_getElem?_getD,List.getElem?_append_right (Nat.le_refl _),Nat.sub_self]
 rfl
theorem OkT.next{pre:List Row}{r:Row}{rest:List Row}(h:OkT (pre++r::rest)):fits (aU pre pre.length) pre.length r/\r.sh.name∉pre.map (·.sh.name)/\pre.length < 64:=by
 refine⟨?_,?_,?_⟩
 .have:=h.fit pre.length (by rw[List.length_append,List.length_cons];lia);rwa [bq pre _ _ (Nat.le_refl _),cD] at this
 .have:=h.nd;rw[List.map_append,List.map_cons,List.nodup_append] at this;exact λz=>this.2.2 _ z _ List.mem_cons_self rfl
 .have:=h.len;rw[List.length_append,List.length_cons] at this
  lia
theorem ya{ls:List (List Nat)}{rows:List Row}(L:eG ls rows):∀(pre:List Row) (n:Nat) (more:List (List Nat)),(∀(q:List Row) (r:Row) (t:List Row),pre++rows=q++r::t->pre.length<=q.length->fits (aU q q.length) q.length r/\r.sh.name∉q.map (·.sh.name)/\q.length < 64)→
  scan pre n (ls++more)=scan (pre++rows) (n + ls.length) more:=by
 induction L with
 | nil=>intro pre n more _;rw[List.append_nil];rfl
 | skip p _ ih=>
  intro pre n more h;rw[List.cons_append,mW];rw[if_pos p,ih pre (n + 1) more h,List.length_cons,Nat.add_right_comm]
  rfl
 | row p q _ ih=>
  rename_i l ls r rows _
  intro pre n more h;obtain⟨h1,h2,h3⟩:=h pre r rows rfl (Nat.le_refl _);rw[List.cons_append,mW];rw[if_neg (by rw[p];decide),q];dsimp only;rw[if_pos ⟨h1,h2⟩,if_neg (by lia),ih (pre++[r]) (n + 1) more ?_,List.length_cons,List.append_assoc,List.singleton_append,Nat.add_right_comm]
  .rfl
  .intro q' r' t e hl;rw[List.append_assoc,List.singleton_append] at e;exact h q' r' t e (by rw[List.length_append] at hl;lia)
theorem OkT.all{rows:List Row}(h:OkT rows):∀(q:List Row) (r:Row) (t:List Row),[]++rows=q++r::t->([]:List Row).length<=q.length->fits (aU q q.length) q.length r/\r.sh.name∉q.map (·.sh.name)/\q.length < 64:=by
 intro q r t e _;rw[List.nil_append] at e;subst e;exact h.next
theorem yA{ls:List (List Nat)}{rows:List Row}(L:eG ls rows)(h:OkT rows):scan [] 0 ls=.ok rows:=by
 have:=ya L [] 0 [] h.all;rw[List.append_nil,List.nil_append] at this;rw[this];unfold scan;rw[if_neg h.ne]
open L2
def LLs(H:Hp)(p:Addr)(wss:List (List Str)):Prop:=∃as:List Addr,H p=some (.lst (as.map V.ref))/\as.length=wss.length/\∀(i:Nat) (x:Addr) (ws:List Str),as[i]? =some x->wss[i]? =some ws->H x=some (.lst (ws.map V.str))
theorem LLs.mono{H H':Hp}{p:Addr}{wss:List (List Str)}(e:aF H H')(h:LLs H p wss):LLs H' p wss:=by
 obtain⟨as,h1,h2,h3⟩:=h;exact⟨as,e _ _ h1,h2,λi x ws g1 g2=>e _ _ (h3 i x ws g1 g2)⟩
structure yH(H:Hp)(dp ep wp np:Addr)(rows:List Row):Prop where
 d:H dp=some (.lst (rows.map λr=>V.int (r.dep:Int)))
 e:H ep=some (.lst ((List.range rows.length).map λk=>V.int (bE rows k)))
 w:LLs H wp (rows.map λr=>words r.sh)
 n:H np=some (.lst (rows.map λr=>V.str r.sh.name))
theorem yH.mono{H H':Hp}{dp ep wp np:Addr}{rows:List Row}(e:aF H H')(h:yH H dp ep wp np rows):yH H' dp ep wp np rows:=⟨e _ _ h.d,e _ _ h.e,h.w.mono e,e _ _ h.n⟩
def eY(i:Int):Str:=if i=0 then "always" else if i=1 then "fallen" else if i=2 then "always" else "never"
def A4(i:Int):Str:=if i=0 then "one" else if i=1 then "all" else "rest"
def lP(i:Int):Int:=if i=0 then 9 else if i=1 then 2 else if i=2 then 30 else if i=3 then 1 else if i=4 then 3 else if i=5 then 0 else if i=6 then 9 else 2
def tm(i:Int):Str:=if i=0 then "falls" else if i=1 then "idle" else if i=2 then "steady" else "falls"
def aH(cell other:Int)(nm:Str):Sh:=⟨3 + (cell / 20 % 3).toNat,eY (cell / 5 % 4),0,if other % 29=7 then other % 1000001 else lP (other % 8),if other % 29=7 then 1 + other / 3 % 1000000 else 1 + other / 8 % 5,nm⟩
def nU(i:Int):Nat:=if i=1 then 0 else if i=2 then 1 else 2
def leafOf(cell other:Int)(nm:Str):Sh:=⟨nU (cell / 20 % 4),eY (cell / 5 % 4),if cell / 20 % 4=1 then 0 else if other % 29=7 then other / 7 % 1000001 else other / 16 % 5,if other % 29=7 then other % 1000001 else other % 4,if other % 29=7 then other / 3 % 1000001 else other / 4 % 4,nm⟩
theorem ba(x:Int){n:Int}(h:0 < n):0<=x % n/\x % n < n:=⟨Int.emod_nonneg _ (by lia),Int.emod_lt_of_pos _ h⟩
theorem vH(i:Int):eY i="always"\/eY i="fallen"\/eY i="never":=by
 unfold eY
 repeat' split
 all_goals simp
theorem mv{cell other:Int}{nm:Str}(h:dX nm):OkR (aH cell other nm):=by
 have h3:=ba (cell / 20) (n:=3) (by decide);have h8:0<=lP (other % 8)/\lP (other % 8)<=1000000:=by unfold lP;(repeat' split) <;> decide
 have a1:=ba other (n:=1000001) (by decide);have a2:=ba (other / 3) (n:=1000000) (by decide);have a3:=ba (other / 8) (n:=5) (by decide);refine⟨?_,vH _,by show(0:Int)<=0;decide,by show(0:Int)<=1000000;decide,λ_=>rfl,?_,?_,?_,?_,λ_=> ?_,h⟩
 .show 3 + (cell / 20 % 3).toNat<=5;lia
 .show 0<=ite _ _ _;split <;> lia
 .show ite _ _ _<=(1000000:Int);split <;> lia
 .show 0<=ite _ _ _;split <;> lia
 .show ite _ _ _<=(1000000:Int);split <;> lia
 .show 1<=ite _ _ _;split <;> lia
theorem yY{cell other:Int}{nm:Str}(h:dX nm):OkR (leafOf cell other nm):=by
 have a1:=ba other (n:=1000001) (by decide);have a2:=ba (other / 3) (n:=1000001) (by decide);have a3:=ba (other / 7) (n:=1000001) (by decide);have a4:=ba other (n:=4) (by decide);have a5:=ba (other / 4) (n:=4) (by decide);have a6:=ba (other / 16) (n:=5) (by decide);refine⟨?_,vH _,?_,?_,?_,?_,?_,?_,?_,?_,h⟩
 .show nU _<=5;unfold nU;(repeat' split) <;> lia
 .show 0<=ite _ _ _;(repeat' split) <;> lia
 .show ite _ _ _<=(1000000:Int);(repeat' split) <;> lia
 .intro z;show ite _ _ _=(0:Int);rw[if_pos];have z:¬(nU (cell / 20 % 4)=1\/nU (cell / 20 % 4)=2):=z;unfold nU at z;by_cases e:cell / 20 % 4=1
  .exact e
  .rw [if_neg e] at z;by_cases e2:cell / 20 % 4=2
   .rw [if_pos e2] at z;simp at z
   .rw [if_neg e2] at z;simp at z
 .show 0<=ite _ _ _;split <;> lia
 .show ite _ _ _<=(1000000:Int);split <;> lia
 .show 0<=ite _ _ _;split <;> lia
 .show ite _ _ _<=(1000000:Int);split <;> lia
 .intro z;have z:3<=nU (cell / 20 % 4):=z;unfold nU at z
  (repeat' split at z) <;> lia
def SG:List Nat:=cds "abcdefghijklmnopqrstuvwxyz0123456789"
def sgn(i:Nat):Nat:=SG.getD i 0
theorem yo{i:Nat}(h:i < 36):tJ (sgn i)=true:=by
 revert h;revert i;decide +kernel
theorem uP{i j:Nat}(h:i < 36)(g:j < 36)(e:sgn i=sgn j):i=j:=by
 have:∀i < 36,∀j < 36,sgn i=sgn j->i=j:=by decide +kernel
 exact this i h j g e
theorem yw{i:Nat}(h:i < 36):("abcdefghijklmnopqrstuvwxyz0123456789":Str).cps[i]? =some (sgn i):=by
 revert h;revert i;decide +kernel
def fh(k:Nat)(mark:Int):List Nat:=if mark % 11=5/\k < 36 then [sgn k] else List.replicate (mark % 7).toNat 113++[sgn (k % 36),sgn ((((k / 36:Nat):Int) + mark) % 36).toNat]++List.replicate (mark / 7 % 5).toNat 113
theorem Am(k:Nat)(mark:Int):1<=(fh k mark).length/\(fh k mark).length<=12:=by
 have a1:=ba mark (n:=7) (by decide);have a2:=ba (mark / 7) (n:=5) (by decide);unfold fh
 split
 .exact ⟨Nat.le_refl _,by show 1<=12;decide⟩
 .rw [List.length_append,List.length_append,List.length_replicate,List.length_replicate];show 1<=_ + 2 + _/\_ + 2 + _<=12
  lia
theorem Bc{k:Nat}{mark:Int}(h:k < 64):(fh k mark).all tJ=true:=by
 have a1:=ba (((k / 36:Nat):Int) + mark) (n:=36) (by decide);rw[List.all_eq_true];intro c hc;unfold fh at hc
 split at hc
 .rename_i g
  obtain rfl:c=sgn k:=by simpa using hc
  exact yo g.2
 .simp only [List.mem_append,List.mem_replicate,List.mem_cons,List.not_mem_nil,or_false] at hc;rcases hc with(⟨_,rfl⟩ | rfl | rfl) | ⟨_,rfl⟩
  .decide
  .exact yo (by lia)
  .exact yo (by lia)
  .decide
def nameOf(k:Nat)(mark:Int):Str:=ofC (fh k mark)
theorem oY{k:Nat}{mark:Int}(h:k < 64):dX (nameOf k mark):=by
 have hl:=Am k mark;have e:(nameOf k mark).length=(fh k mark).length:=by rw[<- aA];rfl
 exact⟨by lia,by lia,Bc h⟩
theorem zZ{k j:Nat}{mark:Int}(h:k < 64)(g:j < 64)(e:fh k mark=fh j mark):k=j:=by
 have a1:=ba (((k / 36:Nat):Int) + mark) (n:=36) (by decide);have a2:=ba (((j / 36:Nat):Int) + mark) (n:=36) (by decide);unfold fh at e;by_cases h5:mark % 11=5/\k < 36
 .rw [if_pos h5] at e;by_cases g5:mark % 11=5/\j < 36
  .rw [if_pos g5] at e;exact uP h5.2 g5.2 (List.cons.inj e).1
  .rw [if_neg g5] at e;have:=congrArg List.length e;rw[List.length_append,List.length_append] at this;have:1=_ + 2 + _:=this
   lia
 .rw [if_neg h5] at e;by_cases g5:mark % 11=5/\j < 36
  .rw [if_pos g5] at e;have:=congrArg List.length e;rw[List.length_append,List.length_append] at this;have:_ + 2 + _=1:=this
   lia
  .rw [if_neg g5,List.append_assoc,List.append_assoc] at e;have e:=List.append_cancel_left e;have e1:=(List.cons.inj e).1;have e2:=(List.cons.inj (List.cons.inj e).2).1;have f1:=uP (by lia) (by lia) e1;have f2:=uP (by lia) (by lia) e2;omega
theorem xy{k j:Nat}{mark:Int}(h:k < 64)(g:j < 64)(e:nameOf k mark=nameOf j mark):k=j:=zZ h g (congrArg cds e)
theorem eQ(z:Str)(n:Nat):cds ⟨(List.replicate n z.cps).foldl (·++·) #[]⟩=(List.replicate n (cds z)).flatten:=by
 have:∀(m:Nat) (acc:Array Nat),((List.replicate m z.cps).foldl (·++·) acc).toList=acc.toList++(List.replicate m (cds z)).flatten:=λm=>by
  induction m with
  | zero=>intro acc;simp
  | succ m ih=>intro acc;rw[List.replicate_succ,List.foldl_cons,ih,List.replicate_succ,List.flatten_cons,Array.toList_append,List.append_assoc]
 have:=this n #[];rwa [show (#[]:Array Nat).toList=[] from rfl,List.nil_append] at this
theorem md(n c:Nat):(List.replicate n [c]).flatten=List.replicate n c:=by
 induction n with
 | zero=>rfl
 | succ n ih=>rw[List.replicate_succ,List.flatten_cons,ih,List.replicate_succ];rfl
theorem wU(n c:Nat):(List.replicate n [c,c]).flatten=List.replicate (2 * n) c:=by
 induction n with
 | zero=>rfl
 | succ n ih=>rw[List.replicate_succ,List.flatten_cons,ih,show 2 * (n + 1)=(2 * n + 1) + 1 by lia,List.replicate_succ,List.replicate_succ];rfl
structure bK(rows:List Row)(lp:List Nat):Prop where
 l1:1<=lp.length
 l8:lp.length<=8
 eq:∃ex:Path,aU rows rows.length=lp.map (λj=>(j,true))++ex
theorem bK.first{r:Row}(h:r.isM=true):bK [r] [0]:=by
 refine⟨Nat.le_refl _,by decide,[],?_⟩;show pN [] 0 r=_;unfold pN;rw[h,List.take_nil]
 rfl
theorem bK.fits{rows:List Row}{lp:List Nat}{r:Row}(P:bK rows lp)(hk:rows.length≠0)(h1:1<=r.dep)(h2:r.dep<=lp.length):fits (aU rows rows.length) rows.length r:=by
 obtain⟨ex,e⟩:=P.eq;have:=P.l8;unfold Tr.fits;rw[if_neg hk];refine⟨h1,by lia,lp[r.dep - 1]'(by lia),?_⟩;rw[e,List.getElem?_append_left (by rw[List.length_map];lia),List.getElem?_map,List.getElem?_eq_getElem (by lia)]
 rfl
theorem bK.bE{rows:List Row}{lp:List Nat}{r:Row}(P:bK rows lp)(hk:rows.length≠0)(h1:1<=r.dep)(h2:r.dep<=lp.length):bE (rows++[r]) rows.length=((lp[r.dep - 1]'(by lia):Nat):Int):=by
 obtain⟨ex,e⟩:=P.eq;unfold Tr.bE;rw[bq rows _ _ (Nat.le_refl _),cD,e,List.getElem?_append_left (by rw[List.length_map];lia),List.getElem?_map,List.getElem?_eq_getElem (by lia)];show(if rows.length=0 then _ else _)=_;rw[if_neg hk]
theorem bK.next{rows:List Row}{lp:List Nat}{r:Row}(P:bK rows lp)(h1:1<=r.dep)(h2:r.dep<=lp.length):bK (rows++[r]) (lp.take r.dep):=by
 obtain⟨ex,e⟩:=P.eq;have:=P.l8;refine⟨by rw[List.length_take];lia,by rw[List.length_take];lia,[(rows.length,r.isM)],?_⟩;rw[List.length_append];show pN (aU (rows++[r]) rows.length) rows.length ((rows++[r]).getD rows.length default)=_;rw[bq rows _ _ (Nat.le_refl _),cD,e];unfold pN;rw[List.take_append_of_le_length (by rw[List.length_map];exact h2),List.map_take]
theorem bK.more{rows:List Row}{lp:List Nat}{r:Row}(P:bK rows lp)(h1:1<=r.dep)(h2:r.dep<=lp.length)(h3:r.dep < 8)(hm:r.isM=true):bK (rows++[r]) (lp.take r.dep++[rows.length]):=by
 obtain⟨ex,e⟩:=P.eq;refine⟨by rw[List.length_append];show 1<=_ + 1;lia,by rw[List.length_append,List.length_take];show _ + 1<=8;lia,[],?_⟩;rw[List.length_append];show pN (aU (rows++[r]) rows.length) rows.length ((rows++[r]).getD rows.length default)=_;rw[bq rows _ _ (Nat.le_refl _),cD,e];unfold pN;rw[List.take_append_of_le_length (by rw[List.length_map];exact h2),List.map_append,List.map_take,hm,List.append_nil]
 rfl
structure dB(rows:List Row)(mark:Int):Prop where
 ne:1<=rows.length
 len:rows.length<=64
 fit:∀k,k < rows.length->fits (aU rows k) k (rows.getD k default)
 sh:∀r∈rows,OkR r.sh
 nm:∀k,k < rows.length->(rows.getD k default).sh.name=nameOf k mark
theorem dB.next{rows:List Row}{mark:Int}{r:Row}(h:dB rows mark)(hl:rows.length < 64)(hf:fits (aU rows rows.length) rows.length r)(hr:OkR r.sh)(hn:r.sh.name=nameOf rows.length mark):dB (rows++[r]) mark:=by
 have hlen:(rows++[r]).length=rows.length + 1:=List.length_append;refine⟨by lia,by lia,?_,?_,?_⟩
 .intro k hk;by_cases e:k=rows.length
  .subst e;rw[bq rows _ _ (Nat.le_refl _),cD];exact hf
  .rw [bq rows _ _ (by lia),eW _ _ _ (by lia)];exact h.fit k (by lia)
 .intro x hx;rcases List.mem_append.mp hx with z | z
  .exact h.sh x z
  .obtain rfl:x=r:=by simpa using z
   exact hr
 .intro k hk;by_cases e:k=rows.length
  .subst e;rw[cD];exact hn
  .rw [eW _ _ _ (by lia)];exact h.nm k (by lia)
theorem dB.ok{rows:List Row}{mark:Int}(h:dB rows mark):OkT rows:=by
 refine⟨λe=>by have:=h.ne;rw[e] at this;exact absurd this (by decide),h.len,h.fit,h.sh,?_⟩;rw[List.Nodup,List.pairwise_iff_getElem];intro i j hi hj hij e;rw[List.length_map] at hi hj;rw[List.getElem_map,List.getElem_map] at e;have e1:=h.nm i hi;have e2:=h.nm j hj;rw[List.getD_eq_getElem?_getD,List.getElem?_eq_getElem hi] at e1;rw[List.getD_eq_getElem?_getD,List.getElem?_eq_getElem hj] at e2;have e1:rows[i].sh.name=nameOf i mark:=e1;have e2:rows[j].sh.name=nameOf j mark:=e2;rw[e1,e2] at e;have:=h.len;have:=xy (by lia) (by lia) e
 lia
theorem dB.names{rows:List Row}{mark:Int}(h:dB rows mark):rows.map (λr=>V.str r.sh.name)=(List.range rows.length).map λk=>V.str (nameOf k mark):=by
 refine List.ext_getElem (by rw[List.length_map,List.length_map,List.length_range]) λi h1 h2=> ?_;rw[List.length_map] at h1;rw[List.getElem_map,List.getElem_map,List.getElem_range];have:=h.nm i h1;rw[List.getD_eq_getElem?_getD,List.getElem?_eq_getElem h1] at this;exact congrArg V.str this
theorem bK.take{rows:List Row}{lp:List Nat}(P:bK rows lp){m:Nat}(h1:1<=m)(h2:m<=lp.length):bK rows (lp.take m):=by
 obtain⟨ex,e⟩:=P.eq;have:=P.l8;refine⟨by rw[List.length_take];lia,by rw[List.length_take];lia,(lp.drop m).map (λj=>(j,true))++ex,?_⟩;rw[<- List.append_assoc,<-List.map_append,List.take_append_drop];exact e
theorem CY{α:Type}{xs:List α}(h:1<=xs.length):atI xs (-1)=xs[xs.length - 1]? :=by
 unfold atI ixN;rw[if_neg (by decide),if_pos (by lia)];show xs[(-1 + (xs.length:Int)).toNat]? =_
 congr 1
 lia
theorem fk{H H2:Hp}{d:Addr}{o:HO}(h:aF H H2)(hd:H d=none):aF H (upd H2 d o):=λb u e=>by rw[ak (au e hd)];exact h b u e
theorem LLs.ne{H:Hp}{p d:Addr}{wss:List (List Str)}{i:Int}{xs:List V}(h:LLs H p wss)(h1:H d=some (.lst (V.int i::xs)))(hn:wss≠[]):p≠d:=by
 obtain⟨as,e1,e2,e3⟩:=h;intro e;subst e;rw[h1] at e1;cases as with
 | nil=>cases wss with
  | nil=>exact hn rfl
  | cons _ _=>cases e2
 | cons a r=>cases e1
theorem LLs.upd{H:Hp}{p d:Addr}{wss:List (List Str)}{i:Int}{xs:List V}{o:HO}(h:LLs H p wss)(h1:H d=some (.lst (V.int i::xs)))(hn:wss≠[])(hw:∀ws∈wss,ws≠[]):LLs (upd H d o) p wss:=by
 have np:=h.ne h1 hn;obtain⟨as,e1,e2,e3⟩:=h;refine⟨as,(ak np).trans e1,e2,λk x ws g1 g2=> ?_⟩;have hx:=e3 k x ws g1 g2;rw[ak]
 .exact hx
 .intro e;subst e;rw[h1] at hx;cases ws with
  | nil=>exact hw [] (List.mem_of_getElem? g2) rfl
  | cons a r=>cases hx
theorem LLs.push{H:Hp}{p q:Addr}{wss:List (List Str)}{ws:List Str}(h:LLs H p wss)(hq:H q=some (.lst (ws.map V.str)))(hn:wss≠[])(hw:∀ws∈wss,ws≠[])(hws:ws≠[]):
  ∃as:List Addr,H p=some (.lst (as.map V.ref))/\as.length=wss.length/\LLs (L2.upd H p (.lst (as.map V.ref++[.ref q]))) p (wss++[ws]):=by
 obtain⟨as,e1,e2,e3⟩:=h
 have no:∀(x:Addr) (us:List Str),us≠[]->H x=some (.lst (us.map V.str))->x≠p:=λx us hu hx e=>by
  subst e;rw[e1] at hx;cases as with
  | nil=>cases wss with
   | nil=>exact hn rfl
   | cons _ _=>cases e2
  | cons a r=>cases us with
   | nil=>exact hu rfl
   | cons b t=>cases hx
 refine⟨as,e1,e2,as++[q],by rw[ae,List.map_append];rfl,by rw[List.length_append,List.length_append,e2];rfl,λk x us g1 g2=> ?_⟩;by_cases hk:k < as.length
 .rw [List.getElem?_append_left hk] at g1;rw[List.getElem?_append_left (by lia)] at g2;have hx:=e3 k x us g1 g2;rw[ak (no x us (hw us (List.mem_of_getElem? g2)) hx)];exact hx
 .have ek:k=as.length:=by
   have:=(List.getElem?_eq_some_iff.mp g1).1;rw[List.length_append] at this;have:k < as.length + 1:=this
   lia
  subst ek;rw[List.getElem?_append_right (Nat.le_refl _),Nat.sub_self] at g1;rw[List.getElem?_append_right (by lia),e2,Nat.sub_self] at g2;obtain rfl:q=x:=Option.some.inj g1;obtain rfl:ws=us:=Option.some.inj g2;rw[ak (no q ws hws hq)];exact hq
theorem nr(s:Sh):words s≠[]:=by
 unfold words
 split <;> exact List.cons_ne_nil _ _
theorem uh(rows:List Row):∀ws∈rows.map (λr=>words r.sh),ws≠[]:=λws h=>by
 obtain⟨r,_,rfl⟩:=List.mem_map.mp h;exact nr _
theorem ji{rows:List Row}{r:Row}{j:Int}(h:bE (rows++[r]) rows.length=j):(List.range (rows++[r]).length).map (λk=>V.int (bE (rows++[r]) k))=(List.range rows.length).map (λk=>V.int (bE rows k))++[V.int j]:=by
 rw[List.length_append];show(List.range (rows.length + 1)).map _=_;rw[List.range_succ,List.map_append,List.map_cons,List.map_nil,h]
 congr 1
 refine List.map_congr_left λk hk=> ?_;rw[sE rows [r] (List.mem_range.mp hk)]
theorem sJ{rows:List Row}(h:1<=rows.length)(g:Row->Int):∃i xs,rows.map (λr=>V.int (g r))=V.int i::xs:=by
 cases rows with
 | nil=>cases h
 | cons r t=>exact⟨_,_,rfl⟩
theorem pK{n:Nat}(h:1<=n)(g:Nat->Int):∃i xs,(List.range n).map (λk=>V.int (g k))=V.int i::xs:=by
 cases n with
 | zero=>cases h
 | succ n=>rw[List.range_succ_eq_map];exact⟨_,_,rfl⟩
theorem FD{rows:List Row}(h:1<=rows.length):rows.map (λr=>words r.sh)≠[]:=by
 cases rows with
 | nil=>cases h
 | cons r t=>exact List.cons_ne_nil _ _
theorem DX(xs:List V)(b:Nat):zx xs none (some (b:Int))=xs.take b:=by
 unfold zx;have e1:HT.sIx xs.length 0 none=0:=rfl
 have e2:HT.sIx xs.length xs.length (some (b:Int))=min b xs.length:=by
  unfold HT.sIx;dsimp only
  split
  .lia
  .rw [Int.toNat_natCast]
 rw[e1,e2,List.drop_zero,Nat.sub_zero];by_cases h:b<=xs.length
 .rw [Nat.min_eq_left h]
 .rw [Nat.min_eq_right (by lia),List.take_of_length_le (Nat.le_refl _),List.take_of_length_le (by lia)]
def dQ(rows:List Row):List (List Nat):=rows.map λr=>gf r.dep 0 0 r.sh
theorem nW:∀{rows:List Row},(∀r∈rows,OkR r.sh)->eG (dQ rows) rows
 | [],_=> .nil
 | r::t,h=> .row (gP _ _ _ _) (lG _ _ _ (h r List.mem_cons_self)) (nW λx hx=>h x (List.mem_cons_of_mem _ hx))
theorem Bt{rows:List Row}(h:∀r∈rows,OkR r.sh):∀l∈dQ rows,10∉l:=by
 intro l hl;obtain⟨r,hr,rfl⟩:=List.mem_map.mp hl;exact Ck _ _ _ (h r hr)
theorem plain_len(rows:List Row):(dQ rows).length=rows.length:=List.length_map _
def written(rows:List Row):List Nat:=aD [10] (dQ rows)
theorem rV{rows:List Row}(h:OkT rows):parse (written rows)=.ok rows:=by
 unfold parse written;rw[qB 10 (dQ rows) (λe=>h.ne (List.map_eq_nil_iff.mp e)) (Bt h.sh)];exact yA (nW h.sh) h
theorem u7{i:Int}(h0:0<=i)(h1:i<=1000000):(cds (bI i)).length<=7:=by
 rw[show cds (bI i)=dg i.toNat from mS h0];exact(Fl _).mpr (by lia)
theorem dG{s:Sh}(h:OkR s):((words s++[s.name]).map (·.length)).sum<=60/\(words s++[s.name]).length<=7:=by
 have hg:=u7 h.g0 h.g1;have hs:=u7 h.s0 h.s1;have hm:=u7 h.m0 h.m1;rw[aA] at hg hs hm;have hk:s.keep.length<=6:=by rcases h.kp with e | e | e <;> rw[e] <;> decide
 have hn:=h.nm.2.1;have l1:("leaf":Str).length=4:=by decide
 have l2:("idle":Str).length=4:=by decide
 have l3:("steady":Str).length=6:=by decide
 have l4:("falls":Str).length=5:=by decide
 have l5:("minder":Str).length=6:=by decide
 have l6:("one":Str).length=3:=by decide
 have l7:("all":Str).length=3:=by decide
 have l8:("rest":Str).length=4:=by decide
 unfold words
 split <;> simp only [List.map_append,List.map_cons,List.map_nil,List.sum_append,List.sum_cons,List.sum_nil,List.length_append,List.length_cons,List.length_nil,l1,l2,l3,l4,l5,l6,l7,l8] <;> lia
theorem eS(sep:List Nat):∀ls:List (List Nat),(aD sep ls).length<=(ls.map (·.length)).sum + ls.length * sep.length
 | []=>Nat.zero_le _
 | [a]=>by simp [aD]
 | a::b::r=>by
  have ih:=eS sep (b::r);show(a++sep++aD sep (b::r)).length<=_;rw[List.length_append,List.length_append,List.map_cons,List.sum_cons,List.length_cons,Nat.add_mul]
  lia
theorem o3{s:Sh}(h:OkR s)(d:Nat):(gf d 0 0 s).length<=2 * d + 67:=by
 have hb:=dG h;have hj:=eS (List.replicate 1 32) ((words s++[s.name]).map cds);rw[List.map_map,List.length_map,List.length_replicate,show(λx:List Nat=>x.length)∘cds=λx:Str=>x.length from funext aA] at hj;unfold gf;rw[List.length_append,List.length_append,List.length_replicate,List.replicate_zero];show 2 * d + ((aD (List.replicate 1 32) ((words s++[s.name]).map cds)).length + 0)<=_
 lia
theorem Cz(d:Nat)(s:Sh):cds ((⟨(List.replicate d ("  ":Str).cps).foldl (·++·) #[]⟩:Str)++Txt.join " " (words s++[s.name]))=gf d 0 0 s:=by
 rw[aT,eQ,cG];unfold gf;rw[List.replicate_zero,List.append_nil]
 congr 1
 exact wU d 32
theorem uZ{n:Nat}:∀{l:List Nat},(∀x∈l,x<=n)->l.sum<=n * l.length
 | [],_=>Nat.zero_le _
 | a::r,h=>by
  have h1:=h a List.mem_cons_self;have h2:=uZ λx hx=>h x (List.mem_cons_of_mem _ hx);rw[List.sum_cons,List.length_cons,Nat.mul_succ]
  lia
end Tr
namespace Hs
open PySem L2 Shp
abbrev FS:=Addr->Prop
end Hs
namespace Nm
open PySem PySem.NumText PySem.StrLaws PySem.Builtin.Str Tr
theorem nE(x:Str)(i j:Nat):cds (strSub x i j)=((cds x).drop i).take (j - i):=strSub_toList x i j
theorem zf(p:Nat->Bool):∀l:List Nat,l.drop (l.takeWhile p).length=l.dropWhile p
 | []=>rfl
 | a::r=>by
  by_cases h:p a=true
  .rw [List.takeWhile_cons_of_pos h,List.dropWhile_cons_of_pos h];exact zf p r
  .rw [List.takeWhile_cons_of_neg h,List.dropWhile_cons_of_neg h]
   rfl
theorem lg(x:Str)(c:Nat):cds (Txt.lstripChars x ⟨#[c]⟩)=(cds x).dropWhile (· == c):=by
 unfold Txt.lstripChars;rw[PyProof.Rows.stripBy_eq,nE]
 have e:(⟨#[c]⟩:Str).cps.contains=(· == c):=by
  funext d
  show(#[c]:Array Nat).contains d=_;rw[Bool.eq_iff_iff];simp
 rw[e];show List.take (x.length - (List.takeWhile (· == c) (cds x)).length) (List.drop (List.takeWhile (· == c) (cds x)).length (cds x))=_;rw[List.take_of_length_le (by rw[List.length_drop,aA];exact Nat.le_refl _),zf]
theorem yd(x y:Str):(Txt.lstripChars x y).length<=x.length:=PyProof.Rows.len_lstripChars x y
theorem tZ(x:Str)(c:Nat):∀(k a:Nat) (st:Array Nat × Nat),a + k=x.length + 1->st.fst.size<=a->st.snd<=a→
  (forIn (List.range' a k) st (occBody x ⟨#[c]⟩ x.length (x.length + 1))).run.fst.toList=st.fst.toList++(List.range' a k).filter λi=>decide ((cds x)[i]? =some c)
 | 0,a,st,_,_,_=>by
  rw[List.range'_zero,List.filter_nil,List.append_nil]
  rfl
 | k + 1,a,st,h,hs,hf=>by
  rw[List.range'_succ,List.forIn_cons,List.filter_cons];unfold occBody;by_cases e:(cds x)[a]? =some c
  .have z:=(subAt_one x c a).mpr e;rw[if_pos ⟨⟨⟨by lia,hf⟩,z.1⟩,z.2⟩,if_pos (decide_eq_true e)];have ih:=tZ x c k (a + 1) (st.fst.push a,a + 1) (by lia) (by rw[Array.size_push];lia) (Nat.le_refl _);unfold occBody at ih;refine Eq.trans ih ?_;rw[Array.toList_push,List.append_assoc]
   rfl
  .rw [if_neg (λz=>e ((subAt_one x c a).mp ⟨z.1.2,z.2⟩)),if_neg (λz=>e (of_decide_eq_true z))];have ih:=tZ x c k (a + 1) (st.fst,st.snd) (by lia) (by show st.fst.size<=_;lia) (by show st.snd<=_;lia);unfold occBody at ih;exact ih
theorem nF(x:Str)(c:Nat):∀(k a b:Nat),a<=b->b + k=x.length→
  (partsFrom x 1 a ((List.range' b k).filter λi=>decide ((cds x)[i]? =some c))).map cds=match spl c ((cds x).drop b) with
   | []=>[]
   | h::t=>(((cds x).drop a).take (b - a)++h)::t
 | 0,a,b,h,hb=>by
  have n:(cds x).drop b=[]:=List.drop_of_length_le (by rw[aA];lia);rw[List.range'_zero,List.filter_nil,n];show [cds (strSub x a x.length)]=_;rw[nE,show spl c ([]:List Nat)=[[]] from rfl,show b=x.length by lia];show _=[_++[]];rw[List.append_nil]
 | k + 1,a,b,h,hb=>by
  have hlt:b < (cds x).length:=by rw[aA];lia
  have hd:(cds x).drop b=(cds x)[b]::(cds x).drop (b + 1):=List.drop_eq_getElem_cons hlt;have hg:(cds x)[b]? =some (cds x)[b]:=List.getElem?_eq_getElem hlt;rw[List.range'_succ,List.filter_cons,hd,iJ];by_cases e:(cds x)[b]=c
  .rw [if_pos (decide_eq_true (by rw[hg,e])),if_pos e];show cds (strSub x a b)::(partsFrom x 1 (b + 1) _).map cds=_;rw[nF x c k (b + 1) (b + 1) (Nat.le_refl _) (by lia),nE];show _=(_++[])::spl c _;rw[List.append_nil]
   congr 1
   cases hz:spl c ((cds x).drop (b + 1)) with
   | nil=>rfl
   | cons h t=>
    show(_++h)::t=h::t;rw[Nat.sub_self,List.take_zero,List.nil_append]
  .rw [if_neg (λz=>e (by have:=of_decide_eq_true z;rw[hg] at this;exact Option.some.inj this)),if_neg e];rw[nF x c k a (b + 1) (by lia) (by lia)];cases hz:spl c ((cds x).drop (b + 1)) with
   | nil=>exact absurd hz (yy c _)
   | cons h t=>
    show(_++h)::t=(_++((cds x)[b]::h))::t
    congr 1
    have e1:b + 1 - a=(b - a) + 1:=by lia
    rw[e1,List.take_add_one,List.getElem?_drop,show a + (b - a)=b by lia,hg,List.append_assoc]
    rfl
theorem Ef(c:Nat):spl c []=[[]]:=rfl
theorem fQ(x:Str){c:Nat}(hc:c < 256):(Txt.split x ⟨#[c]⟩).map cds=spl c (cds x):=by
 have hk:¬Builtin.Str.strKind x < Builtin.Str.strKind ⟨#[c]⟩:=by
  have:Builtin.Str.strKind ⟨#[c]⟩=1:=by
   unfold Builtin.Str.strKind;rw[if_pos (by show(#[c]:Array Nat).all _=true;simp [hc])]
  rw[this];unfold Builtin.Str.strKind
  split
  .lia
  .split <;> lia
 unfold Txt.split;by_cases h0:x.length < 1
 .rw [if_pos (by rw[Bool.or_eq_true];exact .inl (decide_eq_true h0))];have:cds x=[]:=List.length_eq_zero_iff.mp (by rw[aA];lia);show [cds x]=_;rw[this]
  rfl
 .rw [if_neg (by rw[Bool.or_eq_true];exact λz=>z.elim (λz=>h0 (of_decide_eq_true z)) (λz=>hk (of_decide_eq_true z)))]
  have occ:occurrences x ⟨#[c]⟩ 0 x.length (x.length + 1)=(List.range' 0 x.length).filter λi=>decide ((cds x)[i]? =some c):=by
   rw[occ_eq,tZ x c _ 0 _ (by lia) (Nat.zero_le _) (Nat.zero_le _),Nat.sub_zero,List.range'_concat,List.filter_append];show []++(_++List.filter _ [0 + 1 * x.length])=_
   rw[List.filter_cons,if_neg (by
    intro z;have z:=of_decide_eq_true z;rw[List.getElem?_eq_none (by rw[aA];lia)] at z;cases z),List.filter_nil,List.append_nil,List.nil_append]
  have pb:=nF x c x.length 0 0 (Nat.le_refl _) (by lia);rw[<- occ,List.drop_zero] at pb
  have fin:(match spl c (cds x) with
   | []=>[]
   | h::t=>((cds x).take (0 - 0)++h)::t)=spl c (cds x):=by
   cases hz:spl c (cds x) with
   | nil=>rfl
   | cons h t=>
    show(_++h)::t=h::t;rw[Nat.sub_self,List.take_zero,List.nil_append]
  by_cases hf:(occurrences x ⟨#[c]⟩ 0 x.length (x.length + 1)).isEmpty=true
  .rw [if_pos hf];rw[List.isEmpty_iff.mp hf] at pb;refine Eq.trans ?_ (pb.trans fin);show [cds x]=[cds (strSub x 0 x.length)];rw[sub_whole]
  .rw [if_neg hf,partsBetween_eq];exact pb.trans fin
theorem za(c:Nat):∀l:List Nat,(spl c l).length<=l.length + 1
 | []=>Nat.le_refl _
 | a::r=>by
  have ih:=za c r;rw[iJ];by_cases e:a=c
  .rw [if_pos e];show(spl c r).length + 1<=r.length + 1 + 1
   lia
  .rw [if_neg e];cases hz:spl c r with
   | nil=>show(_:Nat)<=_;exact Nat.le_trans (Nat.le_of_eq (by rfl)) (by show 1<=_;lia)
   | cons h t=>
    rw[hz] at ih;show t.length + 1<=r.length + 1 + 1;have ih:t.length + 1<=r.length + 1:=ih
    lia
theorem split_len(x:Str){c:Nat}(hc:c < 256):(Txt.split x ⟨#[c]⟩).length<=x.length + 1:=by
 rw[<- List.length_map (f:=cds),fQ x hc,<-aA];exact za c _
theorem DF(x:Str)(c:Nat):(occurrences x ⟨#[c]⟩ 0 x.length (x.length + 1)).length<=x.length + 1:=occ_length_le _ _ _ _ _
theorem sS(x:Str)(w:Nat):∀(cuts:List Nat) (a:Nat),(partsFrom x w a cuts).length=cuts.length + 1
 | [],_=>rfl
 | _::r,a=>congrArg (· + 1) (sS x w r _)
theorem nX(x:Str)(c:Nat):(partsBetween x (occurrences x ⟨#[c]⟩ 0 x.length (x.length + 1)) 1).length<=x.length + 2:=by
 rw[partsBetween_eq,sS];have:=DF x c
 lia
theorem uz(x:Str)(c:Nat):Txt.startswith x ⟨#[c]⟩=decide ((cds x).head? =some c):=by
 unfold Txt.startswith
 rw[Bool.eq_iff_iff,Bool.and_eq_true,decide_eq_true_iff,decide_eq_true_iff];rw[List.head?_eq_getElem?];exact subAt_one x c 0
end Nm
namespace L2
open PySem PySem.Spec PyProof.Rows
theorem SqL.same{K:PySem.W.Frag}{H H':Hp}{a:Addr}{xs:List V}(h:SqL K H a xs)(e:aF H H'):SqL K H' a xs:=by
 rcases h with(h | ⟨o,h⟩) | h
 .exact .inl (.inl (e _ _ h))
 .exact .inl (.inr ⟨o,e _ _ h⟩)
 .exact .inr h
end L2
namespace Tr
open PySem Shp Nm PySem.NumText
def kb(x:Str):Bool:=decide (cds x≠[]) && decide (x.length<=7) && decide ((cds x).head? =some 48->cds x=[48]) && (cds x).all ir
theorem yI(c:Nat)(h:49<=c):∀(n:Nat) (l:List Nat),l.length=n->10 ^ n<=digitsVal (c::l)
 | 0,l,e=>by
  obtain rfl:l=[]:=List.length_eq_zero_iff.mp e;have:=pA [] c;rw[List.nil_append] at this;rw[this];show 1<=_
  lia
 | n + 1,l,e=>by
  rcases List.eq_nil_or_concat l with rfl | ⟨r,d,rfl⟩
  .cases e
  .rw [List.concat_eq_append] at e ⊢;rw[List.length_append] at e;have ih:=yI c h n r (by have:r.length + 1=n + 1:=e;lia);rw[<- List.cons_append,pA,Nat.pow_succ]
   lia
theorem cI{x:Str}{v:Int}(h:numOf x=some v):kb x=true/\PySem.intText? x=some v/\x.length<=7/\0<=v/\v<=1000000:=by
 unfold numOf at h;by_cases z:cds x≠[]/\(cds x).all ir=true/\((cds x).head? =some 48->cds x=[48])/\digitsVal (cds x)<=1000000
 .rw [if_pos z] at h;obtain⟨h1,h2,h3,h4⟩:=z
  have hl:x.length<=7:=by
   obtain⟨c,r,hc⟩:∃c r,cds x=c::r:=by
    cases y:cds x with
    | nil=>exact absurd y h1
    | cons c r=>exact⟨c,r,rfl⟩
   rw[<- aA,hc];by_cases h48:c=48
   .have:=h3 (by rw[hc,h48];rfl);rw[hc] at this;rw[this]
    decide
   .have hf:=List.all_eq_true.mp h2 c (by rw[hc];exact List.mem_cons_self);unfold ir at hf;have hf:=of_decide_eq_true hf;have b:=yI c (by lia) _ r rfl;rw[hc] at h4;by_cases hr:r.length<=6
    .rw [List.length_cons];lia
    .have:10 ^ 7<=10 ^ r.length:=Nat.pow_le_pow_right (by decide) (by lia)
     lia
  have hv:=Option.some.inj h;refine⟨?_,?_,hl,by lia,by lia⟩
  .unfold kb;rw[decide_eq_true h1,decide_eq_true hl,decide_eq_true h3,h2]
   rfl
  .rw [Dy h1 h2 (by lia),hv]
 .rw [if_neg z] at h;cases h
theorem BZ(a kp g s wk nm:Str):rowOf [a,kp,g,s,wk,nm]=if a="leaf"/\bD kp/\wk="idle"/\dX nm then (numOf g).bind λg=>(numOf s).bind λs=>some ⟨0,kp,0,g,s,nm⟩
   else if a="minder"/\bD kp/\dX nm then (xw g).bind λk=>(numOf s).bind λm=>(numOf wk).bind λp=>if p=0 then none else some ⟨k,kp,0,m,p,nm⟩ else none:=rfl
theorem BG(a kp g s wk m nm:Str):rowOf [a,kp,g,s,wk,m,nm]=if a="leaf"/\bD kp/\dX nm then (if wk="steady" then some 1 else if wk="falls" then some 2 else none).bind λk=>(numOf g).bind λg=>(numOf s).bind λs=>(numOf m).bind λm=>some ⟨k,kp,m,g,s,nm⟩ else none:=rfl
theorem m6{ws:List Str}{s:Sh}(h:rowOf ws=some s):(∃a b c d e f,ws=[a,b,c,d,e,f])\/∃a b c d e f g,ws=[a,b,c,d,e,f,g]:=by
 match ws,h with
 | [a,b,c,d,e,f],_=>exact .inl ⟨a,b,c,d,e,f,rfl⟩
 | [a,b,c,d,e,f,g],_=>exact .inr ⟨a,b,c,d,e,f,g,rfl⟩
theorem qD{ws:List Str}{s:Sh}(h:rowOf ws=some s)(h1:ws.head? =some ("leaf":Str)):
  (∃(kp g l nm:Str) (gi li:Int),ws=(["leaf",kp,g,l,"idle",nm]:List Str)/\bD kp/\dX nm/\numOf g=some gi/\numOf l=some li/\s=⟨0,kp,0,gi,li,nm⟩)∨
  ∃(kp g l wk m nm:Str) (gi li mi:Int) (k:Nat),ws=(["leaf",kp,g,l,wk,m,nm]:List Str)/\bD kp/\dX nm/\(wk="steady"/\k=1\/wk="falls"/\k=2)/\numOf g=some gi/\numOf l=some li/\numOf m=some mi/\s=⟨k,kp,mi,gi,li,nm⟩:=by
 rcases m6 h with⟨a,kp,g,l,wk,nm,rfl⟩ | ⟨a,kp,g,l,wk,m,nm,rfl⟩
 .obtain rfl:a="leaf":=Option.some.inj h1
  left
  rw[BZ] at h;by_cases c:(("leaf":Str)="leaf"/\bD kp/\wk="idle"/\dX nm)
  .rw [if_pos c] at h;obtain⟨_,c1,rfl,c3⟩:=c;cases eg:numOf g with
   | none=>rw[eg] at h;cases h
   | some gi=>
    rw[eg] at h;cases el:numOf l with
    | none=>rw[el] at h;cases h
    | some li=>
     rw[el] at h;exact⟨kp,g,l,nm,gi,li,rfl,c1,c3,eg,el,(Option.some.inj h).symm⟩
  .rw [if_neg c,if_neg (λz=>absurd z.1 (by decide))] at h;cases h
 .obtain rfl:a="leaf":=Option.some.inj h1
  right
  rw[BG] at h;by_cases c:(("leaf":Str)="leaf"/\bD kp/\dX nm)
  .rw [if_pos c] at h;obtain⟨_,c1,c3⟩:=c
   have wkc:∃k,(if wk="steady" then some 1 else if wk="falls" then some 2 else none:Option Nat)=some k/\(wk="steady"/\k=1\/wk="falls"/\k=2):=by
    by_cases w1:wk="steady"
    .exact ⟨1,by rw[if_pos w1],.inl ⟨w1,rfl⟩⟩
    .by_cases w2:wk="falls"
     .exact ⟨2,by rw[if_neg w1,if_pos w2],.inr ⟨w2,rfl⟩⟩
     .rw [if_neg w1,if_neg w2] at h;cases h
   obtain⟨k,ek,ck⟩:=wkc;rw[ek] at h;cases eg:numOf g with
   | none=>rw[eg] at h;cases h
   | some gi=>
    rw[eg] at h;cases el:numOf l with
    | none=>rw[el] at h;cases h
    | some li=>
     rw[el] at h;cases em:numOf m with
     | none=>rw[em] at h;cases h
     | some mi=>
      rw[em] at h;exact⟨kp,g,l,wk,m,nm,gi,li,mi,k,rfl,c1,c3,ck,eg,el,em,(Option.some.inj h).symm⟩
  .rw [if_neg c] at h;cases h
theorem kX{ws:List Str}{s:Sh}(h:rowOf ws=some s)(h1:ws.head? ≠some ("leaf":Str)):
  ∃(kp wy m sp nm:Str) (mi si:Int) (k:Nat),ws=(["minder",kp,wy,m,sp,nm]:List Str)/\bD kp/\dX nm/\(wy="one"/\k=3\/wy="all"/\k=4\/wy="rest"/\k=5)/\numOf m=some mi/\numOf sp=some si/\si≠0/\s=⟨k,kp,0,mi,si,nm⟩:=by
 rcases m6 h with⟨a,kp,wy,m,sp,nm,rfl⟩ | ⟨a,kp,g,l,wk,m,nm,rfl⟩
 .have na:a≠"leaf":=λz=>h1 (congrArg some z);rw[BZ,if_neg (λz=>na z.1)] at h;by_cases c:(a="minder"/\bD kp/\dX nm)
  .rw [if_pos c] at h;obtain⟨rfl,c1,c3⟩:=c
   have wk:∃k,xw wy=some k/\(wy="one"/\k=3\/wy="all"/\k=4\/wy="rest"/\k=5):=by
    unfold xw;by_cases w1:wy="one"
    .exact ⟨3,by rw[if_pos w1],.inl ⟨w1,rfl⟩⟩
    .by_cases w2:wy="all"
     .exact ⟨4,by rw[if_neg w1,if_pos w2],.inr (.inl ⟨w2,rfl⟩)⟩
     .by_cases w3:wy="rest"
      .exact ⟨5,by rw[if_neg w1,if_neg w2,if_pos w3],.inr (.inr ⟨w3,rfl⟩)⟩
      .unfold xw at h;rw[if_neg w1,if_neg w2,if_neg w3] at h;cases h
   obtain⟨k,ek,ck⟩:=wk;rw[ek] at h;cases em:numOf m with
   | none=>rw[em] at h;cases h
   | some mi=>
    rw[em] at h;cases es:numOf sp with
    | none=>rw[es] at h;cases h
    | some si=>
     rw[es] at h;have h:(if si=0 then none else some (⟨k,kp,0,mi,si,nm⟩:Sh))=some s:=h;by_cases e0:si=0
     .rw [if_pos e0] at h;cases h
     .rw [if_neg e0] at h;exact⟨kp,wy,m,sp,nm,mi,si,k,rfl,c1,c3,ck,em,es,e0,(Option.some.inj h).symm⟩
  .rw [if_neg c] at h;cases h
 .have na:a≠"leaf":=λz=>h1 (congrArg some z);rw[BG,if_neg (λz=>na z.1)] at h;cases h
theorem Cn{ws:List Str}{s:Sh}(h:rowOf ws=some s):OkR s:=by
 by_cases z:ws.head? =some ("leaf":Str)
 .rcases qD h z with⟨kp,g,l,nm,gi,li,_,c1,c2,eg,el,rfl⟩ | ⟨kp,g,l,wk,m,nm,gi,li,mi,kd,_,c1,c2,ck,eg,el,em,rfl⟩
  .obtain ⟨_,_,_,g0,g1⟩:=cI eg;obtain⟨_,_,_,l0,l1⟩:=cI el;exact⟨Nat.zero_le _,c1,Int.le_refl _,by show(0:Int)<=1000000;decide,λ_=>rfl,g0,g1,l0,l1,λz=>absurd (show 3<=0 from z) (by decide),c2⟩
  .obtain ⟨_,_,_,g0,g1⟩:=cI eg;obtain⟨_,_,_,l0,l1⟩:=cI el;obtain⟨_,_,_,m0,m1⟩:=cI em;have hk:kd=1\/kd=2:=ck.elim (λz=> .inl z.2) (λz=> .inr z.2);exact⟨by show kd<=5;lia,c1,m0,m1,λz=>absurd hk z,g0,g1,l0,l1,λz=>absurd (show 3<=kd from z) (by lia),c2⟩
 .obtain ⟨kp,wy,m,sp,nm,mi,si,k,_,c1,c2,ck,em,es,e0,rfl⟩:=kX h z;obtain⟨_,_,_,m0,m1⟩:=cI em;obtain⟨_,_,_,s0,s1⟩:=cI es
  have hk:k=3\/k=4\/k=5:=by
   rcases ck with z | z | z
   .exact .inl z.2
   .exact .inr (.inl z.2)
   .exact .inr (.inr z.2)
  exact⟨by show k<=5;lia,c1,Int.le_refl _,by show(0:Int)<=1000000;decide,λ_=>rfl,m0,m1,s0,s1,λ_=>by show 1<=si;lia,c2⟩
theorem zt(rows:List Row):∀(k:Nat),(∀i,i < k->(rows.getD i default).dep<=(aU rows i).length)->∀(d j:Nat) (b:Bool),(aU rows k)[d]? =some (j,b)→
  j < k/\(rows.getD j default).dep=d/\(rows.getD j default).isM=b/\∀i,j < i->i < k->d < (rows.getD i default).dep
 | 0,_,d,j,b,h=>by cases h
 | k + 1,wf,d,j,b,h=>by
  have wk:=wf k (Nat.lt_succ_self k);have h:((aU rows k).take (rows.getD k default).dep++[(k,(rows.getD k default).isM)])[d]? =some (j,b):=h;have tl:((aU rows k).take (rows.getD k default).dep).length=(rows.getD k default).dep:=by rw[List.length_take];lia
  by_cases hd:d < (rows.getD k default).dep
  .rw [List.getElem?_append_left (by lia),List.getElem?_take_of_lt hd] at h;obtain⟨h1,h2,h3,h4⟩:=zt rows k (λi hi=>wf i (by lia)) d j b h;refine⟨by lia,h2,h3,λi a1 a2=> ?_⟩;by_cases hi:i=k
   .rw [hi];exact hd
   .exact h4 i a1 (by lia)
  .rw [List.getElem?_append_right (by lia),tl] at h
   have e0:d - (rows.getD k default).dep=0:=by
    have:=(List.getElem?_eq_some_iff.mp h).1;have:d - (rows.getD k default).dep < 1:=this
    lia
   rw[e0] at h;have h:=Option.some.inj h;have hj:k=j:=congrArg Prod.fst h;have hb:(rows.getD k default).isM=b:=congrArg Prod.snd h;subst hj;exact⟨Nat.lt_succ_self _,by lia,hb,λi a1 a2=>absurd a1 (by lia)⟩
theorem CJ{p:Path}{k:Nat}{r:Row}(h:fits p k r):r.dep<=p.length:=by
 unfold fits at h
 split at h
 .lia
 .obtain ⟨h1,_,j,hj⟩:=h;have:=(List.getElem?_eq_some_iff.mp hj).1
  lia
def OkP(rows:List Row):Prop:=∀i,i < rows.length->fits (aU rows i) i (rows.getD i default)
theorem OkP.snoc{rows:List Row}{r:Row}(h:OkP rows)(hf:fits (aU rows rows.length) rows.length r):OkP (rows++[r]):=by
 intro i hi;rw[List.length_append] at hi;by_cases e:i < rows.length
 .rw [bq rows [r] i (by lia),eW _ _ _ e];exact h i e
 .have e:i=rows.length:=by have:i < rows.length + 1:=hi;lia
  subst e;rw[bq rows [r] _ (Nat.le_refl _),cD rows r [] default];exact hf
theorem DB{rows:List Row}{r:Row}(h:OkP rows)(h0:rows≠[])(hf:fits (aU rows rows.length) rows.length r):
  ∃j,j < rows.length/\(rows.getD j default).dep + 1=r.dep/\(rows.getD j default).isM=true/\(∀i,j < i->i < rows.length->r.dep<=(rows.getD i default).dep)/\r.dep<=8/\bE (rows++[r]) rows.length=(j:Int):=by
 have hf':=hf;unfold fits at hf;have hl:rows.length≠0:=λz=>h0 (List.length_eq_zero_iff.mp z);rw[if_neg hl] at hf;obtain⟨h1,h8,j,hj⟩:=hf;obtain⟨p1,p2,p3,p4⟩:=zt rows rows.length (λi hi=>CJ (h i hi)) _ j true hj;refine⟨j,p1,by lia,p3,λi a1 a2=>by have:=p4 i a1 a2;lia,h8,?_⟩;unfold bE;rw[bq rows [r] _ (Nat.le_refl _),cD rows r [] default,hj];show(if rows.length=0 then (-1:Int) else (j:Int))=j;rw[if_neg hl]
theorem Ax{rows out:List Row}{n:Nat}{l:List Nat}{ls:List (List Nat)}(h:scan rows n (l::ls)=.ok out):(cB l=true/\scan rows (n + 1) ls=.ok out)∨
  (cB l=false/\∃r,gh l=some r/\fits (aU rows rows.length) rows.length r/\r.sh.name∉rows.map (·.sh.name)/\rows.length≠64/\scan (rows++[r]) (n + 1) ls=.ok out):=by
 rw[mW] at h;by_cases hp:cB l=true
 .rw [if_pos hp] at h;exact .inl ⟨hp,h⟩
 .right
  rw[if_neg hp] at h;refine⟨by cases z:cB l with | false=>rfl | true=>exact absurd z hp,?_⟩;cases hl:gh l with
  | none=>rw[hl] at h;cases h
  | some r=>
   rw[hl] at h;have h:(if fits (aU rows rows.length) rows.length r/\r.sh.name∉rows.map (·.sh.name) then (if rows.length=64 then Res.many else scan (rows++[r]) (n + 1) ls) else .bad (n + 1))=.ok out:=h;by_cases hf:fits (aU rows rows.length) rows.length r/\r.sh.name∉rows.map (·.sh.name)
   .rw [if_pos hf] at h;by_cases h64:rows.length=64
    .rw [if_pos h64] at h;cases h
    .rw [if_neg h64] at h;exact⟨r,rfl,hf.1,hf.2,h64,h⟩
   .rw [if_neg hf] at h;cases h
theorem Bd{l:List Nat}{r:Row}(h:gh l=some r):lead l=2 * r.dep/\rowOf ((bh l).map ofC)=some r.sh:=by
 unfold gh at h;by_cases e:lead l % 2=0
 .rw [if_pos e] at h;cases hr:rowOf ((bh l).map ofC) with
  | none=>rw[hr] at h;cases h
  | some s=>
   rw[hr] at h;have h:=Option.some.inj h;subst h;exact⟨by show lead l=2 * (lead l / 2);lia,rfl⟩
 .rw [if_neg e] at h;cases h
theorem CN{rows out:List Row}{n:Nat}(h:scan rows n []=.ok out):rows≠[]/\out=rows:=by
 have h:(if rows=[] then Res.Ew else .ok rows)=.ok out:=h;by_cases e:rows=[]
 .rw [if_pos e] at h;cases h
 .rw [if_neg e] at h;injection h with h;exact⟨e,h.symm⟩
end Tr
namespace L2
open PySem PySem.Spec PyProof.Rows
section
variable{prog:Program}{w:World}{A:Around}{E:Value->Shared->Prop}{s:Shared}
theorem zI{T nu:String}{x:Value}{vs:List Value}{kw:List (Str × Value)}(hl:typeLookup (.type T) "__init__"=pure (some (.builtin "object.__init__")))
  (hm:Bind.madeBy (.type T)=pure (some nu)) (hne:(some nu != some "object.__new__")=true):
  Meets (Builtin.«object.__init__» ⟨x::vs,kw⟩) (λ_ R z=>z.TypeIs x T/\R (.ok (.ret .none)) z):=by
 refine Meets.of_wp λprog w A R z hz=> ?_;obtain⟨hT,hq⟩:=hz;cases vs with
 | nil=>
  cases kw with
  | nil=>exact wpAny_pure ⟨_,rfl,hq⟩
  | cons k r=>
   repeat (any_goals (first | assumption | wp_step))
   exact⟨_,rfl,hq⟩
 | cons a r=>
  repeat (any_goals (first | assumption | wp_step))
  exact⟨_,rfl,hq⟩
theorem Bl{T nu:String}{Bn:Builtin}{vs:List Value}{kw:List (Str × Value)}{S:PySem.Spec}{Q:Value->Shared->Prop}(ft:TypeCalled T nu "object.__init__")
  (ne:(some nu != some "object.__new__")=true) (c1:checkTypeCall T ⟨vs,kw⟩=pure ()) (c2:checkBuiltinCall nu ⟨.type T::vs,kw⟩=pure ())
  (ok:∀ob,argsOk "object.__init__" ⟨ob::vs,kw⟩) (en:entryFor table nu=some Bn) (g:Meets (Bn ⟨.type T::vs,kw⟩) S)
  (h:S A.in1 (wants (λob z=>z.TypeIs ob T/\Q ob z) E) s):wpAny (model prog w) A (call (.type T) vs kw) Q E s:=by
 obtain⟨c,tl,hmro⟩:=ft.mro;have hmade:=ft.made;have hsub:=ft.sub;have h1:=ft.notType;have h2:=ft.canCreate;refine wpAny_call (codeAny_of_tree ?_);show wpAny _ _ (callAny (.type T) _) _ _ _;refine wpAny_pure ⟨Code.quiet_builtin _ (by decide +kernel),codeAny_builtin F.entry_type_call ?_⟩;rw[Around.under_plain (weight_type_call_type T vs kw) (units_type_call_type T vs kw)]
 repeat (any_goals (first | assumption | wp_step))
 refine codeAny_mono (codeAny_call_builtin ft.plain en (wpAny_of_eq c2 (g prog w A.in1 _ s h))) λr z hr=> ?_;cases r with
 | error e=>exact hr
 | ok fl=>
  cases fl with
  | ret ob=>
   obtain⟨hT,hq⟩:=hr;have hli:=ft.init.lookup;have hbi:=ft.init.bind ob
   repeat (any_goals (first | assumption | wp_step))
   have gi:=zI (x:=ob) (vs:=vs) (kw:=kw) ft.init.lookup ft.made ne;refine codeAny_mono (codeAny_call_builtin ft.init.plain F.entry_object_init (ft.init.check _ _ _ _ _ _ _ _ hT (ok ob) (gi prog w A.in1 (wants (λr z2=>r=.none/\Q ob z2) E) z ⟨hT,rfl,hq⟩))) λr2 z2 hr2=> ?_;cases r2 with
   | error e=>exact hr2
   | ok f2=>
    cases f2 with
    | ret r=>
     obtain⟨rfl,hq⟩:=hr2
     repeat (any_goals (first | assumption | wp_step))
    | _=>exact hr2.elim
  | _=>exact hr.elim
end
theorem CP(k:Int)(t:Tok)(l:Addr):checkTypeCall "enumerate" ⟨[.ref l],[("start",.int k t)]⟩=pure ()/\checkBuiltinCall "enumerate.__new__" ⟨[.type "enumerate",.ref l],[("start",.int k t)]⟩=pure ():=⟨by kernel_rfl,by kernel_rfl⟩
theorem Ci(k:Int)(t:Tok)(l:Addr)(ob:Value):argsOk "object.__init__" ⟨[ob,.ref l],[("start",.int k t)]⟩:=by
 unfold argsOk;rw[signature?_of (id:="object.__init__") (n:=['_','_','t','i','n','i','_','_']) (o:=['t','c','e','j','b','o']) (by kernel_rfl) F.owner_object];kernel_rfl
theorem Eh(l:Addr)(items:Array Value)(n:Nat)(dct:Option Addr)(sl:Array (Option Value))(t:Tok):
  Meets (Builtin.«enumerate.__new__» ⟨[.type "enumerate",.ref l],[("start",.int 1 t)]⟩) (λ_ R z=>z.heap.get? l=some { cls:= .type "list",dict:=dct,data:= .seq items n,slots:=sl}∧
   R (.ok (.ret (.ref (z.heap.push { cls:= .type "list_iterator",data:= .fields #[.ref l,.int 0 0]}).objs.size)))
    { z with heap:=(z.heap.push { cls:= .type "list_iterator",data:= .fields #[.ref l,.int 0 0]}).push { cls:= .type "enumerate",data:= .fields #[.none,.bool false,.ref z.heap.objs.size,rawInt 1,.none,.none]}}):=
 .of_wp λprog w A R z h=>by
  obtain⟨hp,g,d,tk,os⟩:=z;obtain⟨hl,h⟩:=h;have hsub:=sub_enumerate;have hL:Heap.IsList (Shared.heap ⟨hp,g,d,tk,os⟩) l items:=⟨_,hl,rfl,n,rfl⟩
  wp_walk using AutoSeq1.wpAny_loadPart' hl
  refine wpAny_stack_any λst=>wpAny_pure ?_
  split
  .rename_i c _ _ _ _ _
   cases (c == Value.type "enumerate")
   .wp_walk using AutoSeq1.wpAny_loadPart' hl,wpAny_pyIter_list hL
    exact⟨_,rfl,h⟩
   .wp_walk using AutoSeq1.wpAny_loadPart' hl,wpAny_pyIter_list hL
    exact⟨_,rfl,h⟩
  .wp_walk using AutoSeq1.wpAny_loadPart' hl,wpAny_pyIter_list hL
   exact⟨_,rfl,h⟩
section
variable{prog:Program}{w:World}{A:Around}{E:Value->Shared->Prop}{s:Shared}
theorem xJ{l:Addr}{items:Array Value}{t:Tok}{Q:Value->Shared->Prop}(hL:s.heap.IsList l items)
  (h:∀g,IsEnum g (s.heap.objs.size + 1) s.heap.objs.size 1 .none->g.IsListIter s.heap.objs.size l 0->g.objs.size=s.heap.objs.size + 2→
   (∀b o,s.heap.get? b=some o->g.get? b=some o)->Q (.ref (s.heap.objs.size + 1)) { s with heap:=g}):
  wpAny (model prog w) A (call (.type "enumerate") [.ref l] [("start",.int 1 t)]) Q E s:=by
 obtain⟨⟨c,dct,dt,sl⟩,hl,hc,n,hd⟩:=hL
 replace hc:c=.type "list":=hc
 replace hd:dt=.seq items n:=hd
 subst hc hd;refine Bl F.called_enumerate (by decide) (CP 1 t l).1 (CP 1 t l).2 (Ci 1 t l) F.entry_enumerate_new (Eh l items n dct sl t) ⟨hl,?_⟩;have hz:(s.heap.push { cls:= .type "list_iterator",data:= .fields #[.ref l,.int 0 0]}).objs.size=s.heap.objs.size + 1:=Heap.size_push ..;show _/\_;rw[hz]
 have he:IsEnum ((s.heap.push { cls:= .type "list_iterator",data:= .fields #[.ref l,.int 0 0]}).push
   { cls:= .type "enumerate",data:= .fields #[.none,.bool false,.ref s.heap.objs.size,rawInt 1,.none,.none]}) (s.heap.objs.size + 1) s.heap.objs.size 1 .none:=by
  have:=Heap.get?_push_size (s.heap.push { cls:= .type "list_iterator",data:= .fields #[.ref l,.int 0 0]})
   (o:={ cls:= .type "enumerate",data:= .fields #[.none,.bool false,.ref s.heap.objs.size,rawInt 1,.none,.none]}) rfl
  rw[hz] at this;exact this
 exact⟨⟨_,he,rfl⟩,h _ he ⟨_,Heap.get?_push_of_some _ (Heap.get?_push_size _ rfl),rfl,rfl⟩ (by rw[Heap.size_push,hz]) λb o x=>Heap.get?_push_of_some _ (Heap.get?_push_of_some _ x)⟩
end
section
variable{X:Cx}{pins:List (Addr × Obj)}{σ:St}{H:Hp}{s:Shared}{h':Heap}
theorem Inv.DR{t':Nat}{a b:Addr}(I:Inv X pins σ H s)(k:∀c o,c≠a->c≠b->s.heap.get? c=some o->h'.get? c=some o)(fa:bR X pins H a)(fb:bR X pins H b):Inv X pins σ H { s with heap:=h',toks:=t'}:=by
 have nit:∀c u,H c=some u->c≠a/\c≠b:=λc u e=>⟨λz=>(by rw[z,fa.1] at e;cases e),λz=>(by rw[z,fb.1] at e;cases e)⟩;have nch:∀c,c∉[a,b]->c≠a/\c≠b:=λc hc=>⟨λz=>hc (by simp [z]),λz=>hc (by simp [z])⟩
 refine I.step (g':=s.gens) (d':=s.drawn) (ch:=[a,b]) (λc hc=> ?_) (λc o _ _ hc e _=>k c o (nch c hc).1 (nch c hc).2 e) (λc o _ _ hc e _=>⟨o.slots,k c o (nch c hc).1 (nch c hc).2 e⟩) (λ_ _ _ _ n=>n)
  (λc o hc e=>⟨o,k c o (nch c hc).1 (nch c hc).2 e⟩) (λ_ _ e=>e) (λ_ _ _ e=>e) (λc ps e=>⟨#[],by rw[e];simp⟩) (λm hm=> ?_) (λc u e=> ?_) I.bare
 .obtain ⟨_,a1,_,a3,a4,a5⟩:=fa;obtain⟨_,b1,_,b3,b4,b5⟩:=fb;rcases List.mem_cons.mp hc with rfl | hc
  .exact ⟨a3,a1,a4,a5⟩
  .rw [List.mem_singleton.mp hc];exact⟨b3,b1,b4,b5⟩
 .obtain ⟨o,es,ep,ho,r⟩:=hm;exact⟨o,es,ep,k _ o (Ne.symm fa.2.1) (Ne.symm fb.2.1) ho,r⟩
 .have n:=nit;refine(I.hok c u e).u9 (λd v hc q=> ?_) (λ_ q=>q) λ_ _ q=>q;rcases hc with z | z
  .rw [z];rw[z] at q;exact k c v (n c u e).1 (n c u e).2 q
  .exact k d v (n d _ z).1 (n d _ z).2 q
end
def Itn(K:PySem.W.Frag)(a:Addr)(k:Nat):It:=
 ⟨λi H=>∃xs x,SqL K H a xs/\xs[i]? =some x,λi H x H'=>∃q y,H q=none/\x=.ref q/\(∀xs,SqL K H a xs->xs[i]? =some y)/\H'=upd H q (.tup [.int ((k + i:Nat):Int),y]),λi H=>∃xs,SqL K H a xs/\xs.length<=i⟩
theorem zS{P:Program}{w:World}{K:PySem.W.Frag}{elts:List Expr}{c}{tp:Pos}(a e it:Addr)(k:Nat)(hei:e≠it):
  Turn P w K (.Tuple elts c tp) (Itn K a k) [e,it] e (λi h=>(∃old,IsEnum h e it ((k + i:Nat):Int) old)/\h.IsListIter it a i) where
 mem:=by simp
 obj:=λi h st b hb=>by
  rcases List.mem_cons.mp hb with rfl | hb
  .obtain ⟨old,q⟩:=st.1;exact⟨_,q,λv z=>by cases z⟩
  .rw [List.mem_singleton.mp hb];obtain⟨o,q,_,d⟩:=st.2;exact⟨o,q,λv z=>by rw[d] at z;cases z⟩
 keep:=λi h h' st kk=>⟨st.1.imp λold q=>kk e (by simp) _ q,st.2.at λo q=>kk it (by simp) o q⟩
 item:=by
  intro X hP hw hK hc i pins s σ H E I hf st hg;subst hP hw hK;obtain⟨xs,x,hq,hx⟩:=hg;obtain⟨its,rv,p,hz⟩:=I.list hq;obtain⟨u,hu,ru⟩:=rv.get hx;obtain⟨⟨old,he⟩,hit⟩:=st;have fe:=hf e (by simp);have fi:=hf it (by simp);have hlt:i < its.length:=(List.getElem?_eq_some_iff.mp hu).1
  have hai:a≠it:=λz=>by
   obtain⟨o,q,c1,_⟩:=hit;obtain⟨o2,q2,c2,_⟩:=p.isList;rw[z,q] at q2;cases q2;rw[c1] at c2;exact absurd (Value.type.inj c2) (by decide)
  have hae:e≠a:=λz=>by
   obtain⟨o2,q2,c2,_⟩:=p.isList;rw[<- z] at q2;have:=Option.some.inj (he.symm.trans q2);rw[<- this] at c2;exact absurd (Value.type.inj c2) (by decide)
  have D:=E1 (prog:=X.prog) (w:=X.w) (A:=X.A.in1) (it:=it) (l:=a) (items:=its.toArray) k hai
  have hen:e∉hnd X.A.in1:=λhm=>by
   rcases I.cm with z | ⟨b,o,vs,z,h1,h2,h3⟩
   .unfold hnd at hm;rw[show X.A.in1.handled=none from z] at hm;cases hm
   .unfold hnd at hm;rw[show X.A.in1.handled=some (.ref b) from z] at hm;rw[<- List.mem_singleton.mp hm,he] at h1;cases h1;cases h2;simp at h3
  refine wpAny_pyNext_enum_itemD D he ⟨⟨by lia,by rw[Nat.add_sub_cancel_left];exact hit,p.isList⟩,I.cm⟩ (by show k + i < k + its.toArray.size;simp;lia) hei (by simp;exact⟨hei,hae,hen⟩) λy g tk hP ho hs hT hsz kk=> ?_
  have ey:y=u:=by
   have hP:its.toArray[k + i - k]? =some y:=hP;rw[Nat.add_sub_cancel_left] at hP;have hu':its.toArray[i]? =some u:=by simpa using hu
   rw[hu'] at hP;exact(Option.some.inj hP).symm
  subst ey;refine⟨_,rfl,wpAny_letOwnedTupleGo_enum ho λg2 he2 hs2=> ?_⟩;have hsz2:s.heap.objs.size≠e:=Nat.ne_of_gt (Heap.lt_size he);have hszi:s.heap.objs.size≠it:=by obtain⟨_,q,_⟩:=hit;exact Nat.ne_of_gt (Heap.lt_size q)
  have f0:H s.heap.objs.size=none:=I.fresh
  have I1:Inv X pins σ (upd H s.heap.objs.size (.tup [.int ((k + i:Nat):Int),x])) { s with heap:=s.heap.push { cls:= .type "tuple",data:= .seq #[.int ((k + i:Nat):Int) tk,y]},toks:=tk + 1}:=
   I.laid (λb o q=>Heap.get?_push_of_some _ q) (Nat.le_refl _) ⟨Nat.le_of_lt (aE (show 2<=1000 by decide)),[_,_],.cons ⟨_,rfl⟩ (.cons ru .nil),⟨_,Heap.get?_push_size _ rfl,rfl,_,rfl⟩⟩
  have fok:∀b,bR X pins H b->b≠s.heap.objs.size->bR X pins (upd H s.heap.objs.size (.tup [.int ((k + i:Nat):Int),x])) b:=λb fb hb=>⟨by rw[ak hb];exact fb.1,fb.2⟩
  have I2:=Inv.DR (h':=g2) (t':=tk + 1) I1 (a:=e) (b:=it) (λb o h1 h2 q=>by
   by_cases hb:b=s.heap.objs.size
   .subst hb;have q':=Heap.get?_push_size s.heap (o:={ cls:= .type "tuple",data:= .seq #[.int ((k + i:Nat):Int) tk,y]}) rfl;rw[q'] at q;cases q;exact(hs2.2 _ h1).trans hT
   .refine (hs2.2 _ h1).trans (kk b o h1 h2 ?_);exact(Heap.get?_push_ne _ _ _ hb).symm.trans q) (fok e fe (Ne.symm hsz2)) (fok it fi (Ne.symm hszi))
  refine⟨.ref s.heap.objs.size,_,I2,rfl,⟨_,x,f0,rfl,λys hy=>by rw[I.lL hy hq];exact hx,rfl⟩,⟨⟨_,by simpa [Int.add_assoc] using he2⟩,?_⟩,λb hb=> ?_⟩
  .have:=hs.1.2.1;rw[show k + i + 1 - k=i + 1 by lia] at this;exact this.at λo q=>(hs2.2 it (Ne.symm hei)).trans q
  .rcases List.mem_cons.mp hb with rfl | hb
   .exact (fok _ fe (Ne.symm hsz2)).1
   .rw [List.mem_singleton.mp hb];exact(fok _ fi (Ne.symm hszi)).1
 done:=by
  intro X hP hw hK hc i pins s σ H E I hf st hg;subst hP hw hK;obtain⟨xs,hq,hx⟩:=hg;obtain⟨its,rv,p,hz⟩:=I.list hq;obtain⟨⟨old,he⟩,hit⟩:=st;obtain⟨f0,f1,f2,f3,f4,f5⟩:=hf it (by simp);have hl:=rv.length
  have hai:a≠it:=λz=>by
   obtain⟨o,q,c1,_⟩:=hit;obtain⟨o2,q2,c2,_⟩:=p.isList;rw[z,q] at q2;cases q2;rw[c1] at c2;exact absurd (Value.type.inj c2) (by decide)
  have hT:s.TypeIs (.ref e) "enumerate":=⟨_,he,rfl⟩;unfold pyNext
  refine wpAny_bind (wpAny_attempt (wpAny_callSpecial?_slot (name:=Str.ofString "__next__") hT F.slot_enumerate_next
   (wpAny_call_entry F.slot_enumerate_next hT F.entry_enumerate_next ?_ (F.args_enumerate_next_1 _))))
  show wpAny _ _ (field (.ref e) 2 >>= _) _ _ _;refine wpAny_bind (wpAny_field he rfl (x:= .ref it) rfl ?_);refine wpAny_bind (iD (A:=X.A.in1) I.cm hit p.isList (Array.getElem?_eq_none (by simp;lia)) λg x he' hx'=> ?_);obtain⟨o,ho,hc'⟩:=hx';refine wpAny_bind (wpAny_isInstance (T:="StopIteration") (b:=true) ⟨o,ho,hc'⟩ isSubtype_stop ?_);exact wpAny_pure ⟨rfl,I.turned (t':=s.toks) (λb o hb q=>he' b o hb q) f0 f1 f3 f4 f5⟩
 self:=λ_ _ _ _ _ st h=>by
  obtain⟨⟨old,he⟩,_⟩:=st;exact wpAny_pyIter_enum he h
section
variable{X:Cx}{elts:List Expr}{c}{tp:Pos}
theorem Eb{pins:List (Addr × Obj)}{σ:St}{H:Hp}{s:Shared}{R:It->Hp->Prop}{E:Value->Shared->Prop}{a:Addr}{g:Heap}{k:Nat}(I:Inv X pins σ H s)(he:IsEnum g (s.heap.objs.size + 1) s.heap.objs.size (k:Int) .none)(hi:g.IsListIter s.heap.objs.size a 0)
  (kk:∀b o,s.heap.get? b=some o->g.get? b=some o) (q:R (Itn X.K a k) H):wpAny (model X.prog X.w) X.A (pyIter (.ref (s.heap.objs.size + 1))) (PIE X pins σ (.Tuple elts c tp) R) E { s with heap:=g}:=by
 refine wpAny_pyIter_enum he ?_;refine⟨s.heap.objs.size + 1,[s.heap.objs.size + 1,s.heap.objs.size],_,_,H,rfl,I.kept (t':=s.toks) kk,zS a _ _ k (Nat.succ_ne_self _),⟨⟨_,he⟩,hi⟩,λb hb=> ?_,q⟩;rcases List.mem_cons.mp hb with rfl | hb
 .exact I.vm (Nat.le_succ _) (I.hok.fresh (Nat.le_succ _))
 .rw [List.mem_singleton.mp hb];exact I.vm (Nat.le_refl _) (I.hok.fresh (Nat.le_refl _))
def Gg(K:PySem.W.Frag)(k:Nat)(ta:TA):TI:=λσ H R=>ta σ H λvs H1=>∃a,vs=[.ref a]/\(∃xs,SqL K H1 a xs)/\R (Itn K a k) H1
theorem Cp{M:Model}{A:Around}{E:Value->Shared->Prop}{s:Shared}{pos:Pos}{T:String}{vs:List (Bool × Sem Value)}{kws:List (Option Str × Sem Value)}{Q:Value->Shared->Prop}(h1:vs.any (·.1)=false)(h2:kws.any (·.1.isNone)=false)
  (h:wpAny M A (evalArgs (.type T) true vs kws) (λa z=>wpAny M A (call (.type T) a.pos a.kw) Q E z) E s):wpAny M A (callWith pos (.type T) [] vs kws) Q E s:=by
 unfold callWith;refine wpAny_bind (wpAny_holding (wpAny_mono h (λa z hz=>wpAny_bind (wpAny_standAt ?_)) λ_ _ x=>x));simp only [h1,h2,Bool.or_false];refine wpAny_bind (wpAny_pure (wpAny_bind (wpAny_mono hz (λr z2 hr=> ?_) λ_ _ x=>x)));exact wpAny_bind (wpAny_holding (wpAny_point (wpAny_pure hr)))
theorem Bg{l:Expr}{ta:TA}{p pos kp cp:Pos}{ck}(hg:Gl X "enumerate")(hm:X.mg "enumerate"=none)(ha:PA X [l] ta)(hs:starEach [l] X.env=[(false,eval l X.env)]:=by rfl):
  PI X (.Tuple elts c tp) (.Call (.Name "enumerate" p) [l] [⟨some "start",.Constant (.int 1) ck cp,kp⟩] pos) (Gg X.K 1 ta):=by
 intro pins s σ H R I h;show wpAny _ _ (do callWith pos (<- eval (.Name "enumerate" p) X.env) [] (backTo pos (starEach [l] X.env)) (backToKw pos (keywordEach [⟨some "start",.Constant (.int 1) ck cp,kp⟩] X.env))) _ _ _;refine wpAny_bind (iw I hg hm boot_enumerate (Cp (by rw[hs];rfl) rfl ?_));rw[show backTo pos (starEach [l] X.env)=(false,eval l X.env)::backTo pos [] by rw[hs];rfl];refine evalArgs_kwB rfl ?_;have hx:=ha pos pins s σ H _ I h;rw[show backTo pos (starEach [l] X.env)=(false,eval l X.env)::backTo pos [] by rw[hs];rfl] at hx;refine thn hx λus s1 ⟨vs,H1,I1,r1,q1⟩=>kws_cons ?_;obtain⟨a,e,⟨xs,hq⟩,q⟩:=q1;subst e;cases r1 with
 | cons r rr=>
  cases rr;cases r;refine wpAny_Constant_int (kws_nil ?_);obtain⟨its,rv,pl,hz⟩:=(I1.tok (s1.toks + 1)).list hq;exact xJ (s:={ s1 with toks:=s1.toks + 1}) pl.isList λg he hi hsz kk=>Eb (I1.tok (s1.toks + 1)) (k:=1) he hi kk q
def Itd(n:Nat):It:=⟨λi _=>i < n,λi H x H'=>H'=H/\x=.int ((n:Int) - 1 - i),λi _=>n<=i⟩
theorem zD{P:Program}{w:World}{K:PySem.W.Frag}{tg:Expr}(it:Addr)(n:Nat):Turn P w K tg (Itd n) [it] it (λi h=>IsRangeIter h it (((n:Int) - 1) + (i:Nat) * (-1)) ((n:Int) - (i:Nat)) (-1)) where
 mem:=by simp
 obj:=λi h st b hb=>by
  rw[List.mem_singleton.mp hb]
  exact⟨_,st,λv z=>by
   have z2:Data.fields _=Data.cell v:=z;cases z2⟩
 keep:=λi h h' st k=>k it (by simp) _ st
 item:=by
  intro X hP hw hK hc i pins s σ H E I hf st hg;subst hP hw hK;obtain⟨f0,f1,f2,f3,f4,f5⟩:=hf it (by simp);refine q0 ((n:Int) - 1) (-1) n i hg st λv g tk hv st' kk=> ?_;obtain⟨t,rfl⟩:=hv;have I1:Inv X pins σ H { s with heap:=g,toks:=tk}:=I.turned (λb o hb e=>kk b o (by simpa using hb) e) f0 f1 f3 f4 f5;refine⟨_,rfl,BM (s:={ s with heap:=g,toks:=tk}) (n:="range_iterator") st' rfl rfl (by decide) ⟨.int ((n:Int) - 1 - i),H,I1,⟨t,?_⟩,⟨rfl,rfl⟩,st',λb hb=>(hf b hb).1⟩⟩;rw[show (n:Int) - 1 + (i:Int) * -1=(n:Int) - 1 - i by lia]
 done:=by
  intro X hP hw hK hc i pins s σ H E I hf st hg;subst hP hw hK;obtain⟨f0,f1,f2,f3,f4,f5⟩:=hf it (by simp);exact sG I.cm st (by have:n<=i:=hg;lia) λg eb=>⟨rfl,I.turned (t':=s.toks) (λb o hb e=>eb b o hb e) f0 f1 f3 f4 f5⟩
 self:=λ_ _ _ _ _ st h=>wpAny_pyIter_rangeiter st h
def F2(ta:TA):TI:=λσ H R=>ta σ H λvs H1=>∃n:Nat,vs=[.int ((n:Int) - 1),.int (-1),.int (-1)]/\n<=1000000/\R (Itd n) H1
theorem Di{tg a b c:Expr}{ta:TA}{p pos:Pos}(hg:Gl X "range")(hm:X.mg "range"=none)(ha:PA X [a,b,c] ta)(hs:starEach [a,b,c] X.env=[(false,eval a X.env),(false,eval b X.env),(false,eval c X.env)]:=by rfl)(hs2:starEach [b,c] X.env=[(false,eval b X.env),(false,eval c X.env)]:=by rfl):
  PI X tg (.Call (.Name "range" p) [a,b,c] [] pos) (F2 ta):=by
 intro pins s σ H R I h;refine Call_ (iw I hg hm boot_range (PyProof.Rows.callWith_type1 (ha.th I h λus s1 vs H1 I1 r1 q1=> ?_) (by rw[hs,hs2]) (by rw[hs2];rfl)));obtain⟨n,e,hn,q⟩:=q1;subst e;cases r1 with
 | cons r1 rr=>
  cases rr with
  | cons r2 rr=>
   cases rr with
   | cons r3 rr=>
    cases rr;obtain⟨t1,rfl⟩:=r1;obtain⟨t2,rfl⟩:=r2;obtain⟨t3,rfl⟩:=r3
    have sz:Builtin.Range.rangeSize ((n:Int) - 1) (-1) (-1)=n:=by
     unfold Builtin.Range.rangeSize;rw[if_neg (by decide)];by_cases h0:n=0
     .subst h0
      rfl
     .rw [if_pos (by lia)];show((n:Int) - 1 - -1 - 1) / 1 + 1=n;rw[Int.ediv_one]
      lia
    refine call_range_3 (by decide) ?_ (.inl (PyProof.noPylong_small (by lia)))
    have sm:Builtin.Range.small ((n:Int) - 1) (-1) (-1)=true:=by
     unfold Builtin.Range.small;rw[sz,if_neg (show ¬(-1:Int) > 0 by decide)];simp only [Builtin.Range.rangeFitsLong,Bool.and_eq_true,Bool.or_eq_true,decide_eq_true_eq,beq_iff_eq]
     lia
    refine wpAny_pyIter_range (IsRange.new ..) sm ?_;have I2:Inv X pins σ H1 { s1 with heap:=s1.heap.push { cls:= .type "range",data:= .fields #[.int ((n:Int) - 1) t1,.int (-1) t2,.int (-1) t3]},toks:=s1.toks}:=I1.kept λb o e=>Heap.get?_push_of_some _ e;refine⟨_,[(s1.heap.push { cls:= .type "range",data:= .fields #[.int ((n:Int) - 1) t1,.int (-1) t2,.int (-1) t3]}).objs.size],_,_,H1,rfl,I2.kept (t':=s1.toks) λb o e=>Heap.get?_push_of_some _ e,zD _ n,?_,λb hb=> ?_,q⟩
    .show IsRangeIter _ _ ((n:Int) - 1 + ((0:Nat):Int) * -1) ((n:Int) - ((0:Nat):Int)) (-1);rw[show (n:Int) - 1 + ((0:Nat):Int) * -1=(n:Int) - 1 by lia,show(n:Int) - ((0:Nat):Int)=n by lia];have:=Heap.get?_push_size (s1.heap.push { cls:= .type "range",data:= .fields #[.int ((n:Int) - 1) t1,.int (-1) t2,.int (-1) t3]}) (o:={ cls:= .type "range_iterator",data:= .fields #[rawInt ((n:Int) - 1),rawInt (Builtin.Range.rangeSize ((n:Int) - 1) (-1) (-1)),rawInt (-1)]}) rfl;rw[sz] at this;rw[sz];exact this
    .rw [List.mem_singleton.mp hb];exact I2.vm (Nat.le_refl _) (I2.hok.fresh (Nat.le_refl _))
end
section
variable{X:Cx}{k:Nat}{cm:Bool}{C:Addr}{sp:Sp}{dvs:List V}{E:St->XK}{x:Str}{p pos:Pos}
theorem D6(c:Mak X.prog X.w X.K X.mg X.base cm k x C sp dvs)(hr:bx cm (k + 1) X.A)(hg:Gl X x)(hx:Passes (CXE X.prog X.w) X E)(hdb:(x == ("__debug__":Str))=false:=by decide):
  PE X (.Call (.Name x p) [] [] pos) (zm C sp dvs E BU):=by
 obtain⟨f,fd,ps,ds,M,F,hm,hb,hd⟩:=c;exact Br M F hr hg hm hb hd hx hdb
end
theorem Ei{X:Cx}{K0:PySem.W.Frag}{e:Expr}{f:Str}{pos:Pos}{ta:TE}(hK:X.K=K0)(he:PE X e ta)(hb:attributeBase e f X.env (eval e X.env)=eval e X.env):PE X (.Attribute e f pos) (GW K0 ta f):=by
 subst hK;exact aV he hb
theorem xT{J:It}{n:Nat}{g:TG}{tb:TS}{D:Ends}{σ:St}{H:Hp}(Pv:Nat->St->Hp->Prop)(h0:Pv 0 σ H)(go:∀i σ H,i < n->Pv i σ H->J.go i H)
  (hs:∀i σ H x H',i < n->Pv i σ H->J.yld i H x H'->g x σ H' λσ2 H2=>tb { D with nx:=Pv (i + 1),ct:=Pv (i + 1),bk:=D.nx} σ2 H2) (hd:∀σ H,Pv n σ H->J.stop n H/\D.nx σ H):
  ∃W:Nat->Nat->St->Hp->Prop,(∃m,W 0 m σ H)/\∀i m σ H,W i m σ H→
   (J.stop i H/\D.nx σ H)\/(J.go i H/\∃N:St->Hp->Prop,(∀σ' H',N σ' H'->∃m',m' < m/\W (i + 1) m' σ' H')/\∀x H',J.yld i H x H'->g x σ H' λσ2 H2=>tb { D with nx:=N,ct:=N,bk:=D.nx} σ2 H2):=by
 refine⟨λi m σ H=>m=n - i/\i<=n/\Pv i σ H,⟨n,rfl,Nat.zero_le _,h0⟩,?_⟩;rintro i m σ H ⟨rfl,hi,p⟩;by_cases hlt:i < n
 .exact .inr ⟨go i σ H hlt p,Pv (i + 1),λσ' H' p'=>⟨n - (i + 1),by lia,rfl,hlt,p'⟩,λx H' y=>hs i σ H x H' hlt p y⟩
 .obtain rfl:i=n:=by lia
  exact .inl (hd σ H p)
section
variable{X:Cx}{k:Nat}{cm:Bool}{sp:Sp}{dvs:List V}{x m:Str}{p pos apos:Pos}{e o a b i:Expr}{es:List Expr}{t:TA}{ta tb te td ty:TE}{C:Addr}{CX:CXT}
theorem bZ(c:Cal X.nox.prog X.nox.w X.nox.K X.nox.mg X.nox.base cm k x sp dvs)(ha:PA X.nox (e::es) t)(hr:bx cm k X.nox.A:=by exact bx.mono (by assumption) (by lia))(hg:Gl X.nox x:=by rfl)
  (hdb:(x == ("__debug__":Str))=false:=by decide) (he:starEach (e::es) X.nox.env=(false,eval e X.nox.env)::starEach es X.nox.env:=by rfl) (hpl:(backTo pos (starEach es X.nox.env)).any (·.1)=false:=by rfl):
  PE X.nox (.Call (.Name x p) (e::es) [] pos) (wX sp dvs XNo t):=kP c hr hg bL ha hdb he hpl
theorem zmD{Dt:Addr->Sp->List V->Prop}{pl:Sem Bool}(he:PE X.nox o ta)(hD:∀C sp dvs,Dt C sp dvs->MethAt X.nox.prog X.nox.w X.nox.K X.nox.mg X.nox.base (CXE X.nox.prog X.nox.w) cm k m C sp dvs)(ha:PA X.nox (e::es) t)(hr:bx cm k X.nox.A:=by exact bx.mono (by assumption) (by lia))
  (hst:starEach (e::es) X.nox.env=(false,eval e X.nox.env)::starEach es X.nox.env:=by rfl) (hpl:(backTo pos (starEach es X.nox.env)).any (·.1)=false:=by rfl)
  (ht:eval (.Call (.Attribute o m apos) (e::es) [] pos) X.nox.env=(do
   let ov<-eval o X.nox.env
   standAt apos.atName
   let (f,first)<-holding [ov] (getMethod ov m pl)
   callWith pos f first (backTo pos (starEach (e::es) X.nox.env)) (backToKw pos (keywordEach [] X.nox.env))):=by rfl):
  PE X.nox (.Call (.Attribute o m apos) (e::es) [] pos) (uC Dt m XNo ta t):=wJ he hD hr bL ha hst hpl ht
theorem pq{Dt:Addr->Sp->List V->Prop}{pl:Sem Bool}(he:PE X.nox o ta)(hD:∀C sp dvs,Dt C sp dvs->MethAt X.nox.prog X.nox.w X.nox.K X.nox.mg X.nox.base (CXE X.nox.prog X.nox.w) cm k m C sp dvs)(hr:bx cm k X.nox.A:=by exact bx.mono (by assumption) (by lia))
  (ht:eval (.Call (.Attribute o m apos) [] [] pos) X.nox.env=(do
   let ov<-eval o X.nox.env
   standAt apos.atName
   let (f,first)<-holding [ov] (getMethod ov m pl)
   callWith pos f first (backTo pos (starEach [] X.nox.env)) (backToKw pos (keywordEach [] X.nox.env))):=by rfl):
  PE X.nox (.Call (.Attribute o m apos) [] [] pos) (uC Dt m XNo ta BU):=zR he hD hr bL ht
theorem bg{i:Nat}{pos':Pos}(hN:X.N.Nodup)(he:PE X e te)(hi:X.N[i]? =some x:=by rfl)(hx:Loc X.env.scope x:=by first | exact Or.inl rfl | exact Or.inr rfl)(hs:swapsWith e (some (.Name x pos')) pos.line X.env=pure false:=by rfl)(hf:X.fn x=true\/X.env.scope.names.lookup x=some .local:=by first | exact .inl rfl | exact .inr rfl | assumption):
  PS X (.Assign [.Name x pos'] e pos) (Bp te (ib i)):=Fv hN hi hx he hs hf
theorem zix{r:R2}(hr:IxR X r)(ha:PE X a ta)(hb:PE X b tb)(hs:yR b:=by exact λ_ _=>rfl):PE X (.Subscript a b pos) (tOp r ta tb):=Gx hr ha hb hs
theorem zdg(ho:PE X o td)(hi:PE X i ty)(hu:X.A.units + 1 < cLine:=by exact qb (by assumption))(hs:EY i:=by exact λ_ _=>rfl):PE X (.Subscript o i pos) (Es td ty):=y7 hu ho hi hs
theorem zce{op:CmpOp}{r:R2}(ho:OpR X (compareOp op) r)(ha:PE X a ta)(hb:PE X b tb)(hm:behindInMarks op b=false:=by first | exact xW _ | with_unfolding_all rfl):PE X (.Compare a [op] [b] pos) (tOp r ta tb):=yL ho ha hb hm
theorem zct{op:CmpOp}{r:R2}(ho:OpR X (compareOp op) r)(ha:PE X a ta)(hb:PE X b tb)(hm:behindInMarks op b=false:=by first | exact xW _ | with_unfolding_all rfl):PT X (.Compare a [op] [b] pos) (Eo (tOp r ta tb)):=yD ho ha hb hm
end
section
variable{s1 s2 s3 rest t u:TS}{c:TT}{D:Ends}{σ:St}{H:Hp}
theorem A8(M:St->Hp->Prop)(h1:∀N:St->Hp->Prop,(∀σ' H',M σ' H'->N σ' H')->s1 { D with nx:=λσ H=>s2 { D with nx:=λσ H=>s3 { D with nx:=N} σ H} σ H} σ H)(h2:∀σ' H',M σ' H'->rest D σ' H'):zU s1 (zU s2 (zU s3 rest)) D σ H:=h1 _ h2
theorem FZ(b:Bool)(h1:∀N:Bool->Hp->Prop,N b H->c σ H N)(h2:if b=true then t D σ H else u D σ H):GF c t u D σ H:=h1 _ h2
end
section
variable(K:PySem.W.Frag)
def Nos:List String->Prop
 | []=>True
 | x::r=>PySem.W.nsIn K mainGlobals (Str.ofString x)=some none/\Nos r
def Gls:List (String × Addr)->Prop
 | []=>True
 | (x,a)::r=>PySem.W.nsIn K mainGlobals (Str.ofString x)=some (some (.ref a))/\Gls r
def Mts(C:Addr):List (String × Addr)->Prop
 | []=>True
 | (m,f)::r=>PySem.W.findIn K (.ref C) (Str.ofString m)=some (some (.ref f))/\Mts C r
def NoX(C:Addr):List String->Prop
 | []=>True
 | f::r=>PySem.W.findIn K (.ref C) (Str.ofString f)=some none/\NoX C r
def tT(C:Addr):Prop:=PySem.W.plainGet K C Str.empty=true/\PySem.W.hasDictIn K C=true/\PySem.W.plainOver K C=true/\PySem.W.findIn K (.ref C) "__setattr__"=some (some (.builtin "object.__setattr__"))
def MkV(C:Addr):Prop:=PySem.W.makesIn K C=true/\PySem.W.keepIn K (.ref C)=true
def ByV(C:Addr)(m:Str)(f:Addr):Prop:=PySem.W.specialIn K (.ref C) "__getattribute__"=some (some (.builtin "type.__getattribute__"))/\PySem.W.readsIn K C (.type "type")=true/\PySem.W.findCls K (.ref C) (.type "type") m=some (.val (.ref f))
def Fi(a:Addr)(x qual:Str)(st:Stmt)(dv vo:Value)(od:Option Addr)(vk vg vp:Value)(oa:Option Addr)(vv vu:Value)(sl:Array (Option Value)):Prop:=
 K.lookup a=some ⟨vo,od,.func (PySem.W.fnOf x qual (eJ st) (bf st) (ah st) dv vk vg vp oa vv vu),sl⟩/\PySem.W.codeIn K vv qual=true/\PySem.W.keepIn K (.ref a)=true/\PySem.W.isFn K (.ref a)=true
end
section
variable{K:PySem.W.Frag}{a C:Addr}{x qual m:Str}{st:Stmt}{dv vo vk vg vp vv vu:Value}{od oa:Option Addr}{sl:Array (Option Value)}
theorem Fi.d(h:Fi K a x qual st dv vo od vk vg vp oa vv vu sl):aL K x qual st dv a (PySem.W.fnOf x qual (eJ st) (bf st) (ah st) dv vk vg vp oa vv vu):=DP h.1 h.2.1 h.2.2.1
def a8(K:PySem.W.Frag)(a:Addr)(x qual:Str)(st:Stmt)(dv:Value):Prop:=∃vo od vk vg vp oa vv vu sl,Fi K a x qual st dv vo od vk vg vp oa vv vu sl
theorem a8.d(h:a8 K a x qual st dv):∃fd,aL K x qual st dv a fd:=let ⟨_,_,_,_,_,_,_,_,_,h⟩:=h;⟨_,h.d⟩
theorem a8.mt(h:a8 K a x qual st dv)(f:PySem.W.findIn K (.ref C) m=some (some (.ref a))):Meth K C m a:=let ⟨_,_,_,_,_,_,_,_,_,h⟩:=h;⟨f,h.2.2.2,h.2.2.1⟩
theorem a8.mk(h:a8 K a x qual st dv)(f:PySem.W.findIn K (.ref C) "__init__"=some (some (.ref a)))(k:MkV K C):Mk K C a:=let ⟨_,_,_,_,_,_,_,_,_,h⟩:=h;⟨k.1,f,h.2.2.2,k.2⟩
theorem a8.bc(h:a8 K a x qual st dv)(b:ByV K C m a):Cg K C m a:=let ⟨_,_,_,_,_,_,_,_,_,h⟩:=h;⟨b.1,b.2.1,b.2.2,h.2.2.1⟩
theorem aL.bl{fd:FuncData}{p:FuncData->Prop}(F:aL K x qual st dv a fd)(h:∀kV doc pm an cdv ct,p (PySem.W.fnOf x qual (eJ st) (bf st) (ah st) dv kV doc pm an cdv ct)):p fd:=by
 obtain⟨_,_,kV,doc,pm,an,cdv,ct,_,rfl,_⟩:=F.ex;exact h ..
theorem tT.d(h:tT K C):Cls K C:=⟨h.1,h.2.1,h.2.2.1,h.2.2.2⟩
variable{P:Program}{w:World}{mg:Str->Option Value}{base:Heap}{cm:Bool}{k:Nat}{f:Addr}{fd:FuncData}{ps:List Str}{sp:Sp}{spC:Addr->Sp}
def Wd(_:Program)(_:World)(_:PySem.W.Frag)(_:Str->Option Value)(_:Heap):Prop:=True
theorem mkH(_:Wd P w K mg base)(c:Cls K C)(h:Meth K C m f)(b:Binds K fd ps [])(ok:aB P w K mg base (CXE P w) true k f fd ps (spC C)):Shp.gy P w K mg base k m spC λC'=>C'=C:=λC' e=>by subst e;exact⟨f,fd,ps,[],c,h,ok,b,.nil⟩
theorem mkM{y:Str}(_:Wd P w K mg base)(q:mg y=some (.ref C))(M:Mk K C f)(b:Binds K fd ps [])(ok:aB P w K mg base (CXE P w) cm k f fd ps sp):Mak P w K mg base cm k y C sp []:=⟨f,fd,ps,[],M,ok,q,b,.nil⟩
theorem F4{h:Heap}{y:Str}(X:K.In h)(G:h.Ns mainGlobals mg)(_:Wd P w K mg base)(q:PySem.W.nsIn K mainGlobals y=some (some (.ref f)))(v:a8 K f x qual st dv)(ok:∀fd,aL K x qual st dv f fd->aB P w K mg base (CXE P w) cm k f fd ps sp)(b:∀fd,aL K x qual st dv f fd->Binds K fd ps []):Cal P w K mg base cm k y sp []:=by
 obtain⟨fd,F⟩:=v.d;exact⟨f,fd,ps,[],ok fd F,PySem.W.mg_of X G q,F.kp,b fd F,.nil⟩
theorem GI(e:Wd P w K mg base)(c:Cls K C)(fi:PySem.W.findIn K (.ref C) m=some (some (.ref f)))(v:a8 K f x qual st dv)(ok:∀fd,aL K x qual st dv f fd->aB P w K mg base (CXE P w) true k f fd ps (spC C))(b:∀fd,aL K x qual st dv f fd->Binds K fd ps []):Shp.gy P w K mg base k m spC λC'=>C'=C:=by
 obtain⟨fd,F⟩:=v.d;exact mkH e c (v.mt fi) (b fd F) (ok fd F)
end
section
variable{α:Type}{p:List α->Prop}
theorem ln1(z:∀a,p [a]):∀us:List α,us.length=1->p us
 | [a],_=>z a
theorem ln2(z:∀a b,p [a,b]):∀us:List α,us.length=2->p us
 | [a,b],_=>z a b
theorem ln3(z:∀a b c,p [a,b,c]):∀us:List α,us.length=3->p us
 | [a,b,c],_=>z a b c
theorem ln4(z:∀a b c d,p [a,b,c,d]):∀us:List α,us.length=4->p us
 | [a,b,c,d],_=>z a b c d
theorem ln5(z:∀a b c d e,p [a,b,c,d,e]):∀us:List α,us.length=5->p us
 | [a,b,c,d,e],_=>z a b c d e
theorem ln6(z:∀a b c d e f,p [a,b,c,d,e,f]):∀us:List α,us.length=6->p us
 | [a,b,c,d,e,f],_=>z a b c d e f
theorem lnD{ds:List α}{k n:Nat}(e:n + ds.length=k)(h:∀us:List α,us.length=n->p us)(us:List α)(q:(us++ds).length=k):p us:=h us (by rw[List.length_append] at q;lia)
end
section
variable{P:Program}{w:World}{K:PySem.W.Frag}{mg:Str->Option Value}{base:Heap}{cm:Bool}{k:Nat}{f a C:Addr}{fd:FuncData}{ps:List Str}{sp:Sp}{spC:Addr->Sp}{x qual m:Str}{st:Stmt}{dv:Value}
theorem fE{h:Heap}{y:Str}(X:K.In h)(G:h.Ns mainGlobals mg)(e:Wd P w K mg base)(q:PySem.W.nsIn K mainGlobals y=some (some (.ref f)))(v:a8 K f x qual st dv)(ok:∀fd,aL K x qual st dv f fd->aB P w K mg base (CXE P w) cm k f fd ps sp)
  (b:∀fd,aL K x qual st dv f fd->Binds K fd ps []:=by intro _ F;first | exact F.binds λ_ _ _ _ _ _=>ln1 λ_=>rfl | exact F.binds λ_ _ _ _ _ _=>ln2 λ_ _=>rfl | exact F.binds λ_ _ _ _ _ _=>ln3 λ_ _ _=>rfl | exact F.binds λ_ _ _ _ _ _=>ln0 rfl | exact F.binds λ_ _ _ _ _ _=>ln4 λ_ _ _ _=>rfl | exact F.binds λ_ _ _ _ _ _=>ln5 λ_ _ _ _ _=>rfl | exact F.binds λ_ _ _ _ _ _=>ln6 λ_ _ _ _ _ _=>rfl | exact F.binds λ_ _ _ _ _ _=>ln7 λ_ _ _ _ _ _ _=>rfl | exact F.binds λ_ _ _ _ _ _=>ln8 λ_ _ _ _ _ _ _ _=>rfl):Cal P w K mg base cm k y sp []:=F4 X G e q v ok b
theorem E6(e:Wd P w K mg base)(c:Cls K C)(fi:PySem.W.findIn K (.ref C) m=some (some (.ref f)))(v:a8 K f x qual st dv)(ok:∀fd,aL K x qual st dv f fd->aB P w K mg base (CXE P w) true k f fd ps (spC C))
  (b:∀fd,aL K x qual st dv f fd->Binds K fd ps []:=by intro _ F;first | exact F.binds λ_ _ _ _ _ _=>ln1 λ_=>rfl | exact F.binds λ_ _ _ _ _ _=>ln2 λ_ _=>rfl | exact F.binds λ_ _ _ _ _ _=>ln3 λ_ _ _=>rfl | exact F.binds λ_ _ _ _ _ _=>ln0 rfl | exact F.binds λ_ _ _ _ _ _=>ln4 λ_ _ _ _=>rfl | exact F.binds λ_ _ _ _ _ _=>ln5 λ_ _ _ _ _=>rfl | exact F.binds λ_ _ _ _ _ _=>ln6 λ_ _ _ _ _ _=>rfl | exact F.binds λ_ _ _ _ _ _=>ln7 λ_ _ _ _ _ _ _=>rfl | exact F.binds λ_ _ _ _ _ _=>ln8 λ_ _ _ _ _ _ _ _=>rfl):Shp.gy P w K mg base k m spC λC'=>C'=C:=GI e c fi v ok b
end
structure kD(X:Cx)(scope:Scope)(xs:List Str)(cl:List (Str × Addr)):Prop where
 kind:scope.kind=.function
 C6:closureFor scope X.env=pure cl
 qO:∀y∈scope.names,y.2≠ .cell
 names:∀y∈scope.names,y.2=.local->scope.names.lookup y.1=some .local
 own:rO (λx:Str=>scope.names.lookup x=some .local) xs
 nd:xs.Nodup
 cells:rO (λp:Str × Addr=>X.env.cells.lookup p.1=some p.2) cl
 has:rO (λy:Str × NameKind=>y.2=.free->∃c,cl.lookup y.1=some c) scope.names
theorem kD.cell{X:Cx}{scope:Scope}{xs:List Str}{cl:List (Str × Addr)}(S:kD X scope xs cl){y:Str}{c:Addr}(e:cl.lookup y=some c):X.env.cells.lookup y=some c:=
 S.cells.mem _ (PySem.mem_of_lookup e)
section
variable{X:Cx}{pins:List (Addr × Obj)}{σ:St}{H2:Hp}{s2:Shared}{scope:Scope}{xs:List Str}{cl:List (Str × Addr)}{C:Addr}{fp:List Addr}
theorem vO(S:kD X scope xs cl)(I:Inv X pins σ H2 s2)(hC:s2.heap.objs.size<=C)(hf:∀b∈fp,bR X pins H2 b)(hfo:∀b∈fp,b < s2.heap.objs.size):
  (X.comp xs scope cl C fp s2 H2).Ok where
 mod:=I.mod
 kind:=S.kind
 glob:=I.ok.glob
 blt:=I.ok.blt
 above:=hC
 inj:=λy z c h1 h2=>I.ok.inj y z c (S.cell h1) (S.cell h2)
 has:=λy hy=>by
  have hy:(relabel scope X.env).names.lookup y=some .cell\/(relabel scope X.env).names.lookup y=some .free:=hy
  have key:∀k,(relabel scope X.env).names.lookup y=some k->(k=.cell\/k=.free)->∃c,cl.lookup y=some c:=λk hk hkk=>by
   obtain⟨k0,e1,e2⟩:=gN (scope:=scope) hk;have hm:=PySem.mem_of_lookup e1
   have hfr:k0=.free:=by
    rcases e2 with e2 | e2
    .subst e2;rcases hkk with z | z
     .exact absurd z (S.qO _ hm)
     .exact z
    .exact e2.1
   exact S.has.mem _ hm hfr
  rcases hy with z | z
  .exact key _ z (.inl rfl)
  .exact key _ z (.inr rfl)
 cab:=λy c h _=>absurd (show(false:Bool)=true from h) (by decide)
 hd:=I.ok.hd
 cl:=by
  rcases I.cl with z | ⟨e,o,vs,z,h1,h2,h3,h4,h5,h6,h7⟩
  .exact .inl z
  .refine .inr ⟨e,o,vs,z,h1,h2,.inr ⟨h3,h4,λhm=> ?_,λhm=> ?_⟩⟩
   .rcases List.mem_cons.mp (I.mX e hm) with y | y
    .exact h6 y
    .exact h5 y
   .rcases h7 with y | ⟨y,y2⟩
    .exact (hf e hm).2.2.2.2.2 _ (List.mem_append_left _ y) rfl
    .rcases (hf e hm).2.2.2.1 with q | q
     .exact y2 q
     .rw [q] at y;cases y
 frames:=I.ok.frames
 stk:= .inl rfl
 exf:=λb hb=>⟨Nat.ne_of_lt (Nat.lt_of_lt_of_le (hfo b hb) hC),λy c e=>(hf b hb).2.2.2.2.1 y c (S.cell e)⟩
 bs:=I.bs
 bsz:=Nat.le_trans I.ok.bsz I.sz
 rZ:=λb o e hb=>by
  rcases(hf b hb).2.2.2.1 with z | z
  .exact I.ok.rZ b o e z
  .have q:=(I.ok.bs b o e).1;rw[z] at q;cases q
 rP:=λb hb hm=>by
  rcases List.mem_cons.mp (I.mX b hm) with z | z
  .exact (hf b hb).2.1 z
  .exact (hf b hb).2.2.1 z
 iA:=I.stack
 frf:=I.o8
theorem AG{h1:Heap}{t1:Nat}(S:kD X scope xs cl)(I:Inv X pins σ H2 s2)(hC:s2.heap.objs.size<=C)(hf:∀b∈fp,bR X pins H2 b)(hfo:∀b∈fp,b < s2.heap.objs.size)
  (old:∀b o,s2.heap.get? b=some o->h1.get? b=some o) (hn:h1.Ns C λ_=>none) {D:Addr} {oD:Obj} (hD:h1.get? D=some oD) (hDn:s2.heap.objs.size<=D) (hDC:D≠C) (hDc:∀v,oD.data≠ .cell v):
  Inv (X.comp xs scope cl C fp s2 H2) [(D,oD)] (List.replicate xs.length none) H2 { s2 with heap:=h1,toks:=t1} where
 ok:=vO S I hC hf hfo
 os:=rfl
 bare:=I.bare
 base:=Un.kept old
 loc:=by
  refine⟨_,hn,λi y v e1 e2 e3=> ?_⟩;rw[List.getElem?_replicate] at e2
  split at e2 <;> cases e2
 cell:=λy c e=>by
  obtain⟨v,o,ho,hd⟩:=I.cell y c (S.cell e);exact⟨v,o,old _ _ ho,hd⟩
 free:=I.hok.fresh hC
 di:=λy c e=>I.di y c (S.cell e)
 pin:=λp hp=>by
  have hp:p=(D,oD):=by simpa [Cx.comp] using hp
  subst hp;refine⟨hD,I.hok.fresh hDn,hDC,λhm=> ?_,hDc⟩;obtain⟨_,o,ho,_⟩:=I.stack.mem (show D∈X.stack.filterMap (·.frame) from hm);exact absurd (Nat.lt_of_lt_of_le (Heap.lt_size ho) hDn) (Nat.lt_irrefl _)
 hok:=I.hok.kept old
 len:=by simp [Cx.comp]
end
def xv(J:It)(n:Nat)(g:TG)(tf:TT)(te:TE)(H1:Hp)(Q:VK):Prop:=∃W:Nat->Nat->List V->Hp->Prop,(∃m,W 0 m [] H1)/\∀i m ys H',W i m ys H'→
 (J.stop i H'/\ys.length<=sizeLine/\∀p,H' p=none->Q (.ref p) (upd H' p (.lst ys)))∨
 (J.go i H'/\∃N:List V->Hp->Prop,(∀zs H5,N zs H5->∃m',m' < m/\W (i + 1) m' zs H5)/\∀v H2,J.yld i H' v H2->∀σ0:St,σ0.length=n->g v σ0 H2 λσ6 H6=>tf σ6 H6 λok H3=>
  if ok=true then te σ6 H3 λy H4=>ys.length < sizeLine/\N (ys++[y]) H4 else N ys H3)
def FQ(wi:TI)(n:Nat)(g:TG)(tf:TT)(te:TE):TE:=λσ H Q=>wi σ H λJ H1=>xv J n g tf te H1 Q
section
variable{X:Cx}{scope:Scope}{xs:List Str}{cl:List (Str × Addr)}{tg:Expr}{g:TG}{pos:Pos}{iter elt:Expr}{ifs:List Expr}{wi:TI}{tf:TT}{te:TE}
theorem AQ(S:kD X scope xs cl)(hc:X.calm=X.calm)(hg:∀C fp s2 H2,PG (X.comp xs scope cl C fp s2 H2) tg g)
  (hf:∀C fp s2 H2,PF (X.comp xs scope cl C fp s2 H2) ifs tf) (he:∀C fp s2 H2,PE (X.comp xs scope cl C fp s2 H2) elt te)
  {pins:List (Addr × Obj)} {σ:St} {s2:Shared} {H2:Hp} {it:Addr} {fp:List Addr} {tn:Nat->Heap->Prop} {J:It} {Q:V->Hp->Prop} {E:Value->Shared->Prop} {RR:Value->Addr->Result->Shared->Prop}
  (I:Inv X pins σ H2 s2) (T:Turn X.prog X.w X.K tg J fp it tn) (st:tn 0 s2.heap) (fo:∀b∈fp,bR X pins H2 b)
  (h:xv J xs.length g tf te H2 Q)
  (fin:∀D C m s' H',Inv X pins σ H' s'->s'.heap.Ns C m->bR X pins H' C->Q (.ref D) H'->RR (.ref D) C (.ok .next) s'):
  wpAny (model X.prog X.w) X.A (newList []) (λacc s₃=>wpAny (model X.prog X.w) X.A (newFunctionEnv scope X.env.globals cl [] X.env.qual none .none (some X.env)) (λcenv s₄=>
   codeAny (model X.prog X.w) X.A (.compStart (.ListComp elt [⟨tg,iter,ifs,0⟩] scope pos) 0 (.ref it) acc { cenv with scope:=relabel scope X.env}) (RR acc cenv.locals) s₄) E s₃) E s2:=by
 obtain⟨W,⟨m0,w0⟩,turn⟩:=h;refine wpAny_newObj_type (wpAny_newFunctionEnv S.qO (by intro y hy;simp at hy) (λh₁ hns₁ hsb₁=> ?_) S.kind);dsimp only at hns₁ hsb₁ ⊢;generalize hH2:s2.heap.push { cls:= .type "list",dict:=none,data:= .seq ([]:List Value).toArray}=G2 at hns₁ hsb₁ ⊢;have hC:G2.objs.size=s2.heap.objs.size + 1:=by rw[<- hH2,Heap.size_push]
 have hDC:s2.heap.objs.size≠G2.objs.size:=by rw[hC];exact Nat.ne_of_lt (Nat.lt_succ_self _)
 have hCle:s2.heap.objs.size<=G2.objs.size:=by rw[hC];exact Nat.le_succ _
 have below:∀b,b < s2.heap.objs.size->b≠G2.objs.size:=λb hb=>by rw[hC];exact Nat.ne_of_lt (Nat.lt_succ_of_lt hb)
 have old:∀b o,s2.heap.get? b=some o->h₁.get? b=some o:=λb o e=>hsb₁.extBut b o (below b (Heap.lt_size e)) (Heap.get?_push_of_some _ (hH2 ▸ Heap.get?_push_of_some _ e));have hacc:h₁.get? s2.heap.objs.size=some (ij [] 0):=hsb₁.extBut _ _ hDC (Heap.get?_push_of_some _ (hH2 ▸ Heap.get?_push_size _ rfl))
 have fob:∀b∈fp,b < s2.heap.objs.size:=λb hb=>by
  obtain⟨o,e,_⟩:=T.obj _ _ st b hb;exact Heap.lt_size e
 generalize hDD:s2.heap.objs.size=D at *;generalize hCC:G2.objs.size=C at *;have nsE:(λy:Str=>([]:List (Str × Value)).reverse.lookup y)=λ_=>none:=rfl;have hns₁:h₁.Ns C λ_=>none:=hns₁;have IY:=AG (t1:=s2.toks + ([]:List (Str × Value)).length) S I (C:=C) (by rw[hDD];exact hCle) fo (λb hb=>by rw[hDD];exact fob b hb) old hns₁ hacc (by rw[hDD];exact Nat.le_refl _) hDC (λv z=>by cases z);have st₁:tn 0 h₁:=T.keep _ _ _ st λb hb o e=>old b o e
 let Y:Cx:=X.comp xs scope cl C fp s2 H2
 have fpY:∀{H':Hp} {oD:Obj},(∀b∈fp,H' b=none)->∀b∈fp,bR Y [(D,oD)] H' b:=λ{H' oD} hn b hb=>
  ⟨hn b hb,below b (fob b hb),λhm=>(vO S I (C:=C) (by rw[hDD];exact hCle) fo (λb hb=>by rw[hDD];exact fob b hb)).rP b hb hm,.inl hb,λy c e=>(fo b hb).2.2.2.2.1 y c (S.cell e),λp hp=>by
   have hp:p=(D,oD):=by simpa [Y,Cx.comp] using hp
   subst hp;exact Nat.ne_of_gt (fob b hb)⟩
 have loop:∀s3:Shared,s3={ s2 with heap:=h₁,toks:=s2.toks + ([]:List (Str × Value)).length}→
   codeAny (model X.prog X.w) X.A (.compLoop (.ListComp elt [⟨tg,iter,ifs,0⟩] scope pos) 0 (.ref it) (.ref D) (compEnvC scope cl C X.env)) (RR (.ref D) C) s3:=by
  rintro s3 rfl;refine lQ (λn s'=>∃i v H' ys its k,Inv Y [(D,ij its k)] v H' s'/\tn i s'.heap/\(∀b∈fp,H' b=none)/\Vals ys its/\W i n ys H') ?_ m0 ⟨0,_,H2,[],[],0,IY,st₁,λb hb=>(fo b hb).1,.nil,w0⟩;rintro n s3 ⟨i,v0,H3,ys,its,k,I3,st3,fr3,vs3,w3⟩;rcases turn i n ys H3 w3 with⟨stop,hz,qn⟩ | ⟨go,N,hN,step⟩
  .refine thn (T.done Y rfl rfl rfl hc i _ s3 _ H3 _ I3 (fpY fr3) st3 stop) λr s4 zz=> ?_;obtain⟨hr,I4⟩:=zz;subst hr;have pD:=I4.pin (D,ij its k) (List.mem_append_right _ (List.mem_singleton.mpr rfl));obtain⟨mC,hmC,_⟩:=I4.loc;have nC:H3 C=none:=I4.free;have IX:Inv X pins σ H3 s4:=I.BS I4.os I4.base I4.hok I4.bare λb hb=>⟨(fo b hb).2.2.2.1,(fo b hb).2.1,(fo b hb).2.2.2.2.1,(fo b hb).2.2.2.2.2⟩;have lt2:∀{b:Addr},b < D->b < s2.heap.objs.size:=λh=>by rw[hDD];exact h
   have nL:∀a,D<=a->a≠X.env.locals/\(∀y c,X.env.cells.lookup y=some c->c≠a)/\(∀p∈X.pn++pins,p.1≠a)/\a∉X.fs:=λa ha=>by
    have ha':s2.heap.objs.size<=a:=by rw[hDD];exact ha
    have z:=I.vm (H':=H2) ha' (I.hok.fresh ha');exact⟨z.2.1,z.2.2.2.2.1,z.2.2.2.2.2,z.2.2.1⟩
   have sz:∀a,D<=a->X.s₀.heap.get? a=none:=λa ha=>Heap.get?_none_of_le (Nat.le_trans I.sz (by rw[hDD];exact ha));obtain⟨d1,d2,d3,d4⟩:=nL D (Nat.le_refl _);have IT:=IX.Et (a:=D) (o:= .lst ys) pD.2.1 (sz D (Nat.le_refl _)) d1 d2 d3 ⟨hz,its,k,vs3,pD.1⟩;obtain⟨c1,c2,c3,c4⟩:=nL C hCle;exact fin D C mC s4 _ IT hmC ⟨by rw[ak (Ne.symm hDC)];exact nC,c1,c4,.inr (sz C hCle),c2,c3⟩ (qn D pD.2.1)
  .refine thn (T.item Y rfl rfl rfl hc i _ s3 _ H3 _ I3 (fpY fr3) st3 go) λr s4 zz=> ?_;obtain⟨u,hr,h4⟩:=zz;subst hr;refine thn h4 λ_ s5 zz=> ?_;obtain⟨v,H5,I5,r5,y5,st5,fr5⟩:=zz;have I5':=I5.pinned (fpY fr5) (T.obj _ _ st5);refine thn (hg C fp s2 H2 _ s5 _ H5 v u _ I5' r5 (step v _ y5 _ I5'.len)) λ_ s6 zz=> ?_;obtain⟨σ6,H6,I6,q6⟩:=zz;refine thn (hf C fp s2 H2 _ s6 _ _ _ I6 q6) λok s7 zz=> ?_;obtain⟨H7,I7,q7⟩:=zz
   have back:∀{vv:St} {H':Hp} {s':Shared} {its':List Value} {k':Nat},Inv Y ([(D,ij its' k')]++cV fp s5.heap) vv H' s'->Inv Y [(D,ij its' k')] vv H' s'/\tn (i + 1) s'.heap/\∀b∈fp,H' b=none:=λ{vv H' s' its' k'} J'=>by
    refine⟨J'.jj,T.keep _ _ _ st5 λb hb o e=>(J'.pin (b,o) (List.mem_append_right _ (List.mem_append_right _ (dn hb e)))).1,λb hb=> ?_⟩;obtain⟨o,e,d⟩:=T.obj _ _ st5 b hb;exact(J'.pin (b,o) (List.mem_append_right _ (List.mem_append_right _ (dn hb e)))).2.1
   cases ok with
   | false=>
    obtain⟨m',hm,w7⟩:=hN _ _ q7;obtain⟨J1,J2,J3⟩:=back I7;exact⟨m',hm,i + 1,σ6,H7,ys,its,k,J1,J2,J3,vs3,w7⟩
   | true=>
    refine thn (he C fp s2 H2 _ s7 _ _ _ I7 q7) λuy s8 zz=> ?_;obtain⟨y,H8,I8,r8,q8⟩:=zz;obtain⟨hz,q8⟩:=q8;obtain⟨m',hm,w8⟩:=hN _ _ q8;have pD:=I8.pin (D,ij its k) (List.mem_append_right _ (List.mem_append_left _ (List.mem_singleton.mpr rfl)));have hlen:=vs3.length;refine call_meets F.slot_list_append ⟨_,pD.1,rfl⟩ F.entry_list_append (F.args_list_append_2 _ _) (PySem.list_append D its.toArray k uy (by rw[List.size_toArray];lia)) ⟨pD.1,?_⟩;have q:=PySem.IsL.update pD.1 (·.push uy);have eq1:its.toArray.push uy=(its++[uy]).toArray:=by simp
    rw[eq1] at q;obtain⟨k',q⟩:∃k',(s8.heap.update D (Obj.mapSeq (·.push uy))).get? D=some (ij (its++[uy]) k'):=⟨_,q⟩;have oth:∀b o,b≠D->s8.heap.get? b=some o->(s8.heap.update D (Obj.mapSeq (·.push uy))).get? b=some o:=λb o hb e=>(Heap.get?_update_other s8.heap _ (Ne.symm hb)).trans e;have I8':Inv Y (cV fp s5.heap) σ6 H8 s8:=I8.jw λp hp=>I8.pin p (List.mem_append_right _ (List.mem_append_right _ hp))
    have nDp:∀p∈Y.pn++cV fp s5.heap,p.1≠D:=λp hp=>by
     have hp:p∈cV fp s5.heap:=by simpa [Y,Cx.comp] using hp
     exact Nat.ne_of_lt (fob _ (mP hp).1)
    have nDc:∀y c,Y.env.cells.lookup y=some c->c≠D:=λy c e z=>by
     obtain⟨vv,o,ho,hd⟩:=I8.cell y c e;rw[z,pD.1] at ho;cases ho;cases hd
    have I9:=I8'.turned (t':=s8.toks) (it:=D) oth pD.2.1 hDC (.inr (by show s2.heap.get? D=none;exact Heap.get?_none_of_le (by rw[hDD];exact Nat.le_refl _))) nDc nDp
    have I10:Inv Y ([(D,ij (its++[uy]) k')]++cV fp s5.heap) σ6 H8 { s8 with heap:=s8.heap.update D (Obj.mapSeq (·.push uy)),toks:=s8.toks}:=I9.jw λp hp=>by
     rcases List.mem_append.mp hp with z | z
     .have z:p=(D,ij (its++[uy]) k'):=List.mem_singleton.mp z;subst z;exact⟨q,pD.2.1,hDC,pD.2.2.2.1,λvv z=>by cases z⟩
     .exact I9.pin p (List.mem_append_right _ z)
    obtain⟨J1,J2,J3⟩:=back I10;exact⟨m',hm,i + 1,σ6,H8,ys++[y],its++[uy],k',J1,J2,J3,vs3.append (.cons r8 .nil),w8⟩
 exact codeAny_compStart_list (loop _ rfl) (T.self _ 0 _ _ _ st₁ (loop _ rfl))
theorem wQ{y:Str}{py spos:Pos}{j:Nat}(hN:X.N.Nodup)(hj:X.N[j]? =some y)(hy:Loc X.env.scope y)(S:kD X scope xs cl)(hc:X.calm=X.calm)(hg:∀C fp s2 H2,PG (X.comp xs scope cl C fp s2 H2) tg g)(hi:PI X tg iter wi)
  (hf:∀C fp s2 H2,PF (X.comp xs scope cl C fp s2 H2) ifs tf) (he:∀C fp s2 H2,PE (X.comp xs scope cl C fp s2 H2) elt te)
  (hsw:swapsWith (.ListComp elt [⟨tg,iter,ifs,0⟩] scope pos) (some (.Name y py)) spos.line X.env=pure true:=by rfl)
  (hfn:X.fn y=true\/X.env.scope.names.lookup y=some .local:=by first | exact .inl rfl | exact .inr rfl | assumption)
  (hs:∀v,foldedSetIterable iter X.env v=pure v:=by intro _;rfl):PS X (.Assign [.Name y py] (.ListComp elt [⟨tg,iter,ifs,0⟩] scope pos) spos) (Bp (FQ wi xs.length g tf te) (ib j)):=by
 intro pins s σ H D I h;rw[exec_Assign_Name_used _ _ _ _ hsw];refine wpAny_bind (wpAny_standAt (wpAny_bind ?_));show wpAny _ X.A (do let _<-comprehension (.ListComp elt [⟨tg,iter,ifs,0⟩] scope pos) scope X.env _ (newList []) false (eval iter X.env) (some (assign (.Name y py) X.env))) _ _ s
 refine wpAny_bind (wpAny_mono (wpAny_comprehension_free (use:=some (assign (.Name y py) X.env)) (Q:=λ_ s'=>SP X pins D .next s') rfl hs S.C6 S.kind S.names
  (thn (hi pins s σ H _ I h) λv s1 h1=>thn h1 λitv s2 h2=> ?_)) (λ_ s' hq=>wpAny_pure (wpAny_pure hq)) λ_ _ e=>e)
 obtain⟨it,fp,tn,J,H2,e,I2,T,st2,f2,h2⟩:=h2;subst e;refine AQ (Q:=λv H'=>ib j v σ H' D.nx) (RR:=λacc C=>compPost (model X.prog X.w) X.A X.xe (some (assign (.Name y py) X.env)) (λ_ s'=>SP X pins D .next s') acc C) S hc hg hf he I2 T st2 f2 h2 ?_;intro D' C m s' H' I' hm fC q;show wpAny _ X.A (assign (.Name y py) X.env (.ref D')) _ _ _;refine wpAny_assign_Name (ml I' hN hj hy (show RelV (.ref D') (.ref D') from rfl) (λs3 I3 zz=> ?_) hfn);obtain⟨a,sb,ha⟩:=zz
 have nCa:C≠a:=by
  rcases ha with z | z
  .rw [z];exact fC.2.1
  .exact λw=>fC.2.2.2.2.1 y a z w.symm
 refine⟨m,hm.sameBut sb nCa,λh' sb'=> ?_⟩;exact⟨_,H',I3.turned (t':=s3.toks) (λb o hb e=>(sb'.2 b hb).trans e) fC.1 fC.2.1 fC.2.2.2.1 fC.2.2.2.2.1 fC.2.2.2.2.2,q⟩
theorem EO{x y:Str}{px py pt:Pos}{k:Nat}(S:kD X scope [x,y] cl)(C:Addr)(fp:List Addr)(s2:Shared)(H2:Hp):PG (X.comp [x,y] scope cl C fp s2 H2) (.Tuple [.Name x px,.Name y py] k pt) (Gs X.K 2 (CI (ib 0) (CI (ib 1) GG))):=by
 have nd:(X.comp [x,y] scope cl C fp s2 H2).N.Nodup:=S.nd;exact xx rfl (dH (b6 (i:=0) nd rfl (.inl (lookup_relabel_local S.own.1)) (.inr (lookup_relabel_local S.own.1))) (dH (b6 (i:=1) nd rfl (.inl (lookup_relabel_local S.own.2.1)) (.inr (lookup_relabel_local S.own.2.1))) uY))
end
section
variable{X:Cx}{pins:List (Addr × Obj)}{σ:St}{H:Hp}{s:Shared}{h':Heap}
theorem Inv.y9{t':Nat}{ch:List Addr}(I:Inv X pins σ H s)(k:∀c o,c∉ch->s.heap.get? c=some o->h'.get? c=some o)(f:∀c∈ch,bR X pins H c):Inv X pins σ H { s with heap:=h',toks:=t'}:=by
 have nit:∀c u,H c=some u->c∉ch:=λc u e z=>by rw[(f c z).1] at e;cases e
 refine I.step (g':=s.gens) (d':=s.drawn) (ch:=ch) (λc hc=> ?_) (λc o _ _ hc e _=>k c o hc e) (λc o _ _ hc e _=>⟨o.slots,k c o hc e⟩) (λ_ _ _ _ n=>n)
  (λc o hc e=>⟨o,k c o hc e⟩) (λ_ _ e=>e) (λ_ _ _ e=>e) (λc ps e=>⟨#[],by rw[e];simp⟩) (λm hm=> ?_) (λc u e=> ?_) I.bare
 .obtain ⟨_,a1,_,a3,a4,a5⟩:=f c hc;exact⟨a3,a1,a4,a5⟩
 .obtain ⟨o,es,ep,ho,r⟩:=hm;exact⟨o,es,ep,k _ o (λz=>(f _ z).2.1 rfl) ho,r⟩
 .refine (I.hok c u e).u9 (λd v hc q=> ?_) (λ_ q=>q) λ_ _ q=>q;rcases hc with z | z
  .rw [z];rw[z] at q;exact k c v (nit c u e) q
  .exact k d v (nit d _ z) q
end
def Itz(K:PySem.W.Frag)(a b:Addr):It:=
 ⟨λi H=>∃xs ys x y,SqL K H a xs/\SqL K H b ys/\xs[i]? =some x/\ys[i]? =some y,
  λi H v H'=>∃q x y,H q=none/\v=.ref q/\(∀xs,SqL K H a xs->xs[i]? =some x)/\(∀ys,SqL K H b ys->ys[i]? =some y)/\H'=upd H q (.tup [x,y]),λi H=>∃xs ys,SqL K H a xs/\SqL K H b ys/\xs.length<=i⟩
theorem BI{P:Program}{w:World}{K:PySem.W.Frag}{elts:List Expr}{c}{tp:Pos}(a b z TI TO i1 i2:Addr)(D:ZipApart z TI TO i1 i2 a b):
  Turn P w K (.Tuple elts c tp) (Itz K a b) [z,TI,TO,i1,i2] z (λi h=>IsZip h z TI TO .none/\IsPair h TI (.ref i1) (.ref i2)/\(∃x y,IsPair h TO x y)/\h.IsListIter i1 a i/\h.IsListIter i2 b i) where
 mem:=by simp
 obj:=λi h st d hd=>by
  obtain⟨h1,h2,⟨x,y,h3⟩,⟨o4,h4,_,e4⟩,⟨o5,h5,_,e5⟩⟩:=st;simp at hd;rcases hd with rfl | rfl | rfl | rfl | rfl
  .exact ⟨_,h1,λv q=>by cases q⟩
  .exact ⟨_,h2,λv q=>by cases q⟩
  .exact ⟨_,h3,λv q=>by cases q⟩
  .exact ⟨_,h4,λv q=>by rw[e4] at q;cases q⟩
  .exact ⟨_,h5,λv q=>by rw[e5] at q;cases q⟩
 keep:=λi h h' st kk=>by
  obtain⟨h1,h2,⟨x,y,h3⟩,h4,h5⟩:=st;exact⟨kk z (by simp) _ h1,kk TI (by simp) _ h2,⟨x,y,kk TO (by simp) _ h3⟩,h4.at λo q=>kk i1 (by simp) o q,h5.at λo q=>kk i2 (by simp) o q⟩
 item:=by
  intro X hP hw hK hc i pins s σ H E I hf st hg;subst hP hw hK;obtain⟨xs,ys,x,y,hq,hq',hx,hy⟩:=hg;obtain⟨its,rv,p,hz⟩:=I.list hq;obtain⟨its',rv',p',hz'⟩:=I.list hq';obtain⟨u,hu,ru⟩:=rv.get hx;obtain⟨u',hu',ru'⟩:=rv'.get hy;obtain⟨h1,h2,⟨x0,y0,h3⟩,h4,h5⟩:=st;refine wpAny_pyNext_zip_item D h1 h2 h3 h4 h5 p.isList p'.isList (x:=u) (y:=u') (by simpa using hu) (by simpa using hu') λg a1 a2 a3 a4 a5 a6 hk=> ?_;refine⟨_,rfl,wpAny_letOwnedTupleGo_zip a1 λg2 z2 s2=> ?_⟩;have f0:H s.heap.objs.size=none:=I.fresh
  have lt:∀d,d∈[z,TI,TO,i1,i2]->d≠s.heap.objs.size:=λd hd q=>by
   simp at hd;obtain⟨o4,e4,_⟩:=h4;obtain⟨o5,e5,_⟩:=h5;rcases hd with rfl | rfl | rfl | rfl | rfl
   .exact Nat.ne_of_lt (Heap.lt_size h1) q
   .exact Nat.ne_of_lt (Heap.lt_size h2) q
   .exact Nat.ne_of_lt (Heap.lt_size h3) q
   .exact Nat.ne_of_lt (Heap.lt_size e4) q
   .exact Nat.ne_of_lt (Heap.lt_size e5) q
  have I1:Inv X pins σ (upd H s.heap.objs.size (.tup [x,y])) { s with heap:=s.heap.push { cls:= .type "tuple",data:= .seq #[u,u']}}:=
   I.laid (t':=s.toks) (λb o q=>Heap.get?_push_of_some _ q) (Nat.le_refl _) ⟨Nat.le_of_lt (aE (show 2<=1000 by decide)),[_,_],.cons ru (.cons ru' .nil),⟨_,Heap.get?_push_size _ rfl,rfl,_,rfl⟩⟩
  have fok:∀d∈[z,TI,TO,i1,i2],bR X pins (upd H s.heap.objs.size (.tup [x,y])) d:=λd hd=>⟨by rw[ak (lt d hd)];exact(hf d hd).1,(hf d hd).2⟩
  have I2:=Inv.y9 (h':=g2) (t':=s.toks) (ch:=[z,TI,TO,i1,i2]) I1 (λd o hd q=>by
   simp only [List.mem_cons,List.not_mem_nil,or_false,not_or] at hd;by_cases hb:d=s.heap.objs.size
   .subst hb;have q':=Heap.get?_push_size s.heap (o:={ cls:= .type "tuple",data:= .seq #[u,u']}) rfl;rw[q'] at q;cases q;exact s2.extBut _ _ hd.1 a5
   .exact s2.extBut _ _ hd.1 (hk d o hd.1 hd.2.2.1 hd.2.2.2.1 hd.2.2.2.2 ((Heap.get?_push_ne _ _ _ hb).symm.trans q))) fok
  refine⟨.ref s.heap.objs.size,_,I2,rfl,⟨_,x,y,f0,rfl,λzs hzs=>by rw[I.lL hzs hq];exact hx,λzs hzs=>by rw[I.lL hzs hq'];exact hy,rfl⟩,⟨z2,s2.extBut _ _ D.TIz (hk _ _ D.TIz D.TITO D.TIi1 D.TIi2 h2),⟨u,u',s2.extBut _ _ D.TOz a2⟩,a3.extBut s2.extBut D.i1z,a4.extBut s2.extBut D.i2z⟩,λd hd=>(fok d hd).1⟩
 done:=by
  intro X hP hw hK hc i pins s σ H E I hf st hg;subst hP hw hK;obtain⟨xs,ys,hq,hq',hx⟩:=hg;obtain⟨its,rv,p,hz⟩:=I.list hq;obtain⟨h1,h2,⟨x0,y0,h3⟩,h4,h5⟩:=st;have hl:=rv.length
  exact Df I.cm D.i1z D.l1z h1 h2 h4 p.isList (by simp;lia) λg k=>⟨rfl,I.y9 (t':=s.toks) (ch:=[z,TI,TO,i1,i2]) (λd o hd q=>by
   simp only [List.mem_cons,List.not_mem_nil,or_false,not_or] at hd;exact k d o hd.1 hd.2.2.2.1 q) hf⟩
 self:=λ_ _ _ _ _ st h=>wpAny_pyIter_zip st.1 h
theorem boot_zip:bootBuiltins "zip"=some (.type "zip"):=by decide +kernel
section
variable{X:Cx}{elts:List Expr}{c}{tp:Pos}
def Hb(K:PySem.W.Frag)(ta:TA):TI:=λσ H R=>ta σ H λvs H1=>∃a b,vs=[.ref a,.ref b]/\(∃xs,SqL K H1 a xs)/\(∃ys,SqL K H1 b ys)/\R (Itz K a b) H1
theorem EG{l l':Expr}{ta:TA}{p pos:Pos}(hg:Gl X "zip")(hm:X.mg "zip"=none)(ha:PA X [l,l'] ta)(hs:starEach [l,l'] X.env=[(false,eval l X.env),(false,eval l' X.env)]:=by rfl)(hs2:starEach [l'] X.env=[(false,eval l' X.env)]:=by rfl):
  PI X (.Tuple elts c tp) (.Call (.Name "zip" p) [l,l'] [] pos) (Hb X.K ta):=by
 intro pins s σ H R I h;refine Call_ (iw I hg hm boot_zip (PyProof.Rows.callWith_type1 (ha.th I h λus s1 vs H1 I1 r1 q1=> ?_) (by rw[hs,hs2]) (by rw[hs2];rfl)));obtain⟨a,b,e,⟨xs,hq⟩,⟨ys,hq'⟩,q⟩:=q1;subst e;cases r1 with
 | cons r rr=>
  cases rr with
  | cons r' rr=>
  cases rr;cases r;cases r';obtain⟨its,rv,pl,hz⟩:=I1.list hq;obtain⟨its',rv',pl',hz'⟩:=I1.list hq';have la:a < s1.heap.objs.size:=by obtain⟨_,e,_⟩:=pl.isList;exact Heap.lt_size e
  have lb:b < s1.heap.objs.size:=by obtain⟨_,e,_⟩:=pl'.isList;exact Heap.lt_size e
  refine call_zip_2 pl.isList pl'.isList λg z1 z2 z3 z4 z5 z6 kk=>wpAny_pyIter_zip z1 ?_;have fo:∀d,s1.heap.objs.size<=d->bR X pins H1 d:=λd hd=>I1.vm hd (I1.hok.fresh hd)
  refine⟨s1.heap.objs.size + 4,[s1.heap.objs.size + 4,s1.heap.objs.size + 2,s1.heap.objs.size + 3,s1.heap.objs.size,s1.heap.objs.size + 1],_,_,H1,rfl,I1.kept (t':=s1.toks) kk,
   BI a b _ _ _ _ _ ⟨by lia,by lia,by lia,by lia,by lia,by lia,by lia,by lia,by lia,by lia,by lia,by lia,by lia,by lia,by lia,by lia,by lia,by lia⟩,⟨z1,z2,⟨_,_,z3⟩,z4,z5⟩,λd hd=> ?_,q⟩
  simp at hd;rcases hd with rfl | rfl | rfl | rfl | rfl
  .exact fo _ (Nat.le_add_right ..)
  .exact fo _ (Nat.le_add_right ..)
  .exact fo _ (Nat.le_add_right ..)
  .exact fo _ (Nat.le_refl _)
  .exact fo _ (Nat.le_add_right ..)
end
theorem EK{X:Cx}{e:Expr}{pos:Pos}{te:TE}(h:PE X e te):PE X (.FormattedValue e 114 none pos) (λσ H Q=>te σ H λx H1=>∃y,x=.str y/\(PySem.reprText y).length<=sizeLine/\Q (.str (PySem.reprText y)) H1):=by
 intro pins s σ H Q I q;refine wpAny_FormattedValue_repr (h.th I q λv s1 x H1 I1 r1 q1=> ?_);obtain⟨y,rfl,hy,q1⟩:=q1;obtain⟨t,rfl⟩:=(show ∃t,v=Value.str y t from r1);refine wpAny_pyReprObj_str ?_ hy;exact formatField_str (λt' tk=>⟨.str _,H1,I1.tok _,⟨t',rfl⟩,q1⟩) hy
theorem aB.low{P:Program}{w:World}{K:PySem.W.Frag}{mg:Str->Option Value}{base:Heap}{CX:CXT}{k:Nat}{f:Addr}{fd:FuncData}{ps:List Str}{sp:Sp}(F:aB P w K mg base CX true k f fd ps sp):aB P w K mg base CX false k f fd ps sp:=
 ⟨F.len,λA outer s H args us vs Q E hr=>F.run A outer s H args us vs Q E (hr.mono (Nat.le_refl _))⟩
theorem aB.or{P:Program}{w:World}{K:PySem.W.Frag}{mg:Str->Option Value}{base:Heap}{CX:CXT}{cm:Bool}{k:Nat}{f:Addr}{fd:FuncData}{ps:List Str}{sp sp':Sp}(F:aB P w K mg base CX cm k f fd ps sp)(F':aB P w K mg base CX cm k f fd ps sp'):
  aB P w K mg base CX cm k f fd ps (λvs H Q E=>sp vs H Q E\/sp' vs H Q E):=
 ⟨λvs H Q E h=>h.elim (F.len _ _ _ _) (F'.len _ _ _ _),λA outer s H args us vs Q E hr he hb hv h=>h.elim (F.run A outer s H args us vs Q E hr he hb hv) (F'.run A outer s H args us vs Q E hr he hb hv)⟩
theorem vC{J:It}{n m:Nat}{g:TG}{tf:TT}{te:TE}{H1:Hp}{Q:VK}(B:Nat->List V->Hp->Prop)(h0:B 0 [] H1)(go:∀i ys H',i < m->B i ys H'->J.go i H')(stop:∀ys H',B m ys H'->J.stop m H')
  (step:∀i ys H' v H2,i < m->B i ys H'->J.yld i H' v H2->∀σ0:St,σ0.length=n->g v σ0 H2 λσ6 H6=>tf σ6 H6 λok H3=>if ok=true then te σ6 H3 λy H4=>ys.length < PySem.sizeLine/\B (i + 1) (ys++[y]) H4 else B (i + 1) ys H3)
  (fin:∀ys H',B m ys H'->ys.length<=PySem.sizeLine/\∀p,H' p=none->Q (.ref p) (upd H' p (.lst ys))):xv J n g tf te H1 Q:=by
 refine⟨λi k ys H'=>i<=m/\k=m - i/\B i ys H',⟨m,Nat.zero_le _,rfl,h0⟩,?_⟩;rintro i k ys H' ⟨hi,rfl,h⟩;by_cases e:i=m
 .subst e;exact .inl ⟨stop ys H' h,fin ys H' h⟩
 .exact .inr ⟨go i ys H' (by lia) h,λzs H5=>B (i + 1) zs H5,λzs H5 h5=>⟨m - (i + 1),by lia,by lia,rfl,h5⟩,λv H2 hy σ0 hl=>step i ys H' v H2 (by lia) h hy σ0 hl⟩
end L2
namespace Tr
open PySem Shp Nm PySem.NumText
def ou(d:Nat)(s:Sh)(c:Int):List Nat:=gf d (c % 3).toNat (c / 3 % 3).toNat s
def bj(d:Nat)(s:Sh)(c:Int):List (List Nat):=if c % 11=4 then [[32,32,32,35,32]++cds s.name,ou d s c] else if c % 11=7 then [ou d s c,List.replicate (c % 5).toNat 32] else [ou d s c]
theorem Ay(d:Nat)(s:Sh)(c:Int):bj d s c≠[]:=by
 unfold bj
 split
 .exact List.cons_ne_nil _ _
 .split <;> exact List.cons_ne_nil _ _
theorem CU(x:List Nat):cB ([32,32,32,35,32]++x)=true:=by
 unfold cB;rw[show [32,32,32,35,32]++x=List.replicate 3 32++35::(32::x) from rfl,Bi _ _ (by decide)]
 rfl
theorem yT:∀n:Nat,(List.replicate n 32).dropWhile (· == 32)=[]
 | 0=>rfl
 | n + 1=>by
  rw[List.replicate_succ,List.dropWhile_cons_of_pos rfl];exact yT n
theorem Ds(n:Nat):cB (List.replicate n 32)=true:=by
 unfold cB;rw[yT]
theorem AE{s:Sh}(h:OkR s)(d:Nat)(c:Int):eG (bj d s c) [⟨d,s⟩]:=by
 unfold bj ou
 split
 .exact .skip (CU _) (.row (gP _ _ _ _) (lG _ _ _ h) .nil)
 .split
  .exact .row (gP _ _ _ _) (lG _ _ _ h) (.skip (Ds _) .nil)
  .exact .row (gP _ _ _ _) (lG _ _ _ h) .nil
theorem AV{s:Sh}(h:OkR s)(d:Nat)(c:Int):∀l∈bj d s c,10∉l:=by
 have h1:10∉ou d s c:=Ck _ _ _ h
 have h2:10∉[32,32,32,35,32]++cds s.name:=λz=>by
  rcases List.mem_append.mp z with z | z
  .exact absurd z (by decide)
  .have:=(xD h.nm).2 10 z
   lia
 have h3:∀n,10∉List.replicate n 32:=λn z=>by have:=(List.mem_replicate.mp z).2;lia
 intro l hl;unfold bj at hl
 split at hl
 .rcases List.mem_cons.mp hl with rfl | hl
  .exact h2
  .rw [List.mem_singleton.mp hl];exact h1
 .split at hl
  .rcases List.mem_cons.mp hl with rfl | hl
   .exact h1
   .rw [List.mem_singleton.mp hl];exact h3 _
  .rw [List.mem_singleton.mp hl];exact h1
theorem sF(sep:List Nat):∀(a b:List (List Nat)),a≠[]->b≠[]->aD sep (a++b)=aD sep a++sep++aD sep b
 | [x],y::r,_,_=>rfl
 | x::z::t,b,_,hb=>by
  have ih:=sF sep (z::t) b (List.cons_ne_nil _ _) hb;show x++sep++aD sep (z::t++b)=_;rw[ih];show _=x++sep++aD sep (z::t)++sep++aD sep b;simp only [List.append_assoc]
theorem qE(sep:List Nat):∀lss:List (List (List Nat)),(∀ls∈lss,ls≠[])->aD sep (lss.map (aD sep))=aD sep lss.flatten
 | [],_=>rfl
 | [a],_=>by
  show aD sep a=aD sep ([a].flatten);rw[List.flatten_cons,List.flatten_nil,List.append_nil]
 | a::b::r,h=>by
  have ih:=qE sep (b::r) λls hl=>h ls (List.mem_cons_of_mem _ hl)
  have nb:(b::r).flatten≠[]:=by
   rw[List.flatten_cons];exact λz=>h b (List.mem_cons_of_mem _ List.mem_cons_self) (List.append_eq_nil_iff.mp z).1
  rw[List.flatten_cons,sF sep a _ (h a List.mem_cons_self) nb,<-ih]
  rfl
def lJ(cs:Nat->Int)(rows:List Row):List (List (List Nat)):=(List.range rows.length).map λi=>bj (rows.getD i default).dep (rows.getD i default).sh (cs i)
theorem pU:∀(lss:List (List (List Nat))) (rows:List Row),lss.length=rows.length->(∀i,i < rows.length->eG (lss.getD i []) [rows.getD i default])->eG lss.flatten rows
 | [],[],_,_=> .nil
 | a::l,r::rs,e,h=>by
  have ih:=pU l rs (Nat.succ.inj e) λi hi=>h (i + 1) (Nat.succ_lt_succ hi);exact(h 0 (Nat.succ_pos _)).app ih
theorem ni{rows:List Row}{i:Nat}(hi:i < rows.length):rows.getD i default∈rows:=by
 rw[List.getD_eq_getElem?_getD,List.getElem?_eq_getElem hi];exact List.getElem_mem hi
theorem GV(cs:Nat->Int){rows:List Row}(h:OkT rows):parse (aD [10] ((lJ cs rows).map (aD [10])))=.ok rows:=by
 have hl:(lJ cs rows).length=rows.length:=by
  unfold lJ;rw[List.length_map,List.length_range]
 have hn:∀ls∈lJ cs rows,ls≠[]:=λls hm=>by
  obtain⟨i,_,rfl⟩:=List.mem_map.mp hm;exact Ay _ _ _
 have L:eG (lJ cs rows).flatten rows:=pU _ _ hl λi hi=>by
  have:(lJ cs rows).getD i []=bj (rows.getD i default).dep (rows.getD i default).sh (cs i):=by
   unfold lJ;rw[List.getD_eq_getElem?_getD,List.getElem?_map,List.getElem?_range hi]
   rfl
  rw[this];exact AE (h.sh _ (ni hi)) _ _
 unfold parse;rw[qE _ _ hn,qB]
 .exact yA L h
 .intro z;rw[z] at L;cases L;exact h.ne rfl
 .intro l hm;obtain⟨ls,h1,h2⟩:=List.mem_flatten.mp hm;obtain⟨i,hi,rfl⟩:=List.mem_map.mp h1;exact AV (h.sh _ (ni (List.mem_range.mp hi))) _ _ l h2
theorem Bs{s:Sh}(h:OkR s)(d:Nat)(c:Int):(ou d s c).length<=2 * d + 85:=by
 have hb:=dG h;have e1:0<=c % 3/\c % 3 < 3:=⟨Int.emod_nonneg _ (by decide),Int.emod_lt_of_pos _ (by decide)⟩;have e2:0<=c / 3 % 3/\c / 3 % 3 < 3:=⟨Int.emod_nonneg _ (by decide),Int.emod_lt_of_pos _ (by decide)⟩;have hj:=eS (List.replicate ((c % 3).toNat + 1) 32) ((words s++[s.name]).map cds);rw[List.map_map,List.length_map,List.length_replicate,show(λx:List Nat=>x.length)∘cds=λx:Str=>x.length from funext aA] at hj;have hm:(words s++[s.name]).length * ((c % 3).toNat + 1)<=7 * 3:=Nat.mul_le_mul hb.2 (by lia);unfold ou gf;rw[List.length_append,List.length_append,List.length_replicate,List.length_replicate]
 lia
theorem xR{s:Sh}(h:OkR s){d:Nat}(hd:d<=8)(c:Int):(aD [10] (bj d s c)).length<=150:=by
 have h1:=Bs h d c;have h2:=h.nm.2.1;rw[<- aA] at h2;have e3:0<=c % 5/\c % 5 < 5:=⟨Int.emod_nonneg _ (by decide),Int.emod_lt_of_pos _ (by decide)⟩;unfold bj
 split
 .show ([32,32,32,35,32]++cds s.name++[10]++ou d s c).length<=_;rw[List.length_append,List.length_append,List.length_append];show 5 + (cds s.name).length + 1 + _<=_
  lia
 .split
  .show (ou d s c++[10]++List.replicate _ 32).length<=_;rw[List.length_append,List.length_append,List.length_replicate];show _ + 1 + _<=_
   lia
  .show (ou d s c).length<=_
   lia
def odd(l:List Nat):Nat:=(l.filter λc=>c != 113).length
theorem oZ(a b:List Nat):odd (a++b)=odd a + odd b:=by
 unfold odd;rw[List.filter_append,List.length_append]
theorem yG(n:Nat):odd (List.replicate n 113)=0:=by
 unfold odd;rw[List.length_eq_zero_iff,List.filter_eq_nil_iff];intro x hx;rw[(List.mem_replicate.mp hx).2]
 decide
theorem Cj(l:List Nat):odd l<=l.length:=List.length_filter_le _ _
theorem Ce(k:Nat)(mark:Int):odd (fh k mark)<=2:=by
 unfold fh
 split
 .exact Nat.le_trans (Cj _) (show 1<=2 by decide)
 .rw [oZ,oZ,yG,yG];have:=Cj [sgn (k % 36),sgn ((((k / 36:Nat):Int) + mark) % 36).toNat];have e:[sgn (k % 36),sgn ((((k / 36:Nat):Int) + mark) % 36).toNat].length=2:=rfl
  lia
theorem DV(x:List Nat)(k:Nat)(mark:Int):ofC (cds "none"++x++cds "0")≠nameOf k mark:=λz=>by
 have z:cds "none"++x++cds "0"=fh k mark:=congrArg cds z;have h:=Ce k mark;rw[<- z,oZ,oZ,show odd (cds "none")=4 by decide +kernel] at h
 lia
end Tr
namespace K05
local macro_rules | `(tactic| lk) => `(tactic| repeat (first | refine L2.exP rfl ?_ | refine ⟨rfl, ?_⟩ | refine ⟨_, _, rfl, rfl, ?_⟩ | refine ⟨_, _, rfl, ?_⟩ | (refine ⟨?_, ?_⟩; focus ((with_reducible show (0 : Int) < _); decide)) | (refine ⟨L2.Ge ?_, ?_⟩; focus (exact rfl)) | (refine ⟨L2.cpowB ?_, ?_⟩; focus (exact rfl))))
local macro_rules | `(tactic| kt_ors) => `(tactic| exact ⟨rfl, rfl, rfl, by decide +kernel, rfl, by decide +kernel, by decide +kernel⟩)
local macro_rules | `(tactic| fin2) => `(tactic| try dsimp only [L2.ip, L2.Cx.nox])
local macro_rules | `(tactic| rcases $s:ident, $t:term with ⟨$ps,*⟩) => do let i := Lean.mkIdent; `(tactic| (refine $(i `F.pF) $s fun $(i `vs) $(i `H) $(i `Q) $(i `E) y => ?_; rcases y with ⟨$ps,*⟩; refine ⟨rfl, fun cdv Ar outer $(i `s) $(i `hr) => ⟨_, $t, ?_⟩⟩; fin2))
local macro_rules | `(tactic| kd_p) => `(tactic| exact ⟨rfl, rfl, by decide +kernel, by decide +kernel, rfl, by decide +kernel, (by repeat (first | exact True.intro | refine ⟨rfl, ?_⟩)), by repeat (first | exact True.intro | refine ⟨(by first | exact fun _ => ⟨_, rfl⟩ | (intro z; cases z)), ?_⟩), (by repeat (first | exact True.intro | refine ⟨⟨rfl, .inl rfl, rfl, rfl⟩, ?_⟩))⟩)
local macro_rules | `(tactic| k_ne) => `(tactic| first | exact Or.inl rfl | exact Or.inr rfl)
local macro_rules | `({$xs:term,*}) => do return (<- xs.getElems.foldrM (fun x (r : Lean.Term) => `(L2.G0 $x $r)) (<- `(L2.g9))).raw
open PySem L2 Shp Nm Tr PySem.NumText
seal L2.PE L2.PA L2.PT L2.PW L2.PS L2.PSs L2.PG L2.PGs L2.PI L2.PF L2.PJ L2.PH L2.PO L2.PC L2.FA L2.PIp
def top(i:Nat):Stmt:=PySem.Challenge.pw_minders_k05_trees_read_and_written.main.body.getD i (.Pass ⟨0,0,0,0⟩)
abbrev nj:Stmt:=top 12
abbrev eX:Stmt:=top 13
abbrev iI:Stmt:=top 14
abbrev mZ:Stmt:=top 18
abbrev dw:Stmt:=df (top 20) 0
abbrev dO:Stmt:=df (top 21) 0
abbrev iz:Stmt:=df (top 21) 1
abbrev g7:Stmt:=df (top 21) 2
abbrev cY:Stmt:=df (top 21) 3
abbrev c5:Stmt:=df (top 22) 0
abbrev cz:Stmt:=df (top 23) 0
abbrev cw:Stmt:=df (top 24) 0
abbrev cW:Stmt:=df (top 25) 0
abbrev gq:Stmt:=df (top 25) 1
abbrev fv:Stmt:=df (top 25) 2
abbrev gU:Stmt:=df (top 25) 3
abbrev dW:Stmt:=df (top 26) 0
abbrev dq:Stmt:=df (top 27) 0
abbrev nI:Stmt:=top 31
abbrev jr:Stmt:=top 32
abbrev dU:Stmt:=top 33
abbrev kH:Stmt:=top 34
abbrev d0:Stmt:=df (top 38) 0
abbrev gQ:Stmt:=df (top 38) 1
abbrev fU:Stmt:=df (top 38) 2
abbrev ja:Stmt:=df (top 38) 3
abbrev cx:Stmt:=df (top 38) 4
abbrev f9:Stmt:=top 39
abbrev kc:Stmt:=top 40
abbrev fu:Stmt:=top 41
abbrev fY:Stmt:=top 42
abbrev eZ:Stmt:=top 43
abbrev xC:Stmt:=top 44
abbrev fX:Stmt:=top 45
abbrev mw:Stmt:=top 46
abbrev nk:Stmt:=top 48
abbrev qL:Stmt:=top 49
abbrev eT:Stmt:=top 50
abbrev cS:Stmt:=top 51
abbrev kq:Stmt:=top 52
abbrev ux:Stmt:=top 53
abbrev s_row:Stmt:=top 54
abbrev pJ:Stmt:=top 55
structure Txt(mg:Str->Option Value):Prop where
 b_ValueError:mg "ValueError"=none
 Gz:mg "all"=none
 Fw:mg "bool"=none
 vL:mg "enumerate"=none
 A5:mg "int"=none
 cg:mg "isinstance"=none
 dh:mg "len"=none
 uU:mg "list"=none
 GS:mg "min"=none
 lK:mg "range"=none
 eu:mg "str"=none
 Gm:mg "zip"=none
abbrev AY:List Str:=["_law_script","_law_k"]
abbrev sR:List Str:=["_law_script","_law_k"]
theorem yb:aw AY sR (ah nk):=by kt_ors
abbrev B5:List Str:=["_law_k","_law_mark","_law_signs","_law_two"]
abbrev B7:List Str:=["_law_k","_law_mark"]
theorem tH:aw B5 B7 (ah qL):=by kt_ors
abbrev qK:List Str:=["_law_cell","_law_other","_law_keep","_law_way","_law_most"]
abbrev iQ:List Str:=["_law_cell","_law_other"]
theorem cE:aw qK iQ (ah eT):=by kt_ors
abbrev k8:List Str:=["_law_cell","_law_other","_law_keep","_law_work","_law_numbers","_law_words"]
abbrev ma:List Str:=["_law_cell","_law_other"]
theorem bQ:aw k8 ma (ah cS):=by kt_ors
abbrev xf:List Str:=["_law_script","_law_first","_law_count","_law_mark","_law_depths","_law_elders","_law_words","_law_path","_law_k","_law_cell","_law_other","_law_names"]
abbrev A3:List Str:=["_law_script","_law_first","_law_count","_law_mark"]
theorem cO:aw xf A3 (ah kq):=by kt_ors
abbrev Dm:List Str:=["_law_found","_law_due","_law_k"]
abbrev yQ:List Str:=["_law_found","_law_due"]
theorem wH:aw Dm yQ (ah ux):=by kt_ors
abbrev GA:List Str:=["_law_depth","_law_words","_law_name_here","_law_cell","_law_gap","_law_row_here"]
abbrev Eu:List Str:=["_law_depth","_law_words","_law_name_here","_law_cell"]
theorem qd:aw GA Eu (ah s_row):=by kt_ors
abbrev Bz:List Str:=["_law_script","_law_count","_law_mark","_law_depths","_law_elders","_law_words","_law_names","_law_rows","_law_plain","_law_k","_law_tree_here","_law_at","_law_place","_law_again","_law_found"]
abbrev EC:List Str:=["_law_script"]
theorem cC:aw Bz EC (ah pJ):=by kt_ors
theorem aj{H:Hp}{q:Addr}{o:HO}(h:H q=none):aF H (upd H q o):=λb u e=>by rw[ak (au e h)];exact e
theorem jv{a b:Int}(h:decide (V.int a=V.int b)=true):a=b:=V.int.inj (of_decide_eq_true h)
theorem qQ{a b:Int}(h:¬decide (V.int a=V.int b)=true):a≠b:=λz=>h (decide_eq_true (congrArg V.int z))
theorem aO{n:Nat}(h:n<=1000):n<=sizeLine:=Nat.le_of_lt (aE h)
theorem bo{i:Int}(h0:0<=i)(h1:i<=1000001):i.natAbs.log2 < 1920:=by
 have h:i.natAbs < 2 ^ 20:=by lia
 by_cases z:i.natAbs=0
 .rw [z];decide
 .have:=(Nat.log2_lt z).mpr h
  lia
section
variable{P:Program}{w:World}{K:PySem.W.Frag}{mg:Str->Option Value}{base:Heap}{f:Addr}{fd:FuncData}{dV:Value}
def xt(K:PySem.W.Frag):Sp:=λvs H Q _=>∃(a:Addr) (k:Int) (ns:List Int),vs=[.ref a,.int k]/\SqL K H a (ns.map V.int)/\0<=k/\Q (.int (ns.getD k.toNat 0)) H
theorem C3{cm:Bool}(F:aL K "_law_cell_at" "_law_cell_at" nk dV f fd)(T:Txt mg):aB P w K mg base (CXE P w) cm 1 f fd sR (xt K):=by
 rcases yb,(aa (aW (zct jM (pv 1) (aC aG (by rfl) T.dh bS {pv 0})) (af (av (zix az (pv 0) (pv 1)))) ay)
   (af (av ag))) with⟨a,k,ns,rfl,hS,h0,q⟩
 obtain⟨j,rfl⟩:=Int.eq_ofNat_of_zero_le h0;lk;refine ex2 a _ (an3 rfl (.inl hS) ?_);lk;refine bF (λe=> ?_) (λe=> ?_)
 .have e:(j:Int) < ((ns.map V.int).length:Int):=of_decide_eq_true e;rw[List.length_map] at e;have hj:j < ns.length:=by lia
  lk;refine ex4 a _ _ (V.int (ns.getD j 0)) (an5 rfl rfl hS (cj ?_) q);rw[List.getElem?_map,List.getElem?_eq_getElem hj,List.getD_eq_getElem?_getD,List.getElem?_eq_getElem hj]
  rfl
 .have e:¬(j:Int) < ((ns.map V.int).length:Int):=λz=>e (decide_eq_true z);rw[List.length_map] at e;have z:ns.getD j 0=0:=by rw[List.getD_eq_getElem?_getD,List.getElem?_eq_none (by lia)];rfl
  have q:Q (.int (ns.getD j 0)) H:=q;rw[z] at q;exact q
def A2:Sp:=λvs H Q _=>∃(k:Nat) (mark:Int),vs=[.int (k:Int),.int mark]/\k < 64/\Q (.str (nameOf k mark)) H
theorem DJ(F:aL K "_law_name" "_law_name" qL dV f fd)(T:Txt mg):aB P w K mg base (CXE P w) true 1 f fd B7 A2:=by
 refine F.pF tH λvs H Q E y0=> ?_;obtain⟨k,mark,rfl,hk,q⟩:=y0;refine⟨rfl,λcdv A outer s hr=> ?_⟩
 have tl:∃t,PSs (ip true (CXE P w) P w K mg base B5 "_law_name" (ah qL) f cdv A outer s H E).nox ((bf qL).drop 2) t/\(¬(mark % 11=5/\k < 36)->t { nx:=λ_ H'=>Q .non H',rt:=Q} [some (.int (k:Int)),some (.int mark),some (.str "abcdefghijklmnopqrstuvwxyz0123456789"),none] H):=by
  refine⟨_,(aa (bg (i:=3) tH.nd (ao aS (fJ (pv 2) (ao aJ (pv 0) ag) (λ_ _=>rfl)) (fJ (pv 2) (ao aJ (ao c9 (ao bt (pv 0) ag) (pv 1)) ag) (λ_ _=>rfl))))
   (af (av (ao aS (ao aS (ao bY aq (ao aJ (pv 1) ag)) (pv 3)) (ao bY aq (ao aJ (ao bt (pv 1) ag) ag)))))),?_⟩
  fin2
  intro hn;lk;have k1:((k:Int) % 36)=((k % 36:Nat):Int):=by lia
  refine ex3 _ _ (sgn (k % 36)) (an7 rfl (congrArg V.int k1) (by lia) (by show((k % 36:Nat):Int) < 9223372036854775808;lia) (by show((k % 36:Nat):Int) < 36;lia) (yw (show k % 36 < 36 by lia)) ?_);have b:=ba (((k / 36:Nat):Int) + mark) (n:=36) (by decide);obtain⟨j,hj⟩:=Int.eq_ofNat_of_zero_le b.1;have k2:((k:Int) / 36 + mark) % 36=(j:Int):=by rw[<- hj];rfl
  lk;refine ex3 _ _ (sgn j) (an7 rfl (congrArg V.int k2) (by lia) (by show(j:Int) < 9223372036854775808;lia) (by show(j:Int) < 36;lia) (yw (show j < 36 by lia)) ?_);lk;refine⟨(by show 1 + 1<=_;exact aO (by decide)),?_⟩;lk;have a1:=ba mark (n:=7) (by decide);have a2:=ba (mark / 7) (n:=5) (by decide);obtain⟨n1,hn1⟩:=Int.eq_ofNat_of_zero_le a1.1;obtain⟨n2,hn2⟩:=Int.eq_ofNat_of_zero_le a2.1;have c1:cds ⟨(List.replicate n1 ("q":Str).cps).foldl (·++·) #[]⟩=List.replicate n1 113:=by rw[eQ];exact md n1 113
  have c2:cds ⟨(List.replicate n2 ("q":Str).cps).foldl (·++·) #[]⟩=List.replicate n2 113:=by rw[eQ];exact md n2 113
  have q1:(⟨(List.replicate n1 ("q":Str).cps).foldl (·++·) #[]⟩:Str).length=n1:=by rw[<- aA,c1,List.length_replicate]
  have q2:(⟨(List.replicate n2 ("q":Str).cps).foldl (·++·) #[]⟩:Str).length=n2:=by rw[<- aA,c2,List.length_replicate]
  refine ex2 ("q") n1 (an6 rfl (congrArg V.int hn1) (by show 1 * n1<=_;lia) (by lia) (by show 1<=_;decide) ?_);lk;refine⟨(by rw[q1];show _ + 2<=_;exact aO (by lia)),?_⟩;lk;refine ex2 ("q") n2 (an6 rfl (congrArg V.int hn2) (by show 1 * n2<=_;lia) (by lia) (by show 1<=_;decide) ?_);refine ex2 _ _ (an4 rfl rfl (by rw[cc,q1,q2];show _ + 2 + _<=_;exact aO (by lia)) ?_)
  have en:nameOf k mark=(⟨(List.replicate n1 ("q":Str).cps).foldl (·++·) #[]⟩:Str)++((⟨#[sgn (k % 36)]⟩:Str)++(⟨#[sgn j]⟩:Str))++(⟨(List.replicate n2 ("q":Str).cps).foldl (·++·) #[]⟩:Str):=by
   refine fI ?_;rw[aT,aT,aT,c1,c2];unfold nameOf fh;rw[if_neg hn,lY,hj,hn1,hn2]
   rfl
  rw[en] at q;exact q
 obtain⟨tt,ht,hn⟩:=tl
 refine⟨_,(aa (bg (i:=2) tH.nd aq)
   (aa (aW (PW.pt (xN (zct cq (ao aJ (pv 1) ag) ag) (uf (zct jM (pv 0) ag)))) (af (av (fJ (pv 2) (pv 0) (λ_ _=>rfl)))) ay)
   ht)),?_⟩
 fin2
 lk;refine bF (λe=> ?_) (λe=> ?_)
 .have e:mark % 11=5:=jv e;lk;refine bF (λe2=> ?_) (λe2=> ?_)
  .have e2:(k:Int) < 36:=of_decide_eq_true e2;lk;refine ex3 _ _ (sgn k) (an7 rfl rfl (by lia) (by show(k:Int) < 9223372036854775808;lia) (by show(k:Int) < 36;lia) (yw (show k < 36 by lia)) ?_)
   have en:nameOf k mark=⟨#[sgn k]⟩:=by
    unfold nameOf fh;rw[if_pos ⟨e,by lia⟩]
    rfl
   rw[en] at q;exact q
  .have e2:¬(k:Int) < 36:=λz=>e2 (decide_eq_true z);exact hn λz=>by lia
 .have e:=qQ e;exact hn λz=>e z.1
def w4:Sp:=λvs H Q _=>∃(cell other:Int),vs=[.int cell,.int other]/\∀(q:Addr) (H':Hp),aF H H'->H q=none->H' q=some (.lst ((words (aH cell other "")).map V.str))->Q (.ref q) H'
def vV:Sp:=λvs H Q _=>∃(cell other:Int),vs=[.int cell,.int other]/\∀(q:Addr) (H':Hp),aF H H'->H q=none->H' q=some (.lst ((words (leafOf cell other "")).map V.str))->Q (.ref q) H'
theorem je(cell other:Int)(nm:Str):words (aH cell other nm)=[("minder":Str),eY (cell / 5 % 4),A4 (cell / 20 % 3),bI (aH cell other nm).bG,bI (aH cell other nm).cX]:=by
 have h3:=ba (cell / 20) (n:=3) (by decide);have:cell / 20 % 3=0\/cell / 20 % 3=1\/cell / 20 % 3=2:=by lia
 unfold words aH;rcases this with z | z | z <;> rw[z] <;> rfl
theorem tI(cell other:Int)(nm:Str):words (leafOf cell other nm)=[("leaf":Str),eY (cell / 5 % 4),bI (leafOf cell other nm).bG,bI (leafOf cell other nm).cX,tm (cell / 20 % 4)]++(if cell / 20 % 4=1 then [] else [bI (leafOf cell other nm).many]):=by
 have h3:=ba (cell / 20) (n:=4) (by decide);have:cell / 20 % 4=0\/cell / 20 % 4=1\/cell / 20 % 4=2\/cell / 20 % 4=3:=by lia
 unfold words Tr.leafOf;rcases this with z | z | z | z <;> rw[z] <;> rfl
theorem Ak(F:aL K "_law_minder_words" "_law_minder_words" eT dV f fd)(T:Txt mg):aB P w K mg base (CXE P w) true 1 f fd iQ w4:=by
 rcases cE,(aa (bg (i:=2) cE.nd (zix az (aR {(aq),(aq),(aq),(aq)}) (ao aJ (ao bt (pv 0) ag) ag)))
   (aa (bg (i:=3) cE.nd (zix az (aR {(aq),(aq),(aq)}) (ao aJ (ao bt (pv 0) ag) ag)))
   (aa (aW (zct cq (ao aJ (pv 1) ag) ag) (af (av (aR {(aq),pv 2,pv 3,aZ aM (by rfl) T.eu cu {ao aJ (pv 1) ag},aZ aM (by rfl) T.eu cu {ao c9 ag (ao aJ (ao bt (pv 1) ag) ag)}}))) ay)
   (aa (bg (i:=4) cE.nd (zix az (aR (sQ rfl)) (ao aJ (pv 1) ag)))
   (af (av (aR {(aq),pv 2,pv 3,aZ aM (by rfl) T.eu cu {pv 4},aZ aM (by rfl) T.eu cu {ao c9 ag (ao aJ (ao bt (pv 1) ag) ag)}}))))))) with⟨cell,other,rfl,k⟩
 have h4:=ba (cell / 5) (n:=4) (by decide);have h3:=ba (cell / 20) (n:=3) (by decide);have h8:=ba other (n:=8) (by decide);have a1:=ba other (n:=1000001) (by decide);have a2:=ba (other / 3) (n:=1000000) (by decide);have a3:=ba (other / 8) (n:=5) (by decide);rw[je] at k
 have e4:atI [V.str "always",V.str "fallen",V.str "always",V.str "never"] (cell / 5 % 4)=some (V.str (eY (cell / 5 % 4))):=by
  have:cell / 5 % 4=0\/cell / 5 % 4=1\/cell / 5 % 4=2\/cell / 5 % 4=3:=by lia
  rcases this with z | z | z | z <;> rw[z] <;> rfl
 have e3:atI [V.str "one",V.str "all",V.str "rest"] (cell / 20 % 3)=some (V.str (A4 (cell / 20 % 3))):=by
  have:cell / 20 % 3=0\/cell / 20 % 3=1\/cell / 20 % 3=2:=by lia
  rcases this with z | z | z <;> rw[z] <;> rfl
 have e8:atI [V.int 9,V.int 2,V.int 30,V.int 1,V.int 3,V.int 0,V.int 9,V.int 2] (other % 8)=some (V.int (lP (other % 8))):=by
  have:other % 8=0\/other % 8=1\/other % 8=2\/other % 8=3\/other % 8=4\/other % 8=5\/other % 8=6\/other % 8=7:=by lia
  rcases this with z | z | z | z | z | z | z | z <;> rw[z] <;> rfl
 have m8:0<=lP (other % 8)/\lP (other % 8)<=30:=by unfold lP;(repeat' split) <;> decide
 lk;refine⟨aO (by show 4<=1000;decide),λp1 hp1=> ?_⟩;lk;refine ex4 p1 _ _ _ (an5 rfl rfl (SqL.of ae) e4 ?_);lk;refine⟨aO (by show 3<=1000;decide),λp2 hp2=> ?_⟩;lk;refine ex4 p2 _ _ _ (an5 rfl rfl (SqL.of ae) e3 ?_);have s2:=(aj (o:= .lst [V.str "always",V.str "fallen",V.str "always",V.str "never"]) hp1).trans (aj (o:= .lst [V.str "one",V.str "all",V.str "rest"]) hp2);lk;refine bF (λe=> ?_) (λe=> ?_)
 .have e:other % 29=7:=jv e;have eg:(aH cell other "").bG=other % 1000001:=if_pos e;have es:(aH cell other "").cX=1 + other / 3 % 1000000:=if_pos e;rw[eg,es] at k;lk;refine⟨bo (by lia) (by lia),?_⟩;lk;refine⟨bo (by lia) (by lia),?_⟩;lk;refine⟨aO (by show 5<=1000;decide),λq hq=> ?_⟩;exact k q _ (s2.trans (aj hq)) (s2.free hq) ae
 .have e:=qQ e;have eg:(aH cell other "").bG=lP (other % 8):=if_neg e;have es:(aH cell other "").cX=1 + other / 8 % 5:=if_neg e;rw[eg,es] at k;lk;refine⟨aO (by show 8<=1000;decide),λp3 hp3=> ?_⟩;lk;refine ex4 p3 _ _ _ (an5 rfl rfl (SqL.of ae) e8 ?_);have s3:=s2.trans (aj (o:= .lst [V.int 9,V.int 2,V.int 30,V.int 1,V.int 3,V.int 0,V.int 9,V.int 2]) hp3);lk;refine⟨bo (by lia) (by lia),?_⟩;lk;refine⟨bo (by lia) (by lia),?_⟩;lk;refine⟨aO (by show 5<=1000;decide),λq hq=> ?_⟩;exact k q _ (s3.trans (aj hq)) (s3.free hq) ae
theorem Ap(F:aL K "_law_leaf_words" "_law_leaf_words" cS dV f fd)(T:Txt mg):aB P w K mg base (CXE P w) true 1 f fd ma vV:=by
 refine F.pF bQ λvs H Q E y0=> ?_;obtain⟨cell,other,rfl,k⟩:=y0;refine⟨rfl,λcdv A outer s hr=> ?_⟩;have h4:=ba (cell / 5) (n:=4) (by decide);have h3:=ba (cell / 20) (n:=4) (by decide);rw[tI] at k
 have e4:atI [V.str "always",V.str "fallen",V.str "always",V.str "never"] (cell / 5 % 4)=some (V.str (eY (cell / 5 % 4))):=by
  have:cell / 5 % 4=0\/cell / 5 % 4=1\/cell / 5 % 4=2\/cell / 5 % 4=3:=by lia
  rcases this with z | z | z | z <;> rw[z] <;> rfl
 have e3:atI [V.str "falls",V.str "idle",V.str "steady",V.str "falls"] (cell / 20 % 4)=some (V.str (tm (cell / 20 % 4))):=by
  have:cell / 20 % 4=0\/cell / 20 % 4=1\/cell / 20 % 4=2\/cell / 20 % 4=3:=by lia
  rcases this with z | z | z | z <;> rw[z] <;> rfl
 have wi:tm (cell / 20 % 4)="idle"↔cell / 20 % 4=1:=by
  have:cell / 20 % 4=0\/cell / 20 % 4=1\/cell / 20 % 4=2\/cell / 20 % 4=3:=by lia
  rcases this with z | z | z | z <;> rw[z] <;> decide
 have tl:∃t,PSs (ip true (CXE P w) P w K mg base k8 "_law_leaf_words" (ah cS) f cdv A outer s H E).nox ((bf cS).drop 4) t/\(∀(H1:Hp) (p:Addr) (x y z:Int),aF H H1->H1 p=some (.lst [V.int x,.int y,.int z])->x=(leafOf cell other "").bG->y=(leafOf cell other "").cX->(cell / 20 % 4≠1->z=(leafOf cell other "").many)->
   t { nx:=λ_ H'=>Q .non H',rt:=Q} [some (.int cell),some (.int other),some (.str (eY (cell / 5 % 4))),some (.str (tm (cell / 20 % 4))),some (.ref p),none] H1):=by
  refine⟨_,(aa (bg (i:=5) bQ.nd (aR {(aq),pv 2,aZ aM (by rfl) T.eu cu {zix az (pv 4) ag},aZ aM (by rfl) T.eu cu {zix az (pv 4) ag},pv 3}))
   (aa (aW (zct kY (pv 3) aq) (af (bu (cn PySem.F.plainAttrs_list PySem.F.slot_list_append PySem.F.type_list_append bJ (pv 5) {aZ aM (by rfl) T.eu cu {zix az (pv 4) ag}}))) ay)
   (af (av (pv 5))))),?_⟩
  fin2
  intro H1 p x y z s1 hp ex ey ez;have ok:=yY (cell:=cell) (other:=other) (nm:="qa") (by decide +kernel);have g0:0<=x:=by rw[ex];exact ok.g0
  have g1:x<=1000000:=by rw[ex];exact ok.g1
  have g2:0<=y:=by rw[ey];exact ok.s0
  have g3:y<=1000000:=by rw[ey];exact ok.s1
  rw[<- ex,<-ey] at k;lk;refine ex4 p _ 0 _ (an5 rfl rfl (SqL.of hp) rfl ?_);lk;refine⟨bo g0 (by lia),?_⟩;lk;refine ex4 p _ 1 _ (an5 rfl rfl (SqL.of hp) rfl ?_);lk;refine⟨bo g2 (by lia),?_⟩;lk;refine⟨aO (by show 5<=1000;decide),λq hq=> ?_⟩;lk;refine bF (λe=> ?_) (λe=> ?_)
  .have e:cell / 20 % 4≠1:=λz=>by
    rw[decide_eq_true (congrArg V.str (wi.mpr z))] at e;exact absurd e (by decide)
   have z0:0<=z:=by rw[ez e];exact ok.m0
   have z1:z<=1000000:=by rw[ez e];exact ok.m1
   rw[if_neg e,<-ez e] at k;have hp2:=(aj (o:= .lst [V.str "leaf",.str (eY (cell / 5 % 4)),.str (bI x),.str (bI y),.str (tm (cell / 20 % 4))]) hq) _ _ hp;lk;refine⟨.inl ⟨rfl,_,SqL.of ae⟩,?_⟩;lk;refine ex4 p _ 2 _ (an5 rfl rfl (SqL.of hp2) rfl ?_);lk;refine⟨bo z0 (by lia),?_⟩;lk;refine ex3 q _ _ (an5 rfl rfl ae (aE (by show 5<=1000;decide)) ?_);rw[gS];lk;exact k q _ (s1.trans (aj hq)) (s1.free hq) ae
  .have e:cell / 20 % 4=1:=wi.mp (by
    have e:=e;cases z:decide (V.str (tm (cell / 20 % 4))=V.str "idle") with
    | true=>exact V.str.inj (of_decide_eq_true z)
    | false=>rw[z] at e;exact absurd rfl e)
   rw[if_pos e] at k;lk;exact k q _ (s1.trans (aj hq)) (s1.free hq) ae
 obtain⟨tt,ht,hn⟩:=tl
 refine⟨_,(aa (bg (i:=2) bQ.nd (zix az (aR {(aq),(aq),(aq),(aq)}) (ao aJ (ao bt (pv 0) ag) ag)))
   (aa (bg (i:=3) bQ.nd (zix az (aR {(aq),(aq),(aq),(aq)}) (ao aJ (ao bt (pv 0) ag) ag)))
   (aa (bg (i:=4) bQ.nd (aR {ao aJ (pv 1) ag,ao aJ (ao bt (pv 1) ag) ag,ao aJ (ao bt (pv 1) ag) ag}))
   (aa (aW (zct cq (ao aJ (pv 1) ag) ag) (af (bg (i:=4) bQ.nd (aR {ao aJ (pv 1) ag,ao aJ (ao bt (pv 1) ag) ag,ao aJ (ao bt (pv 1) ag) ag}))) ay)
   ht)))),?_⟩
 fin2
 lk;refine⟨aO (by show 4<=1000;decide),λp1 hp1=> ?_⟩;lk;refine ex4 p1 _ _ _ (an5 rfl rfl (SqL.of ae) e4 ?_);lk;refine⟨aO (by show 4<=1000;decide),λp2 hp2=> ?_⟩;lk;refine ex4 p2 _ _ _ (an5 rfl rfl (SqL.of ae) e3 ?_);have s2:=(aj (o:= .lst [V.str "always",V.str "fallen",V.str "always",V.str "never"]) hp1).trans (aj (o:= .lst [V.str "falls",V.str "idle",V.str "steady",V.str "falls"]) hp2);lk;refine⟨aO (by show 3<=1000;decide),λp3 hp3=> ?_⟩;lk;refine bF (λe=> ?_) (λe=> ?_)
 .have e:other % 29=7:=jv e;lk;refine⟨aO (by show 3<=1000;decide),λp4 hp4=> ?_⟩;refine hn _ p4 _ _ _ ((s2.trans (aj hp3)).trans (aj hp4)) ae ?_ ?_ ?_
  .exact (if_pos e).symm
  .exact (if_pos e).symm
  .intro z;show _=ite _ _ _;rw[if_neg z,if_pos e]
 .have e:=qQ e;refine hn _ p3 _ _ _ (s2.trans (aj hp3)) ae ?_ ?_ ?_
  .exact (if_neg e).symm
  .exact (if_neg e).symm
  .intro z;show _=ite _ _ _;rw[if_neg z,if_neg e]
open PySem L2 Shp Nm Tr PySem.NumText
def Bu(K:PySem.W.Frag):Sp:=λvs H Q _=>∃(a:Addr) (ns:List Int) (fi mark:Int) (ct:Nat),vs=[.ref a,.int fi,.int (ct:Int),.int mark]/\SqL K H a (ns.map V.int)/\0<=fi/\1<=ct/\ct<=64∧
 ∀(q dp ep wp np:Addr) (H':Hp) (rows:List Row),aF H H'->H' q=some (.tup [.ref dp,.ref ep,.ref wp,.ref np])->yH H' dp ep wp np rows->dB rows mark->rows.length=ct->Q (.ref q) H'
theorem DH(F:aL K "_law_tree" "_law_tree" kq dV f fd)(T:Txt mg)(bp:Cal P w K mg base true 1 "_law_cell_at" (xt K) [])(x6:Cal P w K mg base true 1 "_law_name" A2 [])
  (dc:Cal P w K mg base true 1 "_law_minder_words" w4 []) (gM:Cal P w K mg base true 1 "_law_leaf_words" vV []):aB P w K mg base (CXE P w) true 3 f fd A3 (Bu K):=by
 refine F.pF cO λvs H Q E y0=> ?_;obtain⟨a,ns,fi,mark,ct,rfl,hS,hf,h1,h64,k⟩:=y0;refine⟨rfl,λcdv A outer s hr=> ?_⟩
 have t6:∃t,PSs (ip true (CXE P w) P w K mg base xf "_law_tree" (ah kq) f cdv A outer s H E).nox ((bf kq).drop 6) t/\(∀(H1:Hp) (dp ep wp:Addr) (rows:List Row) (v1 v2 v3 v4:Option V),aF H H1->H dp=none->H ep=none->H wp=none→
   H1 dp=some (.lst (rows.map λr=>V.int (r.dep:Int)))->H1 ep=some (.lst ((List.range rows.length).map λk=>V.int (bE rows k)))->LLs H1 wp (rows.map λr=>words r.sh)->dB rows mark->rows.length=ct→
   t { nx:=λ_ H'=>Q .non H',rt:=Q} [some (.ref a),some (.int fi),some (.int (ct:Int)),some (.int mark),some (.ref dp),some (.ref ep),some (.ref wp),v1,v2,v3,v4,none] H1):=by
  refine⟨_,(aa (yk (j:=11) cO.nd rfl (by k_ne) (x:="_law_k") (fr:=[("_law_mark",3)]) (by kd_p) rfl (mm (by rfl) T.lK {pv 2}) (λ_ _ _ _=>vw) (λ_ _ _ _=>(kP x6 (hr.mono (by omega)) (by rfl) sD {pv 0,pv 1})))
   (af (av (FI {pv 4,pv 5,pv 6,pv 11})))),?_⟩
  fin2
  intro H1 dp ep wp rows v1 v2 v3 v4 s1 hd he hw h4 h5 h6 hR hl;lk;refine⟨by lia,by lia,gL (n:=ct) (λi ys H'=>H'=H1/\ys=(List.range i).map λk=>V.str (nameOf k mark)) ⟨rfl,rfl⟩ (λi ys H' hi _=>hi) (λys H' _=>Nat.le_refl _) ?_ ?_⟩
  .rintro i ys H' v H2 hi ⟨rfl,rfl⟩ ⟨rfl,rfl⟩;lk;refine⟨(by rw[Nat.zero_add];lia),by rw[List.length_map,List.length_range];exact aE (by lia),rfl,?_⟩;rw[List.range_succ,List.map_append,Nat.zero_add]
   rfl
  .rintro ys H' ⟨rfl,rfl⟩;refine⟨by rw[List.length_map,List.length_range];exact aO (by lia),λnp hnp=> ?_⟩;lk;refine⟨aO (by show 4<=1000;decide),λq hq=> ?_⟩;have s2:aF H' (upd (upd H' np (.lst ((List.range ct).map λk=>V.str (nameOf k mark)))) q (.tup [.ref dp,.ref ep,.ref wp,.ref np])):=(aj hnp).trans (aj hq);refine k q dp ep wp np _ rows (s1.trans s2) ae ⟨s2 _ _ h4,s2 _ _ h5,h6.mono s2,?_⟩ hR hl;rw[hR.names,hl];exact aj hq _ _ ae
 obtain⟨tt,ht,hn⟩:=t6
 have t4:∃t,PSs (ip true (CXE P w) P w K mg base xf "_law_tree" (ah kq) f cdv A outer s H E).nox ((bf kq).drop 4) t/\(∀(H1:Hp) (dp ep wp:Addr) (rows:List Row),aF H H1->H dp=none->H ep=none->H wp=none->dp≠ep->dp≠wp->ep≠wp→
   H1 dp=some (.lst (rows.map λr=>V.int (r.dep:Int)))->H1 ep=some (.lst ((List.range rows.length).map λk=>V.int (bE rows k)))->LLs H1 wp (rows.map λr=>words r.sh)->dB rows mark->rows.length=1→
   t { nx:=λ_ H'=>Q .non H',rt:=Q} [some (.ref a),some (.int fi),some (.int (ct:Int)),some (.int mark),some (.ref dp),some (.ref ep),some (.ref wp),none,none,none,none,none] H1):=by
  refine⟨_,(aa (bg (i:=7) cO.nd (aR {(ag)}))
   (aa (pf PassesOwn.never rfl (zX (by rfl) T.lK {(ag),pv 2}) (b6 (i:=8) cO.nd rfl (by k_ne)) (aa (bg (i:=9) cO.nd (ao c9 (bZ bp {pv 0,ao c9 (pv 1) (pv 8)}) (ao EE ag (pv 8))))
   (aa (bg (i:=10) cO.nd (ao c9 (bZ bp {pv 0,ao c9 (ao c9 (pv 1) (pv 8)) ag}) (pv 8)))
   (aa (aW (zct jM (ao aJ (pv 3) ag) ag) (af (bg (i:=7) cO.nd (pI yV (pv 7) ze (o6 (ao c9 ag (ao aJ (ao bt (pv 9) ag) (aC aG (by rfl) T.dh bS {pv 7}))))))) ay)
   (aa (bu (cn PySem.F.plainAttrs_list PySem.F.slot_list_append PySem.F.type_list_append bJ (pv 4) {aC aG (by rfl) T.dh bS {pv 7}}))
   (aa (bu (cn PySem.F.plainAttrs_list PySem.F.slot_list_append PySem.F.type_list_append bJ (pv 5) {zix az (pv 7) (n8 jo ag)}))
   (af (aW (PW.pt (gv (zct jM (ao aJ (pv 9) ag) ag) (gk (PW.pt (xN (zct cq (ao aJ (pv 3) ag) ag) (uf (zct jM (aC aG (by rfl) T.dh bS {pv 7}) ag))))))) (aa (bu (cn PySem.F.plainAttrs_list PySem.F.slot_list_append PySem.F.type_list_append bJ (pv 6) {bZ dc {pv 9,pv 10}}))
   (af (aW (zct jM (aC aG (by rfl) T.dh bS {pv 7}) ag) (af (bg (i:=7) cO.nd (ao qm (pv 7) (aR {pv 8})))) ay))) (af (bu (cn PySem.F.plainAttrs_list PySem.F.slot_list_append PySem.F.type_list_append bJ (pv 6) {bZ gM {pv 9,pv 10}})))))))))))
   ht)),?_⟩
  fin2
  intro H1 dp ep wp rows s1 hd he hw n1 n2 n3 h4 h5 h6 hR hl;refine⟨aO (by show 1<=1000;decide),λpp hpp=> ?_⟩;have sn:=aj (o:= .lst [V.int 0]) hpp
  have hPI:bK rows [0]:=by
   obtain⟨r,rfl⟩:∃r,rows=[r]:=by
    match rows,hl with
    | [r],_=>exact⟨r,rfl⟩
   refine bK.first ?_;have:=hR.fit 0 Nat.zero_lt_one;unfold Tr.fits at this;rw[if_pos rfl] at this;exact this.2
  lk;refine⟨⟨by decide,by lia,by lia,by lia⟩,?_⟩;have ert:((ct:Int) - 1).toNat=ct - 1:=by lia
  refine m3 (lo:=1) (n:=((ct:Int) - 1).toNat) (λi σ H2=>∃(rows:List Row) (pp:Addr) (lp:List Nat) (v1 v2 v3:Option V),σ=[some (.ref a),some (.int fi),some (.int (ct:Int)),some (.int mark),some (.ref dp),some (.ref ep),some (.ref wp),some (.ref pp),v1,v2,v3,none]/\aF H H2∧
    H2 dp=some (.lst (rows.map λr=>V.int (r.dep:Int)))/\H2 ep=some (.lst ((List.range rows.length).map λk=>V.int (bE rows k)))/\LLs H2 wp (rows.map λr=>words r.sh)/\dB rows mark/\rows.length=1 + i/\H2 pp=some (.lst (lp.map λj:Nat=>V.int (j:Int)))/\bK rows lp/\pp≠dp/\pp≠ep)
   ⟨rows,pp,[0],none,none,none,rfl,s1.trans sn,sn _ _ h4,sn _ _ h5,h6.mono sn,hR,by lia,ae,hPI,(au h4 hpp).symm,(au h5 hpp).symm⟩ ?_ ?_
  .rintro i σ H2 hi ⟨rows,pp,lp,v1,v2,v3,rfl,s2,g4,g5,g6,hR,hl,gp,hP,m1,m2⟩;rw[ert] at hi;have r1:=hR.ne;have wn:=FD r1;refine A8 (M:=λσ' H'=>∃(pp3:Addr) (lp3:List Nat) (cl ot:Int),σ'=[some (.ref a),some (.int fi),some (.int (ct:Int)),some (.int mark),some (.ref dp),some (.ref ep),some (.ref wp),some (.ref pp3),some (.int (1 + (i:Int))),some (.int cl),some (.int ot),none]/\aF H2 H'/\H' pp3=some (.lst (lp3.map λj:Nat=>V.int (j:Int)))/\bK rows lp3/\pp3≠dp/\pp3≠ep) (λN hN=> ?_) ?_
   .lk;refine ex3 a _ ns (an4 rfl (s2.seq hS) (by lia) ?_);lk;refine⟨.inl ⟨by decide,by decide⟩,?_⟩;lk;refine ex3 a _ ns (an4 rfl (s2.seq hS) (by lia) ?_);lk;have lpl:(lp.map λj:Nat=>V.int (j:Int)).length=lp.length:=List.length_map _;have b1:=hP.l1;refine bF (λe=> ?_) (λe=> ?_)
    .lk;refine ex2 pp _ (an3 rfl (.inl (SqL.of gp)) ?_);lk;refine⟨(by show(0:Int) < _;rw[lpl];lia),?_⟩;lk;refine ex2 pp _ (an3 rfl (SqL.of gp) (λp2 hp2=> ?_));obtain⟨m,em⟩:=Int.eq_ofNat_of_zero_le (ba ((ns.getD (fi + (1 + (i:Int))).toNat 0 + 3 * (1 + (i:Int))) / 80) (n:=(lp.length:Int)) (by lia)).1;have em2:=(ba ((ns.getD (fi + (1 + (i:Int))).toNat 0 + 3 * (1 + (i:Int))) / 80) (n:=(lp.length:Int)) (by lia)).2;refine hN _ _ ⟨p2,lp.take (1 + m),_,_,rfl,aj hp2,?_,hP.take (by lia) (by lia),(au g4 hp2).symm,(au g5 hp2).symm⟩;rw[ae,lpl,em,show(1 + (m:Int))=((1 + m:Nat):Int) from rfl,DX,List.map_take]
    .lk;exact hN _ _ ⟨pp,lp,_,_,rfl,λ_ _ z=>z,gp,hP,m1,m2⟩
   .rintro σ3 H3 ⟨pp3,lp3,cl,ot,rfl,sn2,kp,hP3,q1,q2⟩;have s3:=s2.trans sn2;have k4:=sn2 _ _ g4;have k5:=sn2 _ _ g5;have k6:=g6.mono sn2;have c1:=hP3.l1;have c8:=hP3.l8;have lp3l:(lp3.map λj:Nat=>V.int (j:Int)).length=lp3.length:=List.length_map _;have rl:rows.length < 64:=by lia
    lk;refine⟨.inl ⟨rfl,_,SqL.of k4⟩,?_⟩;lk;refine ex2 pp3 _ (an3 rfl (.inl (SqL.of kp)) ?_);rw[lp3l];lk;refine ex3 dp _ _ (an5 rfl rfl k4 (by rw[List.length_map];exact aE (by lia)) ?_);have kp1:(upd H3 dp (.lst ((rows.map λr=>V.int (r.dep:Int))++[V.int (lp3.length:Int)]))) pp3=some (.lst (lp3.map λj:Nat=>V.int (j:Int))):=(ak q1).trans kp;have k51:(upd H3 dp (.lst ((rows.map λr=>V.int (r.dep:Int))++[V.int (lp3.length:Int)]))) ep=some (.lst ((List.range rows.length).map λk=>V.int (bE rows k))):=(ak n1.symm).trans k5;lk;refine⟨.inl ⟨rfl,_,SqL.of k51⟩,?_⟩;lk
    have lst1:atI (lp3.map λj:Nat=>V.int (j:Int)) (-1)=some (V.int ((lp3[lp3.length - 1]'(by lia):Nat):Int)):=by
     rw[CY (by lia),lp3l,List.getElem?_map,List.getElem?_eq_getElem (by lia)]
     rfl
    refine ex4 pp3 _ _ _ (an5 rfl rfl (SqL.of kp1) lst1 ?_);lk;refine ex3 ep _ _ (an5 rfl rfl k51 (by rw[List.length_map,List.length_range];exact aE (by lia)) ?_);obtain⟨H4,eH4⟩:∃H4,H4=upd (upd H3 dp (.lst ((rows.map λr=>V.int (r.dep:Int))++[V.int (lp3.length:Int)]))) ep (.lst (((List.range rows.length).map λk=>V.int (bE rows k))++[V.int ((lp3[lp3.length - 1]'(by lia):Nat):Int)])):=⟨_,rfl⟩;rw[<- eH4];have s4:aF H H4:=by rw[eH4];exact fk (fk s3 hd) he
    have j4:H4 dp=some (.lst ((rows.map λr=>V.int (r.dep:Int))++[V.int (lp3.length:Int)])):=by rw[eH4,ak n1];exact ae
    have j5:H4 ep=some (.lst (((List.range rows.length).map λk=>V.int (bE rows k))++[V.int ((lp3[lp3.length - 1]'(by lia):Nat):Int)])):=by rw[eH4];exact ae
    have jp:H4 pp3=some (.lst (lp3.map λj:Nat=>V.int (j:Int))):=by rw[eH4,ak q2];exact kp1
    have j6:LLs H4 wp (rows.map λr=>words r.sh):=by
     obtain⟨x1,y1,z1⟩:=sJ r1 (λr=>(r.dep:Int));obtain⟨x2,y2,z2⟩:=pK r1 (λk=>bE rows k);rw[eH4];refine LLs.upd (i:=x2) (xs:=y2) (LLs.upd (i:=x1) (xs:=y1) k6 ?_ wn (uh rows)) ?_ wn (uh rows)
     .rw [k4,z1]
     .rw [k51,z2]
    have hfit:∀sh:Sh,fits (aU rows rows.length) rows.length ⟨lp3.length,sh⟩:=λsh=>hP3.fits (r:=⟨lp3.length,sh⟩) (by lia) c1 (Nat.le_refl _);have hel:∀sh:Sh,bE (rows++[⟨lp3.length,sh⟩]) rows.length=((lp3[lp3.length - 1]'(by lia):Nat):Int):=λsh=>hP3.bE (r:=⟨lp3.length,sh⟩) (by lia) c1 (Nat.le_refl _)
    have hnx:∀sh:Sh,bK (rows++[⟨lp3.length,sh⟩]) lp3:=λsh=>by
     have:=hP3.next (r:=⟨lp3.length,sh⟩) c1 (Nat.le_refl _);rwa [List.take_length] at this
    clear eH4 kp1 k51 lst1
    have nwd:wp≠dp:=by
     obtain⟨x1,y1,z1⟩:=sJ r1 (λr=>(r.dep:Int));exact j6.ne (i:=x1) (xs:=y1++[V.int (lp3.length:Int)]) (by rw[j4,z1];rfl) wn
    have nwe:wp≠ep:=by
     obtain⟨x1,y1,z1⟩:=pK r1 (λk=>bE rows k);exact j6.ne (i:=x1) (xs:=y1++[V.int ((lp3[lp3.length - 1]'(by lia):Nat):Int)]) (by rw[j5,z1];rfl) wn
    have nwp:wp≠pp3:=by
     obtain⟨x,y,z⟩:∃x y,lp3=x::y:=by
      match lp3,c1 with
      | x::y,_=>exact⟨x,y,rfl⟩
     exact j6.ne (i:=(x:Int)) (xs:=y.map λj:Nat=>V.int (j:Int)) (by rw[jp,z];rfl) wn
    obtain⟨as0,w1,_⟩:=id j6;dsimp only;refine FZ (decide (cl % 5 < 2) || (decide (mark % 5=4) && decide ((lp3.length:Int) < 8))) (λN hN=> ?_) ?_
    .lk;refine bF (λe1=> ?_) (λe1=> ?_)
     .rw [show decide (cl % 5 < 2)=true from e1,Bool.true_or] at hN;exact hN
     .rw [show decide (cl % 5 < 2)=false from decide_eq_false λz=>e1 (decide_eq_true z),Bool.false_or] at hN;lk;refine bF (λe2=> ?_) (λe2=> ?_)
      .rw [decide_eq_true (show mark % 5=4 from V.int.inj (of_decide_eq_true e2)),Bool.true_and] at hN;lk;refine ex2 pp3 _ (an3 rfl (.inl (SqL.of jp)) ?_);rw[lp3l];lk;exact hN
      .rw [decide_eq_false (show ¬mark % 5=4 from λz=>e2 (decide_eq_true (congrArg V.int z))),Bool.false_and] at hN;exact hN
    .refine bF (λ_=> ?_) (λ_=> ?_)
     .lk;refine⟨.inl ⟨rfl,_,SqL.of w1⟩,?_⟩;lk;refine λq H5 s5 hq1 hq2=> ?_;obtain⟨as1,w2,wl,j7⟩:=(j6.mono s5).push hq2 wn (uh rows) (nr _);lk;refine ex3 wp _ _ (an5 rfl rfl w2 (by rw[List.length_map,wl,List.length_map];exact aE (by lia)) ?_);obtain⟨H6,eH6⟩:∃H6,H6=upd H5 wp (.lst (as1.map V.ref++[.ref q])):=⟨_,rfl⟩;rw[<- eH6] at j7 ⊢;have s6:aF H H6:=by rw[eH6];exact fk (s4.trans s5) hw
      have t4':H6 dp=some (.lst ((rows.map λr=>V.int (r.dep:Int))++[V.int (lp3.length:Int)])):=by rw[eH6,ak nwd.symm];exact s5 _ _ j4
      have t5':H6 ep=some (.lst (((List.range rows.length).map λk=>V.int (bE rows k))++[V.int ((lp3[lp3.length - 1]'(by lia):Nat):Int)])):=by rw[eH6,ak nwe.symm];exact s5 _ _ j5
      have tp':H6 pp3=some (.lst (lp3.map λj:Nat=>V.int (j:Int))):=by rw[eH6,ak nwp.symm];exact s5 _ _ jp
      have ln:∀r:Row,(rows++[r]).length=1 + (i + 1):=λr=>by rw[List.length_append];show rows.length + 1=_;lia
      lk;refine ex2 pp3 _ (an3 rfl (.inl (SqL.of tp')) ?_);rw[lp3l];lk;refine bF (λe4=> ?_) (λe4=> ?_)
      .have e4:(lp3.length:Int) < 8:=of_decide_eq_true e4;lk;refine⟨aO (by show 1<=1000;decide),λu hu=> ?_⟩;refine ex4 pp3 u _ _ (an6 rfl rfl ((aj hu) _ _ tp') ae (by rw[lp3l];show _ + 1<=_;exact aO (by lia)) (λz hz=> ?_));have sz:=(aj (o:= .lst [V.int (1 + (i:Int))]) hu).trans (aj (o:= .lst ((lp3.map λj:Nat=>V.int (j:Int))++[V.int (1 + (i:Int))])) hz);refine⟨rows++[⟨lp3.length,aH cl ot (nameOf rows.length mark)⟩],z,lp3++[rows.length],_,_,_,rfl,s6.trans sz,?_,?_,?_,hR.next rl (hfit _) (mv (oY rl)) rfl,ln _,?_,?_,?_,?_⟩
       .rw [List.map_append];exact sz _ _ t4'
       .rw [ji (hel _)];exact sz _ _ t5'
       .rw [List.map_append];exact j7.mono sz
       .rw [ae,List.map_append,hl]
        rfl
       .have:=hP3.more (r:=⟨lp3.length,aH cl ot (nameOf rows.length mark)⟩) c1 (Nat.le_refl _) (by show lp3.length < 8;lia) (decide_eq_true (Nat.le_add_right _ _));rw[List.take_length] at this;exact this
       .exact (au ((aj hu) _ _ t4') hz).symm
       .exact (au ((aj hu) _ _ t5') hz).symm
      .refine ⟨rows++[⟨lp3.length,aH cl ot (nameOf rows.length mark)⟩],pp3,lp3,_,_,_,rfl,s6,?_,?_,?_,hR.next rl (hfit _) (mv (oY rl)) rfl,ln _,tp',hnx _,q1,q2⟩
       .rw [List.map_append];exact t4'
       .rw [ji (hel _)];exact t5'
       .rw [List.map_append];exact j7
     .lk;refine⟨.inl ⟨rfl,_,SqL.of w1⟩,?_⟩;lk;refine λq H5 s5 hq1 hq2=> ?_;obtain⟨as1,w2,wl,j7⟩:=(j6.mono s5).push hq2 wn (uh rows) (nr _);lk;refine ex3 wp _ _ (an5 rfl rfl w2 (by rw[List.length_map,wl,List.length_map];exact aE (by lia)) ?_);obtain⟨H6,eH6⟩:∃H6,H6=upd H5 wp (.lst (as1.map V.ref++[.ref q])):=⟨_,rfl⟩;rw[<- eH6] at j7 ⊢;have s6:aF H H6:=by rw[eH6];exact fk (s4.trans s5) hw
      have t4':H6 dp=some (.lst ((rows.map λr=>V.int (r.dep:Int))++[V.int (lp3.length:Int)])):=by rw[eH6,ak nwd.symm];exact s5 _ _ j4
      have t5':H6 ep=some (.lst (((List.range rows.length).map λk=>V.int (bE rows k))++[V.int ((lp3[lp3.length - 1]'(by lia):Nat):Int)])):=by rw[eH6,ak nwe.symm];exact s5 _ _ j5
      have tp':H6 pp3=some (.lst (lp3.map λj:Nat=>V.int (j:Int))):=by rw[eH6,ak nwp.symm];exact s5 _ _ jp
      have ln:∀r:Row,(rows++[r]).length=1 + (i + 1):=λr=>by rw[List.length_append];show rows.length + 1=_;lia
      refine⟨rows++[⟨lp3.length,Tr.leafOf cl ot (nameOf rows.length mark)⟩],pp3,lp3,_,_,_,rfl,s6,?_,?_,?_,hR.next rl (hfit _) (yY (oY rl)) rfl,ln _,tp',hnx _,q1,q2⟩
      .rw [List.map_append];exact t4'
      .rw [ji (hel _)];exact t5'
      .rw [List.map_append];exact j7
  .rintro σ H2 ⟨rows,pp,lp,v1,v2,v3,rfl,s2,g4,g5,g6,hR,hl,gp,hP,m1,m2⟩;exact hn H2 dp ep wp rows _ _ _ _ s2 hd he hw g4 g5 g6 hR (by lia)
 obtain⟨tt,ht,hn⟩:=t4
 refine⟨_,(aa (bg (i:=4) cO.nd (aR {(ag)}))
   (aa (bg (i:=5) cO.nd (aR {n8 jo ag}))
   (aa (bg (i:=6) cO.nd (aR {bZ dc {bZ bp {pv 0,pv 1},bZ bp {pv 0,ao c9 (pv 1) ag}}}))
   (aa (aW (zct jM (ao aJ (ao bt (pv 3) ag) ag) ag) (af (Cu aq (EN (zix az (pv 6) ag) ag set_list))) ay)
   ht)))),?_⟩
 fin2
 refine⟨aO (by show 1<=1000;decide),λdp hdp=> ?_⟩;lk;refine⟨aO (by show 1<=1000;decide),λep hep=> ?_⟩;have sA:=(aj (o:= .lst [V.int 0]) hdp).trans (aj (o:= .lst [V.int (-1)]) hep);lk;refine ex3 a _ ns (an4 rfl (sA.seq hS) (by lia) ?_);lk;refine ex3 a _ ns (an4 rfl (sA.seq hS) (by lia) ?_);lk;refine λq H1 s1 hq1 hq2=> ?_;obtain⟨cl,ot,hq2⟩:∃cl ot,H1 q=some (.lst ((words (aH cl ot "")).map V.str)):=⟨_,_,hq2⟩;refine⟨aO (by show 1<=1000;decide),λwp hwp=> ?_⟩;have s2:=s1.trans (aj (o:= .lst [V.ref q]) hwp);have sB:=sA.trans s2;have hd1:(upd H1 wp (.lst [V.ref q])) dp=some (.lst [V.int 0]):=s2 _ _ ((aj hep) _ _ ae);have he1:(upd H1 wp (.lst [V.ref q])) ep=some (.lst [V.int (-1)]):=s2 _ _ ae;have hq3:(upd H1 wp (.lst [V.ref q])) q=some (.lst ((words (aH cl ot "")).map V.str)):=(aj hwp) _ _ hq2;have hw3:(upd H1 wp (.lst [V.ref q])) wp=some (.lst [V.ref q]):=ae;have hep0:H ep=none:=(aj (o:= .lst [V.int 0]) hdp).free hep;have hwp0:H wp=none:=(sA.trans s1).free hwp;have n1:dp≠ep:=λz=>by rw[z] at hep;rw[ae] at hep;cases hep
 have n2:dp≠wp:=au (s1 _ _ ((aj (o:= .lst [V.int (-1)]) hep) _ _ (ae (H:=H) (a:=dp)))) hwp;have n3:ep≠wp:=au (s1 _ _ (ae (a:=ep))) hwp
 have one:∀sh:Sh,OkR sh->3<=sh.kind->sh.name=nameOf 0 mark->dB [⟨0,sh⟩] mark:=λsh hs hk hnm=>by
  refine⟨Nat.le_refl _,by show 1<=64;decide,?_,?_,?_⟩
  .intro j hj;obtain rfl:j=0:=by have:j < 1:=hj;lia
   unfold Tr.fits;rw[if_pos rfl];exact⟨rfl,decide_eq_true hk⟩
  .intro r hr;obtain rfl:r=⟨0,sh⟩:=by simpa using hr
   exact hs
  .intro j hj;obtain rfl:j=0:=by have:j < 1:=hj;lia
   exact hnm
 have ok0:=mv (cell:=cl) (other:=ot) (oY (k:=0) (mark:=mark) (by decide));lk;refine bF (λe=> ?_) (λe=> ?_)
 .lk;refine ex4 wp _ 0 _ (an5 rfl rfl (SqL.of hw3) rfl ?_);lk;have ew:(words (aH cl ot "")).map V.str=[V.str "minder",V.str (eY (cl / 5 % 4)),V.str (A4 (cl / 20 % 3)),V.str (bI (aH cl ot "").bG),V.str (bI (aH cl ot "").cX)]:=by rw[je];rfl
  rw[ew] at hq3;refine ex4 q _ 3 3 (an5 rfl rfl hq3 rfl ?_);obtain⟨H2,eH2⟩:∃H2,H2=upd (upd H1 wp (.lst [V.ref q])) q (.lst [V.str "minder",V.str (eY (cl / 5 % 4)),V.str (A4 (cl / 20 % 3)),V.str "100",V.str (bI (aH cl ot "").cX)]):=⟨_,rfl⟩;have hq0:H q=none:=sA.free hq1;obtain⟨sh,esh⟩:∃sh:Sh,sh={ aH cl ot (nameOf 0 mark) with bG:=100}:=⟨_,rfl⟩;have nqd:dp≠q:=λz=>by rw[z] at hd1;rw[hd1] at hq3;cases hq3
  have nqe:ep≠q:=λz=>by rw[z] at he1;rw[he1] at hq3;cases hq3
  have nqw:wp≠q:=(au hq2 hwp).symm
  have wsh:(words sh).map V.str=[V.str "minder",V.str (eY (cl / 5 % 4)),V.str (A4 (cl / 20 % 3)),V.str "100",V.str (bI (aH cl ot "").cX)]:=by
   have h3:=ba (cl / 20) (n:=3) (by decide);have:cl / 20 % 3=0\/cl / 20 % 3=1\/cl / 20 % 3=2:=by lia
   rw[esh];unfold words aH;rcases this with z | z | z <;> rw[z] <;> rfl
  have hok:OkR sh:=by
   rw[esh];exact⟨ok0.kd,ok0.kp,ok0.m0,ok0.m1,ok0.m2,by show(0:Int)<=100;decide,by show(100:Int)<=1000000;decide,ok0.s0,ok0.s1,ok0.s2,ok0.nm⟩
  have z:=hn H2 dp ep wp [⟨0,sh⟩] (by rw[eH2];exact fk sB hq0) hdp hep0 hwp0 n1 n2 n3 (by rw[eH2,ak nqd];exact hd1) (by rw[eH2,ak nqe];exact he1)
   ⟨[q],by rw[eH2,ak nqw];exact hw3,rfl,λj x ws g1 g2=> ?_⟩ (one sh hok (by rw[esh];exact Nat.le_add_right _ _) (by rw[esh];rfl)) rfl
  .rw [eH2] at z;exact z
  .have hj:j=0:=by have:=(List.getElem?_eq_some_iff.mp g1).1;have:j < 1:=this;lia
   subst hj;obtain rfl:q=x:=Option.some.inj g1;obtain rfl:words sh=ws:=Option.some.inj g2;rw[eH2,ae,wsh]
 .refine hn _ dp ep wp [⟨0,aH cl ot (nameOf 0 mark)⟩] sB hdp hep0 hwp0 n1 n2 n3 hd1 he1 ⟨[q],hw3,rfl,λj x ws g1 g2=> ?_⟩ (one _ ok0 (Nat.le_add_right _ _) rfl) rfl;have hj:j=0:=by have:=(List.getElem?_eq_some_iff.mp g1).1;have:j < 1:=this;lia
  subst hj;obtain rfl:q=x:=Option.some.inj g1;obtain rfl:words (aH cl ot (nameOf 0 mark))=ws:=Option.some.inj g2;exact hq3
end
open PySem L2 Shp
abbrev nh:List Str:=["self","name","keep"]
abbrev dj:List Str:=["self","name","keep"]
theorem lX:aw nh dj (ah dw):=by kt_ors
abbrev oo:List Str:=["self","name","keep","grace","slow"]
abbrev bN:List Str:=["self","name","keep","grace","slow"]
theorem mn:aw oo bN (ah dO):=by kt_ors
abbrev ly:List Str:=["self","name","keep","many","grace","slow"]
abbrev aX:List Str:=["self","name","keep","many","grace","slow"]
theorem kz:aw ly aX (ah c5):=by kt_ors
abbrev mh:List Str:=["self","name","keep","most","span"]
abbrev bw:List Str:=["self","name","keep","most","span"]
theorem km:aw mh bw (ah cW):=by kt_ors
abbrev v7:List Str:=["self"]
abbrev iT:List Str:=["self"]
theorem uc:aw v7 iT (ah iz):=by kt_ors
abbrev rh:List Str:=["self"]
abbrev fZ:List Str:=["self"]
theorem p8:aw rh fZ (ah gq):=by kt_ors
abbrev lO:List Str:=["self"]
abbrev cQ:List Str:=["self"]
theorem ko:aw lO cQ (ah cY):=by kt_ors
abbrev jD:List Str:=["self"]
abbrev cA:List Str:=["self"]
theorem i8:aw jD cA (ah cz):=by kt_ors
abbrev jz:List Str:=["self"]
abbrev cv:List Str:=["self"]
theorem iM:aw jz cv (ah cw):=by kt_ors
abbrev va:List Str:=["self"]
abbrev gW:List Str:=["self"]
theorem se:aw va gW (ah g7):=by kt_ors
abbrev uE:List Str:=["self"]
abbrev gX:List Str:=["self"]
theorem rM:aw uE gX (ah gU):=by kt_ors
abbrev qF:List Str:=["self"]
abbrev eU:List Str:=["self"]
theorem oN:aw qF eU (ah fv):=by kt_ors
abbrev oH:List Str:=["self"]
abbrev dZ:List Str:=["self"]
theorem nz:aw oH dZ (ah dW):=by kt_ors
abbrev mQ:List Str:=["self"]
abbrev dC:List Str:=["self"]
theorem kT:aw mQ dC (ah dq):=by kt_ors
structure CF(K:PySem.W.Frag)(C:Addr):Prop where
 cl:Cls K C
 n1:bC K C "name"
 n2:bC K C "keep"
 n3:bC K C "grace"
 n4:bC K C "slow"
 n5:bC K C "many"
 n6:bC K C "most"
 n7:bC K C "span"
def jI(s:Sh):List (Str × V):=match s.kind with
 | 0=>[("name",.str s.name),("keep",.str s.keep),("grace",.int s.bG),("slow",.int s.cX)]
 | 1=>[("name",.str s.name),("keep",.str s.keep),("grace",.int s.bG),("slow",.int s.cX),("many",.int s.many)]
 | 2=>[("name",.str s.name),("keep",.str s.keep),("grace",.int s.bG),("slow",.int s.cX),("many",.int s.many)]
 | _=>[("name",.str s.name),("keep",.str s.keep),("most",.int s.bG),("span",.int s.cX)]
structure Pl where
 c:Nat->Addr
 pr:Nat->Prop
 inj:∀i j,pr i->pr j->c i=c j->i=j
def Pl.rep(p:Pl):Rep:=λH a s=>OkS s/\p.pr s.kind/\∃dx:Addr,H a=some (.ins (p.c s.kind) dx (jI s))
def Pl.cl(p:Pl)(j:Nat)(C:Addr):Prop:=p.pr j/\C=p.c j
theorem Pl.mono{p:Pl}{H H':Hp}{a:Addr}{s:Sh}(e:aF H H')(h:p.rep H a s):p.rep H' a s:=by
 obtain⟨h1,h2,dx,h3⟩:=h;exact⟨h1,h2,dx,e _ _ h3⟩
theorem jW{p:Pl}{H:Hp}{a dx:Addr}{fs:List (Str × V)}{s:Sh}{j:Nat}(hj:p.pr j)(hR:p.rep H a s)(hi:H a=some (.ins (p.c j) dx fs)):s.kind=j/\fs=jI s/\OkS s:=by
 obtain⟨ok,pr,dx',e⟩:=hR;rw[hi] at e;have e:=HO.ins.inj (Option.some.inj e);exact⟨p.inj _ _ pr hj e.1.symm,e.2.2,ok⟩
theorem zl(s:Sh):(jI s).lookup ("keep":Str)=some (.str s.keep):=by
 unfold jI
 split <;> rfl
theorem oX(s:Sh):(jI s).lookup ("name":Str)=some (.str s.name):=by
 unfold jI
 split <;> rfl
theorem BA{s:Sh}(h:s.kind < 3):(jI s).lookup ("grace":Str)=some (.int s.bG):=by
 unfold jI;have:s.kind=0\/s.kind=1\/s.kind=2:=by lia
 rcases this with z | z | z <;> rw[z] <;> rfl
theorem Du{s:Sh}(h:s.kind < 3):(jI s).lookup ("slow":Str)=some (.int s.cX):=by
 unfold jI;have:s.kind=0\/s.kind=1\/s.kind=2:=by lia
 rcases this with z | z | z <;> rw[z] <;> rfl
theorem yE{s:Sh}(h:s.kind=1\/s.kind=2):(jI s).lookup ("many":Str)=some (.int s.many):=by
 unfold jI;rcases h with z | z <;> rw[z] <;> rfl
theorem sC{s:Sh}(h:3<=s.kind)(ok:OkS s):jI s=([("name",V.str s.name),("keep",V.str s.keep),("most",V.int s.bG),("span",V.int s.cX)]:List (Str × V)):=by
 unfold jI;have:s.kind=3\/s.kind=4\/s.kind=5:=by have:=ok.kd;lia
 rcases this with z | z | z <;> rw[z] <;> rfl
section
variable{P:Program}{w:World}{K:PySem.W.Frag}{mg:Str->Option Value}{base:Heap}{f:Addr}{fd:FuncData}{dV:Value}{p:Pl}
theorem l8{n:Nat}(h:n<=100):n<=sizeLine:=Nat.le_of_lt (aE (by lia))
def oW(K:PySem.W.Frag):Sp:=λvs H Q _=>∃(x C dx:Addr) (nm kp:V),vs=[.ref x,nm,kp]/\CF K C/\H x=some (.ins C dx [])/\Q .non (upd H x (.ins C dx [("name",nm),("keep",kp)]))
theorem CB(F:aL K "__init__" "Child.__init__" dw dV f fd):aB P w K mg base (CXE P w) true 1 f fd dj (oW K):=by
 rcases lX,(aa (eV (pv 0) (pv 1) rfl)
   (af (eV (pv 0) (pv 2) rfl))) with⟨x,C,dx,nm,kp,rfl,hc,hx,k⟩
 lk;refine qo hx hc.cl hc.n1 (by decide) ?_;lk;refine qo ae hc.cl hc.n2 (by show 1 < 1000;decide) ?_;rw[gS];exact k
theorem made{x dx C:Addr}{H0 H:Hp}{fs:List (Str × V)}(h0:H0 x=none)(h1:H0 dx=none)(e:H=upd (upd H0 dx (.own x)) x (.ins C dx [])):aF H0 (upd H x (.ins C dx fs)):=λb o z=>by
 rw[ak (au z h0),e,ak (au z h0),ak (au z h1)];exact z
def o9(K:PySem.W.Frag):Sp:=λvs H Q _=>∃(x C dx:Addr) (nm kp:V) (g l:V),vs=[.ref x,nm,kp,g,l]/\CF K C/\H x=some (.ins C dx [])/\Q .non (upd H x (.ins C dx [("name",nm),("keep",kp),("grace",g),("slow",l)]))
theorem vZ(F:aL K "__init__" "Leaf.__init__" dO dV f fd)(k_Child___init__:Cmt P w K mg base true 1 "Child" "__init__" (oW K) []):aB P w K mg base (CXE P w) true 2 f fd bN (o9 K):=by
 rcases mn,(aa (bu (yl k_Child___init__ (hr.mono (by omega)) (by rfl) bL {pv 0,pv 1,pv 2}))
   (aa (eV (pv 0) (pv 3) rfl)
   (af (eV (pv 0) (pv 4) rfl)))) with⟨x,C,dx,nm,kp,g,l,rfl,hc,hx,k⟩
 lk;refine ex5 x C dx nm kp (an4 rfl hc hx ?_);lk;refine qo ae hc.cl hc.n3 (by show 2 < 1000;decide) ?_;lk;refine qo ae hc.cl hc.n4 (by show 3 < 1000;decide) ?_;rw[gS,gS];exact k
theorem DS(hc:CF K (p.c 0))(h0:p.pr 0)(F:aB P w K mg base (CXE P w) true 2 f fd bN (o9 K)):aB P w K mg base (CXE P w) true 2 f fd bN (rN p.rep (p.c 0) CG):=by
 refine F.imp λvs H Q E h=> ?_;obtain⟨x,dx,H0,us,s,rfl,⟨nm,kp,g,l,rfl,rfl,ok⟩,h1,h2,ne,e,k⟩:=h;refine ex7 x (p.c 0) dx _ _ _ _ (an4 rfl hc (by rw[e];exact ae) (k _ (made h1 h2 e) ⟨ok,h0,dx,?_⟩));rw[ae]
 rfl
def uD(K:PySem.W.Frag):Sp:=λvs H Q _=>∃(x C dx:Addr) (nm kp:V) (m g l:V),vs=[.ref x,nm,kp,m,g,l]/\CF K C/\H x=some (.ins C dx [])/\Q .non (upd H x (.ins C dx [("name",nm),("keep",kp),("grace",g),("slow",l),("many",m)]))
theorem wL(F:aL K "__init__" "Worker.__init__" c5 dV f fd)(k_Leaf___init__:Cmt P w K mg base true 2 "Leaf" "__init__" (o9 K) []):aB P w K mg base (CXE P w) true 3 f fd aX (uD K):=by
 rcases kz,(aa (bu (yl k_Leaf___init__ (hr.mono (by omega)) (by rfl) bL {pv 0,pv 1,pv 2,pv 4,pv 5}))
   (af (eV (pv 0) (pv 3) rfl))) with⟨x,C,dx,nm,kp,m,g,l,rfl,hc,hx,k⟩
 lk;refine ex7 x C dx nm kp g l (an4 rfl hc hx ?_);lk;refine qo ae hc.cl hc.n5 (by show 4 < 1000;decide) ?_;rw[gS];exact k
theorem zY(hc:CF K (p.c 1))(h0:p.pr 1)(F:aB P w K mg base (CXE P w) true 3 f fd aX (uD K)):aB P w K mg base (CXE P w) true 3 f fd aX (rN p.rep (p.c 1) vY):=by
 refine F.imp λvs H Q E h=> ?_;obtain⟨x,dx,H0,us,s,rfl,⟨nm,kp,m,g,l,rfl,rfl,ok⟩,h1,h2,ne,e,k⟩:=h;refine ex8 x (p.c 1) dx _ _ _ _ _ (an4 rfl hc (by rw[e];exact ae) (k _ (made h1 h2 e) ⟨ok,h0,dx,?_⟩));rw[ae]
 rfl
theorem zT(hc:CF K (p.c 2))(h0:p.pr 2)(F:aB P w K mg base (CXE P w) true 3 f fd aX (uD K)):aB P w K mg base (CXE P w) true 3 f fd aX (rN p.rep (p.c 2) w5):=by
 refine F.imp λvs H Q E h=> ?_;obtain⟨x,dx,H0,us,s,rfl,⟨nm,kp,m,g,l,rfl,rfl,ok⟩,h1,h2,ne,e,k⟩:=h;refine ex8 x (p.c 2) dx _ _ _ _ _ (an4 rfl hc (by rw[e];exact ae) (k _ (made h1 h2 e) ⟨ok,h0,dx,?_⟩));rw[ae]
 rfl
def zo(K:PySem.W.Frag):Sp:=λvs H Q _=>∃(x C dx:Addr) (nm kp:V) (g l:V),vs=[.ref x,nm,kp,g,l]/\CF K C/\H x=some (.ins C dx [])/\Q .non (upd H x (.ins C dx [("name",nm),("keep",kp),("most",g),("span",l)]))
theorem pW(F:aL K "__init__" "Minder.__init__" cW dV f fd)(k_Child___init__:Cmt P w K mg base true 1 "Child" "__init__" (oW K) []):aB P w K mg base (CXE P w) true 2 f fd bw (zo K):=by
 rcases km,(aa (bu (yl k_Child___init__ (hr.mono (by omega)) (by rfl) bL {pv 0,pv 1,pv 2}))
   (aa (eV (pv 0) (pv 3) rfl)
   (af (eV (pv 0) (pv 4) rfl)))) with⟨x,C,dx,nm,kp,g,l,rfl,hc,hx,k⟩
 lk;refine ex5 x C dx nm kp (an4 rfl hc hx ?_);lk;refine qo ae hc.cl hc.n6 (by show 2 < 1000;decide) ?_;lk;refine qo ae hc.cl hc.n7 (by show 3 < 1000;decide) ?_;rw[gS,gS];exact k
theorem m7{j:Nat}(h3:3<=j)(hc:CF K (p.c j))(h0:p.pr j)(F:aB P w K mg base (CXE P w) true 2 f fd bw (zo K)):aB P w K mg base (CXE P w) true 2 f fd bw (rN p.rep (p.c j) (lh j)):=by
 refine F.imp λvs H Q E h=> ?_;obtain⟨x,dx,H0,us,s,rfl,⟨nm,kp,g,l,rfl,rfl,ok⟩,h1,h2,ne,e,k⟩:=h;refine ex7 x (p.c j) dx _ _ _ _ (an4 rfl hc (by rw[e];exact ae) (k _ (made h1 h2 e) ⟨ok,h0,dx,?_⟩));rw[ae,sC h3 ok]
theorem qM{j:Nat}(F:aL K "leaf" "Leaf.leaf" iz dV f fd)(hj:p.pr j)(h3:j < 3):aB P w K mg base (CXE P w) true 1 f fd iT (pG p.rep (p.c j)):=by
 refine F.okN uc (λvs H Q E h=> ?_) (λcdv A outer s H vs Q E hr h=> ?_)
 .obtain ⟨a,dx,fs,s,rfl,_⟩:=h
  rfl
 .obtain ⟨a,dx,fs,s,rfl,hR,hi,k⟩:=h;obtain⟨e,rfl,ok⟩:=jW hj hR hi;refine⟨_,(af (av ig)),?_⟩
  fin2
  have k:=k _ (aF.refl _);rw[decide_eq_true (by lia)] at k;exact k
theorem pX{j:Nat}(F:aL K "leaf" "Minder.leaf" gq dV f fd)(hj:p.pr j)(h3:3<=j):aB P w K mg base (CXE P w) true 1 f fd fZ (pG p.rep (p.c j)):=by
 refine F.okN p8 (λvs H Q E h=> ?_) (λcdv A outer s H vs Q E hr h=> ?_)
 .obtain ⟨a,dx,fs,s,rfl,_⟩:=h
  rfl
 .obtain ⟨a,dx,fs,s,rfl,hR,hi,k⟩:=h;obtain⟨e,rfl,ok⟩:=jW hj hR hi;refine⟨_,(af (av ig)),?_⟩
  fin2
  have k:=k _ (aF.refl _);rw[decide_eq_false (by lia)] at k;exact k
def nJ(s:Sh):List Str:=match s.kind with
 | 0=>["idle"]
 | 1=>["steady",bI s.many]
 | _=>["falls",bI s.many]
def kl(R:Rep)(C:Addr):Sp:=λvs H Q _=>∃(a dx:Addr) (fs:List (Str × V)) (s:Sh),vs=[.ref a]/\R H a s/\H a=some (.ins C dx fs)/\s.kind < 3∧
 ∀(q:Addr) (H':Hp),aF H H'->H q=none->H' q=some (.lst ((nJ s).map V.str))->Q (.ref q) H'
theorem CW(F:aL K "work_words" "Leaf.work_words" cY dV f fd)(hj:p.pr 0):aB P w K mg base (CXE P w) true 1 f fd cQ (kl p.rep (p.c 0)):=by
 refine F.okN ko (λvs H Q E h=> ?_) (λcdv A outer s H vs Q E hr h=> ?_)
 .obtain ⟨a,dx,fs,s,rfl,_⟩:=h
  rfl
 .obtain ⟨a,dx,fs,s,rfl,hR,hi,h3,k⟩:=h;obtain⟨e,rfl,ok⟩:=jW hj hR hi;refine⟨_,(af (av (aR {(aq)}))),?_⟩
  fin2
  refine⟨l8 (show 1<=100 by decide),λq hq=>k q _ (aj hq) hq ?_⟩;rw[ae];unfold nJ;rw[e]
  rfl
theorem BY(F:aL K "work_words" "Steady.work_words" cz dV f fd)(T:Txt mg)(hj:p.pr 1)(hc:CF K (p.c 1)):aB P w K mg base (CXE P w) true 1 f fd cA (kl p.rep (p.c 1)):=by
 refine F.okN i8 (λvs H Q E h=> ?_) (λcdv A outer s H vs Q E hr h=> ?_)
 .obtain ⟨a,dx,fs,s,rfl,_⟩:=h
  rfl
 .obtain ⟨a,dx,fs,s,rfl,hR,hi,h3,k⟩:=h;obtain⟨e,rfl,ok⟩:=jW hj hR hi;refine⟨_,(af (av (aR {(aq),aZ aM (by rfl) T.eu cu {aV (pv 0) rfl}}))),?_⟩
  fin2
  refine⟨_,rfl,a,p.c 1,dx,_,_,rfl,hi,hc.cl,hc.n5,yE (.inl e),_,rfl,bo ok.m0 ok.m1,l8 (show 2<=100 by decide),λq hq=>k q _ (aj hq) hq ?_⟩;rw[ae];unfold nJ;rw[e]
  rfl
theorem BW(F:aL K "work_words" "Faller.work_words" cw dV f fd)(T:Txt mg)(hj:p.pr 2)(hc:CF K (p.c 2)):aB P w K mg base (CXE P w) true 1 f fd cv (kl p.rep (p.c 2)):=by
 refine F.okN iM (λvs H Q E h=> ?_) (λcdv A outer s H vs Q E hr h=> ?_)
 .obtain ⟨a,dx,fs,s,rfl,_⟩:=h
  rfl
 .obtain ⟨a,dx,fs,s,rfl,hR,hi,h3,k⟩:=h;obtain⟨e,rfl,ok⟩:=jW hj hR hi;refine⟨_,(af (av (aR {(aq),aZ aM (by rfl) T.eu cu {aV (pv 0) rfl}}))),?_⟩
  fin2
  refine⟨_,rfl,a,p.c 2,dx,_,_,rfl,hi,hc.cl,hc.n5,yE (.inr e),_,rfl,bo ok.m0 ok.m1,l8 (show 2<=100 by decide),λq hq=>k q _ (aj hq) hq ?_⟩;rw[ae];unfold nJ;rw[e]
  rfl
theorem xZ{s:Sh}(h:s.kind < 3):words s=[("leaf":Str),s.keep,bI s.bG,bI s.cX]++nJ s:=by
 unfold words nJ;have:s.kind=0\/s.kind=1\/s.kind=2:=by lia
 rcases this with z | z | z <;> rw[z] <;> rfl
theorem CK(s:Sh):(nJ s).length<=2:=by
 unfold nJ
 split <;> simp
theorem mB{j:Nat}(F:aL K "words" "Leaf.words" g7 dV f fd)(T:Txt mg)(hj:p.pr j)(h3:j < 3)(hc:CF K (p.c j))(hs:gy P w K mg base 1 "work_words" (kl p.rep) λC=>C=p.c j):
  aB P w K mg base (CXE P w) true 2 f fd gW (o1 p.rep (p.c j)):=by
 refine F.okN se (λvs H Q E h=> ?_) (λcdv A outer s H vs Q E hr h=> ?_)
 .obtain ⟨a,dx,fs,s,rfl,_⟩:=h
  rfl
 .obtain ⟨a,dx,fs,s,rfl,hR,hi,k⟩:=h;have d_work_words:=hs.d;obtain⟨e,rfl,ok⟩:=jW hj hR hi;have h3:s.kind < 3:=by lia
  refine⟨_,(af (av (ao qm (aR {(aq),aV (pv 0) rfl,aZ aM (by rfl) T.eu cu {aV (pv 0) rfl},aZ aM (by rfl) T.eu cu {aV (pv 0) rfl}}) (pq (pv 0) d_work_words)))),?_⟩
  fin2
  refine⟨_,rfl,a,p.c j,dx,_,_,rfl,hi,hc.cl,hc.n2,zl _,_,rfl,a,p.c j,dx,_,_,rfl,hi,hc.cl,hc.n3,BA h3,_,rfl,bo ok.g0 ok.g1,_,rfl,a,p.c j,dx,_,_,rfl,hi,hc.cl,hc.n4,Du h3,_,rfl,bo ok.s0 ok.s1,
   l8 (show 4<=100 by decide),λu hu=> ?_⟩
  have s0:aF H (upd H u (.lst [V.str "leaf",.str s.keep,.str (bI s.bG),.str (bI s.cX)])):=aj hu;refine⟨_,rfl,a,p.c j,dx,_,_,_,rfl,s0 _ _ hi,⟨rfl,rfl,rfl⟩,(by unfold jI;split <;> rfl),a,dx,_,s,rfl,Pl.mono s0 hR,s0 _ _ hi,h3,λq H1 s1 hq1 hq2=> ?_⟩
  have hu1:=s1 _ _ (ae (H:=H) (a:=u));refine ex4 u q _ _ (an6 rfl rfl hu1 hq2 ?_ (λy hy=> ?_))
  .rw [List.length_map];have:=CK s;exact l8 (by show 4 + _<=100;lia)
  .refine k y _ ((s0.trans s1).trans (aj hy)) ((s0.trans s1).free hy) ?_;rw[ae,xZ h3,List.map_append]
   rfl
def Bw:Nat->Str
 | 3=>"one"
 | 4=>"all"
 | _=>"rest"
def pP(R:Rep)(C:Addr):Sp:=λvs H Q _=>∃(a dx:Addr) (fs:List (Str × V)) (s:Sh),vs=[.ref a]/\R H a s/\H a=some (.ins C dx fs)/\Q (.str (Bw s.kind)) H
theorem D5(F:aL K "way" "Minder.way" gU dV f fd)(hj:p.pr 3):aB P w K mg base (CXE P w) true 1 f fd gX (pP p.rep (p.c 3)):=by
 refine F.okN rM (λvs H Q E h=> ?_) (λcdv A outer s H vs Q E hr h=> ?_)
 .obtain ⟨a,dx,fs,s,rfl,_⟩:=h
  rfl
 .obtain ⟨a,dx,fs,s,rfl,hR,hi,k⟩:=h;obtain⟨e,rfl,ok⟩:=jW hj hR hi;refine⟨_,(af (av aq)),?_⟩
  fin2
  rw[e] at k;exact k
theorem D3(F:aL K "way" "AllMinder.way" dW dV f fd)(hj:p.pr 4):aB P w K mg base (CXE P w) true 1 f fd dZ (pP p.rep (p.c 4)):=by
 refine F.okN nz (λvs H Q E h=> ?_) (λcdv A outer s H vs Q E hr h=> ?_)
 .obtain ⟨a,dx,fs,s,rfl,_⟩:=h
  rfl
 .obtain ⟨a,dx,fs,s,rfl,hR,hi,k⟩:=h;obtain⟨e,rfl,ok⟩:=jW hj hR hi;refine⟨_,(af (av aq)),?_⟩
  fin2
  rw[e] at k;exact k
theorem Dx(F:aL K "way" "RestMinder.way" dq dV f fd)(hj:p.pr 5):aB P w K mg base (CXE P w) true 1 f fd dC (pP p.rep (p.c 5)):=by
 refine F.okN kT (λvs H Q E h=> ?_) (λcdv A outer s H vs Q E hr h=> ?_)
 .obtain ⟨a,dx,fs,s,rfl,_⟩:=h
  rfl
 .obtain ⟨a,dx,fs,s,rfl,hR,hi,k⟩:=h;obtain⟨e,rfl,ok⟩:=jW hj hR hi;refine⟨_,(af (av aq)),?_⟩
  fin2
  rw[e] at k;exact k
theorem vi{s:Sh}(h:3<=s.kind)(ok:OkS s):words s=[("minder":Str),s.keep,Bw s.kind,bI s.bG,bI s.cX]:=by
 unfold words Bw;have:s.kind=3\/s.kind=4\/s.kind=5:=by have:=ok.kd;lia
 rcases this with z | z | z <;> rw[z] <;> rfl
theorem mT{j:Nat}(F:aL K "words" "Minder.words" fv dV f fd)(T:Txt mg)(hj:p.pr j)(h3:3<=j)(hc:CF K (p.c j))(hs:gy P w K mg base 1 "way" (pP p.rep) λC=>C=p.c j):
  aB P w K mg base (CXE P w) true 2 f fd eU (o1 p.rep (p.c j)):=by
 refine F.okN oN (λvs H Q E h=> ?_) (λcdv A outer s H vs Q E hr h=> ?_)
 .obtain ⟨a,dx,fs,s,rfl,_⟩:=h
  rfl
 .obtain ⟨a,dx,fs,s,rfl,hR,hi,k⟩:=h;have d_way:=hs.d;obtain⟨e,rfl,ok⟩:=jW hj hR hi;have h3:3<=s.kind:=by lia
  have fm:=sC h3 ok;refine⟨_,(af (av (aR {(aq),aV (pv 0) rfl,pq (pv 0) d_way,aZ aM (by rfl) T.eu cu {aV (pv 0) rfl},aZ aM (by rfl) T.eu cu {aV (pv 0) rfl}}))),?_⟩
  fin2
  refine⟨_,rfl,a,p.c j,dx,_,_,rfl,hi,hc.cl,hc.n2,zl _,_,rfl,a,p.c j,dx,_,_,_,rfl,hi,⟨rfl,rfl,rfl⟩,(by rw[fm];rfl),a,dx,_,s,rfl,hR,hi,_,rfl,a,p.c j,dx,_,.int s.bG,rfl,hi,hc.cl,hc.n6,(by rw[fm];rfl),_,rfl,bo ok.g0 ok.g1,
   _,rfl,a,p.c j,dx,_,.int s.cX,rfl,hi,hc.cl,hc.n7,(by rw[fm];rfl),_,rfl,bo ok.s0 ok.s1,l8 (show 5<=100 by decide),λq hq=>k q _ (aj hq) hq ?_⟩
  rw[ae,vi h3 ok]
  rfl
open PySem L2 Shp Nm Tr Hs PySem.NumText
abbrev Aa:List Str:=["text","signs"]
abbrev sL:List Str:=["text","signs"]
theorem w9:aw Aa sL (ah nj):=by kt_ors
abbrev p7:List Str:=["text"]
abbrev iK:List Str:=["text"]
theorem oB:aw p7 iK (ah eX):=by kt_ors
abbrev w6:List Str:=["text","most","bound"]
abbrev iG:List Str:=["text","most"]
theorem lR:aw w6 iG (ah iI):=by kt_ors
abbrev Az:List Str:=["text"]
abbrev sx:List Str:=["text"]
theorem xV:aw Az sx (ah mZ):=by kt_ors
abbrev zO:List Str:=["words","name","keep","grace","slow","work","many"]
abbrev sI:List Str:=["words"]
theorem cF:aw zO sI (ah nI):=by kt_ors
abbrev v8:List Str:=["words","name","keep","way","most","span"]
abbrev nY:List Str:=["words"]
theorem b9:aw v8 nY (ah jr):=by kt_ors
abbrev oF:List Str:=["words"]
abbrev ia:List Str:=["words"]
theorem nD:aw oF ia (ah dU):=by kt_ors
abbrev xp:List Str:=["words"]
abbrev qa:List Str:=["words"]
theorem wc:aw xp qa (ah kH):=by kt_ors
abbrev oq:List Str:=["self"]
abbrev ed:List Str:=["self"]
theorem mL:aw oq ed (ah d0):=by kt_ors
abbrev uN:List Str:=["self"]
abbrev lM:List Str:=["self"]
theorem sf:aw uN lM (ah gQ):=by kt_ors
abbrev wd:List Str:=["self","name"]
abbrev fR:List Str:=["self","name"]
theorem lq:aw wd fR (ah fU):=by kt_ors
abbrev vG:List Str:=["self","child","blanks","above"]
abbrev nN:List Str:=["self","child","blanks","above"]
theorem vh:aw vG nN (ah ja):=by kt_ors
abbrev jJ:List Str:=["self","blanks","place","fits"]
abbrev ei:List Str:=["self","blanks"]
theorem bW:aw jJ ei (ah cx):=by kt_ors
abbrev rL:List Str:=["row","rest"]
abbrev jR:List Str:=["row"]
theorem i6:aw rL jR (ah f9):=by kt_ors
abbrev yv:List Str:=["row"]
abbrev pw:List Str:=["row"]
theorem vS:aw yv pw (ah kc):=by kt_ors
abbrev qf:List Str:=["row"]
abbrev jd:List Str:=["row"]
theorem ox:aw qf jd (ah fu):=by kt_ors
abbrev rf:List Str:=["tree","child","blanks","above"]
abbrev jO:List Str:=["tree","child","blanks","above"]
theorem qJ:aw rf jO (ah fY):=by kt_ors
abbrev qI:List Str:=["tree","row","number","child","blanks","above"]
abbrev pk:List Str:=["tree","row","number"]
theorem fK:aw qI pk (ah eZ):=by kt_ors
abbrev EJ:List Str:=["text","tree","number","row"]
abbrev CV:List Str:=["text"]
theorem o7:aw EJ CV (ah xC):=by kt_ors
abbrev rE:List Str:=["child","blanks"]
abbrev jN:List Str:=["child","blanks"]
theorem pd:aw rE jN (ah fX):=by kt_ors
abbrev AW:List Str:=["tree","rows"]
abbrev tq:List Str:=["tree"]
theorem qy:aw AW tq (ah mw):=by kt_ors
theorem fM{n:Nat}(h:n<=100010):n<=sizeLine:=by rw[sizeLine_eq];lia
def pB:Sp:=λvs H Q _=>∃x y:Str,vs=[.str x,.str y]/\x.length<=100000/\∀H',aF H H'->Q (.bl ((cds x).all λc=>(cds y).contains c)) H'
theorem zC(F:aL K "made_of" "made_of" nj dV f fd)(T:Txt mg):aB P w K mg base (CXE P w) true 1 f fd sL pB:=by
 rcases w9,(af (av (aC (CM rfl) (by rfl) T.Gz EX {uS (x:="sign") (fr:=[("signs",1)]) (by kd_p) rfl (Fg (pv 0)) (λ_ _ _ _=>vw) (λ_ _ _ _=>(yL AM (pv 0) (pv 1) (by with_unfolding_all rfl)))}))) with⟨x,y,rfl,hx,k⟩;have hz:=aA x;lk;refine gL (J:=Its x) (n:=x.length) (λi ys H'=>H'=H/\ys=((cds x).take i).map λc=>V.bl ((cds y).contains c)) ⟨rfl,rfl⟩ (λi ys H' hi _=>hi) (λys H' _=>rfl) ?_ ?_
 .rintro i ys H' v H2 hi ⟨rfl,rfl⟩ ⟨rfl,c,hc,rfl⟩;have hc:(cds x)[i]? =some c:=by rw[<- hc];exact Array.getElem?_toList
  lk;rw[FL];refine⟨?_,rfl,?_⟩
  .rw [List.length_map,List.length_take,sizeLine_eq]
   lia
  .rw [List.take_add_one,hc,List.map_append]
   rfl
 .rintro ys H' ⟨rfl,rfl⟩;rw[show x.length=(cds x).length from hz.symm,List.take_length];refine⟨fM (by rw[List.length_map];lia),λq hq=> ?_⟩;refine⟨q,(cds x).map λc=>(cds y).contains c,rfl,?_,?_⟩
  .rw [List.map_map];exact SqL.of ae
  .rw [List.all_map];exact k _ (aj hq)
def nmB(x:Str):Bool:=decide (1<=x.length) && decide (x.length<=12) && (cds x).all tJ
def wW:Sp:=λvs H Q _=>∃x:Str,vs=[.str x]/\x.length<=100000/\∀H',aF H H'->Q (.bl (nmB x)) H'
theorem E7:("abcdefghijklmnopqrstuvwxyz":Str)++("0123456789":Str)="abcdefghijklmnopqrstuvwxyz0123456789":=by decide +kernel
theorem zF{tL tN tF:Tok}(F:aL K "is_name" "is_name" mZ dV f fd)(T:Txt mg)(ny:mg "LETTERS"=some (.str "abcdefghijklmnopqrstuvwxyz" tL))(mK:mg "LONGEST"=some (.int 12 tN))(eO:mg "FIGURES"=some (.str "0123456789" tF))
  (eP:Cal P w K mg base true 1 "made_of" pB []):aB P w K mg base (CXE P w) true 2 f fd sx wW:=by
 refine F.pF xV λvs H Q E h=> ?_;obtain⟨x,rfl,hx,k⟩:=h;refine⟨rfl,λcdv A outer s hr=>⟨_,(af (av (mF (B2 jM EB ag (aC eN (by rfl) T.dh bS {pv 0}) (gO (by rfl) mK)) (mO (bZ eP {pv 0,ao aS (u5 (by rfl) ny) (u5 (by rfl) eO)}))))),?_⟩⟩
 fin2
 have fl:Q (.bl (nmB x)) H:=k _ (aF.refl _);lk;refine⟨fM (by lia),?_⟩;lk;refine bF (λe1=> ?_) (λe1=> ?_)
 .have e1:(0:Int) < (x.length:Int):=of_decide_eq_true e1;lk;refine bF (λe2=> ?_) (λe2=> ?_)
  .have e2:(x.length:Int)<=12:=of_decide_eq_true e2;lk;refine⟨by decide +kernel,?_⟩;lk;refine⟨hx,λH1 s1=> ?_⟩;rw[E7]
   have:nmB x=(cds x).all λc=>(cds "abcdefghijklmnopqrstuvwxyz0123456789").contains c:=by
    unfold nmB;rw[decide_eq_true (show 1<=x.length by lia),decide_eq_true (show x.length<=12 by lia),Bool.true_and,Bool.true_and]
    congr 1
    funext c
    exact(Fj c).symm
   rw[<- this];exact k _ s1
  .have e2:¬(x.length:Int)<=12:=λz=>e2 (decide_eq_true z)
   have:nmB x=false:=by
    unfold nmB;rw[decide_eq_false (show ¬x.length<=12 by lia),Bool.and_false,Bool.false_and]
   rw[this] at fl;lk;exact fl
 .have e1:¬(0:Int) < (x.length:Int):=λz=>e1 (decide_eq_true z)
  have:nmB x=false:=by
   unfold nmB;rw[decide_eq_false (show ¬1<=x.length by lia),Bool.false_and,Bool.false_and]
  rw[this] at fl;lk;exact fl
def CO:Sp:=λvs H Q _=>∃x:Str,vs=[.str x]/\x.length<=100000/\∀H',aF H H'->Q (.bl (kb x)) H'
theorem DN{tM tF:Tok}(F:aL K "told_plainly" "told_plainly" eX dV f fd)(T:Txt mg)(ff:mg "MOST_FIGURES"=some (.int 7 tM))(eO:mg "FIGURES"=some (.str "0123456789" tF))
  (eP:Cal P w K mg base true 1 "made_of" pB []):aB P w K mg base (CXE P w) true 2 f fd iK CO:=by
 refine F.pF oB λvs H Q E h=> ?_;obtain⟨x,rfl,hx,k⟩:=h
 refine⟨rfl,λcdv A outer s hr=>⟨_,(aa (aW (PW.pt (gv (zct cq (pv 0) aq) (gk (zct En (aC eN (by rfl) T.dh bS {pv 0}) (gO (by rfl) ff))))) (af (av ig)) ay)
   (aa (aW (PW.pt (xN (zct cq (fJ (pv 0) ag (λ_ _=>rfl)) aq) (uf (zct kY (pv 0) aq)))) (af (av ig)) ay)
   (af (av (bZ eP {pv 0,u5 (by rfl) eO}))))),?_⟩⟩
 fin2
 have no:kb x=false->Q (.bl false) H:=λz=>by
  have:=k H (aF.refl _);rw[z] at this;exact this
 lk;refine bF (λe=> ?_) (λe=> ?_)
 .have e:x="":=V.str.inj (of_decide_eq_true e);refine no ?_;subst e
  rfl
 have e:x≠"":=λz=>e (decide_eq_true (congrArg V.str z));have ne:cds x≠[]:=λz=>e (fI z);lk;refine⟨fM (by lia),?_⟩;lk;refine bF (λe2=> ?_) (λe2=> ?_)
 .have e2:(7:Int) < (x.length:Int):=of_decide_eq_true e2;refine no ?_;unfold kb;rw[decide_eq_false (show ¬x.length<=7 by lia),Bool.and_false,Bool.false_and,Bool.false_and]
 have e2:¬(7:Int) < (x.length:Int):=λz=>e2 (decide_eq_true z)
 obtain⟨c,r,hc⟩:∃c r,cds x=c::r:=by
  cases z:cds x with
  | nil=>exact absurd z ne
  | cons c r=>exact⟨c,r,rfl⟩
 have h0:x.cps[0]? =some c:=by rw[<- Array.getElem?_toList];show(cds x)[0]? =_;rw[hc];rfl
 have lp:0 < x.length:=by rw[<- aA,hc];exact Nat.succ_pos _
 lk;refine ex3 _ _ c (an7 rfl rfl (by lia) (by lia) (by show(0:Int) < (x.length:Int);lia) h0 ?_)
 have fin:((cds x).head? =some 48->cds x=[48])->∀H',aF H H'->Q (.bl ((cds x).all λc=>(cds "0123456789").contains c)) H':=λz H' s'=>by
  have:=k H' s';unfold kb at this;rw[decide_eq_true ne,decide_eq_true (show x.length<=7 by lia),decide_eq_true z,Bool.true_and,Bool.true_and,Bool.true_and] at this;have e:(λc=>(cds "0123456789").contains c)=ir:=funext D4;rw[e];exact this
 lk;refine bF (λe3=> ?_) (λe3=> ?_)
 .have e3:c=48:=by
   have z:=V.str.inj (of_decide_eq_true e3);have z:=congrArg cds z;exact List.head_eq_of_cons_eq z
  subst e3;lk;refine bF (λe4=> ?_) (λe4=> ?_)
  .refine no ?_
   have e4:x≠"0":=λz=>by
    rw[z] at e4;exact absurd e4 (by decide)
   have n48:¬((cds x).head? =some 48->cds x=[48]):=λz=>e4 (fI (z (by rw[hc];rfl)));unfold kb;rw[decide_eq_false n48,Bool.and_false,Bool.false_and]
  .have e4:x="0":=by
    by_cases z:x="0"
    .exact z
    .exact absurd (by simpa using z) e4
   lk;exact⟨hx,λH1 s1=>fin (λ_=>by rw[e4];rfl) H1 s1⟩
 .have e3:c≠48:=λz=>e3 (by subst z;exact decide_eq_true rfl);lk;exact⟨hx,λH1 s1=>fin (λz=>by rw[hc] at z;exact absurd (Option.some.inj z) e3) H1 s1⟩
def zh:Sp:=λvs H Q _=>∃(x:Str) (v:Int),vs=[.str x,.int 1000000]/\numOf x=some v/\∀H',aF H H'->Q (.int v) H'
theorem EW{tG:Tok}(F:aL K "number_in" "number_in" iI dV f fd)(T:Txt mg)(kB:mg "GREATEST"=some (.int 1000000 tG))
  (fq:Cal P w K mg base true 2 "told_plainly" CO []):aB P w K mg base (CXE P w) true 3 f fd iG zh:=by
 rcases lR,(aa (bg (i:=2) lR.nd (aC (An rfl) (by rfl) T.GS Fz {pv 1,gO (by rfl) kB}))
   (aa (aW (PW.pt (gv (gu (ee (bZ fq {pv 0}))) (gk (zct En (aZ jV (by rfl) T.A5 xX {pv 0}) (pv 2))))) (af jh) ay)
   (af (av (aZ jV (by rfl) T.A5 xX {pv 0}))))) with⟨x,v,rfl,hn,k⟩
 obtain⟨hp,hi,hl,h0,h1⟩:=cI hn;lk;refine⟨by lia,λH1 s1=> ?_⟩;rw[hp];lk;refine ex2 x v (an4 rfl hi (by lia) ?_);lk;refine bF (λe=> ?_) (λe=> ?_)
 .exact absurd (of_decide_eq_true e) (by lia)
 .lk;exact⟨x,v,rfl,hi,by lia,k _ s1⟩
structure MkT(P:Program)(w:World)(K:PySem.W.Frag)(mg:Str->Option Value)(base:Heap)(p:Pl)(k:Nat):Prop where
 leaf:Mak P w K mg base true k "Leaf" (p.c 0) (rN p.rep (p.c 0) CG) []
 FX:Mak P w K mg base true k "Steady" (p.c 1) (rN p.rep (p.c 1) vY) []
 Ft:Mak P w K mg base true k "Faller" (p.c 2) (rN p.rep (p.c 2) w5) []
 one:Mak P w K mg base true k "Minder" (p.c 3) (rN p.rep (p.c 3) (lh 3)) []
 all:Mak P w K mg base true k "AllMinder" (p.c 4) (rN p.rep (p.c 4) (lh 4)) []
 rest:Mak P w K mg base true k "RestMinder" (p.c 5) (rN p.rep (p.c 5) (lh 5)) []
def nR(K:PySem.W.Frag)(p:Pl)(b:Option Bool):Sp:=λvs H Q _=>∃(q:Addr) (ws:List Str) (s:Sh),vs=[.ref q]/\SqL K H q (ws.map V.str)/\rowOf ws=some s/\(b=some true->ws.head? =some ("leaf":Str))/\(b=some false->ws.head? ≠some ("leaf":Str))/\(∀x∈ws,x.length<=100000)/\∀a H',aF H H'->H a=none->p.rep H' a s->Q (.ref a) H'
theorem da{H H':Hp}{a:Addr}(e:aF H H')(h:H' a=none):H a=none:=by
 cases z:H a with
 | none=>rfl
 | some o=>rw[e _ _ z] at h;cases h
theorem sT(ws:List Str):(ws.map V.str).all gH=true:=List.all_eq_true.mpr λx hx=>by
 obtain⟨y,_,rfl⟩:=List.mem_map.mp hx
 rfl
theorem z8(F:aL K "leaf_in" "leaf_in" nI dV f fd)(T:Txt mg)(M:MkT P w K mg base p 3)(a9:Cal P w K mg base true 3 "number_in" zh [.int 1000000]):aB P w K mg base (CXE P w) true 5 f fd sI (nR K p (some true)):=by
 refine F.okN cF (λvs H Q E h=> ?_) (λcdv A outer s0 H vs Q E hr h=> ?_)
 .obtain ⟨q,ws,s,rfl,_⟩:=h
  rfl
 .obtain ⟨q,ws,s,rfl,hS,hw,hd,_,hz,k⟩:=h;have m_Leaf_4:=M.leaf;have m_Steady_5:=M.FX;have m_Faller_5:=M.Ft;have ok:=(Cn hw).okS
  refine⟨_,(aa (bg (i:=1) cF.nd (zix az (pv 0) (n8 jo ag)))
   (aa (bg (i:=2) cF.nd (zix az (pv 0) ag))
   (aa (bg (i:=3) cF.nd (bZ a9 {zix az (pv 0) ag}))
   (aa (bg (i:=4) cF.nd (bZ a9 {zix az (pv 0) ag}))
   (aa (bg (i:=5) cF.nd (pI yV (pv 0) (o6 ag) (o6 (n8 jo ag))))
   (aa (aW (zct (xk (yz hr)) (pv 5) (aR {(aq)})) (af (av (m4 m_Leaf_4 (hr.mono (by omega)) (by rfl) bL {pv 1,pv 2,pv 3,pv 4}))) ay)
   (aa (aW (zct kY (aC aG (by rfl) T.dh bS {pv 5}) ag) (af (av fj)) ay)
   (aa (bg (i:=6) cF.nd (bZ a9 {zix az (pv 5) ag}))
   (aa (aW (zct cq (zix az (pv 5) ag) aq) (af (av (m4 m_Steady_5 (hr.mono (by omega)) (by rfl) bL {pv 1,pv 2,pv 6,pv 3,pv 4}))) ay)
   (aa (aW (zct cq (zix az (pv 5) ag) aq) (af (av (m4 m_Faller_5 (hr.mono (by omega)) (by rfl) bL {pv 1,pv 2,pv 6,pv 3,pv 4}))) ay)
   (af (av fj)))))))))))),?_⟩
  fin2
  rcases qD hw (hd rfl) with⟨kp,g,l,nm,gi,li,rfl,c1,c2,eg,el,rfl⟩ | ⟨kp,g,l,wk,m,nm,gi,li,mi,kd,rfl,c1,c2,ck,eg,el,em,rfl⟩
  .lk;refine ex4 q _ _ (V.str nm) (an5 rfl rfl hS rfl ?_);lk;refine ex4 q _ _ (V.str kp) (an5 rfl rfl hS rfl ?_);lk;refine ex4 q _ _ (V.str g) (an5 rfl rfl hS rfl ?_);refine ex2 g gi (an3 rfl eg (λH1 s1=> ?_));lk;refine ex4 q _ _ (V.str l) (an5 rfl rfl (hS.same s1) rfl ?_);refine ex2 l li (an3 rfl el (λH2 s2=> ?_));lk;refine ex2 q _ (an3 rfl ((hS.same s1).same s2) (λp1 hp1=> ?_));lk;refine⟨l8 (by decide),λp2 hp2=> ?_⟩;lk;refine ex4 p1 p2 ([V.str "idle"]) ([V.str "idle"]) (an7 rfl rfl (SqL.of (aj hp2 _ _ ae)) (SqL.of ae) rfl rfl ?_);lk;intro x dx n1 n2 n3;have sH:aF H (upd (upd H2 p1 (.lst [V.str "idle"])) p2 (.lst [V.str "idle"])):=λb o e=>aj hp2 _ _ (aj hp1 _ _ (s2 _ _ (s1 _ _ e)));exact⟨x,dx,_,_,_,rfl,⟨nm,kp,gi,li,rfl,rfl,ok⟩,n1,n2,n3,rfl,λH' s' r=>⟨rfl,k x H' (λb o e=>s' _ _ (sH _ _ e)) (da sH n1) r⟩⟩
  .lk;refine ex4 q _ _ (V.str nm) (an5 rfl rfl hS rfl ?_);lk;refine ex4 q _ _ (V.str kp) (an5 rfl rfl hS rfl ?_);lk;refine ex4 q _ _ (V.str g) (an5 rfl rfl hS rfl ?_);refine ex2 g gi (an3 rfl eg (λH1 s1=> ?_));lk;refine ex4 q _ _ (V.str l) (an5 rfl rfl (hS.same s1) rfl ?_);refine ex2 l li (an3 rfl el (λH2 s2=> ?_));lk;refine ex2 q _ (an3 rfl ((hS.same s1).same s2) (λp1 hp1=> ?_));have w1:∀{Hx:Hp},aF (upd H2 p1 (.lst [V.str wk,V.str m])) Hx->Hx p1=some (.lst [V.str wk,V.str m]):=λz=>z _ _ ae;lk;refine⟨l8 (by decide),λp2 hp2=> ?_⟩;lk;refine ex4 p1 p2 ([V.str wk,V.str m]) ([V.str "idle"]) (an7 rfl rfl (SqL.of (aj hp2 _ _ ae)) (SqL.of ae) rfl rfl ?_)
   have ef:oj [V.str wk,V.str m] [V.str "idle"]=false:=by
    show(_ && false)=false;exact Bool.and_false _
   refine⟨_,rfl,?_⟩;refine bF (λe=> ?_) (λe=> ?_)
   .have e:oj [V.str wk,V.str m] [V.str "idle"]=true:=e;rw[ef] at e;cases e
   lk;have sH:aF H (upd (upd H2 p1 (.lst [V.str wk,V.str m])) p2 (.lst [V.str "idle"])):=λb o e=>aj hp2 _ _ (aj hp1 _ _ (s2 _ _ (s1 _ _ e)));refine ex2 p1 _ (an3 rfl (.inl (SqL.of (w1 (aj hp2)))) ?_);lk;refine ex4 p1 _ _ (V.str m) (an5 rfl rfl (SqL.of (w1 (aj hp2))) rfl ?_);refine ex2 m mi (an3 rfl em (λH3 s3=> ?_));have w3:=w1 (λb o e=>s3 _ _ (aj hp2 _ _ e));lk;refine ex4 p1 _ _ (V.str wk) (an5 rfl rfl (SqL.of w3) rfl ?_);rcases ck with⟨rfl,rfl⟩ | ⟨rfl,rfl⟩
   .lk;intro x dx n1 n2 n3;exact⟨x,dx,_,_,_,rfl,⟨nm,kp,mi,gi,li,rfl,rfl,ok⟩,n1,n2,n3,rfl,λH' s' r=>⟨rfl,k x H' (λb o e=>s' _ _ (s3 _ _ (sH _ _ e))) (da (λb o e=>s3 _ _ (sH _ _ e)) n1) r⟩⟩
   .lk;refine ex4 p1 _ _ (V.str "falls") (an5 rfl rfl (SqL.of w3) rfl ?_);lk;intro x dx n1 n2 n3;exact⟨x,dx,_,_,_,rfl,⟨nm,kp,mi,gi,li,rfl,rfl,ok⟩,n1,n2,n3,rfl,λH' s' r=>⟨rfl,k x H' (λb o e=>s' _ _ (s3 _ _ (sH _ _ e))) (da (λb o e=>s3 _ _ (sH _ _ e)) n1) r⟩⟩
theorem zL{tW:Tok}(F:aL K "minder_in" "minder_in" jr dV f fd)(T:Txt mg)(bH:mg "FEWEST_WORDS"=some (.int 6 tW))(M:MkT P w K mg base p 3)(a9:Cal P w K mg base true 3 "number_in" zh [.int 1000000]):aB P w K mg base (CXE P w) true 5 f fd nY (nR K p (some false)):=by
 refine F.okN b9 (λvs H Q E h=> ?_) (λcdv A outer s0 H vs Q E hr h=> ?_)
 .obtain ⟨q,ws,s,rfl,_⟩:=h
  rfl
 .obtain ⟨q,ws,s,rfl,hS,hw,_,hd,hz,k⟩:=h;have m_Minder_4:=M.one;have m_AllMinder_4:=M.all;have m_RestMinder_4:=M.rest;have ok:=(Cn hw).okS
  refine⟨_,(aa (bg (i:=1) b9.nd (zix az (pv 0) (n8 jo ag)))
   (aa (bg (i:=2) b9.nd (zix az (pv 0) ag))
   (aa (bg (i:=3) b9.nd (zix az (pv 0) ag))
   (aa (bg (i:=4) b9.nd (bZ a9 {zix az (pv 0) ag}))
   (aa (bg (i:=5) b9.nd (bZ a9 {zix az (pv 0) ag}))
   (aa (aW (PW.pt (gv (zct kY (aC aG (by rfl) T.dh bS {pv 0}) (gO (by rfl) bH)) (gk (zct cq (pv 5) ag)))) (af (av fj)) ay)
   (aa (aW (zct cq (pv 3) aq) (af (av (m4 m_Minder_4 (hr.mono (by omega)) (by rfl) bL {pv 1,pv 2,pv 4,pv 5}))) ay)
   (aa (aW (zct cq (pv 3) aq) (af (av (m4 m_AllMinder_4 (hr.mono (by omega)) (by rfl) bL {pv 1,pv 2,pv 4,pv 5}))) ay)
   (aa (aW (zct cq (pv 3) aq) (af (av (m4 m_RestMinder_4 (hr.mono (by omega)) (by rfl) bL {pv 1,pv 2,pv 4,pv 5}))) ay)
   (af (av fj))))))))))),?_⟩
  fin2
  obtain⟨kp,wy,m,sp,nm,mi,si,kd,rfl,c1,c2,ck,em,es,e0,rfl⟩:=kX hw (hd rfl);lk;refine ex4 q _ _ (V.str nm) (an5 rfl rfl hS rfl ?_);lk;refine ex4 q _ _ (V.str kp) (an5 rfl rfl hS rfl ?_);lk;refine ex4 q _ _ (V.str wy) (an5 rfl rfl hS rfl ?_);lk;refine ex4 q _ _ (V.str m) (an5 rfl rfl hS rfl ?_);refine ex2 m mi (an3 rfl em (λH1 s1=> ?_));lk;refine ex4 q _ _ (V.str sp) (an5 rfl rfl (hS.same s1) rfl ?_);refine ex2 sp si (an3 rfl es (λH2 s2=> ?_));lk;refine ex2 q _ (an3 rfl (.inl ((hS.same s1).same s2)) ?_);lk;refine bF (λe=> ?_) (λe=> ?_)
  .exact absurd (V.int.inj (of_decide_eq_true e)) e0
  have sH:aF H H2:=λb o e=>s2 _ _ (s1 _ _ e);rcases ck with⟨rfl,rfl⟩ | ⟨rfl,rfl⟩ | ⟨rfl,rfl⟩
  .lk;intro x dx n1 n2 n3;exact⟨x,dx,_,_,_,rfl,⟨nm,kp,mi,si,rfl,rfl,ok⟩,n1,n2,n3,rfl,λH' s' r=>⟨rfl,k x H' (λb o e=>s' _ _ (sH _ _ e)) (da sH n1) r⟩⟩
  .lk;intro x dx n1 n2 n3;exact⟨x,dx,_,_,_,rfl,⟨nm,kp,mi,si,rfl,rfl,ok⟩,n1,n2,n3,rfl,λH' s' r=>⟨rfl,k x H' (λb o e=>s' _ _ (sH _ _ e)) (da sH n1) r⟩⟩
  .lk;intro x dx n1 n2 n3;exact⟨x,dx,_,_,_,rfl,⟨nm,kp,mi,si,rfl,rfl,ok⟩,n1,n2,n3,rfl,λH' s' r=>⟨rfl,k x H' (λb o e=>s' _ _ (sH _ _ e)) (da sH n1) r⟩⟩
theorem xQ(F:aL K "by_first_word" "by_first_word" dU dV f fd)(T:Txt mg)(mR:Cal P w K mg base true 5 "leaf_in" (nR K p (some true)) [])(iY:Cal P w K mg base true 5 "minder_in" (nR K p (some false)) []):aB P w K mg base (CXE P w) true 6 f fd ia (nR K p none):=by
 refine F.okN nD (λvs H Q E h=> ?_) (λcdv A outer s0 H vs Q E hr h=> ?_)
 .obtain ⟨q,ws,s,rfl,_⟩:=h
  rfl
 .obtain ⟨q,ws,s,rfl,hS,hw,_,_,hz,k⟩:=h
  refine⟨_,(aa (aW (zct cq (zix az (pv 0) ag) aq) (af (av (bZ mR {pv 0}))) ay)
   (aa (aW (zct cq (zix az (pv 0) ag) aq) (af (av (bZ iY {pv 0}))) ay)
   (af (av fj)))),?_⟩
  fin2
  obtain⟨a,r,rfl⟩:∃a r,ws=a::r:=by
   cases ws with
   | nil=>cases hw
   | cons a r=>exact⟨a,r,rfl⟩
  lk;refine ex4 q _ _ (V.str a) (an5 rfl rfl hS (cj (j:=0) rfl) ?_);lk;refine bF (λe=> ?_) (λe=> ?_)
  .have e:a="leaf":=V.str.inj (of_decide_eq_true e);lk;exact⟨q,_,s,rfl,hS,hw,λ_=>congrArg some e,λz=>(by cases z),hz,k⟩
  .have e:a≠"leaf":=λz=>e (decide_eq_true (congrArg V.str z))
   have em:a="minder":=by
    obtain⟨_,_,_,_,_,_,_,_,e1,_⟩:=kX hw (λz=>e (Option.some.inj z));exact(List.cons.inj e1).1
   lk;refine ex4 q _ _ (V.str a) (an5 rfl rfl hS (cj (j:=0) rfl) ?_);subst em;lk;exact⟨q,_,s,rfl,hS,hw,λz=>(by cases z),λ_ z=>e (Option.some.inj z),hz,k⟩
theorem F3{x:Str}(h:dX x):nmB x=true:=by
 unfold nmB;rw[decide_eq_true h.1,decide_eq_true h.2.1,h.2.2]
 rfl
theorem DC{x:Str}(h:bD x):inV (.str x) [V.str "always",V.str "fallen",V.str "never"]=true:=by
 rcases h with rfl | rfl | rfl <;> rfl
theorem xA{tW:Tok}{aK:Addr}(F:aL K "child_in" "child_in" kH dV f fd)(T:Txt mg)(bH:mg "FEWEST_WORDS"=some (.int 6 tW))(uG:mg "KEEPS"=some (.ref aK))(tQ:∀H:Hp,SqT K H aK [V.str "always",V.str "fallen",V.str "never"])
  {aN:Addr} (j0:mg "NoNumber"=some (.ref aN)) (kg:rS K aN) (mE:Cal P w K mg base true 2 "is_name" wW []) (dP:Cal P w K mg base true 6 "by_first_word" (nR K p none) []):aB P w K mg base (CXE P w) true 7 f fd qa (nR K p none):=by
 refine F.okN wc (λvs H Q E h=> ?_) (λcdv A outer s0 H vs Q E hr h=> ?_)
 .obtain ⟨q,ws,s,rfl,_⟩:=h
  rfl
 .obtain ⟨q,ws,s,rfl,hS,hw,_,_,hz,k⟩:=h
  refine⟨_,(aa (aW (PW.pt (gv (zct jM (aC aG (by rfl) T.dh bS {pv 0}) (gO (by rfl) bH)) (gv (zct um (zix az (pv 0) ag) (C7 (by rfl) uG)) (gk (gu (ee (bZ mE {zix az (pv 0) (n8 jo ag)}))))))) (af (av fj)) ay)
   (af (xb ⟨rfl,rfl,rfl⟩ (λD pn' E' hT hP=>(af (av (kP dP (hr.mono (by omega)) (by rfl) (passes hT) {pv 0}))))
    ay
    (yq ⟨rfl,rfl,rfl⟩ (by rfl) j0 kg (λe o=>(af (av fj)))
    vd)))),?_⟩
  fin2
  have l6:6<=ws.length:=by
   rcases m6 hw with⟨a,b,c,d,e,g,rfl⟩ | ⟨a,b,c,d,e,g,i,rfl⟩
   .exact Nat.le_refl _
   .show 6<=7
    decide
  obtain⟨a,kp,r,nm,e1,e2,okk,okn⟩:∃(a kp:Str) (r:List Str) (nm:Str),ws=a::kp::r/\atI (ws.map V.str) (-1)=some (V.str nm)/\bD kp/\nm∈ws/\dX nm:=by
   by_cases z:ws.head? =some ("leaf":Str)
   .rcases qD hw z with⟨kp,g,l,nm,gi,li,rfl,c1,c2,_⟩ | ⟨kp,g,l,wk,m,nm,gi,li,mi,kd,rfl,c1,c2,_⟩
    .exact ⟨_,kp,_,nm,rfl,rfl,c1,by simp,c2⟩
    .exact ⟨_,kp,_,nm,rfl,rfl,c1,by simp,c2⟩
   .obtain ⟨kp,wy,m,sp,nm,mi,si,kd,rfl,c1,c2,_⟩:=kX hw z;exact⟨_,kp,_,nm,rfl,rfl,c1,by simp,c2⟩
  have dk:inV (.str kp) [V.str "always",V.str "fallen",V.str "never"]=true:=DC okk;lk;refine ex2 q _ (an3 rfl (.inl hS) ?_);lk;refine bF (λe=> ?_) (λe=> ?_)
  .have e:=of_decide_eq_true e;rw[List.length_map] at e;exact absurd e (by lia)
  lk;refine ex4 q _ _ (V.str kp) (an5 rfl rfl hS (cj (j:=1) (by rw[e1];rfl)) ?_);lk;refine ex2 aK _ (an5 rfl (.inr (tQ _)) rfl rfl ?_);refine⟨_,rfl,?_⟩;refine bF (λe=> ?_) (λe=> ?_)
  .have e:(!inV (.str kp) [V.str "always",V.str "fallen",V.str "never"])=true:=e;rw[dk] at e;cases e
  lk;refine ex4 q _ _ (V.str nm) (an5 rfl rfl hS e2 ?_);lk;refine⟨hz nm okn.1,λH1 s1=> ?_⟩;rw[F3 okn.2];lk;exact⟨q,ws,s,rfl,hS.same s1,hw,λz=>(by cases z),λz=>(by cases z),hz,λa H' s' n r=>k a H' (λb o e=>s' _ _ (s1 _ _ e)) (da s1 n) r⟩
open PySem L2 Shp Nm Tr Hs PySem.NumText
def dN(rows:List Row):List V:=(List.range rows.length).map λi=>if i=0 then V.non else V.int (bE rows i)
def aY(rows:List Row):List (Key × V):=(List.range rows.length).map λi=>(.inr (rows.getD i default).sh.name,V.int (i:Int))
def bb(rows:List Row):List V:=rows.map λr=>V.int ((2 * r.dep:Nat):Int)
def fsT(c b a d:Addr):List (Str × V):=[("children",.ref c),("blanks",.ref b),("above",.ref a),("places",.ref d)]
structure ix(cT:Addr)(p:Pl)(H:Hp)(t:Addr)(rows:List Row)(c b a d:Addr)(as:List Addr):Prop where
 ob:∃dx,H t=some (.ins cT dx (fsT c b a d))
 ch:H c=some (.lst (as.map V.ref))
 ln:as.length=rows.length
 rp:∀(i:Nat) (x:Addr),as[i]? =some x->p.rep H x (rows.getD i default).sh
 bl:H b=some (.lst (bb rows))
 ab:H a=some (.lst (dN rows))
 pl:H d=some (.dK (aY rows))
 n1:c≠b
 n2:c≠a
 n3:b≠a
theorem ix.same{cT:Addr}{H H':Hp}{t:Addr}{rows:List Row}{c b a d:Addr}{as:List Addr}(h:ix cT p H t rows c b a d as)(e:aF H H'):ix cT p H' t rows c b a d as:=
 ⟨h.ob.imp λ_ z=>e _ _ z,e _ _ h.ch,h.ln,λi x z=>Pl.mono e (h.rp i x z),e _ _ h.bl,e _ _ h.ab,e _ _ h.pl,h.n1,h.n2,h.n3⟩
theorem getD_snoc(rows:List Row)(r:Row)(i:Nat):(rows++[r]).getD i default=if i < rows.length then rows.getD i default else if i=rows.length then r else default:=by
 by_cases h:i < rows.length
 .rw [if_pos h,eW _ _ _ h]
 .rw [if_neg h];by_cases e:i=rows.length
  .rw [if_pos e,e,cD rows r [] default]
  .rw [if_neg e,List.getD_eq_getElem?_getD,List.getElem?_eq_none (by rw[List.length_append];show rows.length + 1<=i;lia)]
   rfl
theorem ql{α:Type}(n:Nat)(g:Nat->α):(List.range (n + 1)).map g=(List.range n).map g++[g n]:=by
 rw[List.range_succ,List.map_append]
 rfl
theorem vM(rows:List Row)(r:Row):dN (rows++[r])=dN rows++[if rows.length=0 then V.non else V.int (bE (rows++[r]) rows.length)]:=by
 unfold dN;rw[List.length_append];show(List.range (rows.length + 1)).map _=_;rw[ql]
 congr 1
 refine List.map_congr_left λi hi=> ?_;rw[sE rows [r] (List.mem_range.mp hi)]
theorem vq(rows:List Row)(r:Row):aY (rows++[r])=aY rows++[(.inr r.sh.name,V.int (rows.length:Int))]:=by
 unfold aY;rw[List.length_append];show(List.range (rows.length + 1)).map _=_;rw[ql,cD rows r [] default]
 congr 1
 refine List.map_congr_left λi hi=> ?_;rw[eW _ _ _ (List.mem_range.mp hi)]
theorem uV(rows:List Row)(r:Row):bb (rows++[r])=bb rows++[V.int ((2 * r.dep:Nat):Int)]:=List.map_append
theorem nM{rows:List Row}{x:Str}(h:x∉rows.map (·.sh.name)):ik (aY rows) (.inr x)=none:=by
 unfold ik;rw[List.find?_eq_none.mpr]
 .rfl
 .intro kv hk z;obtain⟨i,hi,rfl⟩:=List.mem_map.mp hk;have z:=Sum.inr.inj (of_decide_eq_true z);have hi:=List.mem_range.mp hi;refine h (List.mem_map.mpr ⟨rows[i],List.getElem_mem hi,?_⟩);rw[<- z,List.getD_eq_getElem?_getD,List.getElem?_eq_getElem hi]
  rfl
theorem xj{rows:List Row}{r:Row}(h:r.sh.name∉rows.map (·.sh.name)):putK (aY rows) (.inr r.sh.name) (V.int (rows.length:Int))=aY (rows++[r]):=by
 unfold putK;rw[if_neg,vq];intro z;obtain⟨kv,hk,z⟩:=List.any_eq_true.mp z;have n:=nM h;unfold ik at n;cases f:(aY rows).find? λkv=>decide (kv.1=(.inr r.sh.name:Key)) with
 | none=>exact List.find?_eq_none.mp f kv hk z
 | some w=>rw[f] at n;cases n
theorem oU{H:Hp}{x q C dx:Addr}{o:HO}{fs gs:List (Str × V)}(hx:H x=some (.ins C dx fs))(hq:H q=none):(upd (upd H q o) x (.ins C dx gs)) x=some (.ins C dx gs)/\(upd (upd H q o) x (.ins C dx gs)) q=some o/\(∀b u,b≠x->H b=some u->(upd (upd H q o) x (.ins C dx gs)) b=some u)∧
  (∀b,b≠x->(upd (upd H q o) x (.ins C dx gs)) b=none->H b=none/\b≠q)/\q≠x/\(upd H q o) x=some (.ins C dx fs):=by
 have nx:q≠x:=λz=>by rw[z,hx] at hq;cases hq
 refine⟨ae,by rw[ak nx];exact ae,λb u hb e=> ?_,λb hb e=> ?_,nx,by rw[ak (Ne.symm nx)];exact hx⟩
 .rw [ak hb,ak (au e hq)];exact e
 .rw [ak hb] at e;by_cases z:b=q
  .rw [z,ae] at e;cases e
  .rw [ak z] at e;exact⟨e,z⟩
structure CT(K:PySem.W.Frag)(C:Addr):Prop where
 cl:Cls K C
 n1:bC K C "children"
 n2:bC K C "blanks"
 n3:bC K C "above"
 n4:bC K C "places"
def qN(cT:Addr)(p:Pl):Sp:=λvs H Q _=>∃(x dx:Addr) (H0:Hp),vs=[.ref x]/\H0 x=none/\H0 dx=none/\dx≠x/\H=upd (upd H0 dx (.own x)) x (.ins cT dx [])∧
 ∀(H':Hp) (c b a d:Addr),aF H0 H'->H0 c=none->H0 b=none->H0 a=none->H0 d=none->ix cT p H' x [] c b a d []->Q .non H'
theorem wZ{cT:Addr}(F:aL K "__init__" "Tree.__init__" d0 dV f fd)(hc:CT K cT):aB P w K mg base (CXE P w) true 1 f fd ed (qN cT p):=by
 rcases mL,(aa (eV (pv 0) (aR g9) rfl)
   (aa (eV (pv 0) (aR g9) rfl)
   (aa (eV (pv 0) (aR g9) rfl)
   (af (eV (pv 0) BB rfl))))) with⟨x,dx,H0,rfl,h0,h1,h2,eH,k⟩
 have hx:H x=some (.ins cT dx []):=by rw[eH];exact ae
 have s0:∀b u,H0 b=some u->H b=some u/\b≠x:=λb u e=>⟨by rw[eH,ak (au e h0),ak (au e h1)];exact e,au e h0⟩
 have f0:∀b,b≠x->H b=none->H0 b=none:=λb hb e=>by
  rw[eH,ak hb] at e;by_cases z:b=dx
  .rw [z];exact h1
  .rw [ak z] at e;exact e
 refine⟨l8 (by decide),λc hc0=> ?_⟩;obtain⟨p1,p2,p3,p4,p5,p6⟩:=oU (o:= .lst []) (gs:=[("children",.ref c)]) hx hc0;refine exP rfl (qo p6 hc.cl hc.n1 (by decide) ?_)
 change zU _ _ _ _ (upd (upd H c (.lst [])) x (.ins cT dx [("children",.ref c)]))
 generalize upd (upd H c (.lst [])) x (.ins cT dx [("children",.ref c)])=H1 at p1 p2 p3 p4;refine⟨l8 (by decide),λb hb0=> ?_⟩;obtain⟨q1,q2,q3,q4,q5,q6⟩:=oU (o:= .lst []) (gs:=[("children",.ref c),("blanks",.ref b)]) p1 hb0;refine exP rfl (qo q6 hc.cl hc.n2 (by show 1 < 1000;decide) ?_)
 change zU _ _ _ _ (upd (upd H1 b (.lst [])) x (.ins cT dx [("children",.ref c),("blanks",.ref b)]))
 generalize upd (upd H1 b (.lst [])) x (.ins cT dx [("children",.ref c),("blanks",.ref b)])=H2 at q1 q2 q3 q4;refine⟨l8 (by decide),λa ha0=> ?_⟩;obtain⟨r1,r2,r3,r4,r5,r6⟩:=oU (o:= .lst []) (gs:=[("children",.ref c),("blanks",.ref b),("above",.ref a)]) q1 ha0;refine exP rfl (qo r6 hc.cl hc.n3 (by show 2 < 1000;decide) ?_);dsimp only
 change F7 _ _ _ _ _ _ (upd (upd H2 a (.lst [])) x (.ins cT dx [("children",.ref c),("blanks",.ref b),("above",.ref a)]))
 generalize upd (upd H2 a (.lst [])) x (.ins cT dx [("children",.ref c),("blanks",.ref b),("above",.ref a)])=H3 at r1 r2 r3 r4;intro d hd0;obtain⟨t1,t2,t3,t4,t5,t6⟩:=oU (o:= .dK []) (gs:=fsT c b a d) r1 hd0;refine exP rfl (qo t6 hc.cl hc.n4 (by show 3 < 1000;decide) ?_)
 change Q .non (upd (upd H3 d (.dK [])) x (.ins cT dx (fsT c b a d)))
 generalize upd (upd H3 d (.dK [])) x (.ins cT dx (fsT c b a d))=H4 at t1 t2 t3 t4;have ncb:c≠b:=Ne.symm (p4 b q5 hb0).2;have z2:=q4 a r5 ha0;have z1:=p4 a r5 z2.1;have y3:=r4 d t5 hd0;have y2:=q4 d t5 y3.1;have y1:=p4 d t5 y2.1;have gc:H4 c=some (.lst []):=t3 c _ p5 (r3 c _ p5 (q3 c _ p5 p2));have gb:H4 b=some (.lst []):=t3 b _ q5 (r3 b _ q5 q2);refine k H4 c b a d (λe u z=> ?_) (f0 c p5 hc0) (f0 b q5 (p4 b q5 hb0).1) (f0 a r5 z1.1) (f0 d t5 y1.1) ⟨⟨dx,t1⟩,gc,rfl,λi x e=>(by cases e),gb,t3 a _ r5 r2,t2,ncb,Ne.symm z1.2,Ne.symm z2.2⟩;obtain⟨e1,e2⟩:=s0 e u z;exact t3 e u e2 (r3 e u e2 (q3 e u e2 (p3 e u e2 e1)))
theorem vx{rows:List Row}{i:Nat}(h:i < rows.length):rows[i]? =some (rows.getD i default):=by
 rw[List.getD_eq_getElem?_getD,List.getElem?_eq_getElem h]
 rfl
def namesOf(rows:List Row):List Str:=rows.map (·.sh.name)
def me(p:Pl)(C:Addr):Sp:=λvs H Q _=>∃(t:Addr) (rows:List Row) (c b a d:Addr) (as:List Addr),vs=[.ref t]/\ix C p H t rows c b a d as/\rows.length<=1000∧
 ∀(q:Addr) (H':Hp),aF H H'->H q=none->H' q=some (.lst ((namesOf rows).map V.str))->Q (.ref q) H'
theorem Bx{cT:Addr}(F:aL K "names" "Tree.names" gQ dV f fd)(hc:CT K cT)(hcf:∀j,p.pr j->CF K (p.c j)):aB P w K mg base (CXE P w) true 1 f fd lM (me p cT):=by
 rcases sf,(af (av (uS (x:="child") (fr:=[]) (by kd_p) rfl (zp (aV (pv 0) rfl)) (λ_ _ _ _=>vw) (λ_ _ _ _=>(Ei (K0:=K) rfl (pv 0) (by rfl)))))) with⟨t,rows,c,b,a,d,as,rfl,hT,hl,k⟩;obtain⟨dx,hob⟩:=hT.ob;lk;refine iC hob hc.cl hc.n1 rfl ?_;lk;refine⟨⟨_,SqL.of hT.ch⟩,gL (J:=Itl K c) (n:=rows.length) (λi ys H'=>H'=H/\ys=((namesOf rows).take i).map V.str) ⟨rfl,rfl⟩ ?_ ?_ ?_ ?_⟩
 .rintro i ys H' hi ⟨rfl,rfl⟩;exact⟨_,V.ref (as[i]'(by rw[hT.ln];exact hi)),SqL.of hT.ch,by rw[List.getElem?_map,List.getElem?_eq_getElem (by rw[hT.ln];exact hi)];rfl⟩
 .rintro ys H' ⟨rfl,rfl⟩;exact⟨_,SqL.of hT.ch,by rw[List.length_map,hT.ln];exact Nat.le_refl _⟩
 .rintro i ys H' v H2 hi ⟨rfl,rfl⟩ ⟨rfl,hv⟩;have hia:i < as.length:=by rw[hT.ln];exact hi
  have hv:=hv _ (SqL.of hT.ch);rw[List.getElem?_map,List.getElem?_eq_getElem hia] at hv;obtain rfl:V.ref as[i]=v:=Option.some.inj hv;obtain⟨r1,r2,dx',r3⟩:=hT.rp i _ (List.getElem?_eq_getElem hia);have cf:=hcf _ r2;lk;refine iC r3 cf.cl cf.n1 (oX _) ?_;refine⟨?_,rfl,?_⟩
  .rw [List.length_map,List.length_take];exact aE (by lia)
  .have:(namesOf rows)[i]? =some (rows.getD i default).sh.name:=by
    unfold namesOf;rw[List.getElem?_map,vx hi]
    rfl
   rw[List.take_add_one,this,List.map_append]
   rfl
 .rintro ys H' ⟨rfl,rfl⟩;have:(namesOf rows).length=rows.length:=List.length_map _;rw[<- this,List.take_length];refine⟨?_,λq hq=>k q _ (aj hq) hq ae⟩;rw[List.length_map,this];exact Nat.le_of_lt (aE hl)
def A7(p:Pl)(C:Addr):Sp:=λvs H Q _=>∃(t:Addr) (rows:List Row) (c b a d:Addr) (as:List Addr) (i:Nat),vs=[.ref t,.str (rows.getD i default).sh.name]/\ix C p H t rows c b a d as/\i < rows.length/\(rows.map (·.sh.name)).Nodup∧
 ∀H',aF H H'->Q (.int (i:Int)) H'
theorem vR{rows:List Row}{i:Nat}(hi:i < rows.length)(nd:(rows.map (·.sh.name)).Nodup):ik (aY rows) (.inr (rows.getD i default).sh.name)=some (V.int (i:Int)):=by
 unfold ik;cases f:(aY rows).find? λkv=>decide (kv.1=(.inr (rows.getD i default).sh.name:Key)) with
 | none=>
  exact absurd (decide_eq_true rfl) (List.find?_eq_none.mp f (.inr (rows.getD i default).sh.name,V.int (i:Int)) (List.mem_map.mpr ⟨i,List.mem_range.mpr hi,rfl⟩))
 | some kv=>
  have h1:kv.1=.inr (rows.getD i default).sh.name:=of_decide_eq_true (List.find?_some (p:=λkv:Key × V=>decide (kv.1=.inr (rows.getD i default).sh.name)) f);obtain⟨j,hj,rfl⟩:=List.mem_map.mp (List.mem_of_find?_eq_some f);have hj:=List.mem_range.mp hj;have h1:=Sum.inr.inj h1
  have e:j=i:=by
   have a1:(rows.map (·.sh.name))[j]? =some (rows.getD j default).sh.name:=by rw[List.getElem?_map,vx hj];rfl
   have a2:(rows.map (·.sh.name))[i]? =some (rows.getD i default).sh.name:=by rw[List.getElem?_map,vx hi];rfl
   rw[h1] at a1;exact(List.getElem?_inj (by rw[List.length_map];exact hj) nd).mp (a1.trans a2.symm)
  rw[e]
  rfl
theorem DU{cT:Addr}(F:aL K "find" "Tree.find" fU dV f fd)(hc:CT K cT):aB P w K mg base (CXE P w) true 1 f fd fR (A7 p cT):=by
 rcases lq,(aa (aW (B1 (nv (qb hr) (pv 1) (aV (pv 0) rfl))) (af jh) ay)
   (af (av (zdg (aV (pv 0) rfl) (pv 1))))) with⟨t,rows,c,b,a,d,as,i,rfl,hT,hi,nd,k⟩
 obtain⟨dx,hob⟩:=hT.ob
 have dg:mx H d (V.str (rows.getD i default).sh.name) (some (V.int (i:Int))):=by
  have:=mx.k (k:= .inr (rows.getD i default).sh.name) hT.pl;rw[vR hi nd] at this;exact this
 lk;refine iC hob hc.cl hc.n4 rfl ?_;lk;refine ex2 d (some (V.int (i:Int))) (an3 rfl dg ?_);lk;refine iC hob hc.cl hc.n4 rfl ?_;lk;exact⟨d,_,rfl,dg,k _ (aF.refl _)⟩
theorem iR{H:Hp}{x y:Addr}{o u:HO}(hx:H x=some o)(hy:H y=some u)(h:o≠u):x≠y:=λz=>h (Option.some.inj (hx.symm.trans (by rw[z];exact hy)))
def CA(p:Pl)(C:Addr):Sp:=λvs H Q _=>∃(t x:Addr) (rows:List Row) (r:Row) (c b a d:Addr) (as:List Addr) (ab:V),vs=[.ref t,.ref x,.int ((2 * r.dep:Nat):Int),ab]/\ix C p H t rows c b a d as/\p.rep H x r.sh/\rows.length<=1000/\r.sh.name∉rows.map (·.sh.name)∧
 ab=(if rows.length=0 then V.non else V.int (bE (rows++[r]) rows.length))/\∀H',(∀e u,e≠c->e≠b->e≠a->e≠d->H e=some u->H' e=some u)->ix C p H' t (rows++[r]) c b a d (as++[x])->Q .non H'
theorem DZ{cT:Addr}(F:aL K "take" "Tree.take" ja dV f fd)(T:Txt mg)(hc:CT K cT)(hcf:∀j,p.pr j->CF K (p.c j)):aB P w K mg base (CXE P w) true 1 f fd nN (CA p cT):=by
 rcases vh,(aa (Dp (qb hr) (aV (pv 0) rfl) (aV (pv 1) rfl) (aC aG (by rfl) T.dh bS {aV (pv 0) rfl}) rfl)
   (aa (bu (cn PySem.F.plainAttrs_list PySem.F.slot_list_append PySem.F.type_list_append bJ (aV (pv 0) rfl) {pv 1}))
   (aa (bu (cn PySem.F.plainAttrs_list PySem.F.slot_list_append PySem.F.type_list_append bJ (aV (pv 0) rfl) {pv 2}))
   (af (bu (cn PySem.F.plainAttrs_list PySem.F.slot_list_append PySem.F.type_list_append bJ (aV (pv 0) rfl) {pv 3})))))) with⟨t,x,rows,r,c,b,a,d,as,ab,rfl,hT,hR,hl,hn,hab,k⟩
 obtain⟨dx,hob⟩:=hT.ob;obtain⟨r1,r2,dx',r3⟩:=id hR;have cf:=hcf _ r2;lk;refine iC hob hc.cl hc.n1 rfl ?_;lk;refine ex2 c _ (an3 rfl (.inl (SqL.of hT.ch)) ?_);lk;refine iC hob hc.cl hc.n4 rfl ?_;refine exP rfl (iC r3 cf.cl cf.n1 (oX _) ?_);have ln:((as.map V.ref).length:Int)=(rows.length:Int):=by rw[List.length_map,hT.ln]
 rw[ln];refine ex2 d _ (an3 rfl (B0.k (k:= .inr r.sh.name) hT.pl (by unfold aY;rw[List.length_map,List.length_range];exact aE hl)) ?_);rw[xj hn];have ntd:t≠d:=iR hob hT.pl (λz=>by cases z);have ncd:c≠d:=iR hT.ch hT.pl (λz=>by cases z);have nbd:b≠d:=iR hT.bl hT.pl (λz=>by cases z);have nad:a≠d:=iR hT.ab hT.pl (λz=>by cases z);have ntc:t≠c:=iR hob hT.ch (λz=>by cases z);have ntb:t≠b:=iR hob hT.bl (λz=>by cases z);have nta:t≠a:=iR hob hT.ab (λz=>by cases z);have e1:(upd H d (.dK (aY (rows++[r])))) t=some (.ins cT dx (fsT c b a d)):=by rw[ak ntd];exact hob
 have e2:(upd H d (.dK (aY (rows++[r])))) c=some (.lst (as.map V.ref)):=by rw[ak ncd];exact hT.ch
 have e3:(upd H d (.dK (aY (rows++[r])))) b=some (.lst (bb rows)):=by rw[ak nbd];exact hT.bl
 have e4:(upd H d (.dK (aY (rows++[r])))) a=some (.lst (dN rows)):=by rw[ak nad];exact hT.ab
 have e5:(upd H d (.dK (aY (rows++[r])))) d=some (.dK (aY (rows++[r]))):=ae;have e6:∀e u,e≠d->H e=some u->(upd H d (.dK (aY (rows++[r])))) e=some u:=λe u n z=>by rw[ak n];exact z
 generalize upd H d (.dK (aY (rows++[r])))=H1 at e1 e2 e3 e4 e5 e6;refine exP rfl (ex5 t cT dx _ _ (an7 rfl e1 hc.cl hc.n1 rfl (.inl ⟨rfl,_,SqL.of e2⟩) ?_));lk;refine ex3 c _ _ (an5 rfl rfl e2 (by rw[List.length_map,hT.ln];exact aE hl) ?_);have f1:(upd H1 c (.lst (as.map V.ref++[V.ref x]))) t=some (.ins cT dx (fsT c b a d)):=by rw[ak ntc];exact e1
 have f3:(upd H1 c (.lst (as.map V.ref++[V.ref x]))) b=some (.lst (bb rows)):=by rw[ak (Ne.symm hT.n1)];exact e3
 have f4:(upd H1 c (.lst (as.map V.ref++[V.ref x]))) a=some (.lst (dN rows)):=by rw[ak (Ne.symm hT.n2)];exact e4
 have f2:(upd H1 c (.lst (as.map V.ref++[V.ref x]))) c=some (.lst (as.map V.ref++[V.ref x])):=ae;have f5:(upd H1 c (.lst (as.map V.ref++[V.ref x]))) d=some (.dK (aY (rows++[r]))):=by rw[ak (Ne.symm ncd)];exact e5
 have f6:∀e u,e≠d->e≠c->H e=some u->(upd H1 c (.lst (as.map V.ref++[V.ref x]))) e=some u:=λe u n n2 z=>by rw[ak n2];exact e6 e u n z
 generalize upd H1 c (.lst (as.map V.ref++[V.ref x]))=H2 at f1 f2 f3 f4 f5 f6;refine exP rfl (ex5 t cT dx _ _ (an7 rfl f1 hc.cl hc.n2 rfl (.inl ⟨rfl,_,SqL.of f3⟩) ?_));lk;refine ex3 b _ _ (an5 rfl rfl f3 (by unfold bb;rw[List.length_map];exact aE hl) ?_);have bs:bb rows++[V.int ((2 * r.dep:Nat):Int)]=bb (rows++[r]):=(uV rows r).symm;rw[bs];have g1:(upd H2 b (.lst (bb (rows++[r])))) t=some (.ins cT dx (fsT c b a d)):=by rw[ak ntb];exact f1
 have g2:(upd H2 b (.lst (bb (rows++[r])))) c=some (.lst (as.map V.ref++[V.ref x])):=by rw[ak hT.n1];exact f2
 have g3:(upd H2 b (.lst (bb (rows++[r])))) b=some (.lst (bb (rows++[r]))):=ae;have g4:(upd H2 b (.lst (bb (rows++[r])))) a=some (.lst (dN rows)):=by rw[ak (Ne.symm hT.n3)];exact f4
 have g5:(upd H2 b (.lst (bb (rows++[r])))) d=some (.dK (aY (rows++[r]))):=by rw[ak (Ne.symm nbd)];exact f5
 have g6:∀e u,e≠d->e≠c->e≠b->H e=some u->(upd H2 b (.lst (bb (rows++[r])))) e=some u:=λe u n n2 n3 z=>by rw[ak n3];exact f6 e u n n2 z
 generalize upd H2 b (.lst (bb (rows++[r])))=H3 at g1 g2 g3 g4 g5 g6;refine exP rfl (ex5 t cT dx _ _ (an7 rfl g1 hc.cl hc.n3 rfl (.inl ⟨rfl,_,SqL.of g4⟩) ?_));lk;refine ex3 a _ _ (an5 rfl rfl g4 (by unfold dN;rw[List.length_map,List.length_range];exact aE hl) ?_);have as':dN rows++[ab]=dN (rows++[r]):=by rw[hab];exact(vM rows r).symm
 rw[as'];have keep:∀e u,e≠c->e≠b->e≠a->e≠d->H e=some u->(upd H3 a (.lst (dN (rows++[r])))) e=some u:=λe u n1 n2 n3 n4 z=>by rw[ak n3];exact g6 e u n4 n1 n2 z
 have rk:∀(y:Addr) (s':Sh),p.rep H y s'->p.rep (upd H3 a (.lst (dN (rows++[r])))) y s':=λy s' z=>by
  obtain⟨z1,z2,dz,z3⟩:=z;exact⟨z1,z2,dz,keep _ _ (iR z3 hT.ch (λz=>by cases z)) (iR z3 hT.bl (λz=>by cases z)) (iR z3 hT.ab (λz=>by cases z)) (iR z3 hT.pl (λz=>by cases z)) z3⟩
 refine k _ keep ⟨⟨dx,by rw[ak nta];exact g1⟩,by rw[ak hT.n2,g2,List.map_append];rfl,by rw[List.length_append,List.length_append,hT.ln];rfl,λi y e=> ?_,by rw[ak hT.n3];exact g3,ae,by rw[ak (Ne.symm nad)];exact g5,hT.n1,hT.n2,hT.n3⟩;rw[getD_snoc];by_cases hi:i < as.length
 .rw [List.getElem?_append_left hi] at e;rw[if_pos (by rw[<- hT.ln];exact hi)];exact rk _ _ (hT.rp i y e)
 .rw [List.getElem?_append_right (by lia)] at e
  have hi0:i - as.length=0:=by
   have:=(List.getElem?_eq_some_iff.mp e).1;have:i - as.length < 1:=this
   lia
  rw[hi0] at e;have e:x=y:=Option.some.inj e;subst e;have:i=rows.length:=by have:=hT.ln;lia
  rw[if_neg (by lia),if_pos this];exact rk _ _ hR
def zc(p:Pl)(C:Addr):Sp:=λvs H Q _=>∃(t:Addr) (rows:List Row) (c b a d:Addr) (as:List Addr) (dp:Nat),vs=[.ref t,.int ((2 * dp:Nat):Int)]/\ix C p H t rows c b a d as/\rows.length<=1000∧
 ((rows=[]/\Q .non H)\/∃j,j < rows.length/\(rows.getD j default).dep + 1=dp/\(rows.getD j default).isM=true/\(∀i,j < i->i < rows.length->dp<=(rows.getD i default).dep)/\∀H',aF H H'->Q (.int (j:Int)) H')
theorem Bb{cT:Addr}(F:aL K "minder_above" "Tree.minder_above" cx dV f fd)(T:Txt mg)(hc:CT K cT)(I:If P w K mg base 3 p.rep p.cl):aB P w K mg base (CXE P w) true 4 f fd ei (zc p cT):=by
 have d_leaf:∀C s dvs,Dt (pG p.rep) (λC=>∃j,p.cl j C) C s dvs->MethAt P w K mg base (CXE P w) true 3 "leaf" C s dvs:=by
  rintro C s dvs ⟨⟨j,z⟩,rfl,rfl⟩;exact I.leaf z
 rcases bW,(aa (pf PassesOwn.never rfl (Di (by rfl) T.lK {ao yg (aC aG (by rfl) T.dh bS {aV (pv 0) rfl}) ag,n8 jo ag,n8 jo ag}) (b6 (i:=2) bW.nd rfl (by k_ne)) (af (aW (zct jM (zix az (aV (pv 0) rfl) (pv 2)) (pv 1)) (aa (bg (i:=3) bW.nd (mF (zce cq (zix az (aV (pv 0) rfl) (pv 2)) (ao yg (pv 1) ag)) (mO (BQ (pq (zix az (aV (pv 0) rfl) (pv 2)) d_leaf)))))
   (af (av (BH (ee (pv 3)) (pv 2) fj)))) ay)))
   (af (av fj))) with⟨t,rows,c,b,a,d,as,dp,rfl,hT,hl,k⟩
 obtain⟨dx,hob⟩:=hT.ob;lk;refine iC hob hc.cl hc.n1 rfl ?_;lk;refine ex2 c _ (an3 rfl (.inl (SqL.of hT.ch)) ?_);lk;have an:(as.map V.ref).length=rows.length:=by rw[List.length_map,hT.ln]
 rw[an];refine⟨by lia,?_⟩
 have bat:∀i,i < rows.length->(bb rows)[i]? =some (V.int ((2 * (rows.getD i default).dep:Nat):Int)):=λi hi=>by
  unfold bb;rw[List.getElem?_map,vx hi]
  rfl
 rcases k with⟨e0,k⟩ | ⟨j,hj,hd,hm,hb,k⟩
 .have n0:rows.length=0:=by rw[e0];rfl
  rw[n0];refine xT (n:=0) (λ_ σ H'=>H'=H) rfl (λi σ H' hi=>absurd hi (Nat.not_lt_zero _)) (λi σ H' x H2 hi=>absurd hi (Nat.not_lt_zero _)) (λσ H' e=>⟨Nat.le_refl _,?_⟩);subst e;exact k
 .refine xT (n:=rows.length) (λi σ H'=>H'=H/\j + i < rows.length/\∃v2 v3,σ=[some (.ref t),some (.int ((2 * dp:Nat):Int)),v2,v3]) ⟨rfl,hj,none,none,rfl⟩ (λi σ H' hi _=>hi) ?_ (λσ H' z=>absurd z.2.1 (by lia));rintro i σ H' x H2 hi ⟨rfl,hji,v2,v3,rfl⟩ ⟨rfl,rfl⟩;have pe:(rows.length:Int) - 1 - (i:Int)=((rows.length - 1 - i:Nat):Int):=by lia
  rw[pe];have hp:rows.length - 1 - i < rows.length:=by lia
  generalize hq:rows.length - 1 - i=q at hp;lk;refine iC hob hc.cl hc.n2 rfl ?_;lk;refine ex4 b _ _ _ (an5 rfl rfl (SqL.of hT.bl) (cj (bat q hp)) ?_);lk;refine bF (λe=> ?_) (λe=> ?_)
  .have e:(((2 * (rows.getD q default).dep:Nat)):Int) < ((2 * dp:Nat):Int):=of_decide_eq_true e
   have qj:q=j:=by
    by_cases z:j < q
    .have:=hb q z hp
     lia
    .lia
   subst qj;have hqa:q < as.length:=by rw[hT.ln];exact hp
   have hR:=hT.rp q as[q] (List.getElem?_eq_getElem hqa);obtain⟨r1,r2,dx',r3⟩:=id hR;lk;refine iC hob hc.cl hc.n2 rfl ?_;lk;refine ex4 b _ _ _ (an5 rfl rfl (SqL.of hT.bl) (cj (bat q hp)) ?_);lk;have eb:V.int ((2 * (rows.getD q default).dep:Nat):Int)=V.int (((2 * dp:Nat):Int) - 2):=by congr 1;lia
   refine bF (λe2=> ?_) (λe2=> ?_)
   .lk;refine iC hob hc.cl hc.n1 rfl ?_;lk;refine ex4 c _ _ (V.ref as[q]) (an5 rfl rfl (SqL.of hT.ch) (cj (by rw[List.getElem?_map,List.getElem?_eq_getElem hqa];rfl)) ?_);lk;obtain⟨C',dy,fs',i1,i2,i3,i4,_⟩:=I.inst hR;refine mJ i1 ⟨⟨_,i2⟩,rfl,rfl⟩ i4 ?_;refine ex4 (as[q]) dy fs' _ (an4 rfl hR i1 (λH3 s3=> ?_))
    have nl:decide ((rows.getD q default).sh.kind < 3)=false:=by
     have:=of_decide_eq_true hm;exact decide_eq_false (by lia)
    rw[nl];lk;exact k _ s3
   .exact absurd (decide_eq_true eb) e2
  .have e:¬(((2 * (rows.getD q default).dep:Nat)):Int) < ((2 * dp:Nat):Int):=λz=>e (decide_eq_true z);refine⟨rfl,?_,_,_,rfl⟩;have:q≠j:=λz=>e (by rw[z];lia)
   lia
open PySem L2 Shp Nm Tr Hs PySem.NumText
abbrev TRT:=Hp->Addr->List Row->FS->Prop
def G5(x:Str):Prop:=x.length<=100000/\True
def A6(TR:TRT):Sp:=λvs H Q _=>∃(x:Str) (rows:List Row),vs=[.str x]/\G5 x/\parse (cds x)=.ok rows/\OkT rows/\∀(t:Addr) (H':Hp) (FT:FS),aF H H'->(∀b,FT b->H b=none)->TR H' t rows FT->Q (.ref t) H'
theorem s32:Str.ofString " "=⟨#[32]⟩:=by decide +kernel
theorem s35:Str.ofString "#"=⟨#[35]⟩:=by decide +kernel
theorem s10:Str.ofString "\n"=⟨#[10]⟩:=by decide +kernel
def wG:Sp:=λvs H Q _=>∃x:Str,vs=[.str x]/\x.length<=100000/\Q (.bl (cB (cds x))) H
theorem zv(F:aL K "passed_over" "passed_over" f9 dV f fd)(T:Txt mg):aB P w K mg base (CXE P w) true 1 f fd jR wG:=by
 refine F.pF i6 λvs H Q E h=> ?_;obtain⟨x,rfl,hx,k⟩:=h
 refine⟨rfl,λcdv A outer s hr=>⟨_,(aa (bg (i:=1) i6.nd (cn PySem.F.plainAttrs_str PySem.F.slot_str_lstrip PySem.F.type_str_lstrip iW (pv 0) {(aq)}))
   (af (av (GH (zce cq (pv 1) aq) (mO (cn PySem.F.plainAttrs_str PySem.F.slot_str_startswith PySem.F.type_str_startswith lH (pv 1) {(aq)})))))),?_⟩⟩
 fin2
 have lc:=lg x 32;lk;refine⟨fM (by lia),?_⟩;rw[s32];unfold cB at k;rw[<- lc] at k;generalize Txt.lstripChars x ⟨#[32]⟩=y at k;lk;refine bF (λe=> ?_) (λe=> ?_)
 .have e:y="":=V.str.inj (of_decide_eq_true e);subst e;exact k
 .have e:y≠"":=λz=>e (decide_eq_true (congrArg V.str z));lk;rw[s35,uz];cases hy:cds y with
  | nil=>exact absurd (fI hy) e
  | cons c r=>
   rw[hy] at k
   have ec:decide ((c::r).head? =some 35)=(c == 35):=by
    show decide (some c=some 35)=_;rw[Bool.eq_iff_iff,decide_eq_true_iff,beq_iff_eq,Option.some.injEq]
   rw[ec];exact k
theorem wx(x:Str):(bh (cds x)).map ofC=(Txt.split x ⟨#[32]⟩).filter λy:Str=>decide (y≠""):=by
 unfold bh;rw[<- fQ x (by decide),List.filter_map,List.map_map];have:(ofC∘cds)=id:=funext λy=>gR y;rw[this,List.map_id]
 congr 1
 funext y
 show(!(cds y).isEmpty)=_;rw[Bool.eq_iff_iff,decide_eq_true_iff,Bool.not_eq_true',List.isEmpty_eq_false_iff];exact⟨λz e=>z (by rw[e];rfl),λz e=>z (fI e)⟩
def tj:Sp:=λvs H Q _=>∃x:Str,vs=[.str x]/\x.length<=100000/\∀(q:Addr) (H':Hp),aF H H'->H q=none->H' q=some (.lst (((bh (cds x)).map ofC).map V.str))->Q (.ref q) H'
theorem xm(F:aL K "words_in" "words_in" kc dV f fd)(T:Txt mg):aB P w K mg base (CXE P w) true 1 f fd pw tj:=by
 refine F.pF vS λvs H Q E h=> ?_;obtain⟨x,rfl,hx,k⟩:=h;refine⟨rfl,λcdv A outer s hr=>⟨_,(af (av (uS (x:="word") (fr:=[]) (by kd_p) rfl (zp (cn PySem.F.plainAttrs_str PySem.F.slot_str_split PySem.F.type_str_split jQ (pv 0) {(aq)})) (λ_ _ _ _=>(Fn (yD kY (pv 0) aq (xW _)))) (λ_ _ _ _=>(pv 0))))),?_⟩⟩
 fin2
 rw[wx] at k;have sl:=split_len x (c:=32) (by decide);have bl:=nX x 32;rw[s32];lk;generalize hys:Txt.split x ⟨#[32]⟩=ys at k sl;refine⟨fM (by lia),rfl,fM (Nat.le_trans bl (by lia)),fM (by lia),λq hq=> ?_⟩;refine⟨q,rfl,⟨_,SqL.of ae⟩,?_⟩;have hS:SqL K (upd H q (.lst (ys.map V.str))) q (ys.map V.str):=SqL.of ae;have sq:aF H (upd H q (.lst (ys.map V.str))):=aj hq;generalize upd H q (.lst (ys.map V.str))=H1 at hS sq;refine gL (J:=Itl K q) (n:=ys.length) (λi zs H'=>H'=H1/\zs=((ys.take i).filter λy:Str=>decide (y≠"")).map V.str) ⟨rfl,rfl⟩ ?_ ?_ ?_ ?_
 .rintro i zs H' hi ⟨rfl,rfl⟩;exact⟨_,V.str ys[i],hS,by rw[List.getElem?_map,List.getElem?_eq_getElem hi];rfl⟩
 .rintro zs H' ⟨rfl,rfl⟩;exact⟨_,hS,by rw[List.length_map];exact Nat.le_refl _⟩
 .rintro i zs H' v H2 hi ⟨rfl,rfl⟩ ⟨rfl,hv⟩;have hv:=hv _ hS;rw[List.getElem?_map,List.getElem?_eq_getElem hi] at hv;obtain rfl:V.str ys[i]=v:=Option.some.inj hv;have fl:((ys.take i).filter λy:Str=>decide (y≠"")).length<=ys.length:=Nat.le_trans (List.length_filter_le _ _) (by rw[List.length_take];lia);lk;refine bF (λe=> ?_) (λe=> ?_)
  .have e:ys[i]≠"":=λz=>by rw[z] at e;exact absurd e (by decide)
   lk;refine⟨by rw[List.length_map,sizeLine_eq];lia,rfl,?_⟩;rw[List.take_add_one,List.getElem?_eq_getElem hi,List.filter_append,List.map_append];show _=_++(List.filter _ [ys[i]]).map V.str;rw[List.filter_cons,if_pos (decide_eq_true e)]
   rfl
  .have e:ys[i]="":=by
    by_cases z:ys[i]=""
    .exact z
    .exact absurd (by simpa using z) e
   refine⟨rfl,?_⟩;rw[List.take_add_one,List.getElem?_eq_getElem hi,List.filter_append,List.map_append];show _=_++(List.filter _ [ys[i]]).map V.str;rw[List.filter_cons,if_neg (λz:decide (ys[i]≠"")=true=>(of_decide_eq_true z) e)];exact(List.append_nil _).symm
 .rintro zs H' ⟨rfl,rfl⟩;rw[List.take_length];have fl:(ys.filter λy:Str=>decide (y≠"")).length<=ys.length:=List.length_filter_le _ _;refine⟨fM (by rw[List.length_map];lia),λq2 hq2=>k q2 _ (λb o z=>aj hq2 _ _ (sq _ _ z)) ?_ ae⟩;cases z:H q2 with
  | none=>rfl
  | some o=>rw[sq _ _ z] at hq2;cases hq2
def wB:Sp:=λvs H Q _=>∃x:Str,vs=[.str x]/\x.length<=100000/\Q (.int ((lead (cds x):Nat):Int)) H
theorem zN(F:aL K "blanks_ahead" "blanks_ahead" fu dV f fd)(T:Txt mg):aB P w K mg base (CXE P w) true 1 f fd jd wB:=by
 refine F.pF ox λvs H Q E h=> ?_;obtain⟨x,rfl,hx,k⟩:=h;refine⟨rfl,λcdv A outer s hr=>⟨_,(af (av (ao yg (aC eN (by rfl) T.dh bS {pv 0}) (aC eN (by rfl) T.dh bS {cn PySem.F.plainAttrs_str PySem.F.slot_str_lstrip PySem.F.type_str_lstrip iW (pv 0) {(aq)}})))),?_⟩⟩
 fin2
 have lc:=lg x 32;have ll:=yd x ⟨#[32]⟩
 have e:(x.length:Int) - ((Txt.lstripChars x ⟨#[32]⟩).length:Int)=((lead (cds x):Nat):Int):=by
  have h:=congrArg List.length (List.takeWhile_append_dropWhile (p:=(· == 32)) (l:=cds x));rw[List.length_append,aA,<-lc,aA] at h;unfold lead
  lia
 lk;refine⟨fM (by lia),?_⟩;lk;refine⟨fM (by lia),?_⟩;rw[s32];lk;refine⟨fM (by lia),?_⟩;lk;show Q (.int ((x.length:Int) - ((Txt.lstripChars x ⟨#[32]⟩).length:Int))) H;rw[e];exact k
def BE(cT:Addr)(p:Pl):Sp:=λvs H Q _=>∃(t x:Addr) (rows:List Row) (r:Row) (c b a d:Addr) (as:List Addr) (ab:V),vs=[.ref t,.ref x,.int ((2 * r.dep:Nat):Int),ab]/\ix cT p H t rows c b a d as/\p.rep H x r.sh/\rows.length<=1000∧
 ((rows=[]/\r.dep=0/\r.isM=true)\/(rows≠[]/\(∃j:Int,ab=.int j)/\r.dep<=8/\r.sh.name∉rows.map (·.sh.name)))/\∀H',aF H H'->Q (.bl true) H'
theorem DQ{cT:Addr}{tB:Tok}(F:aL K "stands_well" "stands_well" fY dV f fd)(T:Txt mg)(hc:CT K cT)(hcf:∀j,p.pr j->CF K (p.c j))(I:If P w K mg base 3 p.rep p.cl)(fV:mg "MOST_BLANKS"=some (.int 16 tB))
  (hN:gy P w K mg base 1 "names" (me p) λC=>C=cT):aB P w K mg base (CXE P w) true 4 f fd jO (BE cT p):=by
 have d_names:=hN.d
 have d_leaf:∀C s dvs,Dt (pG p.rep) (λC=>∃j,p.cl j C) C s dvs->MethAt P w K mg base (CXE P w) true 3 "leaf" C s dvs:=by
  rintro C s dvs ⟨⟨j,z⟩,rfl,rfl⟩;exact I.leaf z
 rcases qJ,(aa (aW (zct (xk (yz hr)) (pq (pv 0) d_names) (aR g9)) (af (av (mF (zce cq (pv 2) ag) (mO (BQ (pq (pv 1) d_leaf)))))) ay)
   (af (av (mF (zce DO (pv 3) fj) (mF (zce EB (pv 2) (gO (by rfl) fV)) (mO (Fh (nv (qb hr) (aV (pv 1) rfl) (aV (pv 0) rfl))))))))) with⟨t,x,rows,r,c,b,a,d,as,ab,rfl,hT,hR,hl,hk,k⟩
 obtain⟨dx,hob⟩:=hT.ob;obtain⟨r1,r2,dx',r3⟩:=id hR;have cf:=hcf _ r2;lk;refine mJ hob ⟨rfl,rfl,rfl⟩ rfl ?_;refine ex7 t rows c b a d as (an4 rfl hT hl (λq H1 s1 hq hq2=> ?_));lk;refine⟨l8 (by decide),λq2 hq3=> ?_⟩;have s2:=aj (o:= .lst []) hq3;lk;refine ex4 q q2 _ ([]) (an7 rfl rfl (SqL.of (s2 _ _ hq2)) (SqL.of ae) (sT _) rfl ?_);generalize upd H1 q2 (.lst [])=H2 at s2;have sH:aF H H2:=λb o z=>s2 _ _ (s1 _ _ z);refine⟨_,rfl,?_⟩;rcases hk with⟨rfl,h0,hm⟩ | ⟨hn,⟨j,rfl⟩,h8,hnm⟩
 .refine bF (λe=> ?_) (λe=>absurd rfl e);lk;rw[h0];refine bF (λe2=> ?_) (λe2=>absurd (decide_eq_true rfl) e2);lk;obtain⟨C',dy,fs',i1,i2,i3,i4,_⟩:=I.inst (I.mono sH hR);refine mJ i1 ⟨⟨_,i2⟩,rfl,rfl⟩ i4 ?_;refine ex4 x dy fs' _ (an4 rfl (I.mono sH hR) i1 (λH3 s3=> ?_))
  have nl:decide (r.sh.kind < 3)=false:=by
   have:=of_decide_eq_true hm;exact decide_eq_false (by lia)
  rw[nl];lk;exact k _ (λb o z=>s3 _ _ (sH _ _ z))
 .refine bF (λe=> ?_) (λe=> ?_)
  .have e:oj ((namesOf rows).map V.str) []=true:=e;cases rows with
   | nil=>exact absurd rfl hn
   | cons r0 rs=>exact absurd e (by show ¬(false=true);decide)
  .have T2:=hT.same sH;obtain⟨dx2,hob2⟩:=T2.ob;obtain⟨_,_,dx3,r4⟩:=Pl.mono sH hR
   have dg:mx H2 d (V.str r.sh.name) none:=by
    have:=mx.k (k:= .inr r.sh.name) T2.pl;rw[nM hnm] at this;exact this
   lk;refine bF (λe2=> ?_) (λe2=>absurd (decide_eq_true (show((2 * r.dep:Nat):Int)<=16 by lia)) e2);lk;refine iC r4 cf.cl cf.n1 (oX _) ?_;lk;refine iC hob2 hc.cl hc.n4 rfl ?_;lk;exact⟨d,none,rfl,dg,k _ sH⟩
theorem ug(c:Nat):∀l:List Nat,∀y∈spl c l,y.length<=l.length
 | [],y,h=>by
  rw[Ef,List.mem_singleton] at h;rw[h];exact Nat.le_refl _
 | a::r,y,h=>by
  rw[iJ] at h;by_cases e:a=c
  .rw [if_pos e] at h;rcases List.mem_cons.mp h with rfl | h
   .exact Nat.zero_le _
   .exact Nat.le_trans (ug c r y h) (Nat.le_succ _)
  .rw [if_neg e] at h;have ih:=ug c r;cases hz:spl c r with
   | nil=>exact absurd hz (yy c r)
   | cons u v=>
    rw[hz] at h ih;rcases List.mem_cons.mp h with rfl | h
    .exact Nat.succ_le_succ (ih u List.mem_cons_self)
    .exact Nat.le_trans (ih y (List.mem_cons_of_mem _ h)) (Nat.le_succ _)
theorem Dj{x y:Str}(h:y∈(bh (cds x)).map ofC):y.length<=x.length:=by
 obtain⟨l,hl,rfl⟩:=List.mem_map.mp h;have:=ug 32 (cds x) l (List.mem_filter.mp hl).1;rw[<- aA,lY,<-aA];exact this
def sv(cT:Addr)(p:Pl):Sp:=λvs H Q _=>∃(t:Addr) (x:Str) (n:Int) (rows:List Row) (r:Row) (c b a d:Addr) (as:List Addr),vs=[.ref t,.str x,.int n]/\ix cT p H t rows c b a d as/\OkP rows/\rows.length < 64/\x.length<=100000/\gh (cds x)=some r∧
 fits (aU rows rows.length) rows.length r/\r.sh.name∉rows.map (·.sh.name)/\∀(H':Hp) (y:Addr),(∀e u,e≠c->e≠b->e≠a->e≠d->H e=some u->H' e=some u)->H y=none->ix cT p H' t (rows++[r]) c b a d (as++[y])->Q .non H'
theorem xu{cT:Addr}{tR:Tok}(F:aL K "take_row" "take_row" eZ dV f fd)(T:Txt mg)(hc:CT K cT)(i0:mg "MOST_ROWS"=some (.int 64 tR))(hN:gy P w K mg base 1 "names" (me p) λC=>C=cT)(hA:gy P w K mg base 4 "minder_above" (zc p) λC=>C=cT)
  (hK:gy P w K mg base 1 "take" (CA p) λC=>C=cT) (kN:Cal P w K mg base true 7 "child_in" (nR K p none) []) (kA:Cal P w K mg base true 1 "words_in" tj []) (fA:Cal P w K mg base true 1 "blanks_ahead" wB [])
  (gn:Cal P w K mg base true 4 "stands_well" (BE cT p) []):aB P w K mg base (CXE P w) true 8 f fd pk (sv cT p):=by
 refine F.pF fK λvs H Q E y0=> ?_;obtain⟨t,x,n,rows,r,c,b,a,d,as,rfl,hT,hO,h64,hx,hli,hf,hnm,k⟩:=y0;refine⟨rfl,λcdv A outer s hr=> ?_⟩;obtain⟨ld,rw'⟩:=Bd hli;have d_names:=hN.d;have d_minder_above:=hA.d;have d_take:=hK.d;have wl:∀y∈(bh (cds x)).map ofC,y.length<=100000:=λy hy=>Nat.le_trans (Dj hy) hx
 have t3:∃tt,PSs (ip true (CXE P w) P w K mg base qI "take_row" (ah eZ) f cdv A outer s H E).nox ((bf eZ).drop 3) tt/\∀(y:Addr) (ab:V) (H3:Hp),aF H H3->H y=none->p.rep H3 y r.sh->ab=(if rows.length=0 then V.non else V.int (bE (rows++[r]) rows.length))→
   ((rows=[]/\r.dep=0/\r.isM=true)\/(rows≠[]/\(∃j:Int,ab=.int j)/\r.dep<=8/\r.sh.name∉rows.map (·.sh.name)))->tt { nx:=λ_ H'=>Q .non H',rt:=Q} [some (.ref t),some (.str x),some (.int n),some (.ref y),some (.int ((2 * r.dep:Nat):Int)),some ab] H3:=by
  refine⟨_,(aa (aW (PW.pt (gv (zct FE (pv 3) fj) (gk (gu (ee (bZ gn {pv 0,pv 3,pv 4,pv 5})))))) (af jh) ay)
   (aa (aW (zct cq (aC aG (by rfl) T.dh bS {pq (pv 0) d_names}) (gO (by rfl) i0)) (af jh) ay)
   (af (bu (zmD (pv 0) d_take {pv 3,pv 4,pv 5}))))),?_⟩
  fin2
  intro y ab H3 s3 hy hR hab hw;have T3:=hT.same s3;have hl:rows.length<=1000:=by lia
  lk;refine FV t y rows r c b a d as ab (an6 rfl T3 hR hl hw (λH4 s4=> ?_));have T4:=T3.same s4;obtain⟨dx4,hob4⟩:=T4.ob;lk;refine mJ hob4 ⟨rfl,rfl,rfl⟩ rfl ?_;refine ex7 t rows c b a d as (an4 rfl T4 hl (λq H5 s5 hq hq2=> ?_));have T5:=T4.same s5;obtain⟨dx5,hob5⟩:=T5.ob;lk;refine ex2 q _ (an3 rfl (.inl (SqL.of hq2)) ?_);lk;refine bF (λe=> ?_) (λe=> ?_)
  .have e:=V.int.inj (of_decide_eq_true e);rw[List.length_map] at e;have:(namesOf rows).length=rows.length:=List.length_map _
   lia
  refine exP rfl (mJ hob5 ⟨rfl,rfl,rfl⟩ rfl ?_);refine exP rfl (exP rfl (exP rfl (FV t y rows r c b a d as ab (an7 rfl T5 (Pl.mono s5 (Pl.mono s4 hR)) hl hnm hab (λH6 k6 T6=> ?_)))));exact k H6 y (λe u n1 n2 n3 n4 z=>k6 e u n1 n2 n3 n4 (s5 _ _ (s4 _ _ (s3 _ _ z)))) hy T6
 obtain⟨tt,ht,hn⟩:=t3
 refine⟨_,(aa (bg (i:=3) fK.nd (bZ kN {bZ kA {pv 1}}))
   (aa (bg (i:=4) fK.nd (bZ fA {pv 1}))
   (aa (bg (i:=5) fK.nd (zmD (pv 0) d_minder_above {pv 4}))
   ht))),?_⟩
 fin2
 lk;refine⟨hx,λq H1 s1 hq hq2=> ?_⟩;lk;refine ex3 q _ r.sh (an7 rfl (SqL.of hq2) rw' (λz=>(by cases z)) (λz=>(by cases z)) wl (λy H2 s2 hy0 hR=> ?_));lk;refine⟨hx,?_⟩;rw[ld];have sH2:aF H H2:=λb o z=>s2 _ _ (s1 _ _ z);have T2:=hT.same sH2;obtain⟨dx2,hob2⟩:=T2.ob;have yn:H y=none:=da s1 hy0;lk;refine mJ hob2 ⟨rfl,rfl,rfl⟩ rfl ?_;refine exP rfl (ex8 t rows c b a d as r.dep (an4 rfl T2 (by lia) ?_));by_cases e0:rows=[]
 .have hf0:r.dep=0/\r.isM=true:=by
   unfold fits at hf;rw[if_pos (by rw[e0];rfl)] at hf;exact hf
  exact .inl ⟨e0,hn y _ H2 sH2 yn hR (by rw[if_pos (by rw[e0];rfl)]) (.inl ⟨e0,hf0⟩)⟩
 .obtain ⟨j,j1,j2,j3,j4,j5,j6⟩:=DB hO e0 hf;refine .inr ⟨j,j1,j2,j3,j4,λH3 s3=> ?_⟩;exact hn y _ H3 (λb o z=>s3 _ _ (sH2 _ _ z)) yn (Pl.mono s3 hR) (by rw[if_neg (λz=>e0 (List.length_eq_zero_iff.mp z)),j6]) (.inr ⟨e0,⟨_,rfl⟩,j5,hnm⟩)
def TRk(cT:Addr)(p:Pl):TRT:=λH t rows FT=>∃(c b a d:Addr) (as:List Addr),ix cT p H t rows c b a d as/\FT=λe=>e=t\/e=c\/e=b\/e=a\/e=d\/e∈as
theorem DT{cT:Addr}(F:aL K "read" "read" xC dV f fd)(T:Txt mg)(hc:CT K cT)(xU:Mak P w K mg base true 1 "Tree" cT (qN cT p) [])(hN:gy P w K mg base 1 "names" (me p) λC=>C=cT)
  (fW:Cal P w K mg base true 1 "passed_over" wG []) (kR:Cal P w K mg base true 8 "take_row" (sv cT p) []):aB P w K mg base (CXE P w) true 9 f fd CV (A6 (TRk cT p)):=by
 have d_names:=hN.d
 rcases o7,(aa (bg (i:=1) o7.nd (D6 xU (hr.mono (by omega)) (by rfl) bL))
   (aa (pf PassesOwn.never rfl (Bg (by rfl) T.vL {cn PySem.F.plainAttrs_str PySem.F.slot_str_split PySem.F.type_str_split jQ (pv 0) {(aq)}}) (xx rfl (dH (b6 (i:=2) o7.nd rfl (by k_ne)) (dH (b6 (i:=3) o7.nd rfl (by k_ne)) uY))) (af (aW (gu (ee (bZ fW {pv 3}))) (af (bu (bZ kR {pv 1,pv 3,pv 2}))) ay)))
   (aa (aW (zct (xk (yz hr)) (pq (pv 1) d_names) (aR g9)) (af jh) ay)
   (af (av (pv 1)))))) with⟨x,out,rfl,⟨hx,_⟩,hp,hO,k⟩
 unfold parse at hp;rw[<- fQ x (by decide)] at hp;have sl:=split_len x (c:=10) (by decide);have bl:=nX x 10
 have le:∀y∈Txt.split x ⟨#[10]⟩,y.length<=100000:=λy hy=>by
  have:=ug 10 (cds x) (cds y) (by rw[<- fQ x (by decide)];exact List.mem_map.mpr ⟨y,hy,rfl⟩);rw[aA,aA] at this
  lia
 lk;intro t dx n1 n2 n3;refine ex3 t dx H (an6 rfl n1 n2 n3 rfl (λH1 c b a d s1 f1 f2 f3 f4 T1=>⟨rfl,?_⟩));lk;rw[s10];generalize Txt.split x ⟨#[10]⟩=lns at hp sl le;refine⟨fM (by lia),rfl,fM (Nat.le_trans bl (by lia)),fM (by lia),λq hq=> ?_⟩;lk;have q1:(upd H1 q (.lst (lns.map V.str))) q=some (.lst (lns.map V.str)):=ae;have s2:aF H1 (upd H1 q (.lst (lns.map V.str))):=aj hq;generalize upd H1 q (.lst (lns.map V.str))=H2 at q1 s2;refine⟨⟨_,SqL.of q1⟩,?_⟩;have nq:q≠c/\q≠b/\q≠a/\q≠d:=⟨λz=>(by rw[z,T1.ch] at hq;cases hq),λz=>(by rw[z,T1.bl] at hq;cases hq),λz=>(by rw[z,T1.ab] at hq;cases hq),λz=>(by rw[z,T1.pl] at hq;cases hq)⟩
 refine xT (n:=lns.length) (λi σ H'=>H' q=some (.lst (lns.map V.str))/\aF H H'/\∃(pre:List Row) (as:List Addr) (v2 v3:Option V),ix cT p H' t pre c b a d as/\OkP pre/\pre.length<=64/\scan pre i ((lns.drop i).map cds)=.ok out/\(∀y∈as,H y=none)/\σ=[some (.str x),some (.ref t),v2,v3])
  ⟨q1,λe u z=>s2 _ _ (s1 _ _ z),[],[],none,none,T1.same s2,λi hi=>absurd hi (Nat.not_lt_zero _),Nat.zero_le _,hp,λy hy=>(by cases hy),rfl⟩ ?_ ?_ ?_
 .rintro i σ H' hi ⟨z,_⟩;exact⟨_,V.str lns[i],SqL.of z,by rw[List.getElem?_map,List.getElem?_eq_getElem hi];rfl⟩
 .rintro i σ H' v H3 hi ⟨z1,z2,pre,as,v2,v3,Tp,Op,l64,sc,fr,rfl⟩ ⟨q3,y,hq3,rfl,hy,rfl⟩;have hy:=hy _ (SqL.of z1);rw[List.getElem?_map,List.getElem?_eq_getElem hi] at hy;obtain rfl:V.str lns[i]=y:=Option.some.inj hy;have s3:=aj (o:= .tup [.int ((1 + i:Nat):Int),V.str lns[i]]) hq3;refine ex2 q3 _ (an4 rfl (SqT.of ae) rfl ?_);have dr:(lns.drop i).map cds=cds lns[i]::(lns.drop (i + 1)).map cds:=by rw[List.drop_eq_getElem_cons hi,List.map_cons]
  rw[dr] at sc;have lx:=le lns[i] (List.getElem_mem hi);have T3:=Tp.same s3;lk;refine⟨lx,?_⟩;rcases Ax sc with⟨hpa,sc2⟩ | ⟨hpa,r,hli,hfi,hnm,h64,sc2⟩
  .rw [hpa];lk;exact⟨s3 _ _ z1,λe u z=>s3 _ _ (z2 _ _ z),pre,as,_,_,T3,Op,l64,sc2,fr,rfl⟩
  .rw [hpa];lk;refine FV t (lns[i]) _ pre r c b a d as (an9 rfl T3 Op (by lia) lx hli hfi hnm (λH4 y k4 hy4 T4=> ?_));refine⟨k4 _ _ nq.1 nq.2.1 nq.2.2.1 nq.2.2.2 (s3 _ _ z1),λe u z=> ?_,pre++[r],as++[y],_,_,T4,Op.snoc hfi,by rw[List.length_append];show pre.length + 1<=64;lia,sc2,λy' hy'=> ?_,rfl⟩
   .exact k4 e u (au z f1) (au z f2) (au z f3) (au z f4) (s3 _ _ (z2 _ _ z))
   .rcases List.mem_append.mp hy' with h | h
    .exact fr y' h
    .rw [List.mem_singleton.mp h];exact da (λe u z=>s3 _ _ (z2 _ _ z)) hy4
 .rintro σ H' ⟨z1,z2,pre,as,v2,v3,Tp,Op,l64,sc,fr,rfl⟩;rw[List.drop_length] at sc;obtain⟨hne,rfl⟩:=CN sc;obtain⟨dx',hob⟩:=Tp.ob;refine⟨⟨_,SqL.of z1,by rw[List.length_map];exact Nat.le_refl _⟩,?_⟩;lk;refine mJ hob ⟨rfl,rfl,rfl⟩ rfl ?_;refine ex7 t out c b a d as (an4 rfl Tp (by lia) (λq5 H5 s5 hq5 hq6=> ?_));lk;refine⟨l8 (by decide),λq6 hq7=> ?_⟩;have s6:=aj (o:= .lst []) hq7;lk;refine ex4 q5 q6 _ ([]) (an7 rfl rfl (SqL.of (s6 _ _ hq6)) (SqL.of ae) (sT _) rfl ?_);refine⟨_,rfl,?_⟩;refine bF (λe=> ?_) (λe=> ?_)
  .have e:oj ((namesOf out).map V.str) []=true:=e;cases out with
   | nil=>exact absurd rfl hne
   | cons r0 rs=>exact absurd e (by show ¬(false=true);decide)
  .lk;refine k t _ _ (λe u z=>s6 _ _ (s5 _ _ (z2 _ _ z))) (λe he=> ?_) ⟨c,b,a,d,as,(Tp.same s5).same s6,rfl⟩;rcases he with rfl | rfl | rfl | rfl | rfl | he
   .exact n1
   .exact f1
   .exact f2
   .exact f3
   .exact f4
   .exact fr _ he
open PySem L2 Shp Nm Tr Hs PySem.NumText
def Ct(p:Pl):Sp:=λvs H Q _=>∃(x:Addr) (r:Row),vs=[.ref x,.int ((2 * r.dep:Nat):Int)]/\p.rep H x r.sh/\OkR r.sh/\r.dep<=8/\∀H',aF H H'->Q (.str (ofC (gf r.dep 0 0 r.sh))) H'
theorem DD(F:aL K "written_row" "written_row" fX dV f fd)(T:Txt mg)(hcf:∀j,p.pr j->CF K (p.c j))(I:If P w K mg base 3 p.rep p.cl):aB P w K mg base (CXE P w) true 4 f fd jN (Ct p):=by
 have d_words:=gy.d (P:=P) (w:=w) (K:=K) (mg:=mg) (base:=base) (k:=3) (m:="words") (sp:=o1 p.rep) (Cl:=λC=>∃j,p.cl j C) λC ⟨j,c⟩=>I.words c;rcases pd,(af (av (ao aS (ao bY aq (pv 1)) (cn PySem.F.plainAttrs_str PySem.F.slot_str_join PySem.F.type_str_join cJ aq {ao qm (pq (pv 0) d_words) (aR {aV (pv 0) rfl})})))) with⟨x,r,rfl,hR,ok,hd,k⟩;obtain⟨C,dx,fs,hi,hC,nw,_⟩:=I.inst hR;have wb:=dG ok;have cd:cds (⟨(List.replicate (2 * r.dep) (" ":Str).cps).foldl (·++·) #[]⟩:Str)=List.replicate (2 * r.dep) 32:=by rw[eQ];exact md _ 32
 have ld:(⟨(List.replicate (2 * r.dep) (" ":Str).cps).foldl (·++·) #[]⟩:Str).length=2 * r.dep:=by rw[<- aA,cd,List.length_replicate]
 lk;refine⟨(by show 1 * _<=_;lia),(by lia),(by show 1<=_;decide),?_⟩;lk;refine mJ hi ⟨⟨_,hC⟩,rfl,rfl⟩ nw ?_;refine ex4 x dx fs r.sh (an4 rfl hR hi (λq H1 s1 hq hq2=> ?_));have hR1:=Pl.mono s1 hR;obtain⟨r1,r2,dx1,r3⟩:=id hR1;have cf:=hcf _ r2;lk;refine iC r3 cf.cl cf.n1 (oX _) ?_;refine⟨aO (by show 1<=1000;decide),λu hu=> ?_⟩;have su:=aj (o:= .lst [V.str r.sh.name]) hu;have wl:((words r.sh).map V.str).length<=7:=by rw[List.length_map];have:=wb.2;rw[List.length_append] at this;lia
 refine ex4 q u _ _ (an6 rfl rfl (su _ _ hq2) ae (by show _ + 1<=_;exact aO (by lia)) (λz hz=> ?_));have sz:=s1.trans (su.trans (aj (o:= .lst ((words r.sh).map V.str++[V.str r.sh.name])) hz));have ez:(words r.sh).map V.str++[V.str r.sh.name]=(words r.sh++[r.sh.name]).map V.str:=by rw[List.map_append];rfl
 refine ex3 (" ") z (words r.sh++[r.sh.name]) (an5 rfl rfl (by rw[<- ez];exact SqL.of ae) (by show _ + _ * 1<=_;lia) ?_)
 have rc:cds ((⟨(List.replicate (2 * r.dep) (" ":Str).cps).foldl (·++·) #[]⟩:Str)++Txt.join " " (words r.sh++[r.sh.name]))=gf r.dep 0 0 r.sh:=by
  rw[aT,cd,cG];unfold gf;rw[List.replicate_zero,List.append_nil]
  rfl
 have rl:=o3 ok r.dep;rw[<- rc,aA,cc] at rl;refine ex2 _ _ (an4 rfl rfl (aO (by lia)) ?_);have:=k _ sz;rw[<- rc,gR] at this;exact this
def tu(cT:Addr)(p:Pl):Sp:=λvs H Q _=>∃(t:Addr) (rows:List Row) (c b a d:Addr) (as:List Addr),vs=[.ref t]/\ix cT p H t rows c b a d as/\OkT rows/\∀H',aF H H'->Q (.str (ofC (written rows))) H'
theorem yh{cT:Addr}(F:aL K "written" "written" mw dV f fd)(T:Txt mg)(hc:CT K cT)(f7:Cal P w K mg base true 4 "written_row" (Ct p) []):aB P w K mg base (CXE P w) true 5 f fd tq (tu cT p):=by
 rcases qy,(aa (wQ (j:=1) qy.nd rfl (by k_ne) (xs:=["child","blanks"]) ⟨rfl,rfl,by decide +kernel,by decide +kernel,⟨rfl,rfl,True.intro⟩,by decide +kernel,(by repeat (first | exact True.intro | refine⟨rfl,?_⟩)),by repeat (first | exact True.intro | refine⟨(by first | exact λ_=>⟨_,rfl⟩ | (intro z;cases z)),?_⟩)⟩ rfl (EO ⟨rfl,rfl,by decide +kernel,by decide +kernel,⟨rfl,rfl,True.intro⟩,by decide +kernel,(by repeat (first | exact True.intro | refine⟨rfl,?_⟩)),by repeat (first | exact True.intro | refine⟨(by first | exact λ_=>⟨_,rfl⟩ | (intro z;cases z)),?_⟩)⟩) (EG (by rfl) T.Gm {aV (pv 0) rfl,aV (pv 0) rfl}) (λ_ _ _ _=>vw) (λ_ _ _ _=>(kP f7 (hr.mono (by omega)) (by rfl) sD {pv 0,pv 1})))
   (af (av (cn PySem.F.plainAttrs_str PySem.F.slot_str_join PySem.F.type_str_join cJ aq {pv 1})))) with⟨t,rows,c,b,a,d,as,rfl,hT,ok,k⟩
 obtain⟨dx,hob⟩:=hT.ob;have h64:=ok.len
 have d8:∀i,i < rows.length->(rows.getD i default).dep<=8:=λi hi=>by
  have:=ok.fit i hi;unfold Tr.fits at this
  split at this
  .have:(rows.getD i default).dep=0:=this.1
   lia
  .exact this.2.1
 lk;refine iC hob hc.cl hc.n1 rfl ?_;lk;refine iC hob hc.cl hc.n2 rfl ?_;refine ex2 c b (an4 rfl ⟨_,SqL.of hT.ch⟩ ⟨_,SqL.of hT.bl⟩ ?_);refine vC (m:=rows.length) (λi ys H'=>aF H H'/\∃xs:List Str,ys=xs.map V.str/\xs.map cds=(dQ rows).take i) ⟨aF.refl _,[],rfl,rfl⟩ ?_ ?_ ?_ ?_
 .rintro i ys H' hi ⟨s1,_⟩;have t2:=hT.same s1;exact⟨_,_,V.ref (as[i]'(by rw[hT.ln];exact hi)),V.int ((2 * rows[i].dep:Nat):Int),SqL.of t2.ch,SqL.of t2.bl,by rw[List.getElem?_map,List.getElem?_eq_getElem];rfl,by unfold bb;rw[List.getElem?_map,List.getElem?_eq_getElem hi];rfl⟩
 .rintro ys H' ⟨s1,_⟩;have t2:=hT.same s1;exact⟨_,_,SqL.of t2.ch,SqL.of t2.bl,by rw[List.length_map,hT.ln];exact Nat.le_refl _⟩
 .rintro i ys H' v H2 hi ⟨s1,xs,rfl,hx⟩ ⟨q,x,y,hq,rfl,h1,h2,rfl⟩ σ0 hσ;have t2:=hT.same s1;have h1:=h1 _ (SqL.of t2.ch);have h2:=h2 _ (SqL.of t2.bl);have ha:as[i]? =some (as[i]'(by rw[hT.ln];exact hi)):=List.getElem?_eq_getElem _;have hr:rows[i]? =some rows[i]:=List.getElem?_eq_getElem hi;have hg:rows.getD i default=rows[i]:=by rw[List.getD_eq_getElem?_getD,hr];rfl
  rw[List.getElem?_map,ha] at h1;unfold bb at h2;rw[List.getElem?_map,hr] at h2;obtain rfl:=Option.some.inj h1;obtain rfl:=Option.some.inj h2;have hR:=t2.rp i _ ha;rw[hg] at hR
  obtain⟨u0,u1,rfl⟩:∃u0 u1,σ0=[u0,u1]:=by
   match σ0,hσ with
   | [a,b],_=>exact⟨a,b,rfl⟩
  have sq:=aj (o:= .tup [V.ref (as[i]'(by rw[hT.ln];exact hi)),V.int ((2 * rows[i].dep:Nat):Int)]) hq;refine⟨q,_,rfl,SqT.of ae,rfl,_,_,rfl,_,_,rfl,rfl,?_⟩
  have xl:xs.length=i:=by
   have:=congrArg List.length hx;rw[List.length_map,List.length_take,Tr.plain_len] at this
   lia
  have d8':=d8 i hi;rw[hg] at d8';lk;refine⟨Pl.mono sq hR,ok.sh _ (List.getElem_mem hi),d8',λH3 s3=>⟨by rw[List.length_map,xl];exact aE (by lia),s1.trans (sq.trans s3),xs++[ofC (gf rows[i].dep 0 0 rows[i].sh)],by rw[List.map_append];rfl,?_⟩⟩;rw[List.map_append,hx,List.take_add_one]
  congr 1
  unfold dQ;rw[List.getElem?_map,hr]
  rfl
 .rintro ys H' ⟨s1,xs,rfl,hx⟩;rw[<- Tr.plain_len,List.take_length] at hx
  have xl:xs.length=rows.length:=by
   have:=congrArg List.length hx;rwa [List.length_map,Tr.plain_len] at this
  refine⟨by rw[List.length_map,xl];exact aO (by lia),λp hp=> ?_⟩;lk
  have sm:(xs.map (·.length)).sum<=83 * xs.length:=by
   refine Nat.le_trans (uZ (n:=83) λy hy=> ?_) (by rw[List.length_map];exact Nat.le_refl _);obtain⟨z,hz,rfl⟩:=List.mem_map.mp hy;have:cds z∈dQ rows:=by rw[<- hx];exact List.mem_map.mpr ⟨z,hz,rfl⟩
   obtain⟨r,hr,e⟩:=List.mem_map.mp this;obtain⟨i,hi,rfl⟩:=List.getElem_of_mem hr;have h2:=o3 (ok.sh _ hr) rows[i].dep;have:=d8 i hi;rw[List.getD_eq_getElem?_getD,List.getElem?_eq_getElem hi] at this;have this:rows[i].dep<=8:=this;rw[<- aA,<-e]
   lia
  refine ex3 ("\n") p xs (an5 rfl rfl (SqL.of ae) (by show _ + _ * 1<=_;lia) ?_)
  have ej:Txt.join "\n" xs=ofC (written rows):=by
   refine fI ?_;rw[cG,hx,lY]
   rfl
  rw[ej];exact k _ (s1.trans (aj hp))
def yW(p:Pl)(cN:Addr)(C:Addr):Sp:=λvs H Q E=>∃(t:Addr) (x:Str) (rows:List Row) (c b a d:Addr) (as:List Addr),vs=[.ref t,.str x]/\ix C p H t rows c b a d as/\x∉rows.map (·.sh.name)/\x.length<=20/\(∀ch∈cds x,ch < 1000)/\E (.ref cN) none H
theorem AK{rows:List Row}{x:Str}(h:x∉rows.map (·.sh.name)):ik (aY rows) (.inr x)=none:=by
 unfold ik;rw[List.find?_eq_none.mpr]
 .rfl
 intro kv hk z;obtain⟨i,hi,rfl⟩:=List.mem_map.mp hk;have z:=Sum.inr.inj (of_decide_eq_true z);refine h (List.mem_map.mpr ⟨rows.getD i default,ni (List.mem_range.mp hi),z⟩)
theorem Co{cT cN:Addr}(F:aL K "find" "Tree.find" fU dV f fd)(T:Txt mg)(hc:CT K cT)(gC:mg "NoName"=some (.ref cN))(gG:rS K cN):aB P w K mg base (CXE P w) false 1 f fd fR (yW p cN cT):=by
 refine F.ok1 lq λvs H Q E y0=> ?_;obtain⟨t,x,rows,c,b,a,d,as,rfl,hT,hx,hl,hch,k⟩:=y0
 refine⟨rfl,λcdv A outer s hr=>⟨_,(aa (aW (B1 (nv (qb hr) (pv 1) (aV (pv 0) rfl))) (af (B3 rfl yp gG (by rfl) gC {DW (y6 aq (y6 (EK (pv 1)) EV))})) ay)
   (af (av (y7 (qb hr) (aV (pv 0) rfl) (pv 1) (λ_ _=>rfl))))),?_⟩⟩
 fin2
 obtain⟨dx,hob⟩:=hT.ob
 have dg:mx H d (V.str x) none:=by
  have:=mx.k (k:= .inr x) hT.pl;rw[AK hx] at this;exact this
 have rl:=PySem.StrLaws.reprText_len x (λch hm=>Nat.lt_of_lt_of_le (hch ch hm) (by decide));lk;refine iC hob hc.cl hc.n4 rfl ?_;lk;refine ex2 d none (an3 rfl dg ?_);lk
 have l2:(Str.empty++Str.ofString "no child is called "++PySem.reprText x).length<=sizeLine:=by
  rw[PySem.Str.length_append];refine aO ?_;have:(Str.empty++Str.ofString "no child is called ").length<=40:=by decide +kernel
  lia
 refine⟨by decide +kernel,?_⟩;lk;exact⟨aO (by lia),_,rfl,l2,l2,aO (by show 1<=1000;decide),k⟩
def spF(p:Pl)(cN:Addr)(C:Addr):Sp:=λvs H Q E=>A7 p C vs H Q E\/yW p cN C vs H Q E
open PySem L2 Shp Nm Tr Hs PySem.NumText
def yZ:Sp:=λvs H Q _=>∃(a b:Addr) (xs:List Str),vs=[.ref a,.ref b]/\H a=some (.lst (xs.map V.str))/\H b=some (.lst (xs.map V.str))/\xs.length<=64/\Q (.bl true) H
theorem Cc(F:aL K "_law_texts" "_law_texts" ux dV f fd)(T:Txt mg):aB P w K mg base (CXE P w) true 1 f fd yQ yZ:=by
 rcases wH,(aa (aW (PW.pt (gv (gu (ee (aC gz (by rfl) T.cg bP {pv 0,mI (by rfl) T.uU El}))) (gk (zct kY (aC aG (by rfl) T.dh bS {pv 0}) (aC aG (by rfl) T.dh bS {pv 1}))))) (af (av ig)) ay)
   (aa (pf PassesOwn.never rfl (mm (by rfl) T.lK {aC aG (by rfl) T.dh bS {pv 1}}) (b6 (i:=2) wH.nd rfl (by k_ne)) (af (aW (PW.pt (gv (gu (ee (aC gz (by rfl) T.cg bP {zix az (pv 0) (pv 2),mI (by rfl) T.eu cu}))) (gk (zct kY (zix az (pv 0) (pv 2)) (zix az (pv 1) (pv 2)))))) (af (av ig)) ay)))
   (af (av ig)))) with⟨a,b,xs,rfl,ha,hb,hl,k⟩
 lk;refine⟨_,_,.type "list",.type "list",true,rfl,.lst ha,⟨"list",.inl ⟨rfl,rfl⟩⟩,iX,?_⟩;lk;refine ex2 a _ (an3 rfl (.inl (SqL.of ha)) ?_);lk;refine ex2 b _ (an3 rfl (.inl (SqL.of hb)) ?_);lk;refine bF (λe=> ?_) (λe=> ?_)
 .exact absurd e (by simp)
 lk;refine ex2 b _ (an3 rfl (.inl (SqL.of hb)) ?_);lk;rw[List.length_map];refine⟨by lia,by lia,?_⟩;refine m3 (lo:=0) (n:=(xs.length:Int).toNat) (λi σ H'=>H'=H/\∃v,σ=[some (.ref a),some (.ref b),v]) ⟨rfl,_,rfl⟩ ?_ ?_
 .rintro i σ H' hi ⟨rfl,v,rfl⟩;have il:i < xs.length:=by rw[Int.toNat_natCast] at hi;exact hi
  have at1:atI (xs.map V.str) ((i:Nat):Int)=some (V.str xs[i]):=cj (by rw[List.getElem?_map,List.getElem?_eq_getElem il];rfl);rw[Int.zero_add];lk;refine pQ (SqL.of ha) at1 ?_;refine⟨_,_,.type "str",.type "str",true,rfl,.str _,⟨"str",.inl ⟨rfl,rfl⟩⟩,iX,?_⟩;lk;refine pQ (SqL.of ha) at1 ?_;lk;refine pQ (SqL.of hb) at1 ?_;lk;refine bF (λe=>absurd e (by simp)) (λ_=> ?_);exact⟨rfl,_,rfl⟩
 .rintro σ H' ⟨rfl,v,rfl⟩;lk;exact k
def B4(K:PySem.W.Frag):Sp:=λvs H Q _=>∃(wp:Addr) (d:Nat) (s:Sh) (c:Int),vs=[.int (d:Int),.ref wp,.str s.name,.int c]/\H wp=some (.lst ((words s).map V.str))/\OkR s/\d<=8/\∀H',aF H H'->Q (.str (ofC (aD [10] (bj d s c)))) H'
theorem tY(n:Nat):cds (⟨(List.replicate n (" ":Str).cps).foldl (·++·) #[]⟩:Str)=List.replicate n 32/\(⟨(List.replicate n (" ":Str).cps).foldl (·++·) #[]⟩:Str).length=n:=by
 have h:cds (⟨(List.replicate n (" ":Str).cps).foldl (·++·) #[]⟩:Str)=List.replicate n 32:=by rw[eQ];exact md _ 32
 exact⟨h,by rw[<- aA,h,List.length_replicate]⟩
theorem C9(n:Nat):cds (⟨(List.replicate n ("  ":Str).cps).foldl (·++·) #[]⟩:Str)=List.replicate (2 * n) 32/\(⟨(List.replicate n ("  ":Str).cps).foldl (·++·) #[]⟩:Str).length=2 * n:=by
 have h:cds (⟨(List.replicate n ("  ":Str).cps).foldl (·++·) #[]⟩:Str)=List.replicate (2 * n) 32:=by rw[eQ];exact wU _ 32
 exact⟨h,by rw[<- aA,h,List.length_replicate]⟩
theorem DE(F:aL K "_law_row" "_law_row" s_row dV f fd)(T:Txt mg):aB P w K mg base (CXE P w) true 1 f fd Eu (B4 K):=by
 rcases qd,(aa (bg (i:=4) qd.nd (ao bY aq (ao c9 ag (ao aJ (pv 3) ag))))
   (aa (bg (i:=5) qd.nd (ao aS (ao aS (ao bY aq (pv 0)) (cn PySem.F.plainAttrs_str PySem.F.slot_str_join PySem.F.type_str_join cJ (pv 4) {ao qm (pv 1) (aR {pv 2})})) (ao bY aq (ao aJ (ao bt (pv 3) ag) ag))))
   (aa (aW (zct cq (ao aJ (pv 3) ag) ag) (af (bg (i:=5) qd.nd (ao aS (ao aS (ao aS aq (pv 2)) aq) (pv 5)))) ay)
   (aa (aW (zct cq (ao aJ (pv 3) ag) ag) (af (bg (i:=5) qd.nd (ao aS (ao aS (pv 5) aq) (ao bY aq (ao aJ (pv 3) ag))))) ay)
   (af (av (pv 5))))))) with⟨wp,d,z,c,rfl,hw,ok,hd,k⟩
 have e1:=ba c (n:=3) (by decide);have e2:=ba (c / 3) (n:=3) (by decide);have e3:=ba c (n:=5) (by decide);obtain⟨n1,h1⟩:=Int.eq_ofNat_of_zero_le e1.1;obtain⟨n2,h2⟩:=Int.eq_ofNat_of_zero_le e2.1;obtain⟨n3,h3⟩:=Int.eq_ofNat_of_zero_le e3.1;have wb:=dG ok;lk;refine ex2 (" ") (n1 + 1) (an6 rfl (by rw[h1];congr 1;lia) (by show 1 * _<=_;lia) (by lia) (by show 1<=_;decide) ?_);obtain⟨g1,g2⟩:=tY (n1 + 1);generalize (⟨(List.replicate (n1 + 1) (" ":Str).cps).foldl (·++·) #[]⟩:Str)=gap at g1 g2;lk;refine⟨(by show 2 * _<=_;lia),(by lia),(by show 2<=_;decide),?_⟩;obtain⟨a1,a2⟩:=C9 d;generalize (⟨(List.replicate d ("  ":Str).cps).foldl (·++·) #[]⟩:Str)=ind at a1 a2;lk;refine⟨aO (by show 1<=1000;decide),λu hu=> ?_⟩;have su:=aj (o:= .lst [V.str z.name]) hu;have wl:((words z).map V.str).length<=7:=by rw[List.length_map];have:=wb.2;rw[List.length_append] at this;lia
 refine ex4 wp u _ _ (an6 rfl rfl (su _ _ hw) ae (by show _ + 1<=_;exact aO (by lia)) (λv hv=> ?_));have sz:=su.trans (aj (o:= .lst ((words z).map V.str++[V.str z.name])) hv);have ez:(words z).map V.str++[V.str z.name]=(words z++[z.name]).map V.str:=by rw[List.map_append];rfl
 have gm:(words z++[z.name]).length * gap.length<=7 * 3:=Nat.mul_le_mul wb.2 (by lia);refine ex3 gap v (words z++[z.name]) (an5 rfl rfl (by rw[<- ez];exact SqL.of ae) (by lia) ?_);have jc:cds (Txt.join gap (words z++[z.name]))=aD (List.replicate (n1 + 1) 32) ((words z++[z.name]).map cds):=by rw[cG,g1]
 have jl:(Txt.join gap (words z++[z.name])).length<=60 + 21:=by
  rw[<- aA,jc];have hj:=eS (List.replicate (n1 + 1) 32) ((words z++[z.name]).map cds);rw[List.map_map,List.length_map,List.length_replicate,show(λx:List Nat=>x.length)∘cds=λx:Str=>x.length from funext aA,<-g2] at hj
  lia
 generalize Txt.join gap (words z++[z.name])=jn at jc jl;generalize upd (upd H u (.lst [V.str z.name])) v _=H1 at sz;lk;refine⟨aO (by lia),?_⟩;lk;refine ex2 (" ") n2 (an6 rfl (congrArg V.int h2) (by show 1 * _<=_;lia) (by lia) (by show 1<=_;decide) ?_);obtain⟨b1,b2⟩:=tY n2;generalize (⟨(List.replicate n2 (" ":Str).cps).foldl (·++·) #[]⟩:Str)=tl at b1 b2;lk
 have rc:cds (ind++jn++tl)=ou d z c:=by
  unfold ou gf;rw[aT,aT,a1,jc,b1,h1,h2,List.append_assoc]
  rfl
 have rl:(ind++jn++tl).length<=110:=by rw[cc,cc];lia
 refine⟨aO (by rw[cc];lia),?_⟩;generalize ind++jn++tl=row at rc rl;have k:=k H1 sz;have nl:=ok.nm.2.1;have l5:(Str.ofString "   # ").length=5:=by decide +kernel
 have l1:(Str.ofString "\n").length=1:=by decide +kernel
 lk;refine bF (λe=> ?_) (λe=> ?_)
 .have e:c % 11=4:=jv e
  have ec:cds (Str.ofString "   # "++z.name++Str.ofString "\n"++row)=aD [10] (bj d z c):=by
   unfold bj;rw[if_pos e,aT,aT,aT,rc]
   rfl
  rw[<- ec,gR] at k;lk;refine⟨aO (by lia),?_⟩;lk;refine⟨aO (by rw[cc];lia),?_⟩;lk;refine⟨aO (by rw[cc,cc];lia),?_⟩;lk;refine bF (λe'=> ?_) (λe'=> ?_)
  .have e':c % 11=7:=jv e'
   lia
  lk;exact k
 .have e:c % 11≠4:=qQ e;lk;refine bF (λe'=> ?_) (λe'=> ?_)
  .have e':c % 11=7:=jv e'
   have ec:∀y:Str,cds y=List.replicate n3 32->cds (row++Str.ofString "\n"++y)=aD [10] (bj d z c):=λy hy=>by
    unfold bj;rw[if_neg e,if_pos e',aT,aT,rc,hy,h3]
    rfl
   lk;refine⟨aO (by lia),?_⟩;lk;refine ex2 (" ") n3 (an6 rfl (congrArg V.int h3) (by show 1 * _<=_;lia) (by lia) (by show 1<=_;decide) ?_);obtain⟨c1,c2⟩:=tY n3;generalize (⟨(List.replicate n3 (" ":Str).cps).foldl (·++·) #[]⟩:Str)=y at c1 c2;rw[<- ec y c1,gR] at k;lk;refine⟨aO (by rw[cc];lia),?_⟩;lk;exact k
  .have e':c % 11≠7:=qQ e'
   have ec:cds row=aD [10] (bj d z c):=by
    unfold bj;rw[if_neg e,if_neg e',rc]
    rfl
   rw[<- ec,gR] at k;lk;exact k
open PySem L2 Shp Nm Tr Hs PySem.NumText
def yJ(K:PySem.W.Frag):Sp:=λvs H Q _=>∃(a:Addr) (ns:List Int),vs=[.ref a]/\SqL K H a (ns.map V.int)/\∀H',Q (.bl true) H'
def oy(ns:List Int)(i:Nat):Int:=ns.getD (3 + i) 0 / 2
theorem FG{rows:List Row}(ok:OkT rows){r:Row}(hr:r∈rows):r.dep<=8:=by
 obtain⟨i,hi,rfl⟩:=List.getElem_of_mem hr;have:=ok.fit i hi;rw[List.getD_eq_getElem?_getD,List.getElem?_eq_getElem hi] at this;unfold Tr.fits at this
 split at this
 .have:rows[i].dep=0:=this.1
  lia
 .exact this.2.1
theorem ET{cT cN cM:Addr}(F:aL K "law" "law" pJ dV f fd)(T:Txt mg)(bp:Cal P w K mg base true 1 "_law_cell_at" (xt K) [])(xF:Cal P w K mg base true 3 "_law_tree" (Bu K) [])(oR:Cal P w K mg base true 1 "_law_texts" yZ [])(BP:Cal P w K mg base true 1 "_law_row" (B4 K) [])
  (tS:Cal P w K mg base true 9 "read" (A6 (TRk cT p)) []) (jy:Cal P w K mg base true 5 "written" (tu cT p) []) (hN:gy P w K mg base 1 "names" (me p) λC=>C=cT) (hF:MethAt P w K mg base (CXE P w) false 1 "find" cT (spF p cN cT) [])
  (gr:mg "MinderError"=some (.ref cM)) (gj:rS K cM) (gC:mg "NoName"=some (.ref cN)) (gG:rS K cN) (mr:PySem.W.mroIn K cN (.ref cN)=some true):aB P w K mg base (CXE P w) false 20 f fd EC (yJ K):=by
 refine F.pF cC λvs H Q E y0=> ?_;obtain⟨sa,ns,rfl,hS,k⟩:=y0;refine⟨rfl,λcdv Ar outer s0 hr=> ?_⟩;have d_names:=hN.d
 have d_find:∀C s dvs,Dt (spF p cN) (λC=>C=cT) C s dvs->MethAt P w K mg base (CXE P w) false 1 "find" C s dvs:=by
  rintro C s dvs ⟨rfl,rfl,rfl⟩;exact hF
 have t8:∃t,PSs (ip false (CXE P w) P w K mg base Bz "law" (ah pJ) f cdv Ar outer s0 H E).nox ((bf pJ).drop 8) t/\∀(H1:Hp) (t0 dp ep wp np rp pp c b a d:Addr) (as:List Addr) (rows:List Row) (mark:Int) (ps:List Str) (v9:Option V),SqL K H1 sa (ns.map V.int)->H1 np=some (.lst (rows.map λr=>V.str r.sh.name))->dB rows mark->H1 pp=some (.lst (ps.map V.str))->ps.map cds=dQ rows->ix cT p H1 t0 rows c b a d as→
   t { nx:=λ_ H'=>Q .non H',rt:=Q} [some (.ref sa),some (.int (rows.length:Int)),some (.int mark),some (.ref dp),some (.ref ep),some (.ref wp),some (.ref np),some (.ref rp),some (.ref pp),v9,some (.ref t0),none,none,none,none] H1:=by
  refine⟨_,(aa (aW (gu (ee (bZ oR {pq (pv 10) d_names,pv 6}))) (af (av ig)) ay)
   (aa (bu (cn PySem.F.plainAttrs_list PySem.F.slot_list_append PySem.F.type_list_append bJ (pq (pv 10) d_names) {(aq)}))
   (aa (bg (i:=11) cC.nd (ao aJ (bZ bp {pv 0,(ag)}) (pv 1)))
   (aa (bg (i:=12) cC.nd (zmD (pv 10) d_find {zix az (pv 6) (pv 11)}))
   (aa (aW (PW.pt (gv (gu (ee (aC gz (by rfl) T.cg bP {pv 12,mI (by rfl) T.A5 xX}))) (gv (ee (aC gz (by rfl) T.cg bP {pv 12,mI (by rfl) T.Fw Ea})) (gv (zct kY (pv 12) (pv 11)) (gk (gu (ee (bZ oR {pq (pv 10) d_names,pv 6})))))))) (af (av ig)) ay)
   (aa (xb ⟨rfl,rfl,rfl⟩ (λD pn' E' hT hP=>(aa (bu (wJ (pv 10) d_find (hr.mono (by omega)) (passes hT) {ao aS (ao aS aq (pI FO (zix (Cq (K0:=K) rfl) (pv 6) (pv 11)) ze (o6 ag))) aq}))
   (af (av ig))))
    ay
    (yq ⟨rfl,rfl,rfl⟩ (by rfl) gC gG (λe o=>(af (bg (i:=13) cC.nd (kP jy ((hr.mark _).mono (by omega)) (by rfl) (passes hG) {kP tS ((hr.mark _).mono (by omega)) (by rfl) (passes hG) {BV (K0:=K) rfl PySem.F.plainAttrs_str PySem.F.slot_str_join PySem.F.type_str_join (lr (K0:=K)) aq {pv 8}}}))))
    vd))
   (aa (bg (i:=14) cC.nd (bZ jy {pv 10}))
   (aa (aW (PW.pt (gv (gu (ee (aC gz (by rfl) T.cg bP {pv 14,mI (by rfl) T.eu cu}))) (gk (zct kY (pv 14) (cn PySem.F.plainAttrs_str PySem.F.slot_str_join PySem.F.type_str_join cJ aq {pv 8}))))) (af (av ig)) ay)
   (af (av (mF (aC gz (by rfl) T.cg bP {pv 13,mI (by rfl) T.eu cu}) (mO (zce cq (pv 13) (pv 14)))))))))))))),?_⟩
  fin2
  intro H1 t0 dp ep wp np rp pp c b a d as rows mark ps v9 hS1 hnp hRI hpp hps hT;have ok:=hRI.ok;have h64:=ok.len;have hlr:rows.length<=1000:=by lia
  have xl:(namesOf rows).length=rows.length:=List.length_map _;have hnp':H1 np=some (.lst ((namesOf rows).map V.str)):=by rw[hnp,namesOf,List.map_map];rfl
  obtain⟨dx,hob⟩:=hT.ob;lk;refine mJ hob ⟨rfl,rfl,rfl⟩ rfl ?_;refine ex7 t0 rows c b a d as (an4 rfl hT hlr (λq2 H2 s2 hq2 hq2'=> ?_));lk;refine ex3 q2 np (namesOf rows) (an5 rfl hq2' (s2 _ _ hnp') (by lia) ?_);have T2:=hT.same s2;obtain⟨dx2,hob2⟩:=T2.ob;lk;refine mJ hob2 ⟨rfl,rfl,rfl⟩ rfl ?_;refine ex7 t0 rows c b a d as (an4 rfl T2 hlr (λq3 H3 s3 hq3 hq3'=> ?_));lk;refine⟨.inl ⟨rfl,_,SqL.of hq3'⟩,?_⟩;lk;refine ex3 q3 _ _ (an5 rfl rfl hq3' (by rw[List.length_map,xl];exact aE (by lia)) ?_);have s4:aF H1 (upd H3 q3 (.lst ((namesOf rows).map V.str++[V.str "qq"]))):=s2.trans (λe o z=>by rw[ak (au z hq3)];exact s3 _ _ z);generalize upd H3 q3 (.lst ((namesOf rows).map V.str++[V.str "qq"]))=H4 at s4;have T4:=hT.same s4;obtain⟨dx4,hob4⟩:=T4.ob;have n4:=s4 _ _ hnp;have p0:(0:Int) < (rows.length:Int):=by have:=hRI.ne;lia
  have m0:=Int.emod_nonneg (ns.getD 2 0) (show(rows.length:Int)≠0 by lia);have m1:=Int.emod_lt_of_pos (ns.getD 2 0) p0;obtain⟨i,hi⟩:=Int.eq_ofNat_of_zero_le m0;have il:i < rows.length:=by lia
  have an:atI (rows.map λr=>V.str r.sh.name) ((i:Nat):Int)=some (V.str (rows.getD i default).sh.name):=cj (by rw[List.getElem?_map,List.getD_eq_getElem?_getD,List.getElem?_eq_getElem il];rfl);lk;refine ex3 sa 2 ns (an4 rfl (SqL.same hS1 s4) (by decide) ?_);lk;refine⟨p0,?_⟩;show ib 11 (V.int (ns.getD 2 0 % (rows.length:Int))) _ _ _;rw[hi];lk;refine mJ hob4 ⟨rfl,rfl,rfl⟩ rfl ?_;lk;refine pQ (SqL.of n4) an ?_;refine .inl (ex8 t0 rows c b a d as i (an5 rfl T4 il ok.nd (λH5 s5=> ?_)));have s5:=s4.trans s5;have T5:=hT.same s5;obtain⟨dx5,hob5⟩:=T5.ob;lk;refine⟨_,_,.type "int",.type "int",true,rfl,.int _,⟨"int",.inl ⟨rfl,rfl⟩⟩,iX,?_⟩;lk;refine⟨_,_,.type "int",.type "bool",false,rfl,.int _,⟨"bool",.inl ⟨rfl,rfl⟩⟩,uq,?_⟩;lk;refine bF (λe=>absurd e (by simp)) (λ_=> ?_);lk;refine mJ hob5 ⟨rfl,rfl,rfl⟩ rfl ?_;refine ex7 t0 rows c b a d as (an4 rfl T5 hlr (λq6 H6 s6 hq6 hq6'=> ?_));lk;refine ex3 q6 np (namesOf rows) (an5 rfl hq6' (s6 _ _ (s5 _ _ hnp')) (by lia) ?_);have s6:=s5.trans s6;have T6:=hT.same s6;obtain⟨dx6,hob6⟩:=T6.ob;have nm:=(ok.sh _ (ni il)).nm;have nC:=hRI.nm i il;have sl:(Txt.slice (rows.getD i default).sh.name none (some 2)).length<=12:=Nat.le_trans (AI _ _ _) nm.2.1;lk;refine mJ hob6 ⟨rfl,rfl,rfl⟩ rfl ?_;lk;refine pQ (SqL.of (s6 _ _ hnp)) an ?_;lk;refine⟨aO (by have:=nm.2.1;lia),?_⟩;generalize ey:Txt.slice (rows.getD i default).sh.name none (some 2)=y at sl;have yc:cds y=(cds (rows.getD i default).sh.name).take 2:=by rw[<- ey];exact FW _ 2
  have l4:(Str.ofString "none").length=4:=by decide +kernel
  have l1:(Str.ofString "0").length=1:=by decide +kernel
  have ln:(Str.ofString "\n").length=1:=by decide +kernel
  lk;refine⟨aO (by lia),?_⟩;lk;refine⟨aO (by rw[cc];lia),?_⟩;have xc:cds (Str.ofString "none"++y++Str.ofString "0")=cds "none"++cds y++cds "0":=by rw[aT,aT]
  have xn:Str.ofString "none"++y++Str.ofString "0"∉rows.map (·.sh.name):=λhm=>by
   obtain⟨r,hr,e⟩:=List.mem_map.mp hm;obtain⟨j,hj,rfl⟩:=List.getElem_of_mem hr;have:=hRI.nm j hj;rw[List.getD_eq_getElem?_getD,List.getElem?_eq_getElem hj] at this;have this:rows[j].sh.name=nameOf j mark:=this;rw[this] at e;refine DV (cds y) j mark ?_;rw[<- xc,gR,e]
  have xl5:(Str.ofString "none"++y++Str.ofString "0").length<=20:=by rw[cc,cc];lia
  have xs5:∀ch∈cds (Str.ofString "none"++y++Str.ofString "0"),ch < 1000:=λch hm=>by
   rw[xc] at hm;rcases List.mem_append.mp hm with hm | hm
   .rcases List.mem_append.mp hm with hm | hm
    .have:∀ch∈cds "none",ch < 1000:=by decide +kernel
     exact this ch hm
    .rw [yc] at hm;have:=(xD nm).2 ch (List.mem_of_mem_take hm)
     lia
   .have:∀ch∈cds "0",ch < 1000:=by decide +kernel
    exact this ch hm
  generalize Str.ofString "none"++y++Str.ofString "0"=x5 at xn xl5 xs5
  have pj:Txt.join "\n" ps=ofC (written rows):=by
   refine fI ?_;rw[cG,hps,lY]
   rfl
  have pl:ps.length=rows.length:=by
   have:=congrArg List.length hps;rwa [List.length_map,Tr.plain_len] at this
  have psum:(ps.map (·.length)).sum<=83 * ps.length:=by
   refine Nat.le_trans (uZ (n:=83) λy hy=> ?_) (by rw[List.length_map];exact Nat.le_refl _);obtain⟨z,hz,rfl⟩:=List.mem_map.mp hy;have:cds z∈dQ rows:=by rw[<- hps];exact List.mem_map.mpr ⟨z,hz,rfl⟩
   obtain⟨r,hr,e⟩:=List.mem_map.mp this;have h2:=o3 (ok.sh _ hr) r.dep;have:=FG ok hr;rw[<- aA,<-e]
   lia
  have jl:(Txt.join "\n" ps).length<=100000:=by
   have:=eS [10] (ps.map cds);rw[<- aA,cG];rw[List.map_map,List.length_map,show(λx:List Nat=>x.length)∘cds=λx:Str=>x.length from funext aA] at this;have e:cds (Str.ofString "\n")=[10]:=by decide +kernel
   have this:(aD [10] (ps.map cds)).length<=(ps.map (·.length)).sum + ps.length * 1:=this;show(aD (cds (Str.ofString "\n")) (ps.map cds)).length<=_;rw[e]
   lia
  refine .inr (ex8 t0 x5 rows c b a d as (an6 rfl T6 xn xl5 xs5 ⟨cN,true,rfl,mr,?_⟩));rw[if_pos rfl];lk;refine ex3 ("\n") pp ps (an5 rfl rfl (SqL.of (s6 _ _ hpp)) (by show _ + _ * 1<=_;lia) ?_);refine ex2 _ rows (an5 rfl ⟨jl,trivial⟩ (by rw[pj,lY];exact rV ok) ok (λt7 H7 FT s7 _ hTR=> ?_));obtain⟨c7,b7,a7,d7,as7,T7,_⟩:=hTR;refine ex7 t7 rows c7 b7 a7 d7 as7 (an4 rfl T7 ok (λH8 s8=> ?_));have s8:=s6.trans (s7.trans s8);lk;refine ex7 t0 rows c b a d as (an4 rfl (hT.same s8) ok (λH9 s9=> ?_));have s9:=s8.trans s9;lk;refine⟨_,_,.type "str",.type "str",true,rfl,.str _,⟨"str",.inl ⟨rfl,rfl⟩⟩,iX,?_⟩;lk;refine ex3 ("\n") pp ps (an5 rfl rfl (SqL.of (s9 _ _ hpp)) (by show _ + _ * 1<=_;lia) ?_);rw[pj];lk;refine bF (λe=>absurd e (by simp)) (λ_=> ?_);lk;refine⟨_,_,.type "str",.type "str",true,rfl,.str _,⟨"str",.inl ⟨rfl,rfl⟩⟩,iX,?_⟩;lk;rw[decide_eq_true rfl];exact k _
 obtain⟨t8,ht8,hn8⟩:=t8
 have t2:∃t,PSs (ip false (CXE P w) P w K mg base Bz "law" (ah pJ) f cdv Ar outer s0 H E).nox ((bf pJ).drop 2) t/\∀ct:Nat,1<=ct->ct<=64->t { nx:=λ_ H'=>Q .non H',rt:=Q} [some (.ref sa),some (.int (ct:Int)),none,none,none,none,none,none,none,none,none,none,none,none,none] H:=by
  refine⟨_,(aa (bg (i:=2) cC.nd (bZ bp {pv 0,(ag)}))
   (aa (Cu (bZ xF {pv 0,(ag),pv 1,pv 2}) (xx rfl (dH (b6 (i:=3) cC.nd rfl (by k_ne)) (dH (b6 (i:=4) cC.nd rfl (by k_ne)) (dH (b6 (i:=5) cC.nd rfl (by k_ne)) (dH (b6 (i:=6) cC.nd rfl (by k_ne)) uY))))))
   (aa (bg (i:=7) cC.nd (aR g9))
   (aa (bg (i:=8) cC.nd (aR g9))
   (aa (pf PassesOwn.never rfl (mm (by rfl) T.lK {pv 1}) (b6 (i:=9) cC.nd rfl (by k_ne)) (aa (bu (cn PySem.F.plainAttrs_list PySem.F.slot_list_append PySem.F.type_list_append bJ (pv 7) {bZ BP {zix az (pv 3) (pv 9),zix az (pv 5) (pv 9),zix az (pv 6) (pv 9),ao bt (bZ bp {pv 0,ao c9 ag (pv 9)}) ag}}))
   (af (bu (cn PySem.F.plainAttrs_list PySem.F.slot_list_append PySem.F.type_list_append bJ (pv 8) {ao aS (ao bY aq (zix az (pv 3) (pv 9))) (cn PySem.F.plainAttrs_str PySem.F.slot_str_join PySem.F.type_str_join cJ aq {ao qm (zix az (pv 5) (pv 9)) (aR {zix az (pv 6) (pv 9)})})})))))
   (aa (xb ⟨rfl,rfl,rfl⟩ (λD pn' E' hT hP=>(af (bg (i:=10) cC.nd (kP tS (hr.mono (by omega)) (by rfl) (passes hT) {BV (K0:=K) rfl PySem.F.plainAttrs_str PySem.F.slot_str_join PySem.F.type_str_join (lr (K0:=K)) aq {pv 7}}))))
    ay
    (yq ⟨rfl,rfl,rfl⟩ (by rfl) gr gj (λe o=>(af (av ig)))
    vd))
   ht8)))))),?_⟩
  fin2
  intro ct h1 h64;lk;refine ex3 sa 1 ns (an4 rfl hS (by decide) ?_);generalize ns.getD (Int.toNat 1) 0=mark;lk;refine ex5 sa ns 2 mark ct (an6 rfl hS (by decide) h1 h64 (λq dp ep wp np H1 rows s1 hq hT hR hl=> ?_));subst hl;lk;refine ex2 q _ (an4 rfl (SqT.of hq) rfl ?_);lk;refine⟨aO (by show 0<=1000;decide),λrp hrp=> ?_⟩;lk;refine⟨aO (by show 0<=1000;decide),λpp hpp=> ?_⟩;have ok:=hR.ok;have nrp:pp≠rp:=λz=>by rw[z,ae] at hpp;cases hpp
  have hpp1:H1 pp=none:=by rw[ak nrp] at hpp;exact hpp
  have s3:aF H1 (upd (upd H1 rp (.lst [])) pp (.lst [])):=(aj hrp).trans (aj hpp);have z1:(upd (upd H1 rp (.lst [])) pp (.lst [])) rp=some (.lst []):=by rw[ak (Ne.symm nrp)];exact ae
  have z2:(upd (upd H1 rp (.lst [])) pp (.lst [])) pp=some (.lst []):=ae;generalize upd (upd H1 rp (.lst [])) pp (.lst [])=H3 at s3 z1 z2;lk;refine⟨by lia,by lia,?_⟩
  refine m3 (lo:=0) (n:=(rows.length:Int).toNat) (λi σ H'=>∃(v9:Option V) (rs ps:List Str),σ=[some (.ref sa),some (.int (rows.length:Int)),some (.int mark),some (.ref dp),some (.ref ep),some (.ref wp),some (.ref np),some (.ref rp),some (.ref pp),v9,none,none,none,none,none]/\aF H1 H'∧
   H' rp=some (.lst (rs.map V.str))/\H' pp=some (.lst (ps.map V.str))/\rs.map cds=((lJ (oy ns) rows).map (aD [10])).take i/\ps.map cds=(dQ rows).take i) ⟨_,[],[],rfl,s3,z1,z2,rfl,rfl⟩ ?_ ?_
  .rintro i σ H' hi ⟨v9,rs,ps,rfl,s4,y1,y2,hrs,hps⟩;have il:i < rows.length:=by rw[Int.toNat_natCast] at hi;exact hi
   have hr0:rows[i]? =some rows[i]:=List.getElem?_eq_getElem il;have hg:rows.getD i default=rows[i]:=by rw[List.getD_eq_getElem?_getD,hr0];rfl
   have okr:=ok.sh rows[i] (List.getElem_mem il);have hd8:=FG ok (List.getElem_mem il);have t4:=hT.mono s4;have zd:atI (rows.map λr=>V.int (r.dep:Int)) (i:Int)=some (V.int (rows[i].dep:Int)):=cj (by rw[List.getElem?_map,hr0];rfl);have zn:atI (rows.map λr=>V.str r.sh.name) (i:Int)=some (V.str rows[i].sh.name):=cj (by rw[List.getElem?_map,hr0];rfl);obtain⟨as,w1,w2,w3⟩:=id t4.w;rw[List.length_map] at w2;have ha:as[i]? =some (as[i]'(by lia)):=List.getElem?_eq_getElem (by lia);have zw:atI (as.map V.ref) (i:Int)=some (V.ref (as[i]'(by lia))):=cj (by rw[List.getElem?_map,ha];rfl);have hw:=w3 i _ (words rows[i].sh) ha (by rw[List.getElem?_map,hr0];rfl);generalize as[i]'(by lia)=ai at zw hw;have wb:=dG okr
   have rl:rs.length=i:=by
    have:=congrArg List.length hrs;rw[List.length_map,List.length_take,List.length_map,lJ,List.length_map,List.length_range] at this
    lia
   have pl:ps.length=i:=by
    have:=congrArg List.length hps;rw[List.length_map,List.length_take,Tr.plain_len] at this
    lia
   rw[Int.zero_add];lk;refine⟨.inl ⟨rfl,_,SqL.of y1⟩,?_⟩;lk;refine pQ (SqL.of t4.d) zd ?_;lk;refine pQ (SqL.of w1) zw ?_;lk;refine pQ (SqL.of t4.n) zn ?_;lk;refine ex3 sa (3 + (i:Int)) ns (an4 rfl (SqL.same hS (s1.trans s4)) (by lia) ?_);rw[show (3 + (i:Int)).toNat=3 + i by lia];lk;refine ex4 ai rows[i].dep rows[i].sh (oy ns i) (an5 rfl hw okr hd8 (λH5 s5=> ?_));refine ex3 rp _ _ (an5 rfl rfl (s5 _ _ y1) (by rw[List.length_map,rl];exact aE (by lia)) ?_);have s6:aF H1 (upd H5 rp (.lst (rs.map V.str++[V.str (ofC (aD [10] (bj rows[i].dep rows[i].sh (oy ns i))))]))):=fk (s4.trans s5) hrp;have y3:(upd H5 rp (.lst (rs.map V.str++[V.str (ofC (aD [10] (bj rows[i].dep rows[i].sh (oy ns i))))]))) rp=some (.lst (rs.map V.str++[V.str (ofC (aD [10] (bj rows[i].dep rows[i].sh (oy ns i))))])):=ae;have y4:(upd H5 rp (.lst (rs.map V.str++[V.str (ofC (aD [10] (bj rows[i].dep rows[i].sh (oy ns i))))]))) pp=some (.lst (ps.map V.str)):=by rw[ak nrp];exact s5 _ _ y2
   generalize upd H5 rp (.lst (rs.map V.str++[V.str (ofC (aD [10] (bj rows[i].dep rows[i].sh (oy ns i))))]))=H6 at s6 y3 y4;have t6:=hT.mono s6;obtain⟨as6,x1,x2,x3⟩:=id t6.w;rw[List.length_map] at x2;have ha6:as6[i]? =some (as6[i]'(by lia)):=List.getElem?_eq_getElem (by lia);have zw6:atI (as6.map V.ref) (i:Int)=some (V.ref (as6[i]'(by lia))):=cj (by rw[List.getElem?_map,ha6];rfl);have hw6:=x3 i _ (words rows[i].sh) ha6 (by rw[List.getElem?_map,hr0];rfl);generalize as6[i]'(by lia)=bi at zw6 hw6;lk;refine⟨.inl ⟨rfl,_,SqL.of y4⟩,?_⟩;lk;refine pQ (SqL.of t6.d) zd ?_;lk;refine⟨(by show 2 * _<=_;lia),(by lia),(by show 2<=_;decide),?_⟩;lk;refine pQ (SqL.of x1) zw6 ?_;lk;refine pQ (SqL.of t6.n) zn ?_;refine⟨aO (by show 1<=1000;decide),λu hu=> ?_⟩;have su:=aj (o:= .lst [V.str rows[i].sh.name]) hu;have wl:((words rows[i].sh).map V.str).length<=7:=by rw[List.length_map];have:=wb.2;rw[List.length_append] at this;lia
   refine ex4 bi u _ _ (an6 rfl rfl (su _ _ hw6) ae (by show _ + 1<=_;exact aO (by lia)) (λz hz=> ?_));have sz:=su.trans (aj (o:= .lst ((words rows[i].sh).map V.str++[V.str rows[i].sh.name])) hz);have ez:(words rows[i].sh).map V.str++[V.str rows[i].sh.name]=(words rows[i].sh++[rows[i].sh.name]).map V.str:=by rw[List.map_append];rfl
   refine ex3 (" ") z (words rows[i].sh++[rows[i].sh.name]) (an5 rfl rfl (by rw[<- ez];exact SqL.of ae) (by show _ + _ * 1<=_;lia) ?_);have rc:=Cz rows[i].dep rows[i].sh;have rl2:=o3 okr rows[i].dep;rw[<- rc,aA,cc] at rl2;refine ex2 _ _ (an4 rfl rfl (aO (by lia)) ?_);lk;refine ex3 pp _ _ (an5 rfl rfl (sz _ _ y4) (by rw[List.length_map,pl];exact aE (by lia)) ?_);lk;refine⟨_,rs++[ofC (aD [10] (bj rows[i].dep rows[i].sh (oy ns i)))],ps++[(⟨(List.replicate rows[i].dep ("  ":Str).cps).foldl (·++·) #[]⟩:Str)++Txt.join " " (words rows[i].sh++[rows[i].sh.name])],rfl,fk (s6.trans sz) hpp1,?_,?_,?_,?_⟩
   .rw [ak (Ne.symm nrp),List.map_append];exact sz _ _ y3
   .rw [ae,List.map_append]
    rfl
   .rw [List.map_append,hrs,List.take_add_one]
    congr 1
    rw[List.getElem?_map,lJ,List.getElem?_map,List.getElem?_range il];show _=[aD [10] (bj (rows.getD i default).dep (rows.getD i default).sh (oy ns i))];rw[hg]
    rfl
   .rw [List.map_append,hps,List.take_add_one]
    congr 1
    show [cds _]=_;rw[rc];unfold dQ;rw[List.getElem?_map,hr0]
    rfl
  .rintro σ H' ⟨v9,rs,ps,rfl,s4,y1,y2,hrs,hps⟩;rw[Int.toNat_natCast] at hrs hps;rw[<- Tr.plain_len,List.take_length] at hps;have hll:((lJ (oy ns) rows).map (aD [10])).length=rows.length:=by rw[List.length_map,lJ,List.length_map,List.length_range]
   rw[<- hll,List.take_length] at hrs
   have rl:rs.length=rows.length:=by
    have:=congrArg List.length hrs;rwa [List.length_map,hll] at this
   have h64:=ok.len
   have rsum:(rs.map (·.length)).sum<=150 * rs.length:=by
    refine Nat.le_trans (uZ (n:=150) λy hy=> ?_) (by rw[List.length_map];exact Nat.le_refl _);obtain⟨z,hz,rfl⟩:=List.mem_map.mp hy;have:cds z∈(lJ (oy ns) rows).map (aD [10]):=by rw[<- hrs];exact List.mem_map.mpr ⟨z,hz,rfl⟩
    obtain⟨ls,hl,e⟩:=List.mem_map.mp this;obtain⟨j,hj,rfl⟩:=List.mem_map.mp hl;have hj:=List.mem_range.mp hj;rw[<- aA,<-e];exact xR (ok.sh _ (ni hj)) (FG ok (ni hj)) _
   have rj:cds (Txt.join "\n" rs)=aD [10] ((lJ (oy ns) rows).map (aD [10])):=by
    rw[cG,hrs]
    rfl
   have jl:(Txt.join "\n" rs).length<=100000:=by
    have:=eS [10] (rs.map cds);rw[List.map_map,List.length_map,show(λx:List Nat=>x.length)∘cds=λx:Str=>x.length from funext aA] at this;have this:(aD [10] (rs.map cds)).length<=(rs.map (·.length)).sum + rs.length * 1:=this;rw[<- aA,rj,<-hrs]
    lia
   lk;refine ex3 ("\n") rp rs (an5 rfl rfl (SqL.of y1) (by show _ + _ * 1<=_;lia) ?_);refine ex2 _ rows (an5 rfl ⟨jl,trivial⟩ (by rw[rj];exact GV _ ok) ok (λt7 H7 FT s7 _ hTR=> ?_));obtain⟨c7,b7,a7,d7,as7,T7,_⟩:=hTR;lk;exact hn8 H7 t7 dp ep wp np rp pp c7 b7 a7 d7 as7 rows mark ps v9 (SqL.same hS (s1.trans (s4.trans s7))) ((s4.trans s7) _ _ hT.n) hR (s7 _ _ y2) hps T7
 obtain⟨t2,ht2,hn2⟩:=t2
 refine⟨_,(aa (bg (i:=1) cC.nd (ao c9 ag (ao aJ (bZ bp {pv 0,(ag)}) ag)))
   (aa (aW (zct cq (ao aJ (ao bt (bZ bp {pv 0,(ag)}) ag) ag) ag) (af (bg (i:=1) cC.nd (ao c9 ag (pv 1)))) ay)
   ht2)),?_⟩
 fin2
 lk;refine ex3 sa 0 ns (an4 rfl hS (by decide) ?_);lk;refine ex3 sa 0 ns (an4 rfl hS (by decide) ?_);lk;have b14:=ba (ns.getD 0 0) (n:=14) (by decide);obtain⟨c0,hc0⟩:=Int.eq_ofNat_of_zero_le b14.1;refine bF (λe=> ?_) (λe=> ?_)
 .have:=hn2 (50 + (1 + c0)) (by lia) (by lia);lk;show t2 _ [some (.ref sa),some (V.int (50 + (1 + ns.getD 0 0 % 14))),none,none,none,none,none,none,none,none,none,none,none,none,none] H;rw[hc0];exact this
 .have:=hn2 (1 + c0) (by lia) (by lia);lk;show t2 _ [some (.ref sa),some (V.int (1 + ns.getD 0 0 % 14)),none,none,none,none,none,none,none,none,none,none,none,none,none] H;rw[hc0];exact this
end
open PySem L2 Shp Nm Tr Hs PySem.NumText
theorem all_mk{l:PySem.W.OpenLaw}{w:World}{K:PySem.W.Frag}{h:Heap}{mg:Str->Option Value}{fa:Addr}(X:K.In h)(G:h.Ns mainGlobals mg)(hfa:mg "law"=some (.ref fa))
  {sN iB nO sy gI dY fO eK fP cL eF eB bU dE cP lS ie gD so nK h9 q9 hU lz og nT eI jP qZ iU jS qY C2 jT sV sk Bo jf kW Be yK Em Ez jX pz iO yU cH bB bA bz aQ aI iu uW lC gB fB fz:Addr}
  {tD mH kQ kK:Value}
  {Cv ur mq ke kG:Option Addr}
  {Cr vf nH kh kC:Array (Option Value)}
  {xP wj oG xB xE ow uv qP yi x4 xH iP jZ ky jt iZ jg jb:Tok}
  {D0 wa oI lN lj:Nat}
  (Z:Nos K ["ValueError","all","bool","enumerate","int","isinstance","len","list","min","range","str","zip"])
  (Al:PySem.W.nsIn K mainGlobals "FIGURES"=some (some (.str "0123456789" xP)))
  (xM:PySem.W.nsIn K mainGlobals "GREATEST"=some (some (.int 1000000 wj)))
  (qv:PySem.W.nsIn K mainGlobals "MOST_FIGURES"=some (some (.int 7 oG)))
  (Af:PySem.W.nsIn K mainGlobals "LETTERS"=some (some (.str "abcdefghijklmnopqrstuvwxyz" xB)))
  (AS:PySem.W.nsIn K mainGlobals "LONGEST"=some (some (.int 12 xE)))
  (qh:PySem.W.nsIn K mainGlobals "FEWEST_WORDS"=some (some (.int 6 ow)))
  (wD:PySem.W.nsIn K mainGlobals "MOST_ROWS"=some (some (.int 64 uv)))
  (rG:PySem.W.nsIn K mainGlobals "MOST_BLANKS"=some (some (.int 16 qP)))
  (Gs0:Gls K [("made_of",sN),("told_plainly",iB),("number_in",nO),("is_name",sy),("leaf_in",so),("minder_in",nK),("by_first_word",h9),("child_in",q9),("passed_over",jP),("words_in",qZ),("blanks_ahead",iU),("stands_well",jS),("take_row",qY),("read",C2),("written_row",jT),("written",sV),("_law_cell_at",sk),("_law_name",Bo),("_law_minder_words",jf),("_law_leaf_words",kW),("_law_tree",Be),("_law_texts",yK),("_law_row",Em),("law",Ez),("MinderError",jX),("NoNumber",pz),("NoName",iO),("Child",yU),("Leaf",cH),("Steady",bB),("Faller",bA),("Minder",bz),("AllMinder",aQ),("RestMinder",aI),("Tree",iu),("KEEPS",uW)])
  (BN:K.lookup uW=some ⟨.type "tuple",Cv,.seq #[.str "always" yi,.str "fallen" x4,.str "never" xH] D0,Cr⟩)
  (DA:Mts K cH [("leaf",fO),("words",eK),("work_words",fP),("__init__",dY)])
  (Ah:Mts K bB [("leaf",fO),("words",eK),("work_words",eF),("__init__",cL)])
  (z9:Mts K bA [("leaf",fO),("words",eK),("work_words",eB),("__init__",cL)])
  (Ad:Mts K bz [("leaf",dE),("way",lS),("words",cP),("__init__",bU)])
  (uR:Mts K aQ [("leaf",dE),("way",ie),("words",cP),("__init__",bU)])
  (rq:Mts K aI [("leaf",dE),("way",gD),("words",cP),("__init__",bU)])
  (C8:Mts K iu [("find",og),("minder_above",eI),("names",lz),("take",nT),("__init__",hU)])
  (kZ:ByV K yU "__init__" gI)
  (mY:ByV K cH "__init__" dY)
  (V0:a8 K sN "made_of" "made_of" nj .none/\a8 K iB "told_plainly" "told_plainly" eX .none/\a8 K nO "number_in" "number_in" iI (.ref lC)/\a8 K sy "is_name" "is_name" mZ .none/\a8 K gI "__init__" "Child.__init__" dw .none/\a8 K dY "__init__" "Leaf.__init__" dO (.ref gB)/\a8 K fO "leaf" "Leaf.leaf" iz .none/\a8 K eK "words" "Leaf.words" g7 .none/\a8 K fP "work_words" "Leaf.work_words" cY .none/\a8 K cL "__init__" "Worker.__init__" c5 (.ref fB)/\a8 K eF "work_words" "Steady.work_words" cz .none/\a8 K eB "work_words" "Faller.work_words" cw .none/\a8 K bU "__init__" "Minder.__init__" cW (.ref fz)/\a8 K dE "leaf" "Minder.leaf" gq .none/\a8 K cP "words" "Minder.words" fv .none/\a8 K lS "way" "Minder.way" gU .none/\a8 K ie "way" "AllMinder.way" dW .none/\a8 K gD "way" "RestMinder.way" dq .none/\a8 K so "leaf_in" "leaf_in" nI .none/\a8 K nK "minder_in" "minder_in" jr .none/\True)
  (V1:a8 K h9 "by_first_word" "by_first_word" dU .none/\a8 K q9 "child_in" "child_in" kH .none/\a8 K hU "__init__" "Tree.__init__" d0 .none/\a8 K lz "names" "Tree.names" gQ .none/\a8 K og "find" "Tree.find" fU .none/\a8 K nT "take" "Tree.take" ja .none/\a8 K eI "minder_above" "Tree.minder_above" cx .none/\a8 K jP "passed_over" "passed_over" f9 .none/\a8 K qZ "words_in" "words_in" kc .none/\a8 K iU "blanks_ahead" "blanks_ahead" fu .none/\a8 K jS "stands_well" "stands_well" fY .none/\a8 K qY "take_row" "take_row" eZ .none/\a8 K C2 "read" "read" xC .none/\a8 K jT "written_row" "written_row" fX .none/\a8 K sV "written" "written" mw .none/\a8 K sk "_law_cell_at" "_law_cell_at" nk .none/\a8 K Bo "_law_name" "_law_name" qL .none/\a8 K jf "_law_minder_words" "_law_minder_words" eT .none/\a8 K kW "_law_leaf_words" "_law_leaf_words" cS .none/\a8 K Be "_law_tree" "_law_tree" kq .none/\True)
  (V2:a8 K yK "_law_texts" "_law_texts" ux .none/\a8 K Em "_law_row" "_law_row" s_row .none/\a8 K Ez "law" "law" pJ .none/\True)
  (wV:K.lookup lC=some ⟨tD,ur,.seq #[.int 1000000 iP] wa,vf⟩)
  (om:K.lookup gB=some ⟨mH,mq,.seq #[.int 0 jZ,.int 0 ky] oI,nH⟩)
  (kU:K.lookup fB=some ⟨kQ,ke,.seq #[.int 0 jt,.int 0 iZ] lN,kh⟩)
  (lB:K.lookup fz=some ⟨kK,kG,.seq #[.int 1 jg,.int 1 jb] lj,kC⟩)
  (Ee:tT K cH)
  (AZ:tT K bB)
  (zM:tT K bA)
  (AU:tT K bz)
  (tX:tT K aQ)
  (rR:tT K aI)
  (Ec:tT K iu)
  (D2:NoX K cH ["grace","keep","many","most","name","slow","span"])
  (Ab:NoX K bB ["grace","keep","many","most","name","slow","span"])
  (AH:NoX K bA ["grace","keep","many","most","name","slow","span"])
  (zW:NoX K bz ["grace","keep","many","most","name","slow","span"])
  (uJ:NoX K aQ ["grace","keep","many","most","name","slow","span"])
  (rY:NoX K aI ["grace","keep","many","most","name","slow","span"])
  (Dg:NoX K iu ["above","blanks","children","places"])
  (D8:MkV K cH)
  (Ai:MkV K bB)
  (zK:MkV K bA)
  (AN:MkV K bz)
  (uk:MkV K aQ)
  (rW:MkV K aI)
  (Eg:MkV K iu)
  (m5:PySem.W.mroIn K iO (.ref iO)=some true)
  (gj:PySem.W.excIn K jX bmV "ValueError.__new__"=true)
  (kg:PySem.W.excIn K pz bmV "ValueError.__new__"=true)
  (gG:PySem.W.excIn K iO bmV "ValueError.__new__"=true)
  (iN:cH≠bB)
  (iE:cH≠bA)
  (iy:cH≠bz)
  (fN:cH≠aQ)
  (fw:cH≠aI)
  (gA:bB≠bA)
  (gE:bB≠bz)
  (er:bB≠aQ)
  (dM:bB≠aI)
  (gF:bA≠bz)
  (eh:bA≠aQ)
  (dI:bA≠aI)
  (eD:bz≠aQ)
  (dJ:bz≠aI)
  (cK:aQ≠aI):
  ∃fd:FuncData,(∀(s:Shared) (u:Value),BindsTo s fd ⟨[u],[]⟩ [("_law_script",u)])/\∀base:Heap,K.In base->base.Ns mainGlobals mg->aB l.prog w K mg base (CXE l.prog w) false 20 fa fd ["_law_script"] (yJ K):=by
 obtain⟨uK,Gk,ER,vD,Gb,u3,Gv,E3,GQ,DK,GR,Gy,_⟩:=Z;have T:Txt mg:=⟨PySem.W.mg_none_of X G uK,PySem.W.mg_none_of X G Gk,PySem.W.mg_none_of X G ER,PySem.W.mg_none_of X G vD,PySem.W.mg_none_of X G Gb,PySem.W.mg_none_of X G u3,PySem.W.mg_none_of X G Gv,PySem.W.mg_none_of X G E3,PySem.W.mg_none_of X G GQ,PySem.W.mg_none_of X G DK,PySem.W.mg_none_of X G GR,PySem.W.mg_none_of X G Gy⟩;have eO:=PySem.W.mg_of X G Al;have kB:=PySem.W.mg_of X G xM;have ff:=PySem.W.mg_of X G qv;have ny:=PySem.W.mg_of X G Af;have mK:=PySem.W.mg_of X G AS;have bH:=PySem.W.mg_of X G qh;have i0:=PySem.W.mg_of X G wD;have fV:=PySem.W.mg_of X G rG;obtain⟨z7,qr,wK,zJ,Aw,wR,oE,yf,rJ,yx,pH,rz,yj,Fc,rD,zG,AR,Fs,qT,uF,F0,Dc,F8,Gh,rC,xO,BJ,D7,FK,Bq,BK,Cm,wI,tU,EL,Dh,_⟩:=Gs0;have wA:=PySem.W.mg_of X G wK;have gr:=PySem.W.mg_of X G rC;have j0:=PySem.W.mg_of X G xO;have gC:=PySem.W.mg_of X G BJ;have Dd:=PySem.W.mg_of X G D7;have Bh:=PySem.W.mg_of X G FK;have Bf:=PySem.W.mg_of X G Bq;have A0:=PySem.W.mg_of X G BK;have B6:=PySem.W.mg_of X G Cm;have wu:=PySem.W.mg_of X G wI;have u6:=PySem.W.mg_of X G tU;have Fp:=PySem.W.mg_of X G EL;have uG:=PySem.W.mg_of X G Dh;have tQ:∀H:Hp,SqT K H uW [V.str "always",V.str "fallen",V.str "never"]:=λH=> .inr ⟨_,_,_,BN,rfl,rfl,Nat.le_of_lt (aE (show 3<=1000 by decide)),(.cons ⟨_,rfl⟩ (.cons ⟨_,rfl⟩ (.cons ⟨_,rfl⟩ .nil)))⟩;obtain⟨uQ,rX,kF,my,_⟩:=DA;obtain⟨qV,oC,i9,kr,_⟩:=Ah;obtain⟨pZ,oO,iH,kM,_⟩:=z9;obtain⟨qH,rH,oA,kf,_⟩:=Ad;obtain⟨k7,nB,kE,iq,_⟩:=uR;obtain⟨kj,mj,jG,gZ,_⟩:=rq;obtain⟨tE,i7,sg,uu,m9,_⟩:=C8;obtain⟨zQ,pR,wY,AL,gw,dR,fF,eM,fS,cZ,eC,eo,bV,dD,cR,lD,hX,gK,Aq,wC,_⟩:=V0;obtain⟨oK,yu,hW,t9,nV,wM,jF,rA,xq,qq,rg,x9,E0,r9,AF,Av,FR,qR,uL,Fo,_⟩:=V1;obtain⟨D9,GC,GN,_⟩:=V2;obtain⟨_,jm⟩:=wY.d;have rm:=jm.ud (ps:=iG) (ds:=[.int 1000000 iP]) wV rfl λ_ _ _ _ _ _=>lnD (n:=1) rfl (ln1 λ_=>⟨_,rfl,rfl⟩);obtain⟨_,gJ⟩:=gw.d;have mz:=gJ.binds (ps:=dj) λ_ _ _ _ _ _=>ln3 λ_ _ _=>rfl;obtain⟨_,dS⟩:=dR.d;have fL:=dS.ud (ps:=bN) (ds:=[]) om rfl λ_ _ _ _ _ _=>lnD (n:=5) rfl (ln5 λ_ _ _ _ _=>⟨_,rfl,rfl⟩);obtain⟨_,fH⟩:=fF.d;have jk:=fH.binds (ps:=iT) λ_ _ _ _ _ _=>ln1 λ_=>rfl;obtain⟨_,eL⟩:=eM.d;have gY:=eL.binds (ps:=gW) λ_ _ _ _ _ _=>ln1 λ_=>rfl;obtain⟨_,fG⟩:=fS.d;have l9:=fG.binds (ps:=cQ) λ_ _ _ _ _ _=>ln1 λ_=>rfl;obtain⟨_,de⟩:=cZ.d;have et:=de.ud (ps:=aX) (ds:=[]) kU rfl λ_ _ _ _ _ _=>lnD (n:=6) rfl (ln6 λ_ _ _ _ _ _=>⟨_,rfl,rfl⟩);obtain⟨_,eE⟩:=eC.d;have jB:=eE.binds (ps:=cA) λ_ _ _ _ _ _=>ln1 λ_=>rfl;obtain⟨_,eA⟩:=eo.d;have jK:=eA.binds (ps:=cv) λ_ _ _ _ _ _=>ln1 λ_=>rfl;obtain⟨_,bT⟩:=bV.d;have cy:=bT.ud (ps:=bw) (ds:=[]) lB rfl λ_ _ _ _ _ _=>lnD (n:=5) rfl (ln5 λ_ _ _ _ _=>⟨_,rfl,rfl⟩);obtain⟨_,dF⟩:=dD.d;have gg:=dF.binds (ps:=fZ) λ_ _ _ _ _ _=>ln1 λ_=>rfl;obtain⟨_,cU⟩:=cR.d;have fD:=cU.binds (ps:=eU) λ_ _ _ _ _ _=>ln1 λ_=>rfl;obtain⟨_,lT⟩:=lD.d;have vt:=lT.binds (ps:=gX) λ_ _ _ _ _ _=>ln1 λ_=>rfl;obtain⟨_,hZ⟩:=hX.d;have oz:=hZ.binds (ps:=dZ) λ_ _ _ _ _ _=>ln1 λ_=>rfl;obtain⟨_,gx⟩:=gK.d;have mM:=gx.binds (ps:=dC) λ_ _ _ _ _ _=>ln1 λ_=>rfl;obtain⟨_,hV⟩:=hW.d;have oJ:=hV.binds (ps:=ed) λ_ _ _ _ _ _=>ln1 λ_=>rfl;obtain⟨_,jq⟩:=nV.d;have wO:=jq.binds (ps:=fR) λ_ _ _ _ _ _=>ln2 λ_ _=>rfl;obtain⟨_,Ey⟩:=GN.d;have FH:=Ee.d;have B9:=AZ.d;have BL:=zM.d;have Cd:=AU.d;have vI:=tX.d;have uM:=rR.d;have E8:=Ec.d;obtain⟨rB,tV,uw,ue,ua,uT,ub,_⟩:=D2;obtain⟨oM,qW,pY,qk,qx,qu,qX,_⟩:=Ab;obtain⟨oQ,qS,qp,qw,pV,qG,pS,_⟩:=AH;obtain⟨oP,pC,pO,p9,qt,qz,ph,_⟩:=zW;obtain⟨j9,lI,lZ,mf,lF,lA,lU,_⟩:=uJ;obtain⟨jC,kn,kI,ki,j8,kO,kx,_⟩:=rY;obtain⟨sj,rb,mU,ra,_⟩:=Dg;have wm:=fF.mt uQ;have uO:=eM.mt rX;have k9:=fS.mt kF;have rK:=fF.mt qV;have pT:=eM.mt oC;have jL:=eC.mt i9;have rn:=fF.mt pZ;have qc:=eM.mt oO;have jE:=eo.mt iH;have rF:=dD.mt qH;have uX:=lD.mt rH;have qC:=cR.mt oA;have ng:=dD.mt k7;have oi:=hX.mt nB;have lu:=cR.mt kE;have lW:=dD.mt kj;have nc:=gK.mt mj;have kJ:=cR.mt jG;have wN:=nV.mt tE;have Fb:=dR.mk my D8;have A1:=cZ.mk kr Ai;have BR:=cZ.mk kM zK;have Bj:=bV.mk kf AN;have wo:=bV.mk iq uk;have tP:=bV.mk gZ rW;have FY:=hW.mk m9 Eg;have lE:=gw.bc kZ;have nA:=dR.bc mY;have e:=hfa.symm.trans (PySem.W.mg_of X G Gh);cases e;refine⟨_,Ey.bl (p:=λfd=>∀(s:Shared) (u:Value),BindsTo s fd ⟨[u],[]⟩ [("_law_script",u)]) λ_ _ _ _ _ _ s v=>BindsTo.of_eq rfl,λbase _ _=> ?_⟩;have ju:CF K cH:=⟨FH,ua,tV,rB,uT,uw,ue,ub⟩;have dm:CF K bB:=⟨B9,qx,qW,oM,qu,pY,qk,qX⟩;have dA:CF K bA:=⟨BL,pV,qS,oQ,qG,qp,qw,pS⟩;have eR:CF K bz:=⟨Cd,qt,pC,oP,qz,pO,p9,ph⟩;have b8:CF K aQ:=⟨vI,lF,lI,j9,lA,lZ,mf,lU⟩;have bO:CF K aI:=⟨uM,j8,kn,jC,kO,kI,ki,kx⟩
 have inj:∀i j:Nat,(i=0\/i=1\/i=2\/i=3\/i=4\/i=5)->(j=0\/j=1\/j=2\/j=3\/j=4\/j=5)->(λj:Nat=>match j with | 0=>cH | 1=>bB | 2=>bA | 3=>bz | 4=>aQ | _=>aI) i=(λj:Nat=>match j with | 0=>cH | 1=>bB | 2=>bA | 3=>bz | 4=>aQ | _=>aI) j->i=j:=by
  rintro i j (rfl | rfl | rfl | rfl | rfl | rfl) (rfl | rfl | rfl | rfl | rfl | rfl) h
  .rfl
  .exact absurd h iN
  .exact absurd h iE
  .exact absurd h iy
  .exact absurd h fN
  .exact absurd h fw
  .exact absurd h.symm iN
  .rfl
  .exact absurd h gA
  .exact absurd h gE
  .exact absurd h er
  .exact absurd h dM
  .exact absurd h.symm iE
  .exact absurd h.symm gA
  .rfl
  .exact absurd h gF
  .exact absurd h eh
  .exact absurd h dI
  .exact absurd h.symm iy
  .exact absurd h.symm gE
  .exact absurd h.symm gF
  .rfl
  .exact absurd h eD
  .exact absurd h dJ
  .exact absurd h.symm fN
  .exact absurd h.symm er
  .exact absurd h.symm eh
  .exact absurd h.symm eD
  .rfl
  .exact absurd h cK
  .exact absurd h.symm fw
  .exact absurd h.symm dM
  .exact absurd h.symm dI
  .exact absurd h.symm dJ
  .exact absurd h.symm cK
  .rfl
 obtain⟨p,e0,e1,e2,e3,e4,e5,pr0,pr1,pr2,pr3,pr4,pr5,hpr⟩:∃p:Pl,p.c 0=cH/\p.c 1=bB/\p.c 2=bA/\p.c 3=bz/\p.c 4=aQ/\p.c 5=aI/\p.pr 0/\p.pr 1/\p.pr 2/\p.pr 3/\p.pr 4/\p.pr 5/\(∀j,p.pr j->(j=0\/j=1\/j=2\/j=3\/j=4\/j=5)):=⟨⟨_,λj=>(j=0\/j=1\/j=2\/j=3\/j=4\/j=5),inj⟩,rfl,rfl,rfl,rfl,rfl,rfl,(.inl rfl),(.inr (.inl rfl)),(.inr (.inr (.inl rfl))),(.inr (.inr (.inr (.inl rfl)))),(.inr (.inr (.inr (.inr (.inl rfl))))),(.inr (.inr (.inr (.inr (.inr (rfl)))))),λ_ h=>h⟩;subst e0 e1 e2 e3 e4 e5;have k0:Cmt l.prog w K mg base true 1 "Child" "__init__" (oW K) []:=⟨_,_,_,_,_,lE,CB gJ,Dd,mz,.nil⟩;have kL:Cmt l.prog w K mg base true 2 "Leaf" "__init__" (o9 K) []:=⟨_,_,_,_,_,nA,vZ dS k0,Bh,fL,.nil⟩;have iL:=DS (p:=p) ju pr0 (vZ (base:=base) dS k0);have iS:=zY (p:=p) dm pr1 (wL (base:=base) de kL);have iF:=zT (p:=p) dA pr2 (wL (base:=base) de kL);have i3:=m7 (p:=p) (j:=3) (by decide) eR pr3 (pW (base:=base) bT k0);have i4:=m7 (p:=p) (j:=4) (by decide) b8 pr4 (pW (base:=base) bT k0);have i5:=m7 (p:=p) (j:=5) (by decide) bO pr5 (pW (base:=base) bT k0);have wk0:gy l.prog w K mg base 1 "work_words" (kl p.rep) λC=>C=p.c 0:=λC e=>by subst e;exact⟨_,_,_,_,ju.cl,k9,CW fG pr0,l9,.nil⟩
 have wk1:gy l.prog w K mg base 1 "work_words" (kl p.rep) λC=>C=p.c 1:=λC e=>by subst e;exact⟨_,_,_,_,dm.cl,jL,BY eE T pr1 dm,jB,.nil⟩
 have wk2:gy l.prog w K mg base 1 "work_words" (kl p.rep) λC=>C=p.c 2:=λC e=>by subst e;exact⟨_,_,_,_,dA.cl,jE,BW eA T pr2 dA,jK,.nil⟩
 have wy3:gy l.prog w K mg base 1 "way" (pP p.rep) λC=>C=p.c 3:=λC e=>by subst e;exact⟨_,_,_,_,eR.cl,uX,D5 lT pr3,vt,.nil⟩
 have wy4:gy l.prog w K mg base 1 "way" (pP p.rep) λC=>C=p.c 4:=λC e=>by subst e;exact⟨_,_,_,_,b8.cl,oi,D3 hZ pr4,oz,.nil⟩
 have wy5:gy l.prog w K mg base 1 "way" (pP p.rep) λC=>C=p.c 5:=λC e=>by subst e;exact⟨_,_,_,_,bO.cl,nc,Dx gx pr5,mM,.nil⟩
 have IF:If l.prog w K mg base 3 p.rep p.cl:=by
  refine⟨λe h=>Pl.mono e h,λh=>h.1,?_,?_,?_⟩
  .rintro H a s ⟨ok,pr,dx,e⟩;refine⟨_,dx,_,e,⟨pr,rfl⟩,?_⟩;unfold jI
   split <;> exact⟨rfl,rfl,rfl,rfl,rfl⟩
  .rintro C j ⟨z,rfl⟩;rcases hpr _ z with rfl | rfl | rfl | rfl | rfl | rfl
   .exact ⟨_,_,_,_,ju.cl,uO,(mB eL T pr0 (by decide) ju wk0).mono (by decide),gY,.nil⟩
   .exact ⟨_,_,_,_,dm.cl,pT,(mB eL T pr1 (by decide) dm wk1).mono (by decide),gY,.nil⟩
   .exact ⟨_,_,_,_,dA.cl,qc,(mB eL T pr2 (by decide) dA wk2).mono (by decide),gY,.nil⟩
   .exact ⟨_,_,_,_,eR.cl,qC,(mT cU T pr3 (by decide) eR wy3).mono (by decide),fD,.nil⟩
   .exact ⟨_,_,_,_,b8.cl,lu,(mT cU T pr4 (by decide) b8 wy4).mono (by decide),fD,.nil⟩
   .exact ⟨_,_,_,_,bO.cl,kJ,(mT cU T pr5 (by decide) bO wy5).mono (by decide),fD,.nil⟩
  .rintro C j ⟨z,rfl⟩;rcases hpr _ z with rfl | rfl | rfl | rfl | rfl | rfl
   .exact ⟨_,_,_,_,ju.cl,wm,(qM fH pr0 (by decide)).mono (by decide),jk,.nil⟩
   .exact ⟨_,_,_,_,dm.cl,rK,(qM fH pr1 (by decide)).mono (by decide),jk,.nil⟩
   .exact ⟨_,_,_,_,dA.cl,rn,(qM fH pr2 (by decide)).mono (by decide),jk,.nil⟩
   .exact ⟨_,_,_,_,eR.cl,rF,(pX dF pr3 (by decide)).mono (by decide),gg,.nil⟩
   .exact ⟨_,_,_,_,b8.cl,ng,(pX dF pr4 (by decide)).mono (by decide),gg,.nil⟩
   .exact ⟨_,_,_,_,bO.cl,lW,(pX dF pr5 (by decide)).mono (by decide),gg,.nil⟩
 have e:Wd l.prog w K mg base:=trivial
 have hcf:∀j,p.pr j->CF K (p.c j):=by
  intro j z;rcases hpr _ z with rfl | rfl | rfl | rfl | rfl | rfl
  .exact ju
  .exact dm
  .exact dA
  .exact eR
  .exact b8
  .exact bO
 have MT:MkT l.prog w K mg base p 3:=⟨⟨_,_,_,_,Fb,iL.mono (by decide),Bh,fL,.nil⟩,⟨_,_,_,_,A1,iS.mono (by decide),Bf,et,.nil⟩,⟨_,_,_,_,BR,iF.mono (by decide),A0,et,.nil⟩,
  ⟨_,_,_,_,Bj,i3.mono (by decide),B6,cy,.nil⟩,⟨_,_,_,_,wo,i4.mono (by decide),wu,cy,.nil⟩,⟨_,_,_,_,tP,i5.mono (by decide),u6,cy,.nil⟩⟩
 have eP:=fE X G e z7 zQ λ_ F=>zC F T;have mE:=fE X G e zJ AL λ_ F=>zF F T ny mK eO eP;have fq:=fE X G e qr pR λ_ F=>DN F T ff eO eP;have a9:Cal l.prog w K mg base true 3 "number_in" zh [.int 1000000]:=⟨_,_,_,_,EW jm T kB fq,wA,jm.kp,rm,.cons ⟨_,rfl⟩ .nil⟩;have mR:=fE X G e Aw Aq λ_ F=>z8 F T MT a9;have iY:=fE X G e wR wC λ_ F=>zL F T bH MT a9;have dP:=fE X G e oE oK λ_ F=>xQ F T mR iY;have kN:=fE X G e yf yu λ_ F=>xA F T bH uG tQ j0 kg mE dP;have ct:CT K iu:=⟨E8,mU,rb,sj,ra⟩;have tN:=E6 e ct.cl sg t9 λ_ F=>Bx (p:=p) F ct hcf;have tK:=E6 e ct.cl uu wM λ_ F=>DZ (p:=p) F T ct hcf;have tA:=E6 e ct.cl i7 jF λ_ F=>Bb (p:=p) F T ct IF;have xU:=mkM e Fp FY oJ (wZ (p:=p) hV ct);have fW:=fE X G e rJ rA λ_ F=>zv F T;have kA:=fE X G e yx xq λ_ F=>xm F T;have fA:=fE X G e pH qq λ_ F=>zN F T;have gn:=fE X G e rz rg λ_ F=>DQ F T ct hcf IF fV tN;have kR:=fE X G e yj x9 λ_ F=>xu F T ct i0 tN tA tK kN kA fA gn;have tS:=fE X G e Fc E0 λ_ F=>DT F T ct xU tN fW kR;have f7:=fE X G e rD r9 λ_ F=>DD F T hcf IF;have jy:=fE X G e zG AF λ_ F=>yh F T ct f7;have hF:MethAt l.prog w K mg base (CXE l.prog w) false 1 "find" iu (spF p iO iu) []:=⟨_,_,_,_,ct.cl,wN,aB.or (DU (p:=p) jq ct).low (Co (p:=p) jq T ct gC gG),wO,.nil⟩;have bp:=fE X G e AR Av λ_ F=>C3 (cm:=true) F T;have x6:=fE X G e Fs FR λ_ F=>DJ F T;have dc:=fE X G e qT qR λ_ F=>Ak F T;have gM:=fE X G e uF uL λ_ F=>Ap F T;have xF:=fE X G e F0 Fo λ_ F=>DH F T bp x6 dc gM;have oR:=fE X G e Dc D9 λ_ F=>Cc F T;have BP:=fE X G e F8 GC λ_ F=>DE F T;exact ET Ey T bp xF oR BP tS jy tN hF gr gj gC gG m5
theorem walk{l:PySem.W.OpenLaw}{q:Program}{loose:List Str}{XP:(Str->Option Value)->Heap->Prop}{YP:World->Heap->Prop}{d:DefRec}{K:Params->PySem.W.Frag}(hn:l.most=some 63)(hdf:d.params.defaults=[])
  (hY:∀(w:World) (h:Heap),YP w h->(K w.params).In h)
  (F:∀(w:World) (mg:Str->Option Value) (fa:Addr) (h:Heap),(K w.params).In h->h.Ns mainGlobals mg->mg d.name=some (.ref fa)→
   ∃fd:FuncData,(∀(s:Shared) (u:Value),BindsTo s fd ⟨[u],[]⟩ [("_law_script",u)])/\∀base:Heap,(K w.params).In base->base.Ns mainGlobals mg->aB l.prog w (K w.params) mg base (CXE l.prog w) false 20 fa fd ["_law_script"] (yJ (K w.params))):
  PySem.W.WalkO q loose XP YP l.row.toRowW d [] (λf vs=>PySem.call f vs):=
 L2.DY (n:=63) (k:=20) (cm:=false) (x:="_law_script") (CX:=λw=>CXE l.prog w) (sp:=λw=>yJ (K w.params)) hn (by decide) hdf ⟨λ_=>rfl,by decide,by decide⟩ hY F (λ_ _ a ns hl _ hS=>⟨a,ns,rfl,hS,λ_=>rfl⟩)
  λw H s e s' z=>by obtain⟨_,_,_,_,_,_,_,_,_,_,_,_,_,q⟩:=z;exact q
end K05
end
local macro_rules|`(example:=$s:str)=>do
 let mut x:=#[]
 let mut n:=1
 for c in s.getString.toList do
  let d:=c.toNat
  n:=n*62+(if d<58 then d-48 else if d<91 then d-55 else d-61)
  if n>=62^11 then
   x:=x.push (Lean.mkIdent (.mkSimple s!"tw{n-62^11}"))
   n:=1
 `(structure $(Lean.mkIdent `PySem.W.Fast):ident:Prop where($x*:True))
example:="HZPHRq1Fh2mD14frb3xfGS83y2PlGOJjJ7glpqFjPqglFWKqrM0xgGr5kd7dFdVLdSLc0LqsdWghY23UavAqK7xC12vyZo3CaGF0cjZfBkR8hy3TohkChQLMH9I4A7IY8C0oFjN2HZBqUZB34c4fuIxEsaLfSuU4MBGQAHdxPVnJOue8J01be0RyJ3mKIL2FHXsKLRLv5b93wFtCLLW61lYb1NKzDzSUb3JnC2EDTY9AeKdA50Ed3fGg9KtHE5qbfm4CEBpTD76wZMB3kaY6CnLguCLcF17N4YcVaSG6I3h7pzErspiN0Ih17B3dU0AKeT7XrFLLW0HlwkGTL47aVLeVJGegcJWm8HkvJTkX54KAvHHUIONCmxL4MtOiVucgRKn8SSCvC8Jr5S5dtWWdVJ4Ar38Z45U1ePIi7gMPUVrLi5XcE8c3suuM9Hhi14T8PtA907kNOBmOg5HjOkLgm2oGf7SDDyUuhqHxLESEUbr879oFXMXuDBNuxXFgOeliG55lID6hRVOMxO7n5jdCarOV7Jm71YkCEy4Bb2LAZbMnK9SFwCmCkn3lOJx4Aj6ztvG2FBtAIWU4NtKshKKErqg3m4woc4jtWC9erctJ9uDM3BOVuRp2F34qvErlORKsNcld5mz6DIE5MDBViUzcIyJ72HUJBLq8REq6h3KBIj2JDn93XkGD2GOdsyQHhpOiKnrf8gtqRAB0vHCfiO5tYHE5mNeZtz0YHHcS4ZmRpwD2IgW9Cy8GBDlBsABv4USuwv3ToFix8KLBXH7IvptDkhXv63ndKr9Jw1Y3LDBnIt0R2bCitfk0CY8Jj4AbJVqPI2LPCPzgOopcnmwIpHArNSxeosKjV3CNPCl8eEnGemxCx7bbIKlVe67xZK21AIuJuymJNM7b1POc02Waq4aO1vMh4sjI3ynylHpemLsEe9nPkOEgDxFFtfjxvIGXtAR9t2eSqSYs9dAY4ykVytMKfDDPKV15X4F1pXGkb5JyM6K5mKdKAWfvB1v9vmSwe872cQJTAKPPKSJ7DqrAq5OsIKEZLZBl4QERDUP5e34pchE9AVnrTeZu0WJxn9t5nqoUiBErc2zGzQzf8l8Uj5YXLhvEnUw8VSk6HZ5uhhU9ZdvqW5V3aXkYPIz49K5N9kKq7hiBOGVNsX2VgS9XFLFxZEiOxGM1VqnYzzjj6O1hrAL50rC3vIsWXvS1AD37XuDvu3kYMIt6wEmgDW1G3RK0EQRF19IAmXEB7XtS2SAbuyhFIkBcMJcmW7hr5bESFeKNP1tb80x9b9LEIFCTlvJgZW5APOdOZDX16oMCNvEa50zMrcv2P1GHqL0WXGp9V27uqxBvKUe8R9f4U7lk5a0tBRCqYNa0PV4Eya3zqxxzFtEauX8CNLrTKIwqdCzEP2Mn6Uabwk2SYVxJFS2uiW1dnlE8c6wQqWjVO1utrQLHutyV5eoa8fdf1Md1uo3JkiCnTIKHbNv3tawk9993uV32QnGq8zWH77wc8Un6DcI4AjrvFf6tLSLLfUJOk7zQQP4RTLfW9tleSnThDbxIBn3g3rKYuSGXS5FPFvKa5BikoCrwwK1BGAqRrLAgKSXKbJJfSesEn2B6ms7rCUy6aBBL8A2re936JhLBebXPvELBFdxaF79iFRAo7il3kP2EjGA7YYrd5fZwC0IcGN0Wv5m51ifJhpyYKw3XU6ikKdOSuHby9mf5zaDNBj3L3thXK4WHTRTyPxwthOCpnHY3pooik17jWEhw4R8wASrKPMGXHGQFcs7FzgWH7nDWEPNfxNtVQCkkcpCQNUP66Jiz6JT1sy00ElqYKtI42ICEuDyzE9VI45emMvfjmcb96bnqZ8Ky7VC1oNtN70uQgj6w1o9DHOyni6aIW5ERIwsNGluNVOJeigREqvLyaVDDX722ZVeONT0auL2ovCclwjlQ88Ql10dBI3aLeFuUv9cECt1hfrERFeSEQBpS8fvrj9uh9udmx0ELY9L1mnjLnYytSQHYmAskmY9dXJ4p96jgagRSHJxOtFXmeC14LxqPyIvbMwKZKwhfHozh10kOWKwgcrb8BB5LAO0BSD66Ty0y9r0juz5zWUBE3uAn9HTAmpW5pAGgBCxZxHKWfdA4Mzx0Eq2HxGLRaDodOvOjZKNlxSOsr9Bn3zB46aFOKJoASSZGxOmDNbGMfG4FPSdnLFldPro4YtDxLJTSlPtB2hy7J5E09HLV9V6h0hTsp6eTp6J18DX4WIHb4JJlp4VRqOELRo7ehaepQEHCYBX7xtELC9zpWIS6p5fW6VRQ8J2Oa3JJAkq0PvmoEJD0aCHjJjjuQH4KjTkBnZKj6UQFChzEVI8GtiqVMA7BGIHlK2hLe8V57BopKq0Mgpd2ABSjSRz4L7y88x974SQh1N6s0yxDo3qdF6fNICts0tap1gvNGQWnb4qDOIXswwbOVa4MP1Os4XZBOL53l03RPKgj0ABtF8P9fde7g0cOa4ivJzHQFZ2eT7QB0DD6pOSKbtsmFJRKSBKkXeb0tGAaWBKmmVFFSDfKc6JxmLgfRulvAnOdJkFiyGh4YijJouBqPaMZnSKE7X1VT1h7oDMhWYbw23G9JsRHaloHmvIKv7ualK5RYM6XfF0B1gfOnBKZc1xpKdgwHioxFioJ6Wl9tHcviSy8BXEN6R45P4FZcAx9rWgQfjMmA41rmAglen66QXjUkiZmQz44yi3E8XyF6I9e8QaxWlSF1OqvoIy0WXyADYejwAbsYF0Ondg6cwYfHKbedaGRfvLDCnNubRAJtJ8AopJ95FpPYfBfCUukxtzjs3UY7pr3d7vG0CqkWcVDWihIXXxopDXHdZJ6ommZlTfn2CgzpB4rAxOe6NSWOpqpEDm1Uc9X0dE65EDLfN1mhR1Z592AdYNX9dek5m0GfXTw30DENvCT99h8Ev7haUWCqOv2H0KBrQAa18jl7KhOHtsCnvX6puTolPwhTO7YIx0HYoCDeLZ3Y3wVGqvfHP4Gp4QJ4i39hx7k1hFbDGEmYwBqx2RKN956SH13DAJx9XuO7dp0mI18vBcpew0UuC7jOPqhA88d674xhdAWBaCh6Gvyob6EDyU3CBpGw2pGik2Pvvj5bvNdPJU4psgeS3FeHplskCdxZPqHnD2WyPaKYR1fOfGt9s2YeGXCBtDG5kGOGV4AxqjLm6XFsPZyOKbC4tFD8AcUz3NYA09CJu74q1D3DJyv83nrSxnCXKzczuapazAkgIf75jpuHKKOemQkS2qT3fwNUJbDtcsJKPUsgPgh0gLAiXZxIwKJ68kpjWPzChCv5W5z9eSslHc1qT9Ovx2UCA3TQO3aYBhQz86ivgf9WHylHcZ6AIyCwApGe8nmVtW2RdASi56kZhnyo4u3WbevnuxW3HD9hvhO1bR3GB7MLOaAFg1s3k79i9dXaFQ17kqwSCoPDXrbi4KrwBMDOBfOCWBRTRFlMb6fXt4pMJDLJcURwBIn0Q337ROTLY3CjhLtXaZQJ63pqbNhJwcCY8637ICwXsJP34eCc3AojRJ3x8Q5wrHGlVJeaBrLqaOrX2KBS8kbewNL2J7mlS6Jcv61hYrojK34mRHtFFl1dd6jC10sWK0QgSZN41ssggnOyh71YLvodcUFDuEbGZcuo3yGODQaBTwYYD1yCAwwVi6mAUQLusAns3rPBE0CgJiMvozW1BklsXen4q4V1elLBT1knJ1CCHYSCqYlAFKm3mdmJy4S83h2ZhGGadgk3K2oRqx08AmJzi6aTxLnw2CGyqXTia4e4GjmhVxO34UtLGDWWCdLDdrAB8DkZ9IytkIRaM4lFXQTfGr8B6n8HVtIELZ9OvdUUhBAItTJB22MYhBSTf5HmSuNU8Hl0xDz2czW7CpgFW2gj4M6GnShtC2NaZ55Gxuqf7CovLNrewWfm47iFkxmm4N0hUB8juUiqXwaYB4iokuWuq57V0z2QZd9zJ9J054Ja9nrCQB7bXhkVa3UOB7Im7exkM6qB6wbbWtPZkD14rpaEBCTQ1k4m2VRR8s1AQ2VvOvwV7ufLKgXelOMzfc60BAkIh26YmKGmTXoS81UJdC7ZYU2tfTgDBNrYgmH7HFRAxUTBEDfFHeAurA4KslYxj8CMmQcOrzVr6t16HixUFOw6hs8NjhzFIy6J0p6x6bhFQ57AAyLwUW4q2uqogxi7z8o2qST8x0s0hbGtmxWLAlNtTGJWCZEZVmJfCylrblhbspG5LyspudTPyV0byYQOGJpHCAPDHZZH0UqD7BQ9waFr3zPBC2fj98B5N591U9vLtYvUJ93FpvspH7vC7Y0HrVC7IN9AAmBBATfII56A7tj93x0yP68i6aisIUxS5B5eHfyXfri3jZw9tpCIpx33Arm5LeMNRKQ4kSUMZonQJYLhgONYLYcIN4zhr0cDTC6yRDd4Uh2QT3w5pGCgE2xS9YKCKlpL5Bz6LvzbHx8P8kJVyDjY979LBF5NNOp5awawD5XwZxnFa4iL7JyCiIE0AmDTXv1PNNdfH9VjzrXF6O0D8GB93yZuHXaDG2P4PNzvAi2H8EkLffDSu32VfNms7HZB"

open PySem PySem.W PyProof.Rows
set_option maxRecDepth 100000 in
set_option maxHeartbeats 0 in
theorem PySem.Challenge.cw_minders_k05_trees_read_and_written_holds : PySem.Challenge.rw_minders_k05_trees_read_and_written.Holds := by
  w_on; o_law; k_head; (case hw => w_witness2)
  k_fill
  refine K05.walk (l := PySem.Challenge.rw_minders_k05_trees_read_and_written) rfl rfl (fun w h Y => PySem.W.kIn_of Y) ?F
  case F =>
    intro w mg fa h KX G hmg
    refine' K05.all_mk KX G hmg ?k0 ?k1 ?k2 ?k3 ?k4 ?k5 ?k6 ?k7 ?k8 ?k9 ?k10 ?k11 ?k12 ?k13 ?k14 ?k15 ?k16 ?k17 ?k18 ?k19 ?k20 ?k21 ?k22 ?k23 ?k24 ?k25 ?k26 ?k27 ?k28 ?k29 ?k30 ?k31 ?k32 ?k33 ?k34 ?k35 ?k36 ?k37 ?k38 ?k39 ?k40 ?k41 ?k42 ?k43 ?k44 ?k45 ?k46 ?k47 ?k48 ?x49 ?x50 ?x51 ?n52 ?n53 ?n54 ?n55 ?n56 ?n57 ?n58 ?n59 ?n60 ?n61 ?n62 ?n63 ?n64 ?n65 ?n66
    case k0 | k1 | k2 | k3 | k4 | k5 | k6 | k7 | k8 | k9 | k10 | k11 | k12 | k13 | k14 | k15 | k16 | k17 | k18 | k19 | k20 | k21 | k22 | k23 | k24 | k25 | k26 | k27 | k28 | k29 | k30 | k31 | k32 | k33 | k34 | k35 | k36 | k37 | k38 | k39 | k40 | k41 | k42 | k43 | k44 | k45 | k46 | k47 | k48 => (repeat' (first | exact True.intro | apply And.intro | apply Exists.intro | fail)) <;> k_is
    case x49 | x50 | x51 => k_exc
    case n52 | n53 | n54 | n55 | n56 | n57 | n58 | n59 | n60 | n61 | n62 | n63 | n64 | n65 | n66 => decide
