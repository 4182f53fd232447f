import PyProof.Rows.All
import Wide.All
import OpenK.AllK
import Wide.FinOn
import Lean
import PyProof.EqAt
import PyProof.EqKinds
import PyProof.TupleCall
import PySem.Challenge.RW_minders_k06_the_first_row_misread
set_option linter.all false
set_option maxRecDepth 100000
set_option Elab.async false
set_option maxHeartbeats 4000000
section
set_option compiler.extract_closed false
set_option bootstrap.genMatcherCode false

theorem d2{a b G:Prop}(h:a/\b)(k:a->b->G):G:=k h.1 h.2
theorem d3{a b c G:Prop}(h:a/\b/\c)(k:a->b->c->G):G:=k h.1 h.2.1 h.2.2
theorem d4{a b c d G:Prop}(h:a/\b/\c/\d)(k:a->b->c->d->G):G:=k h.1 h.2.1 h.2.2.1 h.2.2.2
theorem d5{a b c d e G:Prop}(h:a/\b/\c/\d/\e)(k:a->b->c->d->e->G):G:=k h.1 h.2.1 h.2.2.1 h.2.2.2.1 h.2.2.2.2
theorem d6{a b c d e f G:Prop}(h:a/\b/\c/\d/\e/\f)(k:a->b->c->d->e->f->G):G:=k h.1 h.2.1 h.2.2.1 h.2.2.2.1 h.2.2.2.2.1 h.2.2.2.2.2
theorem d7{a b c d e f g G:Prop}(h:a/\b/\c/\d/\e/\f/\g)(k:a->b->c->d->e->f->g->G):G:=k h.1 h.2.1 h.2.2.1 h.2.2.2.1 h.2.2.2.2.1 h.2.2.2.2.2.1 h.2.2.2.2.2.2
theorem d8{a b c d e f g i G:Prop}(h:a/\b/\c/\d/\e/\f/\g/\i)(k:a->b->c->d->e->f->g->i->G):G:=k h.1 h.2.1 h.2.2.1 h.2.2.2.1 h.2.2.2.2.1 h.2.2.2.2.2.1 h.2.2.2.2.2.2.1 h.2.2.2.2.2.2.2
theorem d9{a b c d e f g i j G:Prop}(h:a/\b/\c/\d/\e/\f/\g/\i/\j)(k:a->b->c->d->e->f->g->i->j->G):G:=k h.1 h.2.1 h.2.2.1 h.2.2.2.1 h.2.2.2.2.1 h.2.2.2.2.2.1 h.2.2.2.2.2.2.1 h.2.2.2.2.2.2.2.1 h.2.2.2.2.2.2.2.2
theorem d10{a b c d e f g i j l G:Prop}(h:a/\b/\c/\d/\e/\f/\g/\i/\j/\l)(k:a->b->c->d->e->f->g->i->j->l->G):G:=k h.1 h.2.1 h.2.2.1 h.2.2.2.1 h.2.2.2.2.1 h.2.2.2.2.2.1 h.2.2.2.2.2.2.1 h.2.2.2.2.2.2.2.1 h.2.2.2.2.2.2.2.2.1 h.2.2.2.2.2.2.2.2.2
theorem d11{a b c d e f g i j l m G:Prop}(h:a/\b/\c/\d/\e/\f/\g/\i/\j/\l/\m)(k:a->b->c->d->e->f->g->i->j->l->m->G):G:=k h.1 h.2.1 h.2.2.1 h.2.2.2.1 h.2.2.2.2.1 h.2.2.2.2.2.1 h.2.2.2.2.2.2.1 h.2.2.2.2.2.2.2.1 h.2.2.2.2.2.2.2.2.1 h.2.2.2.2.2.2.2.2.2.1 h.2.2.2.2.2.2.2.2.2.2
theorem d12{a b c d e f g i j l m n G:Prop}(h:a/\b/\c/\d/\e/\f/\g/\i/\j/\l/\m/\n)(k:a->b->c->d->e->f->g->i->j->l->m->n->G):G:=k h.1 h.2.1 h.2.2.1 h.2.2.2.1 h.2.2.2.2.1 h.2.2.2.2.2.1 h.2.2.2.2.2.2.1 h.2.2.2.2.2.2.2.1 h.2.2.2.2.2.2.2.2.1 h.2.2.2.2.2.2.2.2.2.1 h.2.2.2.2.2.2.2.2.2.2.1 h.2.2.2.2.2.2.2.2.2.2.2
theorem e1{R:A'->Prop}{G:Prop}(h:∃a,R a)(k:∀a,R a->G):G:=h.elim k
theorem e2{R:A'->B'->Prop}{G:Prop}(h:∃a b,R a b)(k:∀a b,R a b->G):G:=h.elim λa h=>e1 h (k a)
theorem e3{R:A'->B'->C'->Prop}{G:Prop}(h:∃a b c,R a b c)(k:∀a b c,R a b c->G):G:=h.elim λa h=>e2 h (k a)
theorem e4{R:A'->B'->C'->D'->Prop}{G:Prop}(h:∃a b c d,R a b c d)(k:∀a b c d,R a b c d->G):G:=h.elim λa h=>e3 h (k a)
theorem e5{R:A'->B'->C'->D'->E'->Prop}{G:Prop}(h:∃a b c d e,R a b c d e)(k:∀a b c d e,R a b c d e->G):G:=h.elim λa h=>e4 h (k a)
theorem e6{R:A'->B'->C'->D'->E'->F'->Prop}{G:Prop}(h:∃a b c d e f,R a b c d e f)(k:∀a b c d e f,R a b c d e f->G):G:=h.elim λa h=>e5 h (k a)
theorem e7{R:A'->B'->C'->D'->E'->F'->G'->Prop}{G:Prop}(h:∃a b c d e f g,R a b c d e f g)(k:∀a b c d e f g,R a b c d e f g->G):G:=h.elim λa h=>e6 h (k a)
theorem e8{R:A'->B'->C'->D'->E'->F'->G'->I'->Prop}{G:Prop}(h:∃a b c d e f g i,R a b c d e f g i)(k:∀a b c d e f g i,R a b c d e f g i->G):G:=h.elim λa h=>e7 h (k a)
theorem e9{R:A'->B'->C'->D'->E'->F'->G'->I'->J'->Prop}{G:Prop}(h:∃a b c d e f g i j,R a b c d e f g i j)(k:∀a b c d e f g i j,R a b c d e f g i j->G):G:=h.elim λa h=>e8 h (k a)
theorem e10{R:A'->B'->C'->D'->E'->F'->G'->I'->J'->L'->Prop}{G:Prop}(h:∃a b c d e f g i j l,R a b c d e f g i j l)(k:∀a b c d e f g i j l,R a b c d e f g i j l->G):G:=h.elim λa h=>e9 h (k a)
local macro_rules | `(tactic|obtain ⟨$ps,*⟩:=$h) => `(tactic|rcases $h:term with ⟨$ps,*⟩)
local macro_rules | `(tactic|rcases $h:term with ⟨$ps,*⟩) => do
  let n := ps.getElems.size
  let mut xs := #[]
  let mut ts := #[]
  let z := Lean.mkIdent (← Lean.Macro.addMacroScope `z)
  for p in ps.getElems do
    match p with
    | `(Lean.Parser.Tactic.rcasesPatLo| $x:ident) =>
      if x.getId != `rfl then
        xs := xs.push x
        continue
    | _ => pure ()
    let y := Lean.mkIdent (z.getId.appendIndexAfter xs.size)
    xs := xs.push y
    ts := ts.push (← `(tactic|rcases $y:ident with $p:rcasesPatLo))
  let st c i (h : Lean.Term) (ys : Array Lean.Ident) := `(tactic|(refine $(Lean.mkIdent (`_root_ ++ .mkSimple s!"{c}{i}")) $h ?_; (try clear $(⟨h.raw⟩):ident); intro $ys*))
  let a := ps.getElems[:11].toArray
  let b := ps.getElems[11:].toArray
  let mut r ← if n > 12 then `(tactic|rcases $h:term with ⟨$a,*,⟨$b,*⟩⟩) else `(tactic|rcases $h:term with (⟨$ps,*⟩))
  for k in [1:n+1] do
    let k := n - k
    let mut t ← if k = 0 then st "d" n h xs else st "e" k h (xs[:k].toArray.push (if k + 1 = n then xs[k]! else z))
    if k > 0 && k + 1 < n then t ← `(tactic|$t <;> $(← st "d" (n - k) z xs[k:]))
    for s in ts do t ← `(tactic|$t <;> $s)
    r ← `(tactic|first|$t:tactic|$r:tactic)
  return r
namespace L2
open PySem PyProof.Rows
def Clm(A:Around)(h:Heap):Prop:=A.handled=none\/∃e o vs,A.handled=some (.ref e)/\h.get? e=some o/\o.data=.fields vs/\vs[2]? =some .none
theorem Clm.keep{A:Around}{h h':Heap}(c:Clm A h)(k:∀e o vs,A.handled=some (.ref e)->h.get? e=some o->o.data=.fields vs->vs[2]? =some .none->h'.get? e=some o):Clm A h':=by
 rcases c with z | ⟨e,o,vs,z,a,b,d⟩
 .exact .inl z
 .exact .inr ⟨e,o,vs,z,k e o vs z a b d,b,d⟩
section
variable{prog:Program}{w:World}{A:Around}{E:Value->Shared->Prop}{s:Shared}{α:Type}
theorem zy:entryFor table "proto.unchain"=some Builtin.«proto.unchain»:=entryFor_of_tree (by kernel_rfl)
theorem Fn{v sl:Value}{e:Addr}{o:Obj}{vs:Array Value}{Q:Value->Shared->Prop}(ho:s.heap.get? e=some o)(hd:o.data=.fields vs)(h2:vs[2]? =some .none)(q:Q .none s):
  wpAny (model prog w) A (runValue (.builtin "proto.unchain" ⟨[v,.ref e,sl,.bool false],[]⟩)) Q E s:=by
 refine wpAny_runValue (codeAny_builtin zy ?_);unfold Builtin.«proto.unchain»;refine wpAny_bind (wpAny_field ho hd h2 ?_);show wpAny (model prog w) _ (pure (Fin.done (Flow.ret Value.none))) _ _ s;exact wpAny_pure q
theorem Eh{a:Addr}{o:Obj}{vs:Array Value}{Q:α->Shared->Prop}(c:Clm A s.heap)(na:A.handled≠some (.ref a))(ho:s.heap.get? a=some o)(hd:o.data=.fields vs)(hz:2 < vs.size)
  (q:∀h' v2,h'.get? a=some (o.mapFields (·.setIfInBounds 2 v2))\/h'.get? a=some o->(∀b,b≠a->h'.get? b=s.heap.get? b)->E (.ref a) { s with heap:=h'}):wpAny (model prog w) A (raiseNew (.ref a):Sem α) Q E s:=by
 unfold raiseNew;refine wpAny_bind (wpAny_handled ?_);rcases c with z | ⟨e,oe,ve,z,he,hf,h2⟩
 .rw [z];exact wpAny_bind (wpAny_pure (wpAny_throw (q s.heap .none (.inr ho) λ_ _=>rfl)))
 .rw [z];have ne:e≠a:=λy=>na (by rw[z,y]);show wpAny _ _ (if (Value.ref e != Value.ref a)=true then _ else _) _ _ _;rw[if_pos (by simpa using ne)];refine wpAny_bind (wpAny_holding (Fn he hf h2 ?_));show wpAny _ _ (setField (.ref a) 2 (.ref e) >>= λ_=>throw (Value.ref a)) _ _ _;refine wpAny_bind <| wpAny_setField ho hd hz (wpAny_throw (q _ (.ref e) (.inl (Heap.get?_update_self _ ho (Obj.isFreed_of_fields (Obj.data_mapFields hd _)))) λb hb=>Heap.get?_update_other _ _ (Ne.symm hb)))
theorem E2{Q:α->Shared->Prop}(c:Clm A s.heap)
  (q:∀h' e,(∀b o,s.heap.get? b=some o->h'.get? b=some o)->(∃o,h'.get? e=some o/\o.cls=.type "StopIteration")->E (.ref e) { s with heap:=h'}):
  wpAny (model prog w) A (newExc (.type "StopIteration") [] >>= λe=>(raiseNew e:Sem α)) Q E s:=by
 refine wpAny_bind ?_;unfold newExc newTuple;refine wpAny_bind (wpAny_newObj_type ?_ (by size_fits));refine wpAny_bind (m:=firstArgMember _ _) (wpAny_of_eq (a:=Value.none) (by first | rfl | (simp only [firstArgMember];rfl)) ?_);refine wpAny_newObj_type ?_ (by size_fits);have up:∀b o,s.heap.get? b=some o->((s.heap.push { cls:= .type "tuple",data:= .seq #[]}).push { cls:= .type "StopIteration",data:= .fields #[.ref s.heap.objs.size,.none,.none,.none,.bool false,.none]}).get? b=some o:=λb o e=>Heap.get?_push_of_some _ (Heap.get?_push_of_some _ e);refine Eh (c.keep λe o vs _ he _ _=>up e o he) (λz=> ?_) (Heap.get?_push_size _ rfl) rfl (by show 2 < 6;decide) λh' v2 g k=>q h' _ (λb o e=> ?_) ?_
 .rcases c with y | ⟨e,o,vs,y,he,_⟩
  .rw [y] at z;cases z
  .rw [y] at z;cases z;have:=Heap.lt_size he;rw[Heap.size_push] at this;exact Nat.lt_irrefl _ (Nat.lt_of_succ_lt this)
 .refine (k b λz=> ?_).trans (up b o e);have:=Heap.lt_size e;rw[z,Heap.size_push] at this;exact Nat.lt_irrefl _ (Nat.lt_of_succ_lt this)
 .rcases g with g | g
  .exact ⟨_,g,Obj.cls_mapFields ..⟩
  .exact ⟨_,g,rfl⟩
end
section
variable{prog:Program}{w:World}{A:Around}{E:Value->Shared->Prop}{s:Shared}{Q:Option Value->Shared->Prop}{it:Addr}
theorem Clm.upd{h:Heap}{o:Obj}{vs:Array Value}{f:Obj->Obj}(c:Clm A h)(ho:h.get? it=some o)(hd:o.data=.fields vs)(h2:vs[2]? ≠some .none):Clm A (h.update it f):=
 c.keep λe oe ve _ he hf h3=>by
  refine(Heap.get?_update_other _ _ λz=> ?_).trans he;rw[z,he] at ho;cases ho;rw[hf] at hd;cases hd;exact h2 h3
def Jp(it:Addr)(s:Shared)(v:Value)(s':Shared):Prop:=∃a h',v=.ref a/\s'={ s with heap:=h'}/\Heap.ExtBut it s.heap h'/\∃o,h'.get? a=some o/\o.cls=.type "StopIteration"
theorem Lx{α:Type}{o:Obj}{vs:Array Value}{f:Obj->Obj}{Q1:α->Shared->Prop}(c:Clm A s.heap)(ho:s.heap.get? it=some o)(hd:o.data=.fields vs)(h2:vs[2]? ≠some .none):
  wpAny (model prog w) A (newExc (.type "StopIteration") [] >>= λe=>(raiseNew e:Sem α)) Q1 (Jp it s) { s with heap:=s.heap.update it f}:=
 E2 (c.upd ho hd h2) λh' e k x=>⟨e,h',rfl,rfl,λb o hb z=>k b o ((Heap.get?_update_other _ _ (Ne.symm hb)).trans z),x⟩
theorem Kd{l:Addr}{i:Nat}{items:Array Value}{Q1:Fin->Shared->Prop}(c:Clm A s.heap)(hit:s.heap.IsListIter it l i)(hl:s.heap.IsList l items)(hx:items[i]? =none):
  wpAny (model prog w) A (Builtin.«list_iterator.__next__» ⟨[.ref it],[]⟩) Q1 (Jp it s) s:=by
 obtain⟨o,ho,hc,hd⟩:=hit;obtain⟨ol,hol,_,nl,hdl⟩:=hl;refine wpAny_bind (m:=field (.ref it) 0) (wpAny_field ho hd (x:= .ref l) rfl ?_);refine wpAny_bind (m:=field (.ref it) 1) (wpAny_field ho hd (x:= .int i 0) rfl (wpAny_bind (m:=seqItems? (.ref l)) (wpAny_seqItems hol hdl ?_)));simp only [Int.toNat_natCast,hx];exact wpAny_bind (wpAny_rule (wpAny_bind (wpAny_setField ho hd (by simp) (Lx c ho hd (by simp)))))
theorem zY{l:Addr}{i:Nat}{items:Array Value}{Q1:Value->Shared->Prop}(c:Clm A s.heap)(hit:s.heap.IsListIter it l i)(hl:s.heap.IsList l items)(hx:items[i]? =none)
  (q:∀h' e,Heap.ExtBut it s.heap h'->(∃o,h'.get? e=some o/\o.cls=.type "StopIteration")->E (.ref e) { s with heap:=h'}):wpAny (model prog w) A (Builtin.SmallTypes.nextOf (.ref it)) Q1 E s:=by
 unfold Builtin.SmallTypes.nextOf;refine wpAny_bind (wpAny_callSpecial?_slot (name:=Str.ofString "__next__") hit.typeIs slot_listiter_next (wpAny_call_entry slot_listiter_next hit.typeIs entry_listiter_next (wpAny_mono (Kd (Q1:=λ_ _=>False) c hit hl hx) (λ_ _ x=>x.elim) λe s' x=> ?_) (args_listiter_next _)));obtain⟨a,h',rfl,rfl,k,o,ho,hc⟩:=x;exact q h' a k ⟨o,ho,hc⟩
theorem Clm.but{h h':Heap}{o:Obj}{vs:Array Value}(c:Clm A h)(ho:h.get? it=some o)(hd:o.data=.fields vs)(h2:vs[2]? ≠some .none)(k:Heap.ExtBut it h h'):Clm A h':=c.keep λe oe ve _ he hf h3=>k e oe (λz=>by
  rw[z,ho] at he;cases he;rw[hf] at hd;cases hd;exact h2 h3) he
theorem Jd{TI TO i1 i2 l1:Addr}{k1:Nat}{xs:Array Value}(c:Clm A s.heap)(n1:i1≠it)(n2:l1≠it)(hz:IsZip s.heap it TI TO .none)(hTI:IsPair s.heap TI (.ref i1) (.ref i2))(h1:s.heap.IsListIter i1 l1 k1)(hl1:s.heap.IsList l1 xs)(hx:xs[k1]? =none)
  (q:∀h',(∀c o,c≠it->c≠i1->s.heap.get? c=some o->h'.get? c=some o)->Q none { s with heap:=h'}):wpAny (model prog w) A (pyNext (.ref it)) Q E s:=by
 have hT:s.TypeIs (.ref it) "zip":=⟨_,hz,rfl⟩;unfold pyNext;refine wpAny_bind (wpAny_attempt (wpAny_callSpecial?_slot (name:=Str.ofString "__next__") hT F.slot_zip_next (wpAny_call_entry F.slot_zip_next hT F.entry_zip_next ?_ (F.args_zip_next_1 _))));refine wpAny_bind (m:=field (.ref it) 2) (wpAny_field hz rfl (x:= .bool false) rfl (wpAny_bind (m:=field (.ref it) 3) (wpAny_field hz rfl (x:= .ref TI) rfl (wpAny_bind (wpAny_seqItems hTI rfl ?_)))));refine wpAny_bind (m:=Builtin.SmallTypes.ownedTupleIsFree (.ref it)) ?_;unfold Builtin.SmallTypes.ownedTupleIsFree;refine wpAny_bind (wpAny_field hz rfl (x:= .none) rfl (wpAny_pure ?_));simp only [if_true];refine wpAny_bind (wpAny_rule (wpAny_bind (wpAny_field hz rfl (x:= .ref TO) rfl (wpAny_bind (wpAny_setField_rec hz (by simp) λh₁ z1 s1=> ?_)))));refine wpAny_bind ?_;simp only [List.zipIdx_cons,List.zipIdx_nil,List.forIn_cons,List.forIn_nil];refine wpAny_bind (wpAny_bind (wpAny_onRaise (wpAny_bind (m:=Builtin.SmallTypes.nextOf (.ref i1)) ?_)));have z1:IsZip h₁ it TI TO .ellipsis:=z1;refine zY (A:=A.in1) (s:={ s with heap:=h₁}) (Clm.but (A:=A.in1) c hz rfl (by simp) s1.extBut) (h1.extBut s1.extBut n1) (hl1.extBut s1.extBut n2) hx λh₂ e s2 he=> ?_;obtain⟨oe,hoe,hce⟩:=he;have z2:IsZip h₂ it TI TO .ellipsis:=s2 _ _ (Ne.symm n1) z1
 have ez:e≠it:=λx=>by
  rw[x,z2] at hoe;cases hoe;simp at hce
 refine wpAny_setField_rec z2 (by simp) λh₃ _ s3=>wpAny_bind (wpAny_isInstance (T:="StopIteration") (b:=true) ⟨oe,s3.extBut _ _ ez hoe,hce⟩ isSubtype_stop (wpAny_pure (q h₃ λd o d1 d2 y=>s3.extBut _ _ d1 (s2 _ _ d2 (s1.extBut _ _ d1 y)))))
end
open PySem.Spec
abbrev Key:=Sum Int Str
def xx:Key->Value->Bool
 | .inl k,v=>Value.isInt k v
 | .inr x,v=>Value.isStrOf x v
def L0(w:World):Key->Int
 | .inl k=>hashInt k
 | .inr x=>hashStr w x
theorem bU:∀{k:Key} {v:Value},xx k v=true->(∃i t,k=Sum.inl i/\v=Value.int i t)\/(∃x t,k=Sum.inr x/\v=Value.str x t)
 | .inl i,v,h=>by
  obtain⟨t,e⟩:=Value.isInt_shape (k:=i) (v:=v) h;exact .inl ⟨i,t,rfl,e⟩
 | .inr x,v,h=>by
  obtain⟨t,e⟩:=Value.isStrOf_shape (x:=x) (v:=v) h;exact .inr ⟨x,t,rfl,e⟩
theorem Ee(i:Int)(t:Tok):xx (.inl i) (.int i t)=true:=by simp [xx,Value.isInt]
theorem Dc(x:Str)(t:Tok):xx (.inr x) (.str x t)=true:=by simp [xx,Value.isStrOf]
theorem JR(a b:Int):decide ((Sum.inl a:Key)=Sum.inl b)=(a == b):=by
 by_cases e:a=b
 .subst e;simp
 .have h:¬(Sum.inl a:Key)=Sum.inl b:=λq=>e (Sum.inl.inj q);rw[decide_eq_false h];exact(beq_eq_false_iff_ne.mpr e).symm
theorem Kj(a b:Str):decide ((Sum.inr a:Key)=Sum.inr b)=decide (a=b):=by
 by_cases e:a=b
 .subst e;simp
 .have h:¬(Sum.inr a:Key)=Sum.inr b:=λq=>e (Sum.inr.inj q);rw[decide_eq_false h,decide_eq_false e]
theorem Ka(a:Int)(b:Str):decide ((Sum.inl a:Key)=Sum.inr b)=false:=decide_eq_false (λq=>nomatch q)
theorem Kb(a:Str)(b:Int):decide ((Sum.inr a:Key)=Sum.inl b)=false:=decide_eq_false (λq=>nomatch q)
def dh(prog:Program)(w:World):PySem.KeyKind prog w Key where
 is:=xx
 hash:=L0 w
 inj:=λv a b ha hb=>by
  rcases bU ha with⟨i,t,rfl,rfl⟩ | ⟨x,t,rfl,rfl⟩
  .rcases bU hb with⟨j,u,rfl,e⟩ | ⟨y,u,rfl,e⟩
   .injection e with e1 _;rw[e1]
   .exact nomatch e
  .rcases bU hb with⟨j,u,rfl,e⟩ | ⟨y,u,rfl,e⟩
   .exact nomatch e
   .injection e with e1 _;rw[e1]
 byValue:=λk v h=>by
  rcases bU h with⟨i,t,rfl,rfl⟩ | ⟨x,t,rfl,rfl⟩ <;> rfl
 pyHash:=λhv h=>by
  rcases bU hv with⟨i,t,rfl,rfl⟩ | ⟨x,t,rfl,rfl⟩
  .exact wpAny_pyHash_int h
  .exact wpAny_pyHash_str h
 eqBool:=λhu hv h=>by
  rcases bU hu with⟨i,t,rfl,rfl⟩ | ⟨x,t,rfl,rfl⟩
  .rcases bU hv with⟨j,u,rfl,rfl⟩ | ⟨y,u,rfl,rfl⟩
   .rw [JR] at h;exact wpAny_eqBool_int h
   .rw [Ka] at h;exact SeqAt.EqAt.int_str i t y u _ _ _ _ h
  .rcases bU hv with⟨j,u,rfl,rfl⟩ | ⟨y,u,rfl,rfl⟩
   .rw [Kb] at h;exact SeqAt.EqAt.str_int x t j u _ _ _ _ h
   .rw [Kj] at h;exact wpAny_eqBool_str h
 «strs»:=λk x t v h=>by
  rcases bU h with⟨i,u,rfl,e⟩ | ⟨y,u,rfl,e⟩
  .exact nomatch e
  .injection e with e1 _;subst e1;cases v <;> rfl
theorem zo(prog:Program)(w:World)(i:Int)(t:Tok):(dh prog w).is (.inl i) (.int i t)=true:=Ee i t
theorem zA(prog:Program)(w:World)(x:Str)(t:Tok):(dh prog w).is (.inr x) (.str x t)=true:=Dc x t
inductive V where
 | non | bl (b:Bool) | int (i:Int) | str (x:Str) | byt (b:Array UInt8) | flt (b:UInt64) | ref (a:Addr) | ty (n:String)
 deriving DecidableEq
def RelV:V->Value->Prop
 | .non,u=>u=Value.none
 | .bl b,u=>u=Value.bool b
 | .int i,u=>∃t,u=Value.int i t
 | .str x,u=>∃t,u=Value.str x t
 | .byt b,u=>∃t,u=Value.bytes b t
 | .flt b,u=>∃t,u=Value.float b t
 | .ref a,u=>u=Value.ref a
 | .ty n,u=>u=Value.type n
abbrev Vals:List V->List Value->Prop:=Paired RelV
theorem Vals.length{xs:List V}{us:List Value}(r:Vals xs us):xs.length=us.length:=Paired.length r
theorem Vals.get:∀{xs:List V} {us:List Value} {i:Nat} {x:V},Vals xs us->xs[i]? =some x->∃u,us[i]? =some u/\RelV x u
 | _,_,_,_,.nil,e=>by simp at e
 | _,_,0,_,.cons r _,e=>by simp at e;subst e;exact⟨_,rfl,r⟩
 | _,_,i + 1,x,.cons _ t,e=>by
  obtain⟨u,h1,h2⟩:=Vals.get (i:=i) (x:=x) t (by simpa using e);exact⟨u,by simpa using h1,h2⟩
theorem Vals.set{x:V}{u:Value}(r:RelV x u):∀{xs:List V} {us:List Value} (i:Nat),Vals xs us->Vals (xs.set i x) (us.set i u)
 | _,_,_,.nil=> .nil
 | _,_,0,.cons _ t=> .cons r t
 | _,_,i + 1,.cons q t=> .cons q (Vals.set r i t)
theorem Vals.append:∀{xs ys:List V} {us ws:List Value},Vals xs us->Vals ys ws->Vals (xs++ys) (us++ws)
 | _,_,_,_,.nil,s=>s
 | _,_,_,_,.cons r t,s=> .cons r (Vals.append t s)
theorem Vals.take:∀{xs:List V} {us:List Value} (n:Nat),Vals xs us->Vals (xs.take n) (us.take n)
 | _,_,0,_=> .nil
 | _,_,_ + 1,.nil=> .nil
 | _,_,n + 1,.cons r t=> .cons r (Vals.take n t)
theorem Vals.drop:∀{xs:List V} {us:List Value} (n:Nat),Vals xs us->Vals (xs.drop n) (us.drop n)
 | _,_,0,r=>r
 | _,_,_ + 1,.nil=> .nil
 | _,_,n + 1,.cons _ t=>Vals.drop n t
def oV:Option V->Option Value->Prop
 | some v,some u=>RelV v u
 | none,none=>True
 | _,_=>False
def KV{κ:Type}:List (κ × V)->List (κ × Value)->Prop:=Paired λ(p:κ × V) (q:κ × Value)=>p.1=q.1/\RelV p.2 q.2
def kV:Key->V
 | .inl i=> .int i
 | .inr x=> .str x
inductive HO where
 | lst (xs:List V)
 | tup (xs:List V)
 | dK (kvs:List (Key × V)) | dT (kvs:List (List Key × V))
 | set (S:Int->Bool) (n:Nat)
 | ins (C dx:Addr) (fs:List (Str × V))
 | own (x:Addr)
 | xd (fs:List (Str × V))
 | met (f x:Addr)
 | rng (lo hi:Int)
 | frz (o:Obj) (u:HO)
 | tbl (ps:Array Value)
 | ext (φ:Heap->Prop)
abbrev Hp:=Addr->Option HO
def upd(H:Hp)(a:Addr)(o:HO):Hp:=λb=>if b=a then some o else H b
theorem ae{H:Hp}{a:Addr}{o:HO}:upd H a o a=some o:=by unfold upd;rw[if_pos rfl]
theorem aq{H:Hp}{a b:Addr}{o:HO}(h:b≠a):upd H a o b=H b:=by unfold upd;rw[if_neg h]
theorem jG{H:Hp}{a:Addr}{o u:HO}:upd (upd H a o) a u=upd H a u:=by
 funext b;unfold upd;split <;> rfl
theorem K6{H:Hp}{a b:Addr}{o u:HO}(h:H a=some o)(h':H b=some u)(d:o≠u):a≠b:=by
 intro e;subst e;rw[h] at h';exact d (Option.some.inj h')
theorem au{H:Hp}{a b:Addr}{o:HO}(h:H a=some o)(h':H b=none):a≠b:=by
 intro e;subst e;rw[h] at h';cases h'
section
variable(P:Program)(w:World)
def dc(H:Hp)(h:Heap)(a:Addr):HO->Prop
 | .lst xs=>xs.length<=sizeLine/\∃(its:List Value) (n:Nat),Vals xs its/\h.get? a=some { cls:= .type "list",data:= .seq its.toArray n}
 | .tup xs=>xs.length<=sizeLine/\∃its:List Value,Vals xs its/\IsTup h a its.toArray
 | .dK kvs=>kvs.length<=sizeLine/\(a == sysModules)=false/\∃vs,KV kvs vs/\h.DictOf (dh P w) a vs
 | .dT kvs=>kvs.length<=sizeLine/\(a == sysModules)=false/\∃xs:List (List Key × Addr × Value),
   Paired (λ(p:List Key × V) (q:List Key × Addr × Value)=>p.1=q.1/\H q.2.1=some (.tup (p.1.map kV))/\RelV p.2 q.2.2) kvs xs∧
   ∃o es ep,h.get? a=some o/\o.ExactDict/\o.data=.dict es ep/\es.toList=xs.map (entryOfKey (tupleKind (dh P w)))/\(xs.map (·.1)).Nodup
 | .set S n=>h.SetOf (intKind P w) a S n
 | .ins C dx fs=>H dx=some (.own a)/\fs.length<=1000/\dx≠a/\h.get? a=some (PySem.W.instObj C dx)∧
   ∃mA,h.Ns1 dx mA/\(∀f,oV (fs.lookup f) (mA f))/\PySem.Within mA (fs.map (·.1))
 | .own _=>∃o,h.get? a=some o
 | .xd fs=>∃mA,h.Ns1 a mA/\∀f,oV (fs.lookup f) (mA f)
 | .rng lo hi=>∃t u v,h.get? a=some { cls:= .type "range",data:= .fields #[.int lo t,.int hi u,.int 1 v]}
 | .frz o u=>h.get? a=some o/\dc H h a u
 | .tbl ps=>h.get? a=some { cls:= .none,data:= .fields ps}
 | .met f x=>h.get? a=some (PySem.W.methodObj (.ref f) (.ref x))
 | .ext φ=>φ h/\(∃o,h.get? a=some o)/\∀h1 h2:Heap,φ h1->(∀o,h1.get? a=some o->h2.get? a=some o)->φ h2
def HOk(H:Hp)(h:Heap):Prop:=∀a o,H a=some o->dc P w H h a o
end
section
variable{P:Program}{w:World}{H H':Hp}{h h':Heap}{a:Addr}{o:HO}
theorem dc.lt(x:dc P w H h a o):a < h.objs.size:=by
 cases o with
 | lst xs=>obtain⟨_,_,_,_,e⟩:=x;exact Heap.lt_size e
 | tup xs=>obtain⟨_,_,_,p⟩:=x;exact p.lt
 | dK kvs=>obtain⟨_,_,_,_,o,_,_,e,_⟩:=x;exact Heap.lt_size e
 | dT kvs=>obtain⟨_,_,_,_,o,_,_,e,_⟩:=x;exact Heap.lt_size e
 | set S n=>obtain⟨o,_,_,_,e,_⟩:=x;exact Heap.lt_size e
 | ins C dx fs=>obtain⟨_,_,_,e,_⟩:=x;exact Heap.lt_size e
 | own y=>obtain⟨_,e⟩:=x;exact Heap.lt_size e
 | xd fs=>obtain⟨_,⟨_,_,_,e,_⟩,_⟩:=x;exact Heap.lt_size e
 | rng lo hi=>obtain⟨_,_,_,e⟩:=x;exact Heap.lt_size e
 | frz ob u=>obtain⟨e,_⟩:=x;exact Heap.lt_size e
 | tbl ps=>exact Heap.lt_size (show h.get? a=some _ from x)
 | met f y=>exact Heap.lt_size (show h.get? a=some _ from x)
 | ext φ=>obtain⟨_,⟨_,e⟩,_⟩:=x;exact Heap.lt_size e
theorem Paired.Jy{α β:Type}{F G:α->β->Prop}:∀{l₁:List α} {l₂:List β},Paired F l₁ l₂->(∀a b,F a b->G a b)->Paired G l₁ l₂
 | _,_,.nil,_=> .nil
 | _,_,.cons r t,f=> .cons (f _ _ r) (Paired.Jy t f)
theorem dc.u5(x:dc P w H h a o)(k:∀b u,(b=a\/H b=some (.own a))->h.get? b=some u->h'.get? b=some u)
  (ho:∀b,H b=some (.own a)->H' b=some (.own a)) (ht:∀b xs,H b=some (.tup xs)->H' b=some (.tup xs)):dc P w H' h' a o:=by
 induction o with
 | lst xs=>obtain⟨z,its,n,r,e⟩:=x;exact⟨z,its,n,r,k _ _ (.inl rfl) e⟩
 | tup xs=>obtain⟨z,its,r,ob,e,c⟩:=x;exact⟨z,its,r,ob,k _ _ (.inl rfl) e,c⟩
 | dK kvs=>obtain⟨z,y,vs,r,ob,es,ep,e,c⟩:=x;exact⟨z,y,vs,r,ob,es,ep,k _ _ (.inl rfl) e,c⟩
 | dT kvs=>
  obtain⟨z,y,xs,r,ob,es,ep,e,c⟩:=x;exact⟨z,y,xs,Paired.Jy r λp q z=>⟨z.1,ht _ _ z.2.1,z.2.2⟩,ob,es,ep,k _ _ (.inl rfl) e,c⟩
 | set S n=>obtain⟨ob,es,ep,t,e,c⟩:=x;exact⟨ob,es,ep,t,k _ _ (.inl rfl) e,c⟩
 | ins C dx fs=>
  obtain⟨d,z,ne,e,mA,⟨od,es,ep,e2,c⟩,r⟩:=x;exact⟨ho _ d,z,ne,k _ _ (.inl rfl) e,mA,⟨od,es,ep,k _ _ (.inr d) e2,c⟩,r⟩
 | own y=>obtain⟨ob,e⟩:=x;exact⟨ob,k _ _ (.inl rfl) e⟩
 | xd fs=>obtain⟨mA,⟨od,es,ep,e,c⟩,r⟩:=x;exact⟨mA,⟨od,es,ep,k _ _ (.inl rfl) e,c⟩,r⟩
 | rng lo hi=>obtain⟨t,u,v,e⟩:=x;exact⟨t,u,v,k _ _ (.inl rfl) e⟩
 | frz ob u ih=>obtain⟨e,q⟩:=x;exact⟨k _ _ (.inl rfl) e,ih q⟩
 | tbl ps=>
  have e:h.get? a=some { cls:= .none,data:= .fields ps}:=x;show h'.get? a=some { cls:= .none,data:= .fields ps};exact k a _ (.inl rfl) e
 | met f y=>
  have e:h.get? a=some (PySem.W.methodObj (.ref f) (.ref y)):=x;show h'.get? a=some (PySem.W.methodObj (.ref f) (.ref y));exact k a _ (.inl rfl) e
 | ext φ=>obtain⟨p,⟨o,e⟩,st⟩:=x;exact⟨st _ _ p λo q=>k _ _ (.inl rfl) q,⟨o,k _ _ (.inl rfl) e⟩,st⟩
theorem HOk.lt(x:HOk P w H h)(e:H a=some o):a < h.objs.size:=(x a o e).lt
theorem HOk.fresh(x:HOk P w H h)(e:h.objs.size<=a):H a=none:=by
 cases q:H a with
 | none=>rfl
 | some u=>exact absurd (Nat.lt_of_lt_of_le (x.lt q) e) (Nat.lt_irrefl _)
theorem HOk.kept(x:HOk P w H h)(k:∀b u,h.get? b=some u->h'.get? b=some u):HOk P w H h':=λa o e=>
 (x a o e).u5 (λb u _ q=>k b u q) (λ_ q=>q) λ_ _ q=>q
theorem HOk.laid(x:HOk P w H h)(k:∀b u,h.get? b=some u->h'.get? b=some u)(hp:h.objs.size<=a)(new:dc P w (upd H a o) h' a o):HOk P w (upd H a o) h':=λb u e=>by
 have hn:=x.fresh hp;by_cases hb:b=a
 .subst hb;rw[ae] at e;cases e;exact new
 .rw [aq hb] at e;exact(x b u e).u5 (λc v _ q=>k c v q) (λc q=>by rw[aq (au q hn)];exact q) λc xs q=>by rw[aq (au q hn)];exact q
end
def Rd(H:Hp)(a:Addr)(u:HO):Prop:=H a=some u\/∃o,H a=some (.frz o u)
theorem Rd.ok{P:Program}{w:World}{H:Hp}{h:Heap}{a:Addr}{u:HO}(r:Rd H a u)(x:HOk P w H h):dc P w H h a u:=by
 rcases r with r | ⟨o,r⟩
 .exact x a u r
 .obtain ⟨_,q⟩:=x a _ r;exact q
def Mut:Option HO->Prop
 | some (.lst _)=>True
 | some (.dK _)=>True
 | some (.dT _)=>True
 | some (.set _ _)=>True
 | some (.ins _ _ _)=>True
 | some (.ext _)=>True
 | _=>False
section
variable{P:Program}{w:World}{H:Hp}{h h':Heap}{x e:Addr}{o':HO}
theorem HOk.write(ok:HOk P w H h)(mu:Mut (H x))(he:e=x\/H e=some (.own x))(k:∀b u,b≠e->h.get? b=some u->h'.get? b=some u)(heo:∃u,h'.get? e=some u)
  (new:dc P w (upd H x o') h' x o'):HOk P w (upd H x o') h':=λb u q=>by
 have nown:∀c y,H c=some (.own y)->c≠x:=λc y r z=>by subst z;rw[r] at mu;exact mu
 have ntup:∀c xs,H c=some (.tup xs)->c≠x:=λc xs r z=>by subst z;rw[r] at mu;exact mu
 by_cases hb:b=x
 .subst hb;rw[ae] at q;cases q;exact new
 .rw [aq hb] at q;by_cases hbe:b=e
  .have q':H b=some (.own x):=by
    rcases he with z | z
    .exact absurd (hbe.trans z) hb
    .rw [hbe];exact z
   rw[q] at q';cases q';obtain⟨v,hv⟩:=heo;exact⟨v,by rw[hbe];exact hv⟩
  .refine (ok b u q).u5 (λc v hc r=>k c v ?_ r) (λc r=>by rw[aq (nown c b r)];exact r) λc xs r=>by rw[aq (ntup c xs r)];exact r
   rcases hc with rfl | hc
   .exact hbe
   .rintro rfl;rcases he with z | z
    .exact nown c b hc z
    .rw [hc] at z;cases z;exact hb rfl
end
structure Un(fs ex:List Addr)(H H':Hp)(h h':Heap):Prop where
 keep:∀b o,h.get? b=some o->H b=none->b∉fs->b∉ex->h'.get? b=some o
 slot:∀b o,h.get? b=some o->H b=none->b∈fs->b∉ex->∃sl,h'.get? b=some { o with slots:=sl}
 free:∀b o,h.get? b=some o->H b=none->b∉ex->H' b=none
 there:∀b o,h.get? b=some o->b∉ex->∃o',h'.get? b=some o'
 uU:∀b xs,H b=some (.tup xs)->H' b=some (.tup xs)
 rJ:∀b o u,H b=some (.frz o u)->H' b=some (.frz o u)
 uJ:∀b ps,H b=some (.tbl ps)->∃more,H' b=some (.tbl (ps++more))
section
variable{fs fs' ex ex':List Addr}{H H1 H2:Hp}{h h1 h2 h':Heap}{a x e:Addr}{o:HO}
theorem Un.any(u:Un fs ex H H1 h h1){b:Addr}{ob:Obj}(q:h.get? b=some ob)(n:H b=none)(hx:b∉ex):∃sl,h1.get? b=some { ob with slots:=sl}:=by
 by_cases hb:b∈fs
 .exact u.slot b ob q n hb hx
 .exact ⟨ob.slots,u.keep b ob q n hb hx⟩
theorem Un.kept(k:∀b u,h.get? b=some u->h'.get? b=some u):Un fs ex H H h h':=
 ⟨λb ob q _ _ _=>k b ob q,λb ob q _ _ _=>⟨ob.slots,k b ob q⟩,λ_ _ _ n _=>n,λb ob q _=>⟨ob,k b ob q⟩,λ_ _ q=>q,λ_ _ _ q=>q,λ_ ps q=>⟨#[],by rw[q];simp⟩⟩
theorem Un.refl:Un fs ex H H h h:=Un.kept λ_ _ q=>q
theorem Un.laid(k:∀b u,h.get? b=some u->h'.get? b=some u)(hp:h.objs.size<=a)(hn:H a=none):Un fs ex H (upd H a o) h h' where
 keep:=λb u q _ _ _=>k b u q
 slot:=λb u q _ _ _=>⟨u.slots,k b u q⟩
 free:=λb u q n _=>by rw[aq (Nat.ne_of_lt (Nat.lt_of_lt_of_le (Heap.lt_size q) hp))];exact n
 there:=λb u q _=>⟨u,k b u q⟩
 uU:=λb xs q=>by rw[aq (au q hn)];exact q
 rJ:=λb u xs q=>by rw[aq (au q hn)];exact q
 uJ:=λb ps q=>⟨#[],by rw[aq (au q hn),q];simp⟩
theorem Un.write(mu:Mut (H x))(he:e=x\/H e=some (.own x))(k:∀b u,b≠e->h.get? b=some u->h'.get? b=some u)(heo:∃u,h'.get? e=some u):Un fs ex H (upd H x o) h h':=by
 have hx:∀b,H b=none->b≠x:=λb n z=>by subst z;rw[n] at mu;exact mu
 have hb:∀b,H b=none->b≠e:=λb n z=>by
  subst z;rcases he with r | r
  .exact hx b n r
  .rw [n] at r;cases r
 have hm:∀b u,H b=some u->¬Mut (some u)->b≠x:=λb u q nm z=>by subst z;rw[q] at mu;exact nm mu
 refine⟨λb u q n _ _=>k b u (hb b n) q,λb u q n _ _=>⟨u.slots,k b u (hb b n) q⟩,λb u q n _=>by rw[aq (hx b n)];exact n,λb u q _=> ?_,
  λb xs q=>by rw[aq (hm b _ q λz=>z)];exact q,λb u xs q=>by rw[aq (hm b _ q λz=>z)];exact q,λb ps q=>⟨#[],by rw[aq (hm b _ q λz=>z),q];simp⟩⟩
 by_cases hbe:b=e
 .subst hbe;exact heo
 .exact ⟨u,k b u hbe q⟩
end
def trk(h:Heap)(H:Hp):List Addr:=(List.range h.objs.size).filter λa=>(H a).isSome
def yO(h:Heap)(H:Hp):Heap:=PySem.W.hideAll h (trk h H)
theorem D4(h:Heap)(H:Hp):(yO h H).objs.size=h.objs.size:=PySem.W.hideAll_size _ _
theorem Fi{h:Heap}{H:Hp}{b:Addr}{o:Obj}(e:h.get? b=some o)(n:H b=none):(yO h H).get? b=some o:=
 PySem.W.hideAll_get _ e λhm=>by
  have q:(H b).isSome=true:=(List.mem_filter.mp hm).2;rw[n] at q;simp at q
theorem IV{h:Heap}{H:Hp}{b:Addr}{o:Obj}(e:(yO h H).get? b=some o):h.get? b=some o/\H b=none:=by
 have e':h.get? b=some o:=PySem.W.of_hideAll (trk h H) e;refine⟨e',?_⟩;cases q:H b with
 | none=>rfl
 | some x=>
  have hm:b∈trk h H:=List.mem_filter.mpr ⟨List.mem_range.mpr (Heap.lt_size e'),by simp [q]⟩;have z:(yO h H).get? b=none:=PySem.W.hideAll_none (trk h H) hm;rw[z] at e;cases e
structure Mod(K:PySem.W.Frag)(mg:Str->Option Value)(base:Heap):Prop where
 kin:K.In base
 glob:base.Ns mainGlobals mg
 blt:∃mb,base.Ns builtinsNs mb/\∀x:Str,x≠"__name__"->mb x=bootBuiltins x
 nolimit:base.NoLimit
structure Cx where
 prog:Program
 w:World
 K:PySem.W.Frag
 mg:Str->Option Value
 base:Heap
 A:Around
 N:List Str
 s₀:Shared
 H₀:Hp
 env:Env
 outer:List Env
 stack:List Env
 ex:List Addr
 fn:Str->Bool
 calm:Bool
 pn:List (Addr × Obj)
 xe:Value->Shared->Prop
def frs(l:List Env):List Addr:=l.filterMap (·.frame)
abbrev Cx.fs(X:Cx):List Addr:=frs X.outer
def Vis(sc:Scope)(x:Str):Prop:=sc.names.lookup x=some .local\/sc.names.lookup x=some .cell\/sc.names.lookup x=some .free
def Loc(sc:Scope)(x:Str):Prop:=sc.names.lookup x=some .local\/sc.names.lookup x=some .cell
def Look(env:Env)(h:Heap)(m:Str->Option Value)(x:Str)(u:Value):Prop:=
 (env.kindOf x=some .local/\m x=some u)\/((env.kindOf x=some .cell\/env.kindOf x=some .free)/\∃c,env.cells.lookup x=some c/\h.IsCell c (some u))
structure Cx.Ok(X:Cx):Prop where
 mod:Mod X.K X.mg X.base
 kind:X.env.scope.kind=.function
 glob:X.env.globals=mainGlobals
 blt:X.env.builtins=builtinsNs
 above:X.s₀.heap.objs.size<=X.env.locals
 inj:∀x y c,X.env.cells.lookup x=some c->X.env.cells.lookup y=some c->x=y
 has:∀x,(X.env.kindOf x=some .cell\/X.env.kindOf x=some .free)->∃c,X.env.cells.lookup x=some c
 cab:∀x c,X.fn x=true->X.env.cells.lookup x=some c->X.s₀.heap.objs.size<=c
 hd:X.calm=true->X.A.handled=none
 frames:X.A.frames=some X.stack
 stk:X.stack=X.outer\/(X.stack=X.env::X.outer/\X.env.frame=some X.env.locals)
 exf:∀b∈X.ex,b≠X.env.locals/\∀x c,X.env.cells.lookup x=some c->c≠b
 bs:∀b o,X.base.get? b=some o->X.s₀.heap.get? b=some o/\X.H₀ b=none
 bsz:X.base.objs.size<=X.s₀.heap.objs.size
 uo:∀b o,X.base.get? b=some o->b∉X.ex
 sC:∀b∈X.ex,b∉X.fs
 ke:X.s₀.heap.FunFrames X.base X.outer
 frf:∀b∈X.fs,X.H₀ b=none
structure Inv(X:Cx)(pins:List (Addr × Obj))(σ:List (Option V))(H:Hp)(s:Shared):Prop where
 ok:X.Ok
 os:s.os=X.s₀.os
 bare:AllBare s.gens
 base:Un X.fs X.ex X.H₀ H X.s₀.heap s.heap
 loc:∃m,s.heap.Ns X.env.locals m/\∀(i:Nat) (x:Str) (v:V),X.N[i]? =some x->σ[i]? =some (some v)->Vis X.env.scope x->∃u,RelV v u/\Look X.env s.heap m x u
 cell:∀x c,X.env.cells.lookup x=some c->∃v,s.heap.IsCell c v
 free:H X.env.locals=none
 ed:∀x c,X.env.cells.lookup x=some c->H c=none
 pin:∀p∈X.pn++pins,s.heap.get? p.1=some p.2/\H p.1=none/\p.1≠X.env.locals/\p.1∉X.fs/\∀v,p.2.data≠ .cell v
 hok:HOk X.prog X.w H s.heap
 len:σ.length=X.N.length
section
variable{X:Cx}{pins:List (Addr × Obj)}{σ:List (Option V)}{H H':Hp}{s:Shared}{h':Heap}
theorem Cx.Ok.Mn(ok:X.Ok){b:Addr}{o:Obj}(e:X.base.get? b=some o):b∉X.fs:=λhb=>by
 have:=(ok.ke.mem hb).1;rw[e] at this;cases this
theorem Inv.bs(I:Inv X pins σ H s):∀b o,X.base.get? b=some o->s.heap.get? b=some o/\H b=none:=λb o e=>
 ⟨I.base.keep b o (I.ok.bs b o e).1 (I.ok.bs b o e).2 (I.ok.Mn e) (I.ok.uo b o e),I.base.free b o (I.ok.bs b o e).1 (I.ok.bs b o e).2 (I.ok.uo b o e)⟩
theorem Inv.bk(I:Inv X pins σ H s):∀b o,X.base.get? b=some o->s.heap.get? b=some o:=λb o e=>(I.bs b o e).1
theorem Inv.mod(I:Inv X pins σ H s):Mod X.K X.mg X.base:=I.ok.mod
theorem Inv.kIn(I:Inv X pins σ H s):X.K.In s.heap:=I.ok.mod.kin.keeps I.bk
theorem Inv.lt(I:Inv X pins σ H s):X.env.locals < s.heap.objs.size:=let ⟨_,hn,_⟩:=I.loc;hn.lt
theorem Inv.sz(I:Inv X pins σ H s):X.s₀.heap.objs.size<=s.heap.objs.size:=Nat.le_trans I.ok.above (Nat.le_of_lt I.lt)
theorem Inv.LX(I:Inv X pins σ H s){a:Addr}(h:s.heap.objs.size<=a):a∉X.fs:=λhb=>by
 obtain⟨_,o,ho,_⟩:=I.ok.ke.mem hb;exact absurd (Nat.lt_of_lt_of_le (Heap.lt_size ho) (Nat.le_trans I.sz h)) (Nat.lt_irrefl _)
theorem Inv.cne(I:Inv X pins σ H s):∀x c,X.env.cells.lookup x=some c->c≠X.env.locals:=λx c e z=>by
 obtain⟨v,o,ho,hd⟩:=I.cell x c e;obtain⟨m,⟨o',es,ep,ho',hd',_⟩,_⟩:=I.loc;rw[z,ho'] at ho;cases ho;rw[hd'] at hd;cases hd
theorem Inv.ke(I:Inv X pins σ H s):s.heap.FunFrames X.base X.outer:=by
 have all:∀(l:List Env),(∀b∈frs l,b∈X.fs)->X.s₀.heap.FunFrames X.base l->s.heap.FunFrames X.base l:=by
  intro l
  induction l with
  | nil=>intro _ _;trivial
  | cons env r ih=>
   intro hs hl;obtain⟨hk,⟨L,o,hf,hn,ho,hd⟩,hr⟩:=hl;have hL:L∈X.fs:=hs L (by unfold frs;rw[List.filterMap_cons,hf];exact List.mem_cons_self);obtain⟨sl,e⟩:=I.base.slot L o ho (I.ok.frf L hL) hL λz=>I.ok.sC L z hL;exact⟨hk,⟨L,_,hf,hn,e,hd⟩,ih (λb hb=>hs b (by unfold frs;rw[List.filterMap_cons,hf];exact List.mem_cons_of_mem _ hb)) hr⟩
 exact all X.outer (λ_ hb=>hb) I.ok.ke
theorem Inv.stack(I:Inv X pins σ H s):s.heap.FunFrames X.base X.stack:=by
 rcases I.ok.stk with e | ⟨e,hf⟩
 .rw [e];exact I.ke
 .rw [e];obtain⟨m,hn,_⟩:=I.loc;refine .cons (by rw[I.ok.kind];decide) hf hn ?_ I.ke;exact Heap.get?_none_of_le (Nat.le_trans I.ok.bsz I.ok.above)
theorem Inv.yB(I:Inv X pins σ H s):∀b∈frs X.stack,b∈X.env.locals::X.fs:=λb hb=>by
 rcases I.ok.stk with e | ⟨e,hf⟩
 .rw [e] at hb;exact List.mem_cons_of_mem _ hb
 .rw [e] at hb;unfold frs at hb;rw[List.filterMap_cons,hf] at hb;exact hb
theorem Inv.rZ(I:Inv X pins σ H s):∀b∈frs X.stack,H b=none:=λb hb=>by
 rcases List.mem_cons.mp (I.yB b hb) with e | hb
 .rw [e];exact I.free
 .obtain ⟨_,o,ho,_⟩:=I.ok.ke.mem hb;exact I.base.free b o ho (I.ok.frf b hb) λz=>I.ok.sC b z hb
theorem Inv.step{g':Array GenState}{t':Nat}{d':Drawn}{ch:List Addr}(I:Inv X pins σ H s)
  (hch:∀b∈ch,(b∈X.ex\/X.s₀.heap.get? b=none)/\b≠X.env.locals/\(∀x c,X.env.cells.lookup x=some c->c≠b)/\∀p∈X.pn++pins,p.1≠b)
  (keep:∀b o,b≠X.env.locals->b∉X.fs->b∉ch->s.heap.get? b=some o->H b=none->h'.get? b=some o)
  (slot:∀b o,b≠X.env.locals->b∈X.fs->b∉ch->s.heap.get? b=some o->H b=none->∃sl,h'.get? b=some { o with slots:=sl}) (free:∀b o,b∉ch->s.heap.get? b=some o->H b=none->H' b=none)
  (there:∀b o,b∉ch->s.heap.get? b=some o->∃o',h'.get? b=some o')
  (uU:∀b xs,H b=some (.tup xs)->H' b=some (.tup xs)) (rJ:∀b o u,H b=some (.frz o u)->H' b=some (.frz o u)) (uJ:∀b ps,H b=some (.tbl ps)->∃more,H' b=some (.tbl (ps++more)))
  (ns:∀m,s.heap.Ns X.env.locals m->h'.Ns X.env.locals m) (hok:HOk X.prog X.w H' h') (hg:AllBare g'):
  Inv X pins σ H' { s with heap:=h',gens:=g',drawn:=d',toks:=t'}:=by
 have neL:∀b o,X.s₀.heap.get? b=some o->b≠X.env.locals:=λb o e=>Nat.ne_of_lt (Nat.lt_of_lt_of_le (Heap.lt_size e) I.ok.above)
 have neC:∀b o,X.s₀.heap.get? b=some o->b∉X.ex->b∉ch:=λb o e hx hb=>by
  rcases(hch b hb).1 with z | z
  .exact hx z
  .rw [z] at e;cases e
 have cellK:∀x c,X.env.cells.lookup x=some c->∀v,s.heap.IsCell c v->h'.IsCell c v:=λx c e v ⟨o,ho,hd⟩=>by
  have nch:c∉ch:=λz=>(hch c z).2.2.1 x c e rfl;by_cases hc:c∈X.fs
  .obtain ⟨sl,q⟩:=slot c o (I.cne x c e) hc nch ho (I.ed x c e);exact⟨_,q,hd⟩
  .exact ⟨o,keep c o (I.cne x c e) hc nch ho (I.ed x c e),hd⟩
 refine⟨I.ok,I.os,hg,⟨λb o e n hb hx=> ?_,λb o e n hb hx=> ?_,λb o e n hx=> ?_,λb o e hx=> ?_,λb xs e=>uU b xs (I.base.uU b xs e),λb o xs e=>rJ b o xs (I.base.rJ b o xs e),λb ps e=> ?_⟩,?_,λx c e=> ?_,?_,λx c e=> ?_,λp hp=> ?_,hok,I.len⟩
 .exact keep b o (neL b o e) hb (neC b o e hx) (I.base.keep b o e n hb hx) (I.base.free b o e n hx)
 .obtain ⟨sl,e1⟩:=I.base.slot b o e n hb hx;obtain⟨sl',e2⟩:=slot b _ (neL b o e) hb (neC b o e hx) e1 (I.base.free b o e n hx);exact⟨sl',e2⟩
 .obtain ⟨o',e1⟩:=I.base.there b o e hx;exact free b o' (neC b o e hx) e1 (I.base.free b o e n hx)
 .obtain ⟨o',e1⟩:=I.base.there b o e hx;exact there b o' (neC b o e hx) e1
 .obtain ⟨m1,e1⟩:=I.base.uJ b ps e;obtain⟨m2,e2⟩:=uJ b _ e1;exact⟨m1++m2,by rw[e2,Array.append_assoc]⟩
 .obtain ⟨m,hn,hl⟩:=I.loc;refine⟨m,ns m hn,λi x v e1 e2 e3=> ?_⟩;obtain⟨u,r,l⟩:=hl i x v e1 e2 e3;refine⟨u,r,?_⟩;rcases l with l | ⟨k,c,e,z⟩
  .exact .inl l
  .exact .inr ⟨k,c,e,cellK x c e _ z⟩
 .obtain ⟨v,z⟩:=I.cell x c e;exact⟨v,cellK x c e v z⟩
 .obtain ⟨m,⟨o,_,_,ho,_⟩,_⟩:=I.loc;exact free _ o (λz=>(hch _ z).2.1 rfl) ho I.free
 .obtain ⟨v,o,ho,hd⟩:=I.cell x c e;exact free c o (λz=>(hch c z).2.2.1 x c e rfl) ho (I.ed x c e)
 .obtain ⟨e,n,ne,nf,d⟩:=I.pin p hp;have nch:p.1∉ch:=λz=>(hch p.1 z).2.2.2 p hp rfl;exact⟨keep p.1 p.2 ne nf nch e n,free p.1 p.2 nch e n,ne,nf,d⟩
theorem Inv.un{t':Nat}(I:Inv X pins σ H s)(u:Un X.fs [] H H' s.heap h')(hok:HOk X.prog X.w H' h'):Inv X pins σ H' { s with heap:=h',toks:=t'}:=by
 obtain⟨m,⟨o,es,ep,ho,r⟩,_⟩:=id I.loc;obtain⟨sl,hL⟩:=u.any ho I.free (by simp)
 exact I.step (g':=s.gens) (d':=s.drawn) (ch:=[]) (λ_ z=>nomatch z) (λb o _ hb _ e n=>u.keep b o e n hb (by simp)) (λb o _ hb _ e n=>u.slot b o e n hb (by simp)) (λb o _ e n=>u.free b o e n (by simp)) (λb o _ e=>u.there b o e (by simp)) u.uU u.rJ u.uJ (λm' hm=>by
  obtain⟨o',es',ep',ho',r'⟩:=hm;rw[ho] at ho';cases ho';exact⟨_,es',ep',hL,r'⟩) hok I.bare
theorem Inv.call{g':Array GenState}{t':Nat}{d':Drawn}{ch:List Addr}(I:Inv X pins σ H s)(u:Un (frs X.stack) ch H H' s.heap h')(hok:HOk X.prog X.w H' h')(hg:AllBare g')
  (hch:∀b∈ch,(b∈X.ex\/X.s₀.heap.get? b=none)/\b≠X.env.locals/\(∀x c,X.env.cells.lookup x=some c->c≠b)/\∀p∈X.pn++pins,p.1≠b):
  Inv X pins σ H' { s with heap:=h',gens:=g',drawn:=d',toks:=t'}:=by
 obtain⟨m,⟨o,es,ep,ho,r⟩,_⟩:=id I.loc;obtain⟨sl,hL⟩:=u.any ho I.free λz=>(hch _ z).2.1 rfl
 exact I.step (ch:=ch) hch (λb o hL hb hc e n=>u.keep b o e n (λz=>(List.mem_cons.mp (I.yB b z)).elim hL hb) hc) (λb o _ _ hc e n=>u.any e n hc) (λb o hc e n=>u.free b o e n hc) (λb o hc e=>u.there b o e hc) u.uU u.rJ u.uJ (λm' hm=>by
  obtain⟨o',es',ep',ho',r'⟩:=hm;rw[ho] at ho';cases ho';exact⟨_,es',ep',hL,r'⟩) hok hg
theorem Inv.turned{t':Nat}{it:Addr}(I:Inv X pins σ H s)(k:∀b o,b≠it->s.heap.get? b=some o->h'.get? b=some o)(hn:H it=none)(hL:it≠X.env.locals)
  (h1:it∈X.ex\/X.s₀.heap.get? it=none) (h2:∀x c,X.env.cells.lookup x=some c->c≠it) (h3:∀p∈X.pn++pins,p.1≠it):Inv X pins σ H { s with heap:=h',toks:=t'}:=by
 have nit:∀b u,H b=some u->b≠it:=λb u e z=>by rw[z,hn] at e;cases e
 refine I.step (g':=s.gens) (d':=s.drawn) (ch:=[it]) (λb hb=> ?_) (λb o _ _ hc e _=>k b o (λz=>hc (by simp [z])) e) (λb o _ _ hc e _=>⟨o.slots,k b o (λz=>hc (by simp [z])) e⟩) (λ_ _ _ _ n=>n)
  (λb o hc e=>⟨o,k b o (λz=>hc (by simp [z])) e⟩) (λ_ _ e=>e) (λ_ _ _ e=>e) (λb ps e=>⟨#[],by rw[e];simp⟩) (λm hm=> ?_) (λb u e=> ?_) I.bare
 .have e:b=it:=by simpa using hb
  subst e;exact⟨h1,hL,h2,h3⟩
 .obtain ⟨o,es,ep,ho,r⟩:=hm;exact⟨o,es,ep,k _ o (Ne.symm hL) ho,r⟩
 .refine (I.hok b u e).u5 (λc v hc q=>k c v ?_ q) (λ_ q=>q) λ_ _ q=>q;rcases hc with z | z
  .rw [z];exact nit b u e
  .exact nit c _ z
theorem Inv.tok(I:Inv X pins σ H s)(t:Nat):Inv X pins σ H { s with toks:=t}:=I.un (h':=s.heap) (t':=t) Un.refl I.hok
theorem Inv.kept{t':Nat}(I:Inv X pins σ H s)(k:∀b u,s.heap.get? b=some u->h'.get? b=some u):Inv X pins σ H { s with heap:=h',toks:=t'}:=I.un (Un.kept k) (I.hok.kept k)
theorem Inv.laid{a:Addr}{o:HO}{t':Nat}(I:Inv X pins σ H s)(k:∀b u,s.heap.get? b=some u->h'.get? b=some u)(hp:s.heap.objs.size<=a)(new:dc X.prog X.w (upd H a o) h' a o):
  Inv X pins σ (upd H a o) { s with heap:=h',toks:=t'}:=I.un (Un.laid k hp (I.hok.fresh hp)) (I.hok.laid k hp new)
theorem Inv.write{x e:Addr}{o:HO}{t':Nat}(I:Inv X pins σ H s)(mu:Mut (H x))(he:e=x\/H e=some (.own x))(k:∀b u,b≠e->s.heap.get? b=some u->h'.get? b=some u)(heo:∃u,h'.get? e=some u)
  (new:dc X.prog X.w (upd H x o) h' x o):Inv X pins σ (upd H x o) { s with heap:=h',toks:=t'}:=I.un (Un.write mu he k heo) (I.hok.write mu he k heo new)
theorem Inv.lA{pins':List (Addr × Obj)}(I:Inv X pins σ H s)(h:∀p∈pins',s.heap.get? p.1=some p.2/\H p.1=none/\p.1≠X.env.locals/\p.1∉X.fs/\∀v,p.2.data≠ .cell v):Inv X pins' σ H s:=
 ⟨I.ok,I.os,I.bare,I.base,I.loc,I.cell,I.free,I.ed,λp hp=>(List.mem_append.mp hp).elim (λz=>I.pin p (List.mem_append_left _ z)) (h p),I.hok,I.len⟩
theorem tw{N:List Str}(hN:N.Nodup){i j:Nat}{x:Str}(a:N[i]? =some x)(b:N[j]? =some x):i=j:=by
 obtain⟨h1,e1⟩:=List.getElem?_eq_some_iff.mp a;obtain⟨h2,e2⟩:=List.getElem?_eq_some_iff.mp b;exact(List.getElem_inj hN).mp (e1.trans e2.symm)
theorem pB{M:Model}{A:Around}{E:Value->Shared->Prop}{i:Nat}{x:Str}{v:V}{u:Value}{Q:Unit->Shared->Prop}(I:Inv X pins σ H s)(hN:X.N.Nodup)(hi:X.N[i]? =some x)(hx:Loc X.env.scope x)(r:RelV v u)
  (h:∀s',Inv X pins (σ.set i (some v)) H s'->(∃a,Heap.SameBut a s.heap s'.heap/\(a=X.env.locals\/X.env.cells.lookup x=some a))->Q () s') (hf:X.fn x=true\/X.env.scope.names.lookup x=some .local:=by first | exact .inl rfl | exact .inr rfl | assumption):wpAny M A (storeName X.env x u) Q E s:=by
 obtain⟨m,hn,hl⟩:=id I.loc;have hcls:(X.env.scope.kind == .class || (X.env.scope.kind == .module && X.env.locals != X.env.globals))=false:=by rw[I.ok.kind];rfl
 have hiσ:i < σ.length:=by rw[I.len];exact(List.getElem?_eq_some_iff.mp hi).1
 have cne:=I.cne
 have tracked:∀{a:Addr} {h':Heap},(∃o,s.heap.get? a=some o/\H a=none)->Heap.SameBut a s.heap h'->HOk X.prog X.w H h':=λ{a h'} ha hs b ob e=>by
  obtain⟨_,_,hfree⟩:=ha;refine(I.hok b ob e).u5 (λc w' hc q=>(hs.2 c ?_).trans q) (λ_ q=>q) λ_ _ q=>q;rintro rfl;rcases hc with rfl | hc
  .rw [hfree] at e;cases e
  .rw [hfree] at hc;cases hc
 rcases hx with hk | hk
 .refine wpAny_storeName_local hk hn (λh' hn' hs=> ?_) hcls;obtain⟨oL,_,_,hoL,_⟩:=id hn;refine h _ ⟨I.ok,I.os,I.bare,⟨λb o e n hb hx=> ?_,λb o e n hb hx=> ?_,I.base.free,λb o e hx=> ?_,I.base.uU,I.base.rJ,I.base.uJ⟩,⟨_,hn',λj y v' e1 e2 e3=> ?_⟩,λy c e=> ?_,I.free,I.ed,λp hp=> ?_,tracked ⟨oL,hoL,I.free⟩ hs,by simpa using I.len⟩ ⟨_,hs,.inl rfl⟩
  .exact (hs.2 b (Nat.ne_of_lt (Nat.lt_of_lt_of_le (Heap.lt_size e) I.ok.above))).trans (I.base.keep b o e n hb hx)
  .obtain ⟨sl,e1⟩:=I.base.slot b o e n hb hx;exact⟨sl,(hs.2 b (Nat.ne_of_lt (Nat.lt_of_lt_of_le (Heap.lt_size e) I.ok.above))).trans e1⟩
  .obtain ⟨o',e1⟩:=I.base.there b o e hx;exact⟨o',(hs.2 b (Nat.ne_of_lt (Nat.lt_of_lt_of_le (Heap.lt_size e) I.ok.above))).trans e1⟩
  .by_cases hj:j=i
   .subst hj;rw[hi] at e1;cases e1;rw[List.getElem?_set_self hiσ] at e2;cases e2;exact⟨u,r,.inl ⟨hk,by simp⟩⟩
   .rw [List.getElem?_set_ne (Ne.symm hj)] at e2;obtain⟨u',r',q⟩:=hl j y v' e1 e2 e3;refine⟨u',r',?_⟩;rcases q with⟨k,e⟩ | ⟨k,c,e,z⟩
    .refine .inl ⟨k,?_⟩;have:y≠x:=λe=>hj (tw hN e1 (e ▸ hi));simp [this,e]
    .exact .inr ⟨k,c,e,z.sameBut hs (cne y c e)⟩
  .obtain ⟨w',z⟩:=I.cell y c e;exact⟨w',z.sameBut hs (cne y c e)⟩
  .obtain ⟨e,n,ne,nf,d⟩:=I.pin p hp;exact⟨(hs.2 p.1 ne).trans e,n,ne,nf,d⟩
 .have hfn:X.fn x=true:=by
   rcases hf with z | z
   .exact z
   .rw [z] at hk;cases hk
  obtain⟨c,hc⟩:=I.ok.has x (.inl hk);obtain⟨w',z⟩:=I.cell x c hc;refine wpAny_storeName_cell I.ok.kind hk hc z (λh' hc' hs=> ?_);obtain⟨oc,hoc,hocd⟩:=id z;refine h { s with heap:=h'} ⟨I.ok,I.os,I.bare,⟨λb o e n hb hx=> ?_,λb o e n hb hx=> ?_,I.base.free,λb o e hx=> ?_,I.base.uU,I.base.rJ,I.base.uJ⟩,⟨m,hn.sameBut hs (Ne.symm (cne x c hc)),λj y v' e1 e2 e3=> ?_⟩,λy c' e=> ?_,I.free,I.ed,λp hp=> ?_,tracked ⟨oc,hoc,I.ed x c hc⟩ hs,by simpa using I.len⟩ ⟨c,hs,.inr hc⟩
  .exact (hs.2 b (Nat.ne_of_lt (Nat.lt_of_lt_of_le (Heap.lt_size e) (I.ok.cab x c hfn hc)))).trans (I.base.keep b o e n hb hx)
  .obtain ⟨sl,e1⟩:=I.base.slot b o e n hb hx;exact⟨sl,(hs.2 b (Nat.ne_of_lt (Nat.lt_of_lt_of_le (Heap.lt_size e) (I.ok.cab x c hfn hc)))).trans e1⟩
  .obtain ⟨o',e1⟩:=I.base.there b o e hx;exact⟨o',(hs.2 b (Nat.ne_of_lt (Nat.lt_of_lt_of_le (Heap.lt_size e) (I.ok.cab x c hfn hc)))).trans e1⟩
  .by_cases hj:j=i
   .subst hj;rw[hi] at e1;cases e1;rw[List.getElem?_set_self hiσ] at e2;cases e2;exact⟨u,r,.inr ⟨.inl hk,c,hc,hc'⟩⟩
   .rw [List.getElem?_set_ne (Ne.symm hj)] at e2;obtain⟨u',r',q⟩:=hl j y v' e1 e2 e3;refine⟨u',r',?_⟩;rcases q with q | ⟨k,c',e,z'⟩
    .exact .inl q
    .refine .inr ⟨k,c',e,z'.sameBut hs ?_⟩;rintro rfl;exact hj (tw hN e1 (I.ok.inj _ _ _ e hc ▸ hi))
  .by_cases hcc:c'=c
   .subst hcc;exact⟨_,hc'⟩
   .obtain ⟨w2,z2⟩:=I.cell y c' e;exact⟨w2,z2.sameBut hs hcc⟩
  .obtain ⟨e,n,ne,nf,d⟩:=I.pin p hp;refine⟨(hs.2 p.1 ?_).trans e,n,ne,nf,d⟩;intro q;rw[q,hoc] at e;have q':oc=p.2:=Option.some.inj e;exact d w' (by rw[<- q'];exact hocd)
theorem ph{M:Model}{A:Around}{E:Value->Shared->Prop}{i:Nat}{x:Str}{v:V}{u:Value}{Q:Unit->Shared->Prop}(I:Inv X pins σ H s)(hN:X.N.Nodup)(hi:X.N[i]? =some x)(hx:Loc X.env.scope x)(r:RelV v u)
  (h:∀s',Inv X pins (σ.set i (some v)) H s'->Q () s') (hf:X.fn x=true\/X.env.scope.names.lookup x=some .local:=by first | exact .inl rfl | exact .inr rfl | assumption):wpAny M A (storeName X.env x u) Q E s:=
 pB I hN hi hx r (λs' I' _=>h s' I') hf
theorem Inv.Ga{s':Shared}{ch:List Addr}(I:Inv X pins σ H s)(ho:s'.os=s.os)(u:Un (frs X.stack) ch H H' s.heap s'.heap)(hok:HOk X.prog X.w H' s'.heap)(hg:AllBare s'.gens)
  (hch:∀b∈ch,(b∈X.ex\/X.s₀.heap.get? b=none)/\b≠X.env.locals/\(∀x c,X.env.cells.lookup x=some c->c≠b)/\∀p∈X.pn++pins,p.1≠b):Inv X pins σ H' s':=by
 obtain⟨h',g',d',t',o'⟩:=s';have e:o'=s.os:=ho;subst e;exact I.call (g':=g') (t':=t') (d':=d') u hok hg hch
end
abbrev XK:=Value->Option Addr->Hp->Prop
abbrev St:=List (Option V)
abbrev VK:=V->Hp->Prop
abbrev TE:=St->Hp->VK->Prop
abbrev TT:=St->Hp->(Bool->Hp->Prop)->Prop
abbrev TA:=St->Hp->(List V->Hp->Prop)->Prop
structure Ends where
 nx:St->Hp->Prop
 rt:VK
 bk:St->Hp->Prop:=λ_ _=>False
 ct:St->Hp->Prop:=λ_ _=>False
abbrev TS:=Ends->St->Hp->Prop
def EP(X:Cx)(pins:List (Addr × Obj))(σ:St)(Q:VK)(u:Value)(s':Shared):Prop:=∃v H',Inv X pins σ H' s'/\RelV v u/\Q v H'
def TP(X:Cx)(pins:List (Addr × Obj))(σ:St)(Q:Bool->Hp->Prop)(b:Bool)(s':Shared):Prop:=∃H',Inv X pins σ H' s'/\Q b H'
def AP(X:Cx)(pins:List (Addr × Obj))(σ:St)(Q:List V->Hp->Prop)(us:List Value)(s':Shared):Prop:=∃vs H',Inv X pins σ H' s'/\Vals vs us/\Q vs H'
def SP(X:Cx)(pins:List (Addr × Obj))(D:Ends)(f:Flow)(s':Shared):Prop:=
 match f with
 | .next=>∃σ' H',Inv X pins σ' H' s'/\D.nx σ' H'
 | .brk=>∃σ' H',Inv X pins σ' H' s'/\D.bk σ' H'
 | .cont=>∃σ' H',Inv X pins σ' H' s'/\D.ct σ' H'
 | .ret u=>∃v σ' H',Inv X pins σ' H' s'/\RelV v u/\D.rt v H'
def PE(X:Cx)(e:Expr)(t:TE):Prop:=
 ∀(pins:List (Addr × Obj)) (s:Shared) (σ:St) (H:Hp) (Q:VK),Inv X pins σ H s->t σ H Q->wpAny (model X.prog X.w) X.A (eval e X.env) (EP X pins σ Q) X.xe s
def PT(X:Cx)(e:Expr)(t:TT):Prop:=
 ∀(pins:List (Addr × Obj)) (s:Shared) (σ:St) (H:Hp) (Q:Bool->Hp->Prop),Inv X pins σ H s->t σ H Q->wpAny (model X.prog X.w) X.A (isTrue e X.env (eval e X.env)) (TP X pins σ Q) X.xe s
def PW(X:Cx)(e:Expr)(t:TT):Prop:=
 ∀(whole:Sem Value) (pins:List (Addr × Obj)) (s:Shared) (σ:St) (H:Hp) (Q:Bool->Hp->Prop),Inv X pins σ H s->t σ H Q->wpAny (model X.prog X.w) X.A (isTrue e X.env whole) (TP X pins σ Q) X.xe s
theorem PW.pt{X:Cx}{e:Expr}{t:TT}(h:PW X e t):PT X e t:=h _
def PA(X:Cx)(es:List Expr)(t:TA):Prop:=
 ∀(pos:Pos) (pins:List (Addr × Obj)) (s:Shared) (σ:St) (H:Hp) (Q:List V->Hp->Prop),Inv X pins σ H s->t σ H Q->wpAny (model X.prog X.w) X.A (spliced (backTo pos (starEach es X.env))) (AP X pins σ Q) X.xe s
def PS(X:Cx)(st:Stmt)(t:TS):Prop:=
 ∀(pins:List (Addr × Obj)) (s:Shared) (σ:St) (H:Hp) (D:Ends),Inv X pins σ H s->t D σ H->wpAny (model X.prog X.w) X.A (exec st X.env) (SP X pins D) X.xe s
def PSs(X:Cx)(st:List Stmt)(t:TS):Prop:=
 ∀(pins:List (Addr × Obj)) (s:Shared) (σ:St) (H:Hp) (D:Ends),Inv X pins σ H s->t D σ H->wpAny (model X.prog X.w) X.A (execs st X.env) (SP X pins D) X.xe s
theorem thn{α:Type}{t:Sem α}{Q Q':α->Shared->Prop}{M:Model}{A:Around}{E:Value->Shared->Prop}{s:Shared}(h:wpAny M A t Q E s)(hQ:∀a s,Q a s->Q' a s):wpAny M A t Q' E s:=wpAny_mono h hQ λ_ _ x=>x
variable{X:Cx}{pins:List (Addr × Obj)}{σ:St}{H:Hp}{s:Shared}
theorem thE{Q:VK}{t:Sem Value}{Q':Value->Shared->Prop}{M:Model}{A:Around}{E:Value->Shared->Prop}(h:wpAny M A t (EP X pins σ Q) E s)(k:∀u s' v H',Inv X pins σ H' s'->RelV v u->Q v H'->Q' u s'):wpAny M A t Q' E s:=thn h λu s' h=>e2 h λv H' h=>d3 h (k u s' v H')
theorem thA{Q:List V->Hp->Prop}{t:Sem (List Value)}{Q':List Value->Shared->Prop}{M:Model}{A:Around}{E:Value->Shared->Prop}(h:wpAny M A t (AP X pins σ Q) E s)(k:∀u s' v H',Inv X pins σ H' s'->Vals v u->Q v H'->Q' u s'):wpAny M A t Q' E s:=thn h λu s' h=>e2 h λv H' h=>d3 h (k u s' v H')
theorem thT{Q:Bool->Hp->Prop}{t:Sem Bool}{Q':Bool->Shared->Prop}{M:Model}{A:Around}{E:Value->Shared->Prop}(h:wpAny M A t (TP X pins σ Q) E s)(k:∀u s' H',Inv X pins σ H' s'->Q u H'->Q' u s'):wpAny M A t Q' E s:=thn h λu s' h=>e1 h λH' h=>d2 h (k u s' H')
theorem PE.th{e:Expr}{t:TE}{Q:VK}{Q':Value->Shared->Prop}(h:PE X e t)(I:Inv X pins σ H s)(w:t σ H Q)(k:∀u s' v H',Inv X pins σ H' s'->RelV v u->Q v H'->Q' u s'):wpAny (model X.prog X.w) X.A (eval e X.env) Q' X.xe s:=thE (h pins s σ H Q I w) k
theorem PA.th{e:List Expr}{t:TA}{pos:Pos}{Q:List V->Hp->Prop}{Q':List Value->Shared->Prop}(h:PA X e t)(I:Inv X pins σ H s)(w:t σ H Q)(k:∀u s' v H',Inv X pins σ H' s'->Vals v u->Q v H'->Q' u s'):wpAny (model X.prog X.w) X.A (spliced (backTo pos (starEach e X.env))) Q' X.xe s:=thA (h pos pins s σ H Q I w) k
theorem PT.th{e:Expr}{t:TT}{Q:Bool->Hp->Prop}{Q':Bool->Shared->Prop}(h:PT X e t)(I:Inv X pins σ H s)(w:t σ H Q)(k:∀u s' H',Inv X pins σ H' s'->Q u H'->Q' u s'):wpAny (model X.prog X.w) X.A (isTrue e X.env (eval e X.env)) Q' X.xe s:=thT (h pins s σ H Q I w) k
section
variable{X:Cx}
def K5(i:Nat):TE:=λσ H Q=>∃v,σ[i]? =some (some v)/\Q v H
def tC(v:V):TE:=λ_ H Q=>Q v H
theorem Ko{i:Nat}{x:Str}{pos:Pos}(hN:X.N[i]? =some x)(hv:Vis X.env.scope x)(hd:(x == ("__debug__":Str))=false:=by decide)(hcd:(x == ("__classdict__":Str))=false:=by decide):PE X (.Name x pos) (K5 i):=by
 intro pins s σ H Q I h;obtain⟨v,e,h⟩:=h;obtain⟨m,hn,hl⟩:=I.loc;obtain⟨u,r,l⟩:=hl i x v hN e hv;have fin:EP X pins σ Q u s:=⟨v,H,I,r,h⟩;rcases l with⟨hk,hm⟩ | ⟨hk,c,hc,hcell⟩
 .exact wpAny_Name (wpAny_loadName_local I.ok.kind hk hn hm fin) hd
 .rcases hk with hk | hk
  .exact wpAny_Name (wpAny_loadName_cell I.ok.kind hk hc hcell fin) hd
  .exact wpAny_Name (wpAny_loadName_free I.ok.kind hk hc hcell fin hcd) hd
theorem af{i j pos}:PE X (.Constant (.int i) j pos) (tC (.int i)):=λ_ _ _ H _ I h=>wpAny_Constant_int ⟨.int i,H,I.tok _,⟨_,rfl⟩,h⟩
theorem vD{b j pos}:PE X (.Constant (.bool b) j pos) (tC (.bl b)):=λ_ _ _ H _ I h=>Constant_bool ⟨.bl b,H,I,rfl,h⟩
theorem bP{j pos}:PE X (.Constant .none j pos) (tC .non):=λ_ _ _ H _ I h=>Constant_none ⟨.non,H,I,rfl,h⟩
theorem ai{x j pos}:PE X (.Constant (.str x) j pos) (tC (.str x)):=λ_ _ _ H _ I h=>Calls.Constant_str ⟨.str x,H,I.tok _,⟨_,rfl⟩,h⟩
def Gl(X:Cx)(x:Str):Prop:=X.env.kindOf x=some .globalImplicit
theorem gE{E:Value->Shared->Prop}{pins:List (Addr × Obj)}{s:Shared}{σ:St}{H:Hp}{x:Str}{u:Value}{pos:Pos}{Q:Value->Shared->Prop}(I:Inv X pins σ H s)(hg:Gl X x)(hm:X.mg x=some u)(h:Q u s)
  (hd:(x == ("__debug__":Str))=false:=by decide):wpAny (model X.prog X.w) X.A (eval (.Name x pos) X.env) Q E s:=
 Calls.Name_function_global I.ok.kind hg (Calls.loadGlobal_global (by rw[I.ok.glob];exact I.mod.glob.keeps I.bk) hm h) hd
theorem mF{E:Value->Shared->Prop}{pins:List (Addr × Obj)}{s:Shared}{σ:St}{H:Hp}{x:Str}{u:Value}{pos:Pos}{Q:Value->Shared->Prop}(I:Inv X pins σ H s)(hg:Gl X x)(hm:X.mg x=none)(hv:bootBuiltins x=some u)(h:Q u s)
  (hn:x≠"__name__":=by decide) (hd:(x == ("__debug__":Str))=false:=by decide):wpAny (model X.prog X.w) X.A (eval (.Name x pos) X.env) Q E s:=by
 obtain⟨mb,h1,h2⟩:=I.mod.blt;exact Calls.Name_function_global I.ok.kind hg (Calls.loadGlobal_builtin (by rw[I.ok.glob];exact I.mod.glob.keeps I.bk) hm (by rw[I.ok.blt];exact h1.keeps I.bk) ((h2 x hn).trans hv) h) hd
theorem yE{x:Str}{v:V}{u:Value}{pos:Pos}(hg:Gl X x)(hm:X.mg x=some u)(r:RelV v u)(hd:(x == ("__debug__":Str))=false:=by decide):PE X (.Name x pos) (tC v):=
 λ_ _ _ H _ I h=>gE I hg hm ⟨v,H,I,r,h⟩ hd
variable{a b:Expr}{ta tb:TE}{pos:Pos}
def PC(X:Cx)(op:CmpOp)(a b:Expr)(t:TE):Prop:=
 ∀(pins:List (Addr × Obj)) (s:Shared) (σ:St) (H:Hp) (Q:VK),Inv X pins σ H s->t σ H Q→
  wpAny (model X.prog X.w) X.A (eval a X.env) (λv s₁=>wpAny (model X.prog X.w) X.A (eval b X.env) (λu s₂=>wpAny (model X.prog X.w) X.A (compareOp op v u) (EP X pins σ Q) X.xe s₂) X.xe s₁) X.xe s
def tB(t:TE):TT:=λσ H Q=>t σ H λx H1=>∃c,x=.bl c/\Q c H1
theorem ER{op:CmpOp}{t:TE}(h:PC X op a b t)(h1:behindInMarks op b=false:=by first | exact nobehind _ (by decide) (by decide) | rfl):PE X (.Compare a [op] [b] pos) t:=λpins s σ H Q I hw=>wpAny_Compare1 (h pins s σ H Q I hw) h1
theorem cc{e:Expr}{t:TE}(h:PE X e t)(he:∀whole,isTrue e X.env whole=(do let v<-whole;standAt e.pos;holding [v] (truthy v)):=by intro _;rfl):PT X e (tB t):=by
 intro pins s σ H Q I hw;refine isTrue_plain (h.th I hw λv s1 x H1 I1 r1 q1=> ?_) (he _);obtain⟨d,rfl,q⟩:=q1;cases r1;exact wpAny_truthy_bool ⟨H1,I1,q⟩
variable{tA tB':TT}{rest:List Expr}
def LW(t u:TT):TT:=λσ H Q=>t σ H λc H1=>if c=true then u σ H1 Q else Q false H1
def tOr(t u:TT):TT:=λσ H Q=>t σ H λc H1=>if c=true then Q true H1 else u σ H1 Q
def LV(t:TT):TT:=λσ H Q=>t σ H λc H1=>Q (!c) H1
theorem yt(ha:PT X a tA):PW X (.BoolOp .And [a] pos) tA:=by
 intro wh pins s σ H Q I h;refine isTrue_and (thn (ha pins s σ H Q I h) λc s1 e=> ?_);cases c with
 | true=>exact isTrue_and_nil e
 | false=>exact e
theorem gg(ha:PT X a tA):PW X (.BoolOp .Or [a] pos) tA:=by
 intro wh pins s σ H Q I h;refine isTrue_or (thn (ha pins s σ H Q I h) λc s1 e=> ?_);cases c with
 | false=>exact isTrue_or_nil e
 | true=>exact e
theorem AW(ha:PT X a tA)(hb:PW X (.BoolOp .And (b::rest) pos) tB'):PW X (.BoolOp .And (a::b::rest) pos) (LW tA tB'):=by
 intro wh pins s σ H Q I h;refine isTrue_and (ha.th I h λc s1 H1 I1 q1=> ?_);cases c with
 | true=>exact hb wh pins s1 σ H1 Q I1 q1
 | false=>exact⟨H1,I1,q1⟩
theorem g7(ha:PT X a tA)(hb:PW X (.BoolOp .Or (b::rest) pos) tB'):PW X (.BoolOp .Or (a::b::rest) pos) (tOr tA tB'):=by
 intro wh pins s σ H Q I h;refine isTrue_or (ha.th I h λc s1 H1 I1 q1=> ?_);cases c with
 | true=>exact⟨H1,I1,q1⟩
 | false=>exact hb wh pins s1 σ H1 Q I1 q1
theorem hJ(ha:PT X a tA):PT X (.UnaryOp .Not a pos) (LV tA):=by
 intro pins s σ H Q I h;exact isTrue_not (ha pins s σ H (λc H1=>Q (!c) H1) I h)
def Lc(ta tb:TE):TE:=λσ H Q=>ta σ H λx H1=>∃c,x=.bl c/\if c=true then tb σ H1 Q else Q (.bl false) H1
def LZ(ta tb:TE):TE:=λσ H Q=>ta σ H λx H1=>∃c,x=.bl c/\if c=true then Q (.bl true) H1 else tb σ H1 Q
def Lg(ta:TE):TE:=λσ H Q=>ta σ H λx H1=>∃c,x=.bl c/\Q (.bl (!c)) H1
theorem fX{op}{t:TE}(h:PE X a t):PE X (.BoolOp op [a] pos) t:=λpins s σ H Q I hw=>BoolOp_one (h pins s σ H Q I hw)
theorem fh(ha:PE X a ta)(hb:PE X (.BoolOp .And (b::rest) pos) tb):PE X (.BoolOp .And (a::b::rest) pos) (Lc ta tb):=by
 intro pins s σ H Q I h;refine BoolOp_and (ha.th I h λv s1 x H1 I1 r1 q1=> ?_);obtain⟨c,rfl,q1⟩:=q1;cases r1;refine wpAny_truthy_bool ?_;cases c with
 | true=>exact hb pins s1 σ H1 Q I1 q1
 | false=>exact⟨.bl false,H1,I1,rfl,q1⟩
theorem K9(ha:PE X a ta)(hb:PE X (.BoolOp .Or (b::rest) pos) tb):PE X (.BoolOp .Or (a::b::rest) pos) (LZ ta tb):=by
 intro pins s σ H Q I h;refine BoolOp_or (ha.th I h λv s1 x H1 I1 r1 q1=> ?_);obtain⟨c,rfl,q1⟩:=q1;cases r1;refine wpAny_truthy_bool ?_;cases c with
 | false=>exact hb pins s1 σ H1 Q I1 q1
 | true=>exact⟨.bl true,H1,I1,rfl,q1⟩
theorem xE(ha:PE X a ta):PE X (.UnaryOp .Not a pos) (Lg ta):=by
 intro pins s σ H Q I h;refine UnaryOp_ (ha.th I h λv s1 x H1 I1 r1 q1=> ?_);obtain⟨c,rfl,q1⟩:=q1;cases r1;exact not_of (wpAny_truthy_bool ⟨.bl (!c),H1,I1,rfl,q1⟩)
def tIf(t:TT)(ta tb:TE):TE:=λσ H Q=>t σ H λc H1=>if c=true then ta σ H1 Q else tb σ H1 Q
theorem Am{c:Expr}(hc:PT X c tA)(ha:PE X a ta)(hb:PE X b tb):PE X (.IfExp c a b pos) (tIf tA ta tb):=by
 intro pins s σ H Q I h;refine wpAny_IfExp (hc.th I h λd s1 H1 I1 q1=> ?_);cases d with
 | true=>exact ha pins s1 σ H1 Q I1 q1
 | false=>exact hb pins s1 σ H1 Q I1 q1
end
def SqL(K:PySem.W.Frag)(H:Hp)(a:Addr)(xs:List V):Prop:=
 Rd H a (.lst xs)∨
  ∃(o:Obj) (its:Array Value) (n:Nat),K.lookup a=some o/\o.cls=.type "list"/\o.dict=none/\o.data=.seq its n/\its.size<=sizeLine/\Vals xs its.toList
def SqT(K:PySem.W.Frag)(H:Hp)(a:Addr)(xs:List V):Prop:=
 Rd H a (.tup xs)∨
  ∃(o:Obj) (its:Array Value) (n:Nat),K.lookup a=some o/\o.cls=.type "tuple"/\o.data=.seq its n/\its.size<=sizeLine/\Vals xs its.toList
def Mh:Value->Option V
 | .none=>some .non
 | .bool b=>some (.bl b)
 | .int i _=>some (.int i)
 | .str x _=>some (.str x)
 | .bytes b _=>some (.byt b)
 | .float b _=>some (.flt b)
 | .ref a=>some (.ref a)
 | .type n=>some (.ty n)
 | _=>none
theorem RelV.abs{x:V}{u:Value}(r:RelV x u):Mh u=some x:=by
 cases x with
 | non=>cases r;rfl
 | bl _=>cases r;rfl
 | int _=>obtain⟨t,rfl⟩:=r;rfl
 | str _=>obtain⟨t,rfl⟩:=r;rfl
 | byt _=>obtain⟨t,rfl⟩:=r;rfl
 | flt _=>obtain⟨t,rfl⟩:=r;rfl
 | ref _=>cases r;rfl
 | ty _=>cases r;rfl
theorem RelV.inj{x y:V}{u:Value}(r:RelV x u)(q:RelV y u):x=y:=Option.some.inj (r.abs.symm.trans q.abs)
theorem Vals.inj:∀{xs ys:List V} {us:List Value},Vals xs us->Vals ys us->xs=ys
 | _,_,_,.nil,.nil=>rfl
 | _,_,_,.cons r t,.cons r' t'=>by rw[r.inj r',Vals.inj t t']
section
variable{X:Cx}{pins:List (Addr × Obj)}{σ:St}{H:Hp}{s:Shared}{a:Addr}{xs ys:List V}
theorem SqL.of{K:PySem.W.Frag}(h:H a=some (.lst xs)):SqL K H a xs:= .inl (.inl h)
theorem SqT.of{K:PySem.W.Frag}(h:H a=some (.tup xs)):SqT K H a xs:= .inl (.inl h)
theorem Inv.list(I:Inv X pins σ H s)(h:SqL X.K H a xs):∃its:List Value,Vals xs its/\PlainL s.heap a its.toArray/\xs.length<=sizeLine:=by
 rcases h with h | ⟨o,its,n,hk,hc,hd,hs,hz,r⟩
 .obtain ⟨z,its,n,r,e⟩:=h.ok I.hok;exact⟨its,r,⟨_,n,e,rfl,rfl,rfl⟩,z⟩
 .refine ⟨its.toList,r,⟨o,n,I.kIn a o hk,hc,hd,by simpa using hs⟩,?_⟩;have e:=r.length;simp only [Array.length_toList] at e
  lia
theorem Inv.tuple(I:Inv X pins σ H s)(h:SqT X.K H a xs):∃its:List Value,Vals xs its/\IsTup s.heap a its.toArray/\xs.length<=sizeLine:=by
 rcases h with h | ⟨o,its,n,hk,hc,hs,hz,r⟩
 .obtain ⟨z,its,r,p⟩:=h.ok I.hok;exact⟨its,r,p,z⟩
 .refine ⟨its.toList,r,⟨o,I.kIn a o hk,hc,n,by simpa using hs⟩,?_⟩;have e:=r.length;simp only [Array.length_toList] at e
  lia
theorem Inv.je(I:Inv X pins σ H s)(h:SqL X.K H a xs)(h':SqL X.K H a ys):xs=ys:=by
 obtain⟨its,r,⟨o,n,e,_,_,d⟩,_⟩:=I.list h;obtain⟨its',r',⟨o',n',e',_,_,d'⟩,_⟩:=I.list h';rw[e] at e';cases e';rw[d] at d';injection d' with d1 _;have:its=its':=by simpa using congrArg Array.toList d1
 subst this;exact r.inj r'
theorem Inv.Df(I:Inv X pins σ H s)(h:SqT X.K H a xs)(h':SqT X.K H a ys):xs=ys:=by
 obtain⟨its,r,⟨o,e,_,n,d⟩,_⟩:=I.tuple h;obtain⟨its',r',⟨o',e',_,n',d'⟩,_⟩:=I.tuple h';rw[e] at e';cases e';rw[d] at d';injection d' with d1 _;have:its=its':=by simpa using congrArg Array.toList d1
 subst this;exact r.inj r'
end
abbrev Cx.v7(X:Cx)(E:Value->Shared->Prop):Cx:={ X with xe:=E}
abbrev Cx.nox(X:Cx):Cx:=X.v7 λ_ _=>False
theorem Cx.Ok.v7{X:Cx}(ok:X.Ok)(E:Value->Shared->Prop):(X.v7 E).Ok:=
 ⟨ok.mod,ok.kind,ok.glob,ok.blt,ok.above,ok.inj,ok.has,ok.cab,ok.hd,ok.frames,ok.stk,ok.exf,ok.bs,ok.bsz,ok.uo,ok.sC,ok.ke,ok.frf⟩
theorem Cx.Ok.kZ{X:Cx}{E:Value->Shared->Prop}(ok:(X.v7 E).Ok):X.Ok:=
 ⟨ok.mod,ok.kind,ok.glob,ok.blt,ok.above,ok.inj,ok.has,ok.cab,ok.hd,ok.frames,ok.stk,ok.exf,ok.bs,ok.bsz,ok.uo,ok.sC,ok.ke,ok.frf⟩
section
variable{X:Cx}{pins:List (Addr × Obj)}{σ:St}{H:Hp}{s:Shared}{E:Value->Shared->Prop}
theorem Inv.v7(I:Inv X pins σ H s)(E:Value->Shared->Prop):Inv (X.v7 E) pins σ H s:=⟨I.ok.v7 E,I.os,I.bare,I.base,I.loc,I.cell,I.free,I.ed,I.pin,I.hok,I.len⟩
theorem Inv.kZ(I:Inv (X.v7 E) pins σ H s):Inv X pins σ H s:=⟨I.ok.kZ,I.os,I.bare,I.base,I.loc,I.cell,I.free,I.ed,I.pin,I.hok,I.len⟩
theorem SP.kZ{D:Ends}{f:Flow}{s':Shared}(h:SP (X.v7 E) pins D f s'):SP X pins D f s':=by
 cases f with
 | next=>obtain⟨σ',H',I,q⟩:=h;exact⟨σ',H',I.kZ,q⟩
 | brk=>obtain⟨σ',H',I,q⟩:=h;exact⟨σ',H',I.kZ,q⟩
 | cont=>obtain⟨σ',H',I,q⟩:=h;exact⟨σ',H',I.kZ,q⟩
 | ret u=>obtain⟨v,σ',H',I,r,q⟩:=h;exact⟨v,σ',H',I.kZ,r,q⟩
theorem PSs.nox{st:List Stmt}{t:TS}(h:PSs X.nox st t):PSs X st t:=λpins s σ H D I hw=>
 wpAny_mono (h pins s σ H D (I.v7 _) hw) (λ_ _ q=>q.kZ) λ_ _ z=>False.elim z
end
section
variable{X:Cx}{st:Stmt}{rest:List Stmt}{t u:TS}{e:Expr}{te:TE}{pos:Pos}
def KZ:TS:=λD σ H=>D.nx σ H
def Ef(t u:TS):TS:=λD σ H=>t { D with nx:=u D} σ H
theorem ar:PSs X [] KZ:=λ_ _ σ H _ I h=>wpAny_execs_nil ⟨σ,H,I,h⟩
theorem aa(h1:PS X st t)(h2:PSs X rest u):PSs X (st::rest) (Ef t u):=by
 intro pins s σ H D I h;refine wpAny_execs_cons (thn (h1 pins s σ H { D with nx:=u D} I h) λf s1 q=> ?_);cases f with
 | next=>
  obtain⟨σ',H',I',q⟩:=q;exact h2 pins s1 σ' H' D I' q
 | ret v=>exact q
 | brk=>exact q
 | cont=>exact q
theorem ag(h1:PS X st t):PSs X [st] t:=by
 intro pins s σ H D I h;refine wpAny_execs_cons (thn (h1 pins s σ H D I h) λf s1 q=> ?_);cases f with
 | next=>exact wpAny_execs_nil q
 | ret v=>exact q
 | brk=>exact q
 | cont=>exact q
theorem Inv.quiet{pins:List (Addr × Obj)}{σ:St}{H:Hp}{s:Shared}(I:Inv X pins σ H s):interactive X.env=false:=by simp [interactive,I.ok.kind]
def Le(te:TE):TS:=λD σ H=>te σ H λ_ H1=>D.nx σ H1
theorem br(he:PE X e te)(hs:swapsWith e none pos.line X.env=pure false:=by rfl):PS X (.Expr e pos) (Le te):=by
 intro pins s σ H D I h;exact wpAny_Expr_any (he.th I h λv s1 x H1 I1 r1 q1=>⟨σ,H1,I1,q1⟩) I.quiet hs
def Ma(te:TE):TS:=λD σ H=>te σ H D.rt
theorem ao(he:PE X e te):PS X (.Return (some e) pos) (Ma te):=by
 intro pins s σ H D I h;exact wpAny_Return_some (he.th I h λv s1 x H1 I1 r1 q1=>⟨x,σ,H1,I1,r1,q1⟩)
def LI(c:TT)(t u:TS):TS:=λD σ H=>c σ H λb H1=>if b=true then t D σ H1 else u D σ H1
theorem aD{c:Expr}{a b:List Stmt}{tc:TT}(hc:PT X c tc)(ha:PSs X a t)(hb:PSs X b u):PS X (.If c a b pos) (LI tc t u):=by
 intro pins s σ H D I h;refine wpAny_If (hc.th I h λd s1 H1 I1 q1=> ?_);cases d with
 | true=>exact ha pins s1 σ H1 D I1 q1
 | false=>exact hb pins s1 σ H1 D I1 q1
def JH:TS:=λ_ _ _=>False
theorem nQ:PS X st JH:=λ_ _ _ _ _ _ h=>h.elim
end
abbrev TG:=V->St->Hp->(St->Hp->Prop)->Prop
abbrev TGs:=List V->St->Hp->(St->Hp->Prop)->Prop
def PG(X:Cx)(target:Expr)(t:TG):Prop:=
 ∀(pins:List (Addr × Obj)) (s:Shared) (σ:St) (H:Hp) (v:V) (u:Value) (Q:St->Hp->Prop),Inv X pins σ H s->RelV v u->t v σ H Q→
  wpAny (model X.prog X.w) X.A (assign target X.env u) (λ_ s'=>∃σ' H',Inv X pins σ' H' s'/\Q σ' H') X.xe s
def PGs(X:Cx)(ts:List Expr)(t:TGs):Prop:=
 ∀(pins:List (Addr × Obj)) (s:Shared) (σ:St) (H:Hp) (vs:List V) (us:List Value) (Q:St->Hp->Prop),Inv X pins σ H s->Vals vs us->t vs σ H Q→
  wpAny (model X.prog X.w) X.A (assignInOrder ((assignEach ts X.env).map (·.2)) us) (λ_ s'=>∃σ' H',Inv X pins σ' H' s'/\Q σ' H') X.xe s
abbrev JE:=V->V->V->Hp->(Hp->Prop)->Prop
def HJ(X:Cx)(t:JE):Prop:=
 ∀(pins:List (Addr × Obj)) (s:Shared) (σ:St) (H:Hp) (o i v:V) (ov iv u:Value) (Q:Hp->Prop),Inv X pins σ H s->RelV o ov->RelV i iv->RelV v u->t o i v H Q→
  wpAny (model X.prog X.w) X.A (setItem ov iv u) (λ_ s'=>∃H',Inv X pins σ H' s'/\Q H') X.xe s
abbrev TIp:=V->V->Hp->VK->Prop
def PIp(X:Cx)(op:Operator)(t:TIp):Prop:=
 ∀(pins:List (Addr × Obj)) (s:Shared) (σ:St) (H:Hp) (x y:V) (v u:Value) (Q:VK),Inv X pins σ H s->RelV x v->RelV y u->t x y H Q→
  wpAny (model X.prog X.w) X.A (inplaceOp op v u) (EP X pins σ Q) X.xe s
section
variable{X:Cx}{pos:Pos}
def j0(i:Nat):TG:=λv σ H Q=>Q (σ.set i (some v)) H
theorem cz{i:Nat}{x:Str}(hN:X.N.Nodup)(hi:X.N[i]? =some x)(hx:Loc X.env.scope x)(hf:X.fn x=true\/X.env.scope.names.lookup x=some .local:=by first | exact .inl rfl | exact .inr rfl | assumption):PG X (.Name x pos) (j0 i):=by
 intro pins s σ H v u Q I r h;exact wpAny_assign_Name (ph I hN hi hx r (λs' I'=>⟨_,H,I',h⟩) hf)
def Lm:TGs:=λvs σ H Q=>vs=[]/\Q σ H
def Fc(t:TG)(u:TGs):TGs:=λvs σ H Q=>∃v r,vs=v::r/\t v σ H λσ' H'=>u r σ' H' Q
theorem se:PGs X [] Lm:=by
 intro pins s σ H vs us Q I r h;obtain⟨e,h⟩:=h;subst e;cases r;exact assignInOrder_nil ⟨σ,H,I,h⟩
theorem dO{e:Expr}{es:List Expr}{t:TG}{u:TGs}(h1:PG X e t)(h2:PGs X es u)
  (hs:(assignEach (e::es) X.env).map (·.2)=assign e X.env::(assignEach es X.env).map (·.2):=by rfl):PGs X (e::es) (Fc t u):=by
 intro pins s σ H vs us Q I r h;obtain⟨v,vr,e1,h⟩:=h;subst e1;cases r with
 | cons r rr=>
  rw[hs];refine assignInOrder_cons (thn (h1 pins s σ H _ _ _ I r h) λ_ s1 zz=> ?_);obtain⟨σ1,H1,I1,q1⟩:=zz;exact h2 pins s1 σ1 H1 _ _ Q I1 rr q1
def KO(K:PySem.W.Frag)(n:Nat)(t:TGs):TG:=λv σ H Q=>∃a xs,v=.ref a/\SqT K H a xs/\xs.length=n/\t xs σ H Q
theorem xN{es:List Expr}{k:Nat}{t:TGs}{n:Nat}(hc:X.calm=true)(h:PGs X es t)
  (hn:(assignEach es X.env).length=n:=by rfl) (hst:(assignEach es X.env).findIdx? (·.1)=none:=by rfl):PG X (.Tuple es k pos) (KO X.K n t):=by
 intro pins s σ H v u Q I r hw;obtain⟨a,xs,e1,hq,hl,hw⟩:=hw;subst e1;cases r;obtain⟨its,rv,ht,hz⟩:=I.tuple hq;refine assign_Tuple_tuple (I.ok.hd hc) ht (by simp [hn,<-hl,rv.length]) hst λh' hx=> ?_;have I1:Inv X pins σ H { s with heap:=h'}:=I.kept (t':=s.toks) λb o e=>hx b o (Nat.ne_of_lt (Heap.lt_size e)) e;exact h pins _ σ H xs _ Q I1 (by simpa using rv) hw
def Mf(to ti:TE)(t:JE):TG:=λv σ H Q=>to σ H λo H1=>ti σ H1 λi H2=>t o i v H2 λH3=>Q σ H3
theorem Ks{o i:Expr}{to ti:TE}{t:JE}(ho:PE X o to)(hi:PE X i ti)(hs:HJ X t)
  (ha:∀v,assign (.Subscript o i pos) X.env v=(do
   let ov<-holding [v] (eval o X.env)
   let iv<-holding [v,ov] (eval i X.env)
   standAt pos
   holding [v,ov,iv] (setItem ov iv v)
   release [v,ov,iv] []):=by intro _;rfl):PG X (.Subscript o i pos) (Mf to ti t):=by
 intro pins s σ H v u Q I r h;rw[ha];refine wpAny_bind (wpAny_holding (ho.th I h λov s1 x H1 I1 r1 q1=> ?_));refine wpAny_bind (wpAny_holding (hi.th I1 q1 λiv s2 y H2 I2 r2 q2=> ?_));refine wpAny_bind (wpAny_standAt (wpAny_bind (wpAny_holding (thn (hs pins s2 σ H2 x y v ov iv u _ I2 r1 r2 r q2) λ_ s3 zz=> ?_))));obtain⟨H3,I3,q3⟩:=zz;exact wpAny_release ⟨σ,H3,I3,q3⟩
def GJ(te:TE)(g:TG):TS:=λD σ H=>te σ H λx H1=>g x σ H1 D.nx
theorem F9{tg e:Expr}{te:TE}{g:TG}(he:PE X e te)(hg:PG X tg g)(hs:swapsWithSole [tg] e pos.line X.env=pure false:=by rfl)(hw:swappedStores [tg] e X.env=pure none:=by rfl)
  (h1:(assignEach [tg] X.env).map (·.2)=[assign tg X.env]:=by rfl):PS X (.Assign [tg] e pos) (GJ te g):=by
 intro pins s σ H D I h;refine wpAny_Assign_stores (he.th I h λv s1 x H1 I1 r1 q1=> ?_) hs hw;rw[h1];exact thn (hg pins s1 σ H1 x v _ I1 r1 q1) λ_ s2 q=>q
theorem JM{i:Nat}{x:Str}{e:Expr}{te:TE}{pos':Pos}(hN:X.N.Nodup)(hi:X.N[i]? =some x)(hx:Loc X.env.scope x)(he:PE X e te)(hs:swapsWith e (some (.Name x pos')) pos.line X.env=pure false:=by rfl)(hf:X.fn x=true\/X.env.scope.names.lookup x=some .local:=by first | exact .inl rfl | exact .inr rfl | assumption):
  PS X (.Assign [.Name x pos'] e pos) (GJ te (j0 i)):=by
 intro pins s σ H D I h;refine wpAny_Assign_Name (he.th I h λv s1 y H1 I1 r1 q1=> ?_) hs;exact ph I1 hN hi hx r1 (λs2 I2=>⟨_,H1,I2,q1⟩) hf
end
structure It where
 go:Nat->Hp->Prop
 yld:Nat->Hp->V->Hp->Prop
 stop:Nat->Hp->Prop
def cS(X:Cx)(pins:List (Addr × Obj))(H:Hp)(b:Addr):Prop:=
 H b=none/\b≠X.env.locals/\b∉X.fs/\(b∈X.ex\/X.s₀.heap.get? b=none)/\(∀x c,X.env.cells.lookup x=some c->c≠b)/\∀p∈X.pn++pins,p.1≠b
theorem Inv.vV{X:Cx}{pins:List (Addr × Obj)}{σ:St}{H H':Hp}{s:Shared}{b:Addr}(I:Inv X pins σ H s)(hb:s.heap.objs.size<=b)(hn:H' b=none):cS X pins H' b:=by
 refine⟨hn,Nat.ne_of_gt (Nat.lt_of_lt_of_le I.lt hb),I.LX hb,.inr (Heap.get?_none_of_le (Nat.le_trans I.sz hb)),λx c e z=> ?_,λp hp z=> ?_⟩
 .obtain ⟨v,q⟩:=I.cell x c e;exact absurd (Nat.lt_of_lt_of_le q.lt (by rw[z];exact hb)) (Nat.lt_irrefl _)
 .exact absurd (Nat.lt_of_lt_of_le (Heap.lt_size (I.pin p hp).1) (by rw[z];exact hb)) (Nat.lt_irrefl _)
structure Turn(P:Program)(w:World)(K:PySem.W.Frag)(tg:Expr)(J:It)(fp:List Addr)(it:Addr)(tn:Nat->Heap->Prop):Prop where
 mem:it∈fp
 obj:∀i h,tn i h->∀b∈fp,∃o,h.get? b=some o/\∀v,o.data≠ .cell v
 keep:∀i h h',tn i h->(∀b∈fp,∀o,h.get? b=some o->h'.get? b=some o)->tn i h'
 item:∀(X:Cx),X.prog=P->X.w=w->X.K=K->X.calm=true->∀(i:Nat) (pins:List (Addr × Obj)) (s:Shared) (σ:St) (H:Hp) (E:Value->Shared->Prop),Inv X pins σ H s->(∀b∈fp,cS X pins H b)->tn i s.heap->J.go i H→
  wpAny (model P w) X.A (pyNext (.ref it)) (λr s1=>∃u,r=some u∧
   wpAny (model P w) X.A (letOwnedTupleGo tg (.ref it) u) (λ_ s2=>∃x H',Inv X pins σ H' s2/\RelV x u/\J.yld i H x H'/\tn (i + 1) s2.heap/\∀b∈fp,H' b=none) E s1) E s
 done:∀(X:Cx),X.prog=P->X.w=w->X.K=K->X.calm=true->∀(i:Nat) (pins:List (Addr × Obj)) (s:Shared) (σ:St) (H:Hp) (E:Value->Shared->Prop),Inv X pins σ H s->(∀b∈fp,cS X pins H b)->tn i s.heap->J.stop i H→
  wpAny (model P w) X.A (pyNext (.ref it)) (λr s1=>r=none/\Inv X pins σ H s1) E s
 self:∀(A:Around) (i:Nat) (s:Shared) (Q:Value->Shared->Prop) (E:Value->Shared->Prop),tn i s.heap->Q (.ref it) s->wpAny (model P w) A (pyIter (.ref it)) Q E s
abbrev TI:=St->Hp->(It->Hp->Prop)->Prop
def PIE(X:Cx)(pins:List (Addr × Obj))(σ:St)(tg:Expr)(R:It->Hp->Prop)(itv:Value)(s2:Shared):Prop:=
 ∃(it:Addr) (fp:List Addr) (tn:Nat->Heap->Prop) (J:It) (H':Hp),itv=.ref it/\Inv X pins σ H' s2/\Turn X.prog X.w X.K tg J fp it tn/\tn 0 s2.heap/\(∀b∈fp,cS X pins H' b)/\R J H'
def PI(X:Cx)(tg iter:Expr)(wi:TI):Prop:=
 ∀(pins:List (Addr × Obj)) (s:Shared) (σ:St) (H:Hp) (R:It->Hp->Prop),Inv X pins σ H s->wi σ H R→
  wpAny (model X.prog X.w) X.A (eval iter X.env) (λv s1=>wpAny (model X.prog X.w) X.A (pyIter v) (PIE X pins σ tg R) X.xe s1) X.xe s
theorem Gv{M:Model}{A:Around}{E:Value->Shared->Prop}{s:Shared}{tg:Expr}{it:Addr}{u:Value}{o:Obj}{n:String}{vs:Array Value}{Q:Unit->Shared->Prop}(ho:s.heap.get? it=some o)(hc:o.cls=.type n)(hd:o.data=.fields vs)
    (hn:["enumerate","zip","dict_itemiterator","dict_reverseitemiterator","odict_iterator","itertools.zip_longest","itertools.pairwise"].contains n=false) (hQ:Q () s):wpAny M A (letOwnedTupleGo tg (.ref it) u) Q E s:=by
  unfold letOwnedTupleGo
  cases tg <;> first
    | exact wpAny_pure hQ
    | (cases u <;> first
        | exact wpAny_pure hQ
        | (refine wpAny_bind (wpAny_load ho ?_)
           rw[hc,hd];show wpAny M A (if (["enumerate","zip","dict_itemiterator","dict_reverseitemiterator","odict_iterator","itertools.zip_longest","itertools.pairwise"].contains n && vs[0]? == some (rawInt _))=true then _ else _) Q E s;rw[if_neg (by intro h;rw[hn,Bool.false_and] at h;cases h)];exact wpAny_pure hQ))
def Itl(K:PySem.W.Frag)(a:Addr):It:=
 ⟨λi H=>∃xs x,SqL K H a xs/\xs[i]? =some x,λi H x H'=>H'=H/\∀xs,SqL K H a xs->xs[i]? =some x,λi H=>∃xs,SqL K H a xs/\xs.length<=i⟩
def Itr(lo:Int)(n:Nat):It:=⟨λi _=>i < n,λi H x H'=>H'=H/\x=.int (lo + i),λi _=>n<=i⟩
theorem D3{P:Program}{w:World}{K:PySem.W.Frag}{tg:Expr}(a it:Addr):Turn P w K tg (Itl K a) [it] it (λi h=>h.IsListIter it a i) where
 mem:=by simp
 obj:=λi h st b hb=>by
  have e:b=it:=by simpa using hb
  subst e;obtain⟨o,e,c,d⟩:=st;exact⟨o,e,λv z=>by rw[d] at z;cases z⟩
 keep:=λi h h' st k=>st.at λo e=>k it (by simp) o e
 item:=by
  intro X hP hw hK hc i pins s σ H E I hf st hg;subst hP hw hK;obtain⟨xs,x,hq,hx⟩:=hg;obtain⟨its,rv,p,hz⟩:=I.list hq;obtain⟨u,hu,ru⟩:=rv.get hx;obtain⟨f0,f1,f2,f3,f4,f5⟩:=hf it (by simp);refine wpAny_pyNext_list_item st p.isList (x:=u) (by simpa using hu) λh' st' sb=> ?_;have I1:Inv X pins σ H { s with heap:=h'}:=I.turned (t':=s.toks) (λb o hb e=>(sb.2 b hb).trans e) f0 f1 f3 f4 f5;obtain⟨o,e,c,d⟩:=id st';exact⟨u,rfl,Gv (s:={ s with heap:=h'}) e c d (by decide) ⟨x,H,I1,ru,⟨rfl,λys hy=>by rw[I.je hy hq];exact hx⟩,st',λb hb=>(hf b hb).1⟩⟩
 done:=by
  intro X hP hw hK hc i pins s σ H E I hf st hg;subst hP hw hK;obtain⟨xs,hq,hx⟩:=hg;obtain⟨its,rv,p,hz⟩:=I.list hq;obtain⟨f0,f1,f2,f3,f4,f5⟩:=hf it (by simp);have hl:=rv.length;exact wpAny_pyNext_list_end (I.ok.hd hc) st p.isList (by simp;lia) λh' eb=>⟨rfl,I.turned (t':=s.toks) (λb o hb e=>eb b o hb e) f0 f1 f3 f4 f5⟩
 self:=λ_ _ _ _ _ st h=>wpAny_pyIter_listiter st h
theorem BX{P:Program}{w:World}{K:PySem.W.Frag}{tg:Expr}(it:Addr)(lo:Int)(n:Nat):Turn P w K tg (Itr lo n) [it] it (λi h=>IsRangeIter h it (lo + (i:Nat) * 1) ((n:Int) - (i:Nat)) 1) where
 mem:=by simp
 obj:=λi h st b hb=>by
  have e:b=it:=by simpa using hb
  subst e
  exact⟨_,st,λv z=>by
   have z':Data.fields _=Data.cell v:=z;cases z'⟩
 keep:=λi h h' st k=>k it (by simp) _ st
 item:=by
  intro X hP hw hK hc i pins s σ H E I hf st hg;subst hP hw hK;obtain⟨f0,f1,f2,f3,f4,f5⟩:=hf it (by simp);have W:=Walks.range (prog:=X.prog) (w:=X.w) (I.ok.hd hc) it lo 1 n;refine W.item i s _ _ hg st λv h' tk hv st' kk=> ?_;obtain⟨t,rfl⟩:=hv;have I1:Inv X pins σ H { s with heap:=h',toks:=tk}:=I.turned (λb o hb e=>kk b o (by simpa using hb) e) f0 f1 f3 f4 f5;refine⟨_,rfl,Gv (s:={ s with heap:=h',toks:=tk}) (n:="range_iterator") st' rfl rfl (by decide) ⟨.int (lo + i),H,I1,⟨t,?_⟩,⟨rfl,rfl⟩,st',λb hb=>(hf b hb).1⟩⟩;rw[Int.mul_one]
 done:=by
  intro X hP hw hK hc i pins s σ H E I hf st hg;subst hP hw hK;obtain⟨f0,f1,f2,f3,f4,f5⟩:=hf it (by simp);exact wpAny_pyNext_range_end (I.ok.hd hc) st (by have:n<=i:=hg;lia) λh' eb=>⟨rfl,I.turned (t':=s.toks) (λb o hb e=>eb b o hb e) f0 f1 f3 f4 f5⟩
 self:=λ_ _ _ _ _ st h=>wpAny_pyIter_rangeiter st h
section
variable{X:Cx}{tg:Expr}
def K7(K:PySem.W.Frag)(tl:TE):TI:=λσ H R=>tl σ H λx H1=>∃a,x=.ref a/\(∃xs,SqL K H1 a xs)/\R (Itl K a) H1
theorem Cz{l:Expr}{tl:TE}(hl:PE X l tl):PI X tg l (K7 X.K tl):=by
 intro pins s σ H R I h;refine thn (hl pins s σ H _ I h) λv s1 zz=> ?_;obtain⟨x,H1,I1,r1,q1⟩:=zz;obtain⟨a,e,⟨xs,hq⟩,q⟩:=q1;subst e;cases r1;obtain⟨its,rv,p,hz⟩:=I1.list hq;refine wpAny_pyIter_list p.isList ?_;refine⟨s1.heap.objs.size,[s1.heap.objs.size],_,_,H1,rfl,I1.kept (t':=s1.toks) λb o e=>Heap.get?_push_of_some _ e,D3 a _,⟨_,Heap.get?_push_size _ rfl,rfl,rfl⟩,λb hb=> ?_,q⟩;have e:b=s1.heap.objs.size:=by simpa using hb
 subst e;exact I1.vV (Nat.le_refl _) (I1.hok.fresh (Nat.le_refl _))
theorem AD{pins:List (Addr × Obj)}{σ:St}{H:Hp}{s:Shared}{R:It->Hp->Prop}{E:Value->Shared->Prop}{lo hi:Int}{t u v:Tok}{tk:Nat}(I:Inv X pins σ H s)(h1: -(2 ^ 62)<=lo)(h2:lo < 2 ^ 62)(h3: -(2 ^ 62)<=hi)(h4:hi < 2 ^ 62)
  (q:R (Itr lo (hi - lo).toNat) H):wpAny (model X.prog X.w) X.A (pyIter (.ref s.heap.objs.size)) (PIE X pins σ tg R) E { s with heap:=s.heap.push { cls:= .type "range",data:= .fields #[.int lo t,.int hi u,.int 1 v]},toks:=tk}:=by
 refine wpAny_pyIter_range (IsRange.new ..) (small_one h1 h2 h3 h4) ?_;have I1:Inv X pins σ H { s with heap:=s.heap.push { cls:= .type "range",data:= .fields #[.int lo t,.int hi u,.int 1 v]},toks:=tk}:=I.kept λb o e=>Heap.get?_push_of_some _ e
 refine⟨(s.heap.push { cls:= .type "range",data:= .fields #[.int lo t,.int hi u,.int 1 v]}).objs.size,[(s.heap.push { cls:= .type "range",data:= .fields #[.int lo t,.int hi u,.int 1 v]}).objs.size],_,_,H,rfl,
  I1.kept (t':=tk) λb o e=>Heap.get?_push_of_some _ e,BX _ lo (hi - lo).toNat,?_,λb hb=> ?_,q⟩
 .have e1:lo + ((0:Nat):Int) * 1=lo:=by simp
  have e2:(((hi - lo).toNat:Nat):Int) - ((0:Nat):Int)=Builtin.Range.rangeSize lo hi 1:=by rw[rangeSize_one];split <;> lia
  show IsRangeIter _ _ (lo + ((0:Nat):Int) * 1) ((((hi - lo).toNat:Nat):Int) - ((0:Nat):Int)) 1;rw[e1,e2];exact Heap.get?_push_size _ rfl
 .have e:b=(s.heap.push { cls:= .type "range",data:= .fields #[.int lo t,.int hi u,.int 1 v]}).objs.size:=by simpa using hb
  subst e;exact I1.vV (Nat.le_refl _) (I1.hok.fresh (Nat.le_refl _))
def LN(ta:TA):TI:=λσ H R=>ta σ H λvs H1=>∃j:Int,vs=[.int j]/\ -(2 ^ 62)<=j/\j < 2 ^ 62/\R (Itr 0 j.toNat) H1
def LS(ta:TA):TI:=λσ H R=>ta σ H λvs H1=>∃i j:Int,vs=[.int i,.int j]/\(-(2 ^ 62)<=i/\i < 2 ^ 62/\ -(2 ^ 62)<=j/\j < 2 ^ 62)/\R (Itr i (j - i).toNat) H1
theorem lI{a:Expr}{ta:TA}{p pos:Pos}(hg:Gl X "range")(hm:X.mg "range"=none)(ha:PA X [a] ta)(hs:starEach [a] X.env=[(false,eval a X.env)]:=by rfl):PI X tg (.Call (.Name "range" p) [a] [] pos) (LN ta):=by
 intro pins s σ H R I h;refine Call_ (mF I hg hm boot_range (PyProof.Rows.callWith_type1 (ha.th I h λus s1 vs H1 I1 r1 q1=> ?_) hs rfl));obtain⟨j,e,q1,q2,q⟩:=q1;subst e;cases r1 with
 | cons r rr=>
  cases rr;obtain⟨t,rfl⟩:=r;exact call_range_1 (AD I1 (by lia) (by lia) q1 q2 (by simpa using q))
theorem Di{a b:Expr}{ta:TA}{p pos:Pos}(hg:Gl X "range")(hm:X.mg "range"=none)(ha:PA X [a,b] ta)(hs:starEach [a,b] X.env=[(false,eval a X.env),(false,eval b X.env)]:=by rfl)(hs2:starEach [b] X.env=[(false,eval b X.env)]:=by rfl):
  PI X tg (.Call (.Name "range" p) [a,b] [] pos) (LS ta):=by
 intro pins s σ H R I h;refine Call_ (mF I hg hm boot_range (PyProof.Rows.callWith_type1 (ha.th I h λus s1 vs H1 I1 r1 q1=> ?_) (by rw[hs,hs2]) (by rw[hs2];rfl)));obtain⟨i,j,e,⟨q1,q2,q3,q4⟩,q⟩:=q1;subst e;cases r1 with
 | cons r rr=>
  cases rr with
  | cons r' rr=>
   cases rr;obtain⟨t,rfl⟩:=r;obtain⟨t',rfl⟩:=r';exact call_range_2 (AD I1 q1 q2 q3 q4 q)
def Mi(wi:TI)(g:TG)(tb:TS):TS:=λD σ H=>wi σ H λJ H1=>∃W:Nat->Nat->St->Hp->Prop,(∃m,W 0 m σ H1)/\∀i m σ H,W i m σ H→
 (J.stop i H/\D.nx σ H)\/(J.go i H/\∃N:St->Hp->Prop,(∀σ' H',N σ' H'->∃m',m' < m/\W (i + 1) m' σ' H')/\∀x H',J.yld i H x H'->g x σ H' λσ2 H2=>tb { D with nx:=N,ct:=N,bk:=D.nx} σ2 H2)
def eF(fp:List Addr)(h:Heap):List (Addr × Obj):=fp.filterMap λb=>(h.get? b).map λo=>(b,o)
theorem eV{fp:List Addr}{h:Heap}{b:Addr}{o:Obj}(hb:b∈fp)(e:h.get? b=some o):(b,o)∈eF fp h:=List.mem_filterMap.mpr ⟨b,hb,by rw[e];rfl⟩
theorem qD{fp:List Addr}{h:Heap}{p:Addr × Obj}(hp:p∈eF fp h):p.1∈fp/\h.get? p.1=some p.2:=by
 obtain⟨b,hb,e⟩:=List.mem_filterMap.mp hp;cases q:h.get? b with
 | none=>rw[q] at e;cases e
 | some o=>
  rw[q] at e;have e':(b,o)=p:=Option.some.inj e;subst e';exact⟨hb,q⟩
theorem Inv.pinned{pins:List (Addr × Obj)}{σ:St}{H:Hp}{s:Shared}{fp:List Addr}(I:Inv X pins σ H s)(hf:∀b∈fp,cS X pins H b)(ho:∀b∈fp,∃o,s.heap.get? b=some o/\∀v,o.data≠ .cell v):Inv X (pins++eF fp s.heap) σ H s:=
 I.lA λp hp=>(List.mem_append.mp hp).elim (λz=>I.pin p (List.mem_append_right _ z)) λz=>by
  obtain⟨hb,e⟩:=qD z;obtain⟨f0,f1,f2,_⟩:=hf p.1 hb;obtain⟨o,e',d⟩:=ho p.1 hb;rw[e] at e';cases e';exact⟨e,f0,f1,f2,d⟩
theorem Inv.kh{pins pl:List (Addr × Obj)}{σ:St}{H:Hp}{s:Shared}(I:Inv X (pins++pl) σ H s):Inv X pins σ H s:=I.lA λp hp=>I.pin p (List.mem_append_right _ (List.mem_append_left _ hp))
theorem pU{iter:Expr}{body:List Stmt}{wi:TI}{g:TG}{tb:TS}{pos:Pos}(hp:PassesOwn (model X.prog X.w) X.A X.env X.xe)(hc:X.calm=true)(hi:PI X tg iter wi)(hg:PG X tg g)(hb:PSs X body tb)
  (hs:∀x,foldedSetIterable iter X.env x=pure x:=by intro _;rfl):PS X (.For tg iter body [] pos) (Mi wi g tb):=by
 intro pins s σ H D I h;refine wpAny_For (thn (hi pins s σ H _ I h) λv s1 h1=>thn h1 λitv s2 h2=> ?_) hs;obtain⟨it,fp,tn,J,H2,e,I2,T,st2,f2,W,⟨m0,w0⟩,turn⟩:=h2;subst e;have stat:∀{H':Hp},(∀b∈fp,H' b=none)->∀b∈fp,cS X pins H' b:=λhn b hb=>⟨hn b hb,(f2 b hb).2⟩;refine codeAny_forLoop_any (λn s'=>∃i σ' H',Inv X pins σ' H' s'/\tn i s'.heap/\(∀b∈fp,H' b=none)/\W i n σ' H') ?_ m0 ⟨0,σ,H2,I2,st2,λb hb=>(f2 b hb).1,w0⟩;rintro n s3 ⟨i,σ3,H3,I3,st3,fr3,w3⟩;rcases turn i n σ3 H3 w3 with⟨stop,qn⟩ | ⟨go,N,hN,step⟩
 .refine wpAny_passesOwn hp (thn (T.done X rfl rfl rfl hc i pins s3 σ3 H3 X.xe I3 (stat fr3) st3 stop) λr s4 zz=> ?_);obtain⟨hr,I4⟩:=zz;subst hr;exact wpAny_execs_nil ⟨σ3,H3,I4,qn⟩
 .refine wpAny_passesOwn hp (thn (T.item X rfl rfl rfl hc i pins s3 σ3 H3 X.xe I3 (stat fr3) st3 go) λr s4 zz=> ?_);obtain⟨u,hr,h4⟩:=zz;subst hr;refine wpAny_passesOwn hp (thn h4 λ_ s5 zz=> ?_);obtain⟨x,H5,I5,r5,y5,st5,fr5⟩:=zz;have I5':=I5.pinned (stat fr5) (T.obj _ _ st5);refine wpAny_passesOwn hp (thn (hg _ s5 σ3 H5 x u _ I5' r5 (step x H5 y5)) λ_ s6 zz=> ?_);obtain⟨σ6,H6,I6,q6⟩:=zz;refine wpAny_passesOwn hp (thn (hb _ s6 σ6 H6 _ I6 q6) λf s7 q7=> ?_)
  have again:∀{σ7:St} {H7:Hp},Inv X (pins++eF fp s5.heap) σ7 H7 s7->N σ7 H7->∃m,m < n/\∃i σ' H',Inv X pins σ' H' s7/\tn i s7.heap/\(∀b∈fp,H' b=none)/\W i m σ' H':=λ{σ7 H7} I7 n7=>by
   obtain⟨m',hm,w7⟩:=hN σ7 H7 n7;refine⟨m',hm,i + 1,σ7,H7,I7.kh,T.keep _ _ _ st5 λb hb o e=>(I7.pin (b,o) (List.mem_append_right _ (List.mem_append_right _ (eV hb e)))).1,λb hb=> ?_,w7⟩;obtain⟨o,e,d⟩:=T.obj _ _ st5 b hb;exact(I7.pin (b,o) (List.mem_append_right _ (List.mem_append_right _ (eV hb e)))).2.1
  cases f with
  | next=>obtain⟨σ7,H7,I7,n7⟩:=q7;exact again I7 n7
  | cont=>obtain⟨σ7,H7,I7,n7⟩:=q7;exact again I7 n7
  | brk=>obtain⟨σ7,H7,I7,q7⟩:=q7;exact⟨σ7,H7,I7.kh,q7⟩
  | ret v=>obtain⟨x7,σ7,H7,I7,r7,q7⟩:=q7;exact⟨x7,σ7,H7,I7.kh,r7,q7⟩
end
theorem wM{lo:Int}{n:Nat}{g:TG}{tb:TS}{D:Ends}{σ:St}{H:Hp}(Pv:Nat->St->Hp->Prop)(h0:Pv 0 σ H)
  (hs:∀i σ H,i < n->Pv i σ H->g (.int (lo + i)) σ H λσ2 H2=>tb { D with nx:=Pv (i + 1),ct:=Pv (i + 1),bk:=D.nx} σ2 H2) (hd:∀σ H,Pv n σ H->D.nx σ H):
  ∃W:Nat->Nat->St->Hp->Prop,(∃m,W 0 m σ H)/\∀i m σ H,W i m σ H→
   ((Itr lo n).stop i H/\D.nx σ H)\/((Itr lo n).go i H/\∃N:St->Hp->Prop,(∀σ' H',N σ' H'->∃m',m' < m/\W (i + 1) m' σ' H')/\∀x H',(Itr lo n).yld i H x H'->g x σ H' λσ2 H2=>tb { D with nx:=N,ct:=N,bk:=D.nx} σ2 H2):=by
 refine⟨λi m σ H=>m=n - i/\i<=n/\Pv i σ H,⟨n,by simp,Nat.zero_le _,h0⟩,?_⟩;rintro i m σ H ⟨rfl,hi,p⟩;by_cases hlt:i < n
 .refine .inr ⟨hlt,Pv (i + 1),λσ' H' p'=>⟨n - (i + 1),by lia,rfl,hlt,p'⟩,λx H' y=> ?_⟩;obtain⟨e,y⟩:=y;subst e y;exact hs i σ _ hlt p
 .have e:i=n:=by lia
  subst e;exact .inl ⟨Nat.le_refl _,hd σ H p⟩
abbrev R2:=V->V->Hp->VK->Prop
def OpR(X:Cx)(f:Value->Value->Sem Value)(r:R2):Prop:=
 ∀(pins:List (Addr × Obj)) (s:Shared) (σ:St) (H:Hp) (x y:V) (v u:Value) (Q:VK),Inv X pins σ H s->RelV x v->RelV y u->r x y H Q→
  wpAny (model X.prog X.w) X.A (f v u) (EP X pins σ Q) X.xe s
def UnR(X:Cx)(f:Value->Sem Value)(r:V->Hp->VK->Prop):Prop:=
 ∀(pins:List (Addr × Obj)) (s:Shared) (σ:St) (H:Hp) (x:V) (v:Value) (Q:VK),Inv X pins σ H s->RelV x v->r x H Q→
  wpAny (model X.prog X.w) X.A (f v) (EP X pins σ Q) X.xe s
def mf(X:Cx)(f:Value)(r:List V->Hp->VK->Prop):Prop:=
 ∀(pins:List (Addr × Obj)) (s:Shared) (σ:St) (H:Hp) (xs:List V) (us:List Value) (Q:VK),Inv X pins σ H s->Vals xs us->r xs H Q→
  wpAny (model X.prog X.w) X.A (call f us) (EP X pins σ Q) X.xe s
def tOp(r:R2)(ta tb:TE):TE:=λσ H Q=>ta σ H λx H1=>tb σ H1 λy H2=>r x y H2 Q
def tUn(r:V->Hp->VK->Prop)(ta:TE):TE:=λσ H Q=>ta σ H λx H1=>r x H1 Q
def rI(C:Int->Int->Prop)(g:Int->Int->V):R2:=λx y H Q=>∃i j,x=.int i/\y=.int j/\C i j/\Q (g i j) H
def rI0(g:Int->Int->V):R2:=λx y H Q=>∃i j,x=.int i/\y=.int j/\Q (g i j) H
def rU(g:Int->V):V->Hp->VK->Prop:=λx H Q=>∃i,x=.int i/\Q (g i) H
section
variable{X:Cx}{a b c:Expr}{ta tb tc:TE}{pos:Pos}
theorem Iv(ha:PE X a ta)(hb:PE X b tb){pins:List (Addr × Obj)}{s:Shared}{σ:St}{H:Hp}{R:V->V->Hp->Prop}(I:Inv X pins σ H s)
  (h:ta σ H λx H1=>tb σ H1 λy H2=>R x y H2) {Q:Value->Shared->Prop} {f:Value->Value->Sem Value}
  (hf:∀v u s2 x y H2,Inv X pins σ H2 s2->RelV x v->RelV y u->R x y H2->wpAny (model X.prog X.w) X.A (f v u) Q X.xe s2):
  wpAny (model X.prog X.w) X.A (eval a X.env) (λv s₁=>wpAny (model X.prog X.w) X.A (eval b X.env) (λu s₂=>wpAny (model X.prog X.w) X.A (f v u) Q X.xe s₂) X.xe s₁) X.xe s:=by
 refine ha.th I h λv s1 x H1 I1 r1 q1=> ?_;refine hb.th I1 q1 λu s2 y H2 I2 r2 q2=> ?_;exact hf v u s2 x y H2 I2 r1 r2 q2
theorem ak{op:Operator}{r:R2}(ho:OpR X (binaryOp op) r)(ha:PE X a ta)(hb:PE X b tb):PE X (.BinOp a op b pos) (tOp r ta tb):=by
 intro pins s σ H Q I h;exact wpAny_BinOp (Iv ha hb I h λv u s2 x y H2 I2 rx ry q=>ho pins s2 σ H2 x y v u Q I2 rx ry q)
theorem iA{op:UnaryOp}{r:V->Hp->VK->Prop}(ho:UnR X (unaryOp op) r)(ha:PE X a ta):PE X (.UnaryOp op a pos) (tUn r ta):=by
 intro pins s σ H Q I h;exact UnaryOp_ (ha.th I h λv s1 x H1 I1 r1 q1=>ho pins s1 σ H1 x v Q I1 r1 q1)
theorem opI{f:Value->Value->Sem Value}{C:Int->Int->Prop}{g:Int->Int->Int}
  (rule:∀(i j:Int) (t u:Tok) (s:Shared) (Q:Value->Shared->Prop) (E:Value->Shared->Prop),C i j->Q (.int (g i j) s.toks) { s with toks:=s.toks + 1}->wpAny (model X.prog X.w) X.A (f (.int i t) (.int j u)) Q E s):
  OpR X f (rI C λi j=> .int (g i j)):=by
 intro pins s σ H x y v u Q I rx ry h;obtain⟨i,j,rfl,rfl,hc,q⟩:=h;obtain⟨t,rfl⟩:=rx;obtain⟨t',rfl⟩:=ry;exact rule i j t t' s _ _ hc ⟨.int (g i j),H,I.tok _,⟨_,rfl⟩,q⟩
theorem LL{f:Value->Value->Sem Value}{g:Int->Int->Int}
  (rule:∀(i j:Int) (t u:Tok) (s:Shared) (Q:Value->Shared->Prop) (E:Value->Shared->Prop),Q (.int (g i j) s.toks) { s with toks:=s.toks + 1}->wpAny (model X.prog X.w) X.A (f (.int i t) (.int j u)) Q E s):
  OpR X f (rI0 λi j=> .int (g i j)):=by
 intro pins s σ H x y v u Q I rx ry h;obtain⟨i,j,rfl,rfl,q⟩:=h;obtain⟨t,rfl⟩:=rx;obtain⟨t',rfl⟩:=ry;exact rule i j t t' s _ _ ⟨.int (g i j),H,I.tok _,⟨_,rfl⟩,q⟩
theorem JS{f:Value->Value->Sem Value}{g:Int->Int->Bool}
  (rule:∀(i j:Int) (t u:Tok) (s:Shared) (Q:Value->Shared->Prop) (E:Value->Shared->Prop),Q (.bool (g i j)) s->wpAny (model X.prog X.w) X.A (f (.int i t) (.int j u)) Q E s):
  OpR X f (rI0 λi j=> .bl (g i j)):=by
 intro pins s σ H x y v u Q I rx ry h;obtain⟨i,j,rfl,rfl,q⟩:=h;obtain⟨t,rfl⟩:=rx;obtain⟨t',rfl⟩:=ry;exact rule i j t t' s _ _ ⟨.bl (g i j),H,I,rfl,q⟩
def Ly(i j:Int):Prop:=0 < j/\j < 1073741824
def Ke(i j:Int):Prop:=(-(2 ^ 64) < i/\i < 2 ^ 64)\/(-(2 ^ 64) < j/\j < 2 ^ 64)
theorem Ke.ok{i j:Int}(h:Ke i j):IntMulOk i j:=by
 rcases h with⟨h1,h2⟩ | ⟨h1,h2⟩
 .exact .of_left (intBits_le_64 h1 h2)
 .exact .of_right (intBits_le_64 h1 h2)
theorem cb:OpR X (binaryOp .Add) (rI0 λi j=> .int (i + j)):=LL λ_ _ _ _ _ _ _ q=>add_int q
theorem jo:OpR X (binaryOp .Sub) (rI0 λi j=> .int (i - j)):=LL λ_ _ _ _ _ _ _ q=>sub_int q
theorem Fw:OpR X (binaryOp .Mult) (rI Ke λi j=> .int (i * j)):=opI λ_ _ _ _ _ _ _ hc q=>mul_int q hc.ok
theorem b8:OpR X (binaryOp .FloorDiv) (rI Ly λi j=> .int (i / j)):=opI λi j _ _ _ _ _ hc q=>by
 have h1:(0:Int) < j:=hc.1;have h2:j < 1073741824:=hc.2;exact floordiv_int (by lia) (by rw[Int.fdiv_eq_ediv_of_nonneg i (by lia)];exact q) (.inl (PyProof.noPylong_small (by lia)))
theorem aS:OpR X (binaryOp .Mod) (rI (λ_ j=>0 < j) λi j=> .int (i % j)):=opI λi j _ _ _ _ _ hc q=>by
 have h1:(0:Int) < j:=hc;exact mod_int' (by lia) (by rw[Int.fmod_eq_emod_of_nonneg i (by lia)];exact q)
theorem unI{f:Value->Sem Value}{g:Int->Int}
  (rule:∀(i:Int) (t:Tok) (s:Shared) (Q:Value->Shared->Prop) (E:Value->Shared->Prop),Q (.int (g i) s.toks) { s with toks:=s.toks + 1}->wpAny (model X.prog X.w) X.A (f (.int i t)) Q E s):
  UnR X f (rU λi=> .int (g i)):=by
 intro pins s σ H x v Q I rx h;obtain⟨i,rfl,q⟩:=h;obtain⟨t,rfl⟩:=rx;exact rule i t s _ _ ⟨.int (g i),H,I.tok _,⟨_,rfl⟩,q⟩
theorem eL:UnR X (unaryOp .USub) (rU λi=> .int (-i)):=unI λ_ _ _ _ _ q=>neg_int q
end
def KY:V->V->Bool
 | .non,.non=>true | .non,.int _=>true | .int _,.non=>true | .non,.bl _=>true | .bl _,.non=>true | .non,.str _=>true | .str _,.non=>true
 | .int _,.int _=>true | .bl _,.bl _=>true | .str _,.str _=>true | .byt _,.byt _=>true
 | .int _,.str _=>true | .str _,.int _=>true | .bl _,.str _=>true | .str _,.bl _=>true
 | _,_=>false
def rEq:R2:=λx y H Q=>KY x y=true/\Q (.bl (decide (x=y))) H
def rNe:R2:=λx y H Q=>KY x y=true/\Q (.bl (!decide (x=y))) H
theorem B7{i j:Int}:decide (V.int i=V.int j)=(i == j):=by
 rw[Bool.eq_iff_iff];simp
theorem GZ{i j:Bool}:decide (V.bl i=V.bl j)=(i == j):=by
 rw[Bool.eq_iff_iff];simp
theorem CA{i j:Str}:decide (V.str i=V.str j)=(i == j):=by
 rw[Bool.eq_iff_iff];simp
theorem CC{i j:Array UInt8}:decide (V.byt i=V.byt j)=(i.toList == j.toList):=by
 rw[Bool.eq_iff_iff];cases i;cases j;simp
section
variable{X:Cx}{a b c:Expr}{ta tb tc:TE}{pos:Pos}
theorem aW{pins:List (Addr × Obj)}{σ:St}{H:Hp}{s:Shared}{Q:VK}{k k':Bool}(I:Inv X pins σ H s)(q:Q (.bl k) H)(e:k=k'):EP X pins σ Q (.bool k') s:=by
 subst e;exact⟨.bl k,H,I,rfl,q⟩
theorem a0:OpR X (compareOp .Eq) rEq:=by
 intro pins s σ H x y v u Q I rx ry h;obtain⟨hs,q⟩:=h;cases x with
 | non=>
  cases rx;cases y with
  | non=>cases ry;exact PySem.EqNone.eq_none_none (aW I q (by simp))
  | bl j=>cases ry;exact PySem.EqNone.eq_none_bool (aW I q (by simp))
  | int j=>obtain⟨t',rfl⟩:=ry;exact PySem.EqNone.eq_none_int (aW I q (by simp))
  | str j=>obtain⟨t',rfl⟩:=ry;exact PySem.EqNone.eq_none_str (aW I q (by simp))
  | _=>exact absurd (show false=true from hs) Bool.false_ne_true
 | bl i=>
  cases rx;cases y with
  | non=>cases ry;exact PySem.EqNone.eq_bool_none (aW I q (by simp))
  | bl j=>cases ry;exact eq_bool (aW I q GZ)
  | str j=>obtain⟨t',rfl⟩:=ry;exact PySem.EqMixed.eq_bool_str (aW I q (by simp))
  | _=>exact absurd (show false=true from hs) Bool.false_ne_true
 | int i=>
  obtain⟨t,rfl⟩:=rx;cases y with
  | non=>cases ry;exact PySem.EqNone.eq_int_none (aW I q (by simp))
  | int j=>obtain⟨t',rfl⟩:=ry;exact eq_int (aW I q B7)
  | str j=>obtain⟨t',rfl⟩:=ry;exact PySem.EqMixed.eq_int_str (aW I q (by simp))
  | _=>exact absurd (show false=true from hs) Bool.false_ne_true
 | str i=>
  obtain⟨t,rfl⟩:=rx;cases y with
  | non=>cases ry;exact PySem.EqNone.eq_str_none (aW I q (by simp))
  | bl j=>cases ry;exact PySem.EqMixed.eq_str_bool (aW I q (by simp))
  | int j=>obtain⟨t',rfl⟩:=ry;exact PySem.EqMixed.eq_str_int (aW I q (by simp))
  | str j=>obtain⟨t',rfl⟩:=ry;exact eq_str (aW I q CA)
  | _=>exact absurd (show false=true from hs) Bool.false_ne_true
 | byt i=>
  obtain⟨t,rfl⟩:=rx;cases y with
  | byt j=>obtain⟨t',rfl⟩:=ry;exact PySem.W.eq_bytes (aW I q CC)
  | _=>exact absurd (show false=true from hs) Bool.false_ne_true
 | _=>cases y <;> exact absurd (show false=true from hs) Bool.false_ne_true
theorem sO:OpR X (compareOp .NotEq) rNe:=by
 intro pins s σ H x y v u Q I rx ry h;obtain⟨hs,q⟩:=h;cases x with
 | non=>
  cases rx;cases y with
  | non=>cases ry;exact PySem.EqNone.ne_none_none (aW I q (by simp))
  | bl j=>cases ry;exact PySem.EqNone.ne_none_bool (aW I q (by simp))
  | int j=>obtain⟨t',rfl⟩:=ry;exact PySem.EqNone.ne_none_int (aW I q (by simp))
  | str j=>obtain⟨t',rfl⟩:=ry;exact PySem.EqNone.ne_none_str (aW I q (by simp))
  | _=>exact absurd (show false=true from hs) Bool.false_ne_true
 | bl i=>
  cases rx;cases y with
  | non=>cases ry;exact PySem.EqNone.ne_bool_none (aW I q (by simp))
  | bl j=>cases ry;exact ne_bool (aW I q (congrArg not GZ))
  | str j=>obtain⟨t',rfl⟩:=ry;exact PySem.EqMixed.ne_bool_str (aW I q (by simp))
  | _=>exact absurd (show false=true from hs) Bool.false_ne_true
 | int i=>
  obtain⟨t,rfl⟩:=rx;cases y with
  | non=>cases ry;exact PySem.EqNone.ne_int_none (aW I q (by simp))
  | int j=>obtain⟨t',rfl⟩:=ry;exact ne_int (aW I q (congrArg not B7))
  | str j=>obtain⟨t',rfl⟩:=ry;exact PySem.EqMixed.ne_int_str (aW I q (by simp))
  | _=>exact absurd (show false=true from hs) Bool.false_ne_true
 | str i=>
  obtain⟨t,rfl⟩:=rx;cases y with
  | non=>cases ry;exact PySem.EqNone.ne_str_none (aW I q (by simp))
  | bl j=>cases ry;exact PySem.EqMixed.ne_str_bool (aW I q (by simp))
  | int j=>obtain⟨t',rfl⟩:=ry;exact PySem.EqMixed.ne_str_int (aW I q (by simp))
  | str j=>obtain⟨t',rfl⟩:=ry;exact ne_str (aW I q (congrArg not CA))
  | _=>exact absurd (show false=true from hs) Bool.false_ne_true
 | byt i=>
  obtain⟨t,rfl⟩:=rx;cases y with
  | byt j=>obtain⟨t',rfl⟩:=ry;exact PySem.W.ne_bytes (aW I q (congrArg not CC))
  | _=>exact absurd (show false=true from hs) Bool.false_ne_true
 | _=>cases y <;> exact absurd (show false=true from hs) Bool.false_ne_true
theorem jg:OpR X (compareOp .Lt) (rI0 λi j=> .bl (decide (i < j))):=JS λ_ _ _ _ _ _ _ q=>lt_int q
theorem GD:OpR X (compareOp .LtE) (rI0 λi j=> .bl (decide (i<=j))):=JS λ_ _ _ _ _ _ _ q=>le_int q
theorem CS:OpR X (compareOp .Gt) (rI0 λi j=> .bl (decide (j < i))):=JS λ_ _ _ _ _ _ _ q=>gt_int q
theorem Ec:OpR X (compareOp .In) (λx y H Q=>∃i j,x=.str i/\y=.str j/\Q (.bl (!(Builtin.Str.occurrences j i 0 j.length 1).isEmpty)) H):=by
 intro pins s σ H x y v u Q I rx ry h;obtain⟨i,j,rfl,rfl,q⟩:=h;obtain⟨t,rfl⟩:=rx;obtain⟨t',rfl⟩:=ry;exact in_str (aW I q rfl)
theorem GO:OpR X (compareOp .Is) (λx y H Q=>y=.non/\Q (.bl (decide (x=.non))) H):=by
 intro pins s σ H x y v u Q I rx ry h;obtain⟨rfl,q⟩:=h;cases ry;refine is_none_gen (aW I q ?_)
 cases x <;> first
  | (cases rx;rfl)
  | (obtain⟨t,rfl⟩:=rx;rfl)
theorem B5:OpR X (compareOp .IsNot) (λx y H Q=>y=.non/\Q (.bl (!decide (x=.non))) H):=by
 intro pins s σ H x y v u Q I rx ry h;obtain⟨rfl,q⟩:=h;cases ry;refine isnot_none_gen (aW I q ?_)
 cases x <;> first
  | (cases rx;rfl)
  | (obtain⟨t,rfl⟩:=rx;rfl)
theorem Bj(b:Expr){op:CmpOp}(h:op≠ .In:=by decide)(h2:op≠ .NotIn:=by decide):behindInMarks op b=false:=by
 have e1:(op == CmpOp.In)=false:=by cases op <;> first | rfl | exact absurd rfl h
 have e2:(op == CmpOp.NotIn)=false:=by cases op <;> first | rfl | exact absurd rfl h2
 cases b <;> simp [behindInMarks,e1,e2]
theorem Cd{op:CmpOp}{r:R2}(ho:OpR X (compareOp op) r)(ha:PE X a ta)(hb:PE X b tb)(hm:behindInMarks op b=false):PE X (.Compare a [op] [b] pos) (tOp r ta tb):=by
 intro pins s σ H Q I h;exact wpAny_Compare1 (Iv ha hb I h λv u s2 x y H2 I2 rx ry q=>ho pins s2 σ H2 x y v u Q I2 rx ry q) hm
def Jq(t:TE):TT:=λσ H Q=>t σ H λx H'=>∃k,x=.bl k/\Q k H'
theorem Ce{op:CmpOp}{r:R2}(ho:OpR X (compareOp op) r)(ha:PE X a ta)(hb:PE X b tb)(hm:behindInMarks op b=false):PT X (.Compare a [op] [b] pos) (Jq (tOp r ta tb)):=by
 intro pins s σ H Q I h
 refine wpAny_isTrue_Compare1 (ha.th I h λv s1 x H1 I1 r1 q1=>hb.th I1 q1 λu s2 y H2 I2 r2 q2=>
  thE (ho pins s2 σ H2 x y v u _ I2 r1 r2 q2) λc s3 z H3 I3 r3 zz=> ?_) hm
 obtain⟨k,e,q3⟩:=zz;subst e;cases r3;exact wpAny_truthy_bool ⟨H3,I3,q3⟩
def J6(r r':R2)(ta tb tc:TE):TE:=λσ H Q=>ta σ H λx H1=>tb σ H1 λy H2=>r x y H2 λz H3=>∃k,z=.bl k∧
 (if k=true then tc σ H3 λw' H4=>r' y w' H4 Q else Q (.bl false) H3)
theorem Gz{op op':CmpOp}{r r':R2}(ho:OpR X (compareOp op) r)(ho':OpR X (compareOp op') r')(ha:PE X a ta)(hb:PE X b tb)(hc:PE X c tc)
  (hm:lastMarks [op,op'] [b,c]=false:=by with_unfolding_all rfl):PE X (.Compare a [op,op'] [b,c] pos) (J6 r r' ta tb tc):=by
 intro pins s σ H Q I h
 refine Compare_chain (ha.th I h λv s1 x H1 I1 r1 q1=>chain_link (hb.th I1 q1 λu s2 y H2 I2 r2 q2=>
  thE (ho pins s2 σ H2 x y v u _ I2 r1 r2 q2) λd s3 z H3 I3 r3 zz=> ?_)) hm
 obtain⟨k,e,q3⟩:=zz;subst e;cases r3;refine wpAny_truthy_bool ?_;cases k with
 | false=>exact ite_ff ⟨.bl false,H3,I3,rfl,q3⟩
 | true=>exact ite_tt (chain_last (hc.th I3 q3 λw' s4 z' H4 I4 r4 q4=>ho' pins s4 σ H4 y z' u w' Q I4 r2 r4 q4))
theorem yZ:(sizeLine:Nat) < 2 ^ 63:=by rw[sizeLine_eq];decide
theorem aG:OpR X (binaryOp .Add) (λx y H Q=>∃i j,x=.str i/\y=.str j/\i.length + j.length<=sizeLine/\Q (.str (i++j)) H):=by
 intro pins s σ H x y v u Q I rx ry h;obtain⟨i,j,rfl,rfl,hz,q⟩:=h;obtain⟨t,rfl⟩:=rx;obtain⟨t',rfl⟩:=ry;exact add_str (λt' tk=>⟨.str (i++j),H,I.tok _,⟨_,rfl⟩,q⟩) hz
def GI(b:Expr):Prop:=∀o i,subscripted b false o i=operate [o,i] (getItem o i)
theorem iq(ha:PE X a ta)(hb:PE X b tb)(hs:GI b):
  PE X (.Subscript a b pos) (tOp (λx y H Q=>∃z i c,x=.str z/\y=.int i/\0<=i/\i < 2 ^ 63/\i < z.length/\z.cps[i.toNat]? =some c/\Q (.str ⟨#[c]⟩) H) ta tb):=by
 intro pins s σ H Q I h;refine Subscript_ (Iv ha hb I h λv u s2 x y H2 I2 rx ry q=> ?_);obtain⟨z,i,c,rfl,rfl,h0,h63,h1,hc,q⟩:=q;obtain⟨t,rfl⟩:=rx;obtain⟨t',rfl⟩:=ry;have e:seqIndex? i z.length=some i.toNat:=PySem.StrLaws.seqIndex_nonneg h0 h1
 exact tail_any (typeIs_str s2 z t) slot_str_getitem.lookup (getItem_str (c:=c) (by
  have e1:decide (i < -(2 ^ 63:Int))=false:=decide_eq_false (by lia);have e2:decide (i>=2 ^ 63)=false:=decide_eq_false (by lia);rw[e1,e2] <;> rfl) (by rw[e];exact hc) ⟨.str ⟨#[c]⟩,H2,I2.tok _,⟨_,rfl⟩,q⟩) (hs _ _)
theorem vals1{x:V}{us:List Value}(r:Vals [x] us):∃u,us=[u]/\RelV x u:=by
 cases r with
 | cons r1 r2=>cases r2;exact⟨_,rfl,r1⟩
theorem vals2{x y:V}{us:List Value}(r:Vals [x,y] us):∃u w',us=[u,w']/\RelV x u/\RelV y w':=by
 cases r with
 | cons r1 r2=>
  cases r2 with
  | cons r3 r4=>cases r4;exact⟨_,_,rfl,r1,r3⟩
theorem wG(hc:X.calm=true):mf X (.builtin "min") (λxs H Q=>∃i j,xs=[.int i,.int j]/\Q (.int (if j < i then j else i)) H):=by
 intro pins s σ H xs us Q I r h;obtain⟨i,j,rfl,q⟩:=h;obtain⟨u,w',rfl,⟨t,rfl⟩,⟨t',rfl⟩⟩:=vals2 r;refine min_two_ints (I.ok.hd hc) λh' tk k=>⟨_,H,I.kept k,?_,q⟩;by_cases hj:j < i
 .rw [if_pos hj,if_pos hj];exact⟨_,rfl⟩
 .rw [if_neg hj,if_neg hj];exact⟨_,rfl⟩
theorem aU:mf X (.type "str") (λxs H Q=>∃i,xs=[.int i]/\i.natAbs.log2 < 1920/\Q (.str (toString i)) H):=by
 intro pins s σ H xs us Q I r h;obtain⟨i,rfl,hz,q⟩:=h;obtain⟨u,rfl,t,rfl⟩:=vals1 r;exact PySem.P.str_of_int hz ⟨.str _,H,I.tok _,⟨_,rfl⟩,q⟩
end
structure BG(h:Heap)(x dx C:Addr)(mA:Str->Option Value):Prop where
 obj:h.get? x=some (PySem.W.instObj C dx)
 ns:h.Ns1 dx mA
 ne:dx≠x
theorem DI{h:Heap}{dx:Addr}{mA:Str->Option Value}(n:h.Ns1 dx mA):∃od,h.get? dx=some od/\∀name,PySem.W.lookIn name od=some (mA name):=by
 obtain⟨o,es,ep,ho,hd,hk,_,hm⟩:=n;refine⟨o,ho,λname=> ?_⟩;have e:=hm name;unfold nsFind findBy at e;rw[<- Array.find?_toList] at e;unfold PySem.W.lookIn;rw[hd];dsimp only
 split
 .rename_i y q
  rw[q] at e;exact congrArg some e
 .rename_i q
  rw[q] at e
  have a:es.toList.any (·.refKey)=false:=by
   rw[List.any_eq_false];intro y hy;obtain⟨z,t,hkey⟩:=hk y (Array.mem_toList_iff.mp hy);simp [DictEntry.refKey,hkey]
  have a':¬es.toList.any (·.refKey)=true:=by rw[a];exact Bool.false_ne_true
  rw[if_neg a'];exact congrArg some e
theorem BG.look{h:Heap}{x dx C:Addr}{mA:Str->Option Value}(I:BG h x dx C mA):∃od,PySem.W.InstAt h x (PySem.W.instObj C dx) C (some od)/\∀name,PySem.W.lookIn name od=some (mA name):=
 let ⟨od,ho,hl⟩:=DI I.ns
 ⟨od,⟨I.obj,rfl,rfl,ho⟩,hl⟩
section
variable{prog:Program}{w:World}{A:Around}{E:Value->Shared->Prop}{s:Shared}{K:PySem.W.Frag}{x dx C f:Addr}{mA:Str->Option Value}{name:Str}{v:Value}
theorem get_map{expr:Bool}{Q:Value->Shared->Prop}(X:K.In s.heap)(I:BG s.heap x dx C mA)(hg:PySem.W.plainGet K C name=true)(hh:PySem.W.hasDictIn K C=true)
  (ha:PySem.W.findIn K (.ref C) name=some none) (hv:mA name=some v) (hv':PySem.W.handedIn v=true) (h:Q v { s with toks:=s.toks + 1}):
  wpAny (model prog w) A (getAttr (.ref x) name expr) Q E s:=by
 obtain⟨od,J,hl⟩:=I.look;exact PySem.W.get_value X J (PySem.W.plainGet_of hg).1 (PySem.W.findObj_own hh ha rfl (by rw[hl,hv])) hv' h
theorem E7{pl:Sem Bool}{Q:Value × List Value->Shared->Prop}(X:K.In s.heap)(I:BG s.heap x dx C mA)(hg:PySem.W.plainGet K C name=true)
  (hf:PySem.W.findIn K (.ref C) name=some (some (.ref f))) (ht:PySem.W.isFn K (.ref f)=true) (hv:mA name=none) (h:Q (.ref f,[.ref x]) s):
  wpAny (model prog w) A (getMethod (.ref x) name pl) Q E s:=by
 obtain⟨od,J,hl⟩:=I.look;exact PySem.W.method_fn X J (PySem.W.plainGet_of hg).1 (PySem.W.plainGet_of hg).2 hf (beq_iff_eq.mp ht) (by show(PySem.W.lookIn name od).map (·.isSome)=some false;rw[hl,hv];rfl) h
theorem IW{ns:List Str}{Q:Unit->Shared->Prop}(X:K.In s.heap)(I:BG s.heap x dx C mA)
  (hs:PySem.W.findIn K (.ref C) "__setattr__"=some (some (.builtin "object.__setattr__"))) (hp:PySem.W.plainOver K C=true) (ht:PySem.W.takerIn K C name=some none) (hh:PySem.W.hasDictIn K C=true)
  (hw:PySem.Within mA ns) (hsz:ns.length<=sizeLine)
  (h:∀h',BG h' x dx C (λy=>if y=name then some v else mA y)->Heap.SameBut dx s.heap h'->Q () { s with heap:=h',toks:=s.toks + 2}):
  wpAny (model prog w) A (setAttr (.ref x) name v) Q E s:=by
 obtain⟨od,J,hl⟩:=I.look;refine PySem.W.set_plain X J hs (PySem.W.osa_open (s:={ s with toks:=s.toks + 1}) (r:=none) X J hp ht λb=> ?_);obtain⟨cd,hc,hd'⟩:=PySem.W.any_some hh;have hx:s.heap.get? x=some ⟨.ref C,some dx,.plain,#[]⟩:=I.obj;refine wpAny_bind (wpAny_pure (wpAny_bind (wpAny_bind (wpAny_loadPart hx (wpAny_bind (PySem.W.Looks.here (s:={ s with toks:=s.toks + 1}) (PySem.W.looks_clsIn X hc) ?_))))));rw[hd'];refine wpAny_pure (a:=some dx) (wpAny_bind (wpAny_pure (wpAny_bind ?_)));refine wpAny_nsSet1 (s:={ s with toks:=s.toks + 1}) I.ns λh' hn2 hs2=> ?_;obtain⟨oD,esD,epD,hoD,hdD,hcD⟩:=hn2.count (PySem.Within.cons name v hw);refine wpAny_bind (wpAny_lookBehind hoD (by rw[hdD];exact pastItsLine_dict (Nat.le_trans hcD (by rw[List.length_cons];lia))) ?_);exact wpAny_pure (h _ ⟨(hs2.2 _ (Ne.symm I.ne)).trans I.obj,hn2,I.ne⟩ hs2)
theorem Ge{R:Result->Shared->Prop}{vs:List Value}{kw:List (Str × Value)}(X:K.In s.heap)(hm:PySem.W.makesIn K C=true)
  (hi:PySem.W.findIn K (.ref C) "__init__"=some (some (.ref f))) (hf:PySem.W.typeIn K (.ref f)=some (.type "function"))
  (h:codeAny (model prog w) (A.under (.builtin "type.__call__" ⟨.ref C::vs,kw⟩)) (.call (.ref f) ⟨.ref (s.heap.objs.size + 1)::vs,kw⟩) (PySem.W.InitBack (s.heap.objs.size + 1) R)
   { s with heap:=(s.heap.push PySem.W.emptyDict).push (PySem.W.instObj C s.heap.objs.size)}):
  codeAny (model prog w) A (.call (.ref C) ⟨vs,kw⟩) R s:=by
 obtain⟨hh,g,d,t,os⟩:=s;exact PySem.W.make_core (PySem.W.makes_of X hm) (PySem.W.looks_findIn X hi) (λself=>PySem.W.bind_fn X self hf) (.inl rfl) h
end
def lR(f:Str)(v:V):List (Str × V)->List (Str × V)
 | []=>[(f,v)]
 | (g,x)::r=>if g=f then (g,v)::r else (g,x)::lR f v r
theorem rf(f g:Str)(v:V):∀fs:List (Str × V),(lR f v fs).lookup g=if g=f then some v else fs.lookup g
 | []=>by
  show List.lookup g [(f,v)]=_;by_cases h:g=f
  .have hb:(g == f)=true:=beq_iff_eq.mpr h;simp only [List.lookup,hb,if_pos h]
  .have hb:(g == f)=false:=beq_eq_false_iff_ne.mpr h;simp only [List.lookup,hb,if_neg h]
 | (k,x)::r=>by
  have ih:=rf f g v r;rw[show lR f v ((k,x)::r)=(if k=f then (k,v)::r else (k,x)::lR f v r) from rfl];by_cases hk:k=f
  .rw [if_pos hk];by_cases h:g=k
   .have hb:(g == k)=true:=beq_iff_eq.mpr h;simp only [List.lookup,hb,if_pos (h.trans hk)]
   .have hb:(g == k)=false:=beq_eq_false_iff_ne.mpr h;simp only [List.lookup,hb,if_neg (λe:g=f=>h (e.trans hk.symm))]
  .rw [if_neg hk];by_cases h:g=k
   .have hb:(g == k)=true:=beq_iff_eq.mpr h;simp only [List.lookup,hb,if_neg (λe:g=f=>hk (h.symm.trans e))]
   .have hb:(g == k)=false:=beq_eq_false_iff_ne.mpr h;simp only [List.lookup,hb];exact ih
theorem qJ(f:Str)(v:V):∀fs:List (Str × V),f∈(lR f v fs).map (·.1)/\∀g,g∈fs.map (·.1)->g∈(lR f v fs).map (·.1)
 | []=>⟨by simp [lR],λg h=>by simp at h⟩
 | (k,x)::r=>by
  obtain⟨i1,i2⟩:=qJ f v r;rw[show lR f v ((k,x)::r)=(if k=f then (k,v)::r else (k,x)::lR f v r) from rfl];by_cases hk:k=f
  .rw [if_pos hk];subst hk;exact⟨by simp,λg h=>by simpa using h⟩
  .rw [if_neg hk];refine⟨?_,λg h=> ?_⟩
   .rw [List.map_cons];exact List.mem_cons_of_mem _ i1
   .rw [List.map_cons] at h ⊢;rcases List.mem_cons.mp h with e | e
    .exact List.mem_cons.mpr (.inl e)
    .exact List.mem_cons_of_mem _ (i2 g e)
theorem qY(f:Str)(v:V):∀fs:List (Str × V),(lR f v fs).length<=fs.length + 1
 | []=>by simp [lR]
 | (k,x)::r=>by
  have ih:=qY f v r;rw[show lR f v ((k,x)::r)=(if k=f then (k,v)::r else (k,x)::lR f v r) from rfl];by_cases hk:k=f
  .rw [if_pos hk,List.length_cons,List.length_cons];lia
  .rw [if_neg hk,List.length_cons,List.length_cons];lia
theorem oV.some_of{v:V}{o:Option Value}(r:oV (some v) o):∃u,o=some u/\RelV v u:=by
 cases o with
 | none=>exact(show False from r).elim
 | some u=>exact⟨u,rfl,r⟩
theorem oV.none_of{o:Option Value}(r:oV none o):o=none:=by
 cases o with
 | none=>rfl
 | some u=>exact(show False from r).elim
theorem wJ{v:V}{u:Value}(r:RelV v u):PySem.W.handedIn u=true:=by
 cases v with
 | non=>cases (show u=Value.none from r);rfl
 | bl b=>cases (show u=Value.bool b from r);rfl
 | int i=>obtain⟨t,e⟩:=(show ∃t,u=Value.int i t from r);cases e;rfl
 | str x=>obtain⟨t,e⟩:=(show ∃t,u=Value.str x t from r);cases e;rfl
 | byt b=>obtain⟨t,e⟩:=(show ∃t,u=Value.bytes b t from r);cases e;rfl
 | flt b=>obtain⟨t,e⟩:=(show ∃t,u=Value.float b t from r);cases e;rfl
 | ref a=>cases (show u=Value.ref a from r);rfl
 | ty n=>cases (show u=Value.type n from r);rfl
section
variable{P:Program}{w:World}{H H':Hp}{h h':Heap}{a C dx:Addr}{fs fs':List (Str × V)}
theorem yJ(hok:HOk P w H h)(e:H a=some (.ins C dx fs)):∃mA,BG h a dx C mA/\(∀f,oV (fs.lookup f) (mA f))/\PySem.Within mA (fs.map (·.1))/\fs.length<=1000/\H dx=some (.own a):=by
 obtain⟨d,z,ne,ob,mA,n,r,q⟩:=(show dc P w H h a (.ins C dx fs) from hok a _ e);exact⟨mA,⟨ob,n,ne⟩,r,q,z,d⟩
end
structure Cls(K:PySem.W.Frag)(C:Addr):Prop where
 pg:PySem.W.plainGet K C Str.empty=true
 hd:PySem.W.hasDictIn K C=true
 po:PySem.W.plainOver K C=true
 sa:PySem.W.findIn K (.ref C) "__setattr__"=some (some (.builtin "object.__setattr__"))
theorem Cls.get{K:PySem.W.Frag}{C:Addr}(c:Cls K C)(f:Str):PySem.W.plainGet K C f=true:=c.pg
def bX(K:PySem.W.Frag)(C:Addr)(f:Str):Prop:=PySem.W.findIn K (.ref C) f=some none
theorem bX.LB{K:PySem.W.Frag}{C:Addr}{f:Str}(n:bX K C f):PySem.W.takerIn K C f=some none:=by
 unfold PySem.W.takerIn;rw[show PySem.W.findIn K (.ref C) f=some none from n]
 rfl
structure Meth(K:PySem.W.Frag)(C:Addr)(m:Str)(f:Addr):Prop where
 at_:PySem.W.findIn K (.ref C) m=some (some (.ref f))
 fn:PySem.W.isFn K (.ref f)=true
 kp:PySem.W.keepIn K (.ref f)=true
section
variable{X:Cx}{pins:List (Addr × Obj)}{σ:St}{H:Hp}{s:Shared}{a C dx:Addr}{fs:List (Str × V)}{f:Str}{v:V}{A:Around}{E:Value->Shared->Prop}
theorem BE{b:Bool}{Q:Value->Shared->Prop}(I:Inv X pins σ H s)(e:H a=some (.ins C dx fs))(c:Cls X.K C)(n:bX X.K C f)(l:fs.lookup f=some v)
  (h:∀u s',Inv X pins σ H s'->RelV v u->Q u s'):wpAny (model X.prog X.w) A (getAttr (.ref a) f b) Q E s:=by
 obtain⟨mA,O,r,_,_,_⟩:=yJ I.hok e;obtain⟨u,hu,ru⟩:=oV.some_of (v:=v) (o:=mA f) (by rw[<- l];exact r f);exact get_map I.kIn O (c.get f) c.hd n hu (wJ ru) (h u _ (I.tok _) ru)
theorem sL{m:Str}{g:Addr}{pl:Sem Bool}{Q:Value × List Value->Shared->Prop}(I:Inv X pins σ H s)(e:H a=some (.ins C dx fs))(c:Cls X.K C)(k:Meth X.K C m g)(l:fs.lookup m=none)
  (h:Q (.ref g,[.ref a]) s):wpAny (model X.prog X.w) A (getMethod (.ref a) m pl) Q E s:=by
 obtain⟨mA,O,r,_,_,_⟩:=yJ I.hok e;have hn:mA m=none:=oV.none_of (by rw[<- l];exact r m);exact E7 I.kIn O (c.get m) k.at_ k.fn hn h
theorem Bz{y:V}{u:Value}{Q:Unit->Shared->Prop}(I:Inv X pins σ H s)(e:H a=some (.ins C dx fs))(c:Cls X.K C)(n:bX X.K C f)(hl:fs.length < 1000)(ry:RelV y u)
  (h:∀s',Inv X pins σ (upd H a (.ins C dx (lR f y fs))) s'->Q () s'):wpAny (model X.prog X.w) A (setAttr (.ref a) f u) Q E s:=by
 obtain⟨mA,O,r,wi,_,ho⟩:=yJ I.hok e;have hz:(fs.map (·.1)).length<=sizeLine:=by rw[List.length_map,sizeLine_eq];lia
 refine IW I.kIn O c.sa c.po n.LB c.hd wi hz λh' O' sb=>h _ ?_;have hd:∃o,h'.get? dx=some o:=let ⟨o,_,_,e',_⟩:=O'.ns;⟨o,e'⟩;refine I.write (x:=a) (e:=dx) (by rw[e];exact True.intro) (.inr ho) (λb q hb z=>(sb.2 b hb).trans z) hd ?_;refine⟨by rw[aq O.ne];exact ho,?_,O.ne,O'.obj,_,O'.ns,λg=> ?_,λg hg=> ?_⟩
 .have:=qY f y fs;lia
 .show oV ((lR f y fs).lookup g) (if g=f then some u else mA g);rw[rf];by_cases q:g=f
  .rw [if_pos q,if_pos q];exact ry
  .rw [if_neg q,if_neg q];exact r g
 .by_cases q:g=f
  .rw [q];exact(qJ f y fs).1
  .refine (qJ f y fs).2 g (wi g λz=>hg ?_);show(if g=f then some u else mA g)=none;rw[if_neg q];exact z
theorem Inv.made(I:Inv X pins σ H s):Inv X pins σ (upd (upd H s.heap.objs.size (.own (s.heap.objs.size + 1))) (s.heap.objs.size + 1) (.ins C s.heap.objs.size []))
  { s with heap:=(s.heap.push PySem.W.emptyDict).push (PySem.W.instObj C s.heap.objs.size)}:=by
 have e1:(s.heap.push PySem.W.emptyDict).get? s.heap.objs.size=some PySem.W.emptyDict:=Heap.get?_push_size s.heap rfl
 have e2:((s.heap.push PySem.W.emptyDict).push (PySem.W.instObj C s.heap.objs.size)).get? (s.heap.objs.size + 1)=some (PySem.W.instObj C s.heap.objs.size):=by
  have:=Heap.get?_push_size (s.heap.push PySem.W.emptyDict) (o:=PySem.W.instObj C s.heap.objs.size) rfl;rwa [Heap.size_push] at this
 have e3:(s.heap.push PySem.W.emptyDict).Ns s.heap.objs.size (λ_=>none):=⟨PySem.W.emptyDict,#[],_,e1,rfl,(λe he=>absurd he (by simp)),λ_=>rfl⟩;have I1:=I.laid (a:=s.heap.objs.size) (o:= .own (s.heap.objs.size + 1)) (h':=s.heap.push PySem.W.emptyDict) (t':=s.toks) (λb u q=>Heap.get?_push_of_some _ q) (Nat.le_refl _) ⟨_,e1⟩;refine I1.laid (a:=s.heap.objs.size + 1) (o:= .ins C s.heap.objs.size []) (t':=s.toks) (λb u q=>Heap.get?_push_of_some _ q) (Nat.le_of_eq (Heap.size_push _ _)) ?_;have ne:s.heap.objs.size≠s.heap.objs.size + 1:=Nat.ne_of_lt (Nat.lt_succ_self _);refine⟨by rw[aq ne,ae],Nat.zero_le _,ne,e2,λ_=>none,(Heap.Ns1.of_empty e3).at λo q=>Heap.get?_push_of_some _ q,λ_=>True.intro,λy hy=>absurd rfl hy⟩
theorem Cw{prog:Program}{w:World}{env:Env}{e:Expr}{f:Str}{pos:Pos}{s:Shared}{Q:Value->Shared->Prop}(hb:attributeBase e f env (eval e env)=eval e env)
  (h:wpAny (model prog w) A (eval e env) (λo s₁=>wpAny (model prog w) A (getAttr o f true) Q E s₁) E s):wpAny (model prog w) A (eval (.Attribute e f pos) env) Q E s:=
 Attribute_any_ h (by rw[arm_eval_Attribute,hb])
end
def LC(K:PySem.W.Frag)(ta:TE)(f:Str):TE:=λσ H Q=>ta σ H λx H1=>∃a C dx fs v,x=.ref a/\H1 a=some (.ins C dx fs)/\Cls K C/\bX K C f/\fs.lookup f=some v/\Q v H1
def Lh(K:PySem.W.Frag)(ta tv:TE)(f:Str):TS:=λD σ H=>tv σ H λy H1=>ta σ H1 λx H2=>∃a C dx fs,x=.ref a/\H2 a=some (.ins C dx fs)/\Cls K C/\bX K C f/\fs.length < 1000∧
 D.nx σ (upd H2 a (.ins C dx (lR f y fs)))
section
variable{X:Cx}{o e value:Expr}{f:Str}{pos pos' tpos:Pos}{ta tv:TE}
theorem a8(he:PE X e ta)(hb:attributeBase e f X.env (eval e X.env)=eval e X.env):PE X (.Attribute e f pos) (LC X.K ta f):=by
 intro pins s σ H Q I h;refine Cw hb (he.th I h λu s1 x H1 I1 rx zz=> ?_);obtain⟨a,C,dx,fs,v,ex,ea,c,n,l,q⟩:=zz;subst ex;obtain rfl:u=Value.ref a:=rx;exact BE I1 ea c n l λu' s2 I2 ru=>⟨v,H1,I2,ru,q⟩
theorem ia(ha:PE X o ta)(hv:PE X value tv)(hs:swapsWith value (some (.Attribute o f pos')) pos.line X.env=pure false):PS X (.Assign [.Attribute o f pos'] value pos) (Lh X.K ta tv f):=by
 intro pins s σ H D I h;refine plainObj_wpAny_Assign_Attribute (hv.th I h λu s1 y H1 I1 ry q=>ha.th I1 q λov s2 x H2 I2 rx zz=> ?_) hs;obtain⟨a,C,dx,fs,ex,ea,c,n,l,q2⟩:=zz;subst ex;obtain rfl:ov=Value.ref a:=rx;exact Bz I2 ea c n l ry λs3 I3=>⟨σ,_,I3,q2⟩
end
structure bJ(cm:Bool)(k:Nat)(A:Around):Prop where
 hd:cm=true->A.handled=none
 dp:A.depth + 3 * k + 5 < recursionLimit
 un:A.units + 16 * k + 200 < cLine
theorem bJ.mono{j k:Nat}{A:Around}(r:bJ cm k A)(h:j<=k):bJ cm j A:=⟨r.hd,by have:=r.dp;lia,by have:=r.un;lia⟩
theorem bJ.deeper{k:Nat}{A:Around}(r:bJ cm (k + 1) A)(env:Env):bJ cm k (A.deeper env):=
 ⟨r.hd,by have:=r.dp;show A.depth + 1 + 3 * k + 5 < _;lia,by have:=r.un;show A.units + 3 + 16 * k + 200 < _;lia⟩
theorem BD{A:Around}{C:Addr}{us:List Value}{kw:List (Str × Value)}:(A.under (.builtin "type.__call__" ⟨.ref C::us,kw⟩)).depth=A.depth + 1:=by
 first | rfl | simp [Around.under,Code.weight,Code.isCreation,Code.isGuard,Code.isCaller,Code.frames,Code.isFrame,guardIds]
theorem Bf{A:Around}{C:Addr}{us:List Value}{kw:List (Str × Value)}:(A.under (.builtin "type.__call__" ⟨.ref C::us,kw⟩)).units=A.units + 1:=by
 first | rfl | simp [Around.under,Code.cUnits,Code.frames,Code.isFrame]
theorem bJ.make{k:Nat}{A:Around}(r:bJ cm (k + 1) A)(C:Addr)(us:List Value)(kw:List (Str × Value)):bJ cm k (A.under (.builtin "type.__call__" ⟨.ref C::us,kw⟩)):=
 ⟨r.hd,by have:=r.dp;rw[BD];lia,by have:=r.un;rw[Bf];lia⟩
theorem bJ.depth{k:Nat}{A:Around}(r:bJ cm k A):A.depth < recursionLimit:=by have:=r.dp;lia
theorem bJ.units{k:Nat}{A:Around}(r:bJ cm k A):A.units + 64 < cLine:=by have:=r.un;lia
def AX:TA:=λ_ H Q=>Q [] H
def Jf(ta:TE)(tr:TA):TA:=λσ H Q=>ta σ H λx H1=>tr σ H1 λxs H2=>Q (x::xs) H2
section
variable{X:Cx}{e:Expr}{es:List Expr}{te:TE}{t:TA}{pos:Pos}
theorem eT:PA X [] AX:=λ_ _ _ _ H Q I h=>Calls.spliced_nil ⟨[],H,I,.nil,h⟩
theorem CH(ha:PE X e te)(hr:PA X es t)(hs:starEach (e::es) X.env=(false,eval e X.env)::starEach es X.env:=by rfl):PA X (e::es) (Jf te t):=by
 intro pos pins s σ H Q I h;rw[hs];show wpAny _ _ (spliced ((false,eval e X.env)::backTo pos (starEach es X.env))) _ _ s;refine Calls.spliced_cons (ha.th I h λu s1 x H1 I1 r1 q1=> ?_);exact thA (hr pos pins s1 σ H1 _ I1 q1) λus s2 xs H2 I2 r2 q2=>⟨x::xs,H2,I2,.cons r1 r2,q2⟩
def Ml(t:TA):TE:=λσ H Q=>t σ H λxs H1=>xs.length<=sizeLine/\∀p,H1 p=none->Q (.ref p) (upd H1 p (.tup xs))
def Mb(t:TA):TE:=λσ H Q=>t σ H λxs H1=>xs.length<=sizeLine/\∀p,H1 p=none->Q (.ref p) (upd H1 p (.lst xs))
theorem fq{x1}(h:PA X es t):PE X (.Tuple es x1 pos) (Ml t):=by
 intro pins s σ H Q I hq;refine wpAny_Tuple_spliced (h.th I hq λus s1 xs H1 I1 r ⟨z,q⟩=>⟨by rw[<- r.length];exact z,?_⟩);have hf:H1 s1.heap.objs.size=none:=I1.hok.fresh (Nat.le_refl _);refine⟨.ref s1.heap.objs.size,upd H1 s1.heap.objs.size (.tup xs),I1.laid (t':=s1.toks) (λb u e=>Heap.get?_push_of_some _ e) (Nat.le_refl _) ?_,rfl,q _ hf⟩;exact⟨z,us,r,⟨_,Heap.get?_push_size _ rfl,rfl,_,rfl⟩⟩
theorem az(h:PA X es t):PE X (.List es pos) (Mb t):=by
 intro pins s σ H Q I hq;refine wpAny_List_spliced (h.th I hq λus s1 xs H1 I1 r ⟨z,q⟩=>⟨by rw[<- r.length];exact z,?_⟩);have hf:H1 s1.heap.objs.size=none:=I1.hok.fresh (Nat.le_refl _);refine⟨.ref s1.heap.objs.size,upd H1 s1.heap.objs.size (.lst xs),I1.laid (t':=s1.toks) (λb u e=>Heap.get?_push_of_some _ e) (Nat.le_refl _) ?_,rfl,q _ hf⟩;exact⟨z,us,0,r,Heap.get?_push_size _ rfl⟩
end
abbrev Sp:=List V->Hp->VK->XK->Prop
abbrev CXT:=List Env->Hp->Shared->XK->Value->Shared->Prop
structure A0(P:Program)(w:World)(K:PySem.W.Frag)(mg:Str->Option Value)(base:Heap)(A:Around)(outer:List Env)(s:Shared)(H:Hp):Prop where
 frames:A.frames=some outer
 mod:Mod K mg base
 bs:∀b o,base.get? b=some o->s.heap.get? b=some o/\H b=none
 bsz:base.objs.size<=s.heap.objs.size
 ke:s.heap.FunFrames base outer
 frf:∀b∈frs outer,H b=none
 hok:HOk P w H s.heap
 bare:AllBare s.gens
def CE(outer:List Env)(P:Program)(w:World)(H:Hp)(s:Shared)(Q:VK)(u:Value)(s':Shared):Prop:=
 ∃v H',s'.os=s.os/\AllBare s'.gens/\Un (frs outer) [] H H' s.heap s'.heap/\HOk P w H' s'.heap/\RelV v u/\Q v H'
def CR(CX:CXT)(outer:List Env)(P:Program)(w:World)(H:Hp)(s:Shared)(Q:VK)(E:XK)(r:Result)(s':Shared):Prop:=
 match r with
 | .ok (.ret u)=>CE outer P w H s Q u s'
 | .ok _=>False
 | .error e=>CX outer H s E e s'
structure aB(P:Program)(w:World)(K:PySem.W.Frag)(mg:Str->Option Value)(base:Heap)(CX:CXT)(cm:Bool)(k:Nat)(f:Addr)(fd:FuncData)(ps:List Str)(sp:Sp):Prop where
 len:∀vs H Q E,sp vs H Q E->vs.length=ps.length
 run:∀(A:Around) (outer:List Env) (s:Shared) (H:Hp) (args:Args) (us:List Value) (vs:List V) (Q:VK) (E:XK),bJ cm k A->A0 P w K mg base A outer s H->BindsTo s fd args (ps.zip us)->Vals vs us->sp vs H Q E→
  codeAny (model P w) A (.call (.ref f) args) (CR CX outer P w H s Q E) s
theorem aB.mono{P:Program}{w:World}{K:PySem.W.Frag}{mg:Str->Option Value}{base:Heap}{CX:CXT}{j k:Nat}{f:Addr}{fd:FuncData}{ps:List Str}{sp:Sp}(F:aB P w K mg base CX cm j f fd ps sp)(h:j<=k):
  aB P w K mg base CX cm k f fd ps sp:=⟨F.len,λA outer s H args us vs Q E hr=>F.run A outer s H args us vs Q E (hr.mono h)⟩
theorem aB.imp{P:Program}{w:World}{K:PySem.W.Frag}{mg:Str->Option Value}{base:Heap}{CX:CXT}{k:Nat}{f:Addr}{fd:FuncData}{ps:List Str}{sp sp':Sp}(F:aB P w K mg base CX cm k f fd ps sp)
  (h:∀vs H Q E,sp' vs H Q E->sp vs H Q E):aB P w K mg base CX cm k f fd ps sp':=
 ⟨λvs H Q E q=>F.len vs H Q E (h _ _ _ _ q),λA outer s H args us vs Q E hr he hb hv hs=>F.run A outer s H args us vs Q E hr he hb hv (h _ _ _ _ hs)⟩
theorem A0.make{P:Program}{w:World}{K:PySem.W.Frag}{mg:Str->Option Value}{base:Heap}{A:Around}{outer:List Env}{s:Shared}{H:Hp}(e:A0 P w K mg base A outer s H)(C:Addr)(us:List Value)(kw:List (Str × Value)):
  A0 P w K mg base (A.under (.builtin "type.__call__" ⟨.ref C::us,kw⟩)) outer s H:=⟨by first | exact e.frames | (simpa [Around.under,Code.envs,Code.isFrame,pushEnvs] using e.frames),e.mod,e.bs,e.bsz,e.ke,e.frf,e.hok,e.bare⟩
section
variable{X:Cx}{pins:List (Addr × Obj)}{σ:St}{H:Hp}{s s':Shared}
theorem Inv.J8(I:Inv X pins σ H s):A0 X.prog X.w X.K X.mg X.base X.A X.stack s H:=
 ⟨I.ok.frames,I.ok.mod,I.bs,Nat.le_trans I.ok.bsz I.sz,I.stack,I.rZ,I.hok,I.bare⟩
theorem Inv.after{Q:VK}{u:Value}(I:Inv X pins σ H s)(h:CE X.stack X.prog X.w H s Q u s'):EP X pins σ Q u s':=by
 obtain⟨v,H',os,bare,un,hok,r,q⟩:=h;obtain⟨hh,g,d,t,os'⟩:=s';obtain rfl:os'=s.os:=os;exact⟨v,H',I.call (h':=hh) (g':=g) (d':=d) (t':=t) (ch:=[]) un hok bare (λb z=>absurd z (by simp)),r,q⟩
end
def um(sp:Sp)(dvs:List V)(E:St->XK)(t:TA):TE:=λσ H Q=>t σ H λvs H1=>sp (vs++dvs) H1 Q (E σ)
def C2(C:Addr)(sp:Sp)(dvs:List V)(E:St->XK)(t:TA):TE:=λσ H Q=>t σ H λvs H1=>∀x dx,H1 x=none->H1 dx=none->dx≠x→
 sp (.ref x::(vs++dvs)) (upd (upd H1 dx (.own x)) x (.ins C dx [])) (λv H2=>v=.non/\Q (.ref x) H2) (E σ)
def Binds(K:PySem.W.Frag)(fd:FuncData)(ps:List Str)(ds:List Value):Prop:=
 ∀(s:Shared) (us:List Value),K.In s.heap->(us++ds).length=ps.length->BindsTo s fd ⟨us,[]⟩ (ps.zip (us++ds))
theorem Binds.all{K:PySem.W.Frag}{fd:FuncData}{ps:List Str}(h:∀us:List Value,us.length=ps.length->bindArgs fd ⟨us,[]⟩=pure (ps.zip us)):Binds K fd ps []:=λs us _ hl=>by
 rw[List.append_nil] at hl ⊢;exact .of_eq (h us hl)
def Passes(CX:CXT)(X:Cx)(E:St->XK):Prop:=∀(pins:List (Addr × Obj)) (σ:St) (H:Hp) (s:Shared) (e:Value) (s':Shared),Inv X pins σ H s->CX X.stack H s (E σ) e s'->X.xe e s'
section
variable{X:Cx}{CX:CXT}{k:Nat}{f C:Addr}{fd:FuncData}{ps:List Str}{sp:Sp}{dvs:List V}{ds:List Value}{E:St->XK}{x m:Str}{p pos apos:Pos}{e o:Expr}{es:List Expr}{ta:TE}{t:TA}
theorem sN{pins:List (Addr × Obj)}{σ:St}{H:Hp}{s:Shared}{Q:VK}{us:List Value}{vs:List V}(F:aB X.prog X.w X.K X.mg X.base CX cm k f fd ps sp)(hr:bJ cm k X.A)(hb:Binds X.K fd ps ds)(hd:Vals dvs ds)(hx:Passes CX X E)
  (I:Inv X pins σ H s) (r:Vals vs us) (h:sp (vs++dvs) H Q (E σ)):wpAny (model X.prog X.w) X.A (call (.ref f) us) (EP X pins σ Q) X.xe s:=by
 have r2:Vals (vs++dvs) (us++ds):=r.append hd;have hl:(us++ds).length=ps.length:=by rw[<- r2.length];exact F.len _ _ _ _ h
 refine wpAny_call (codeAny_mono (F.run X.A X.stack s H ⟨us,[]⟩ (us++ds) (vs++dvs) Q (E σ) hr I.J8 (hb s us I.kIn hl) r2 h) λr s' hq=> ?_);cases r with
 | error e=>exact hx pins σ H s e s' I hq
 | ok fl=>
  cases fl with
  | ret u=>exact I.after hq
  | next=>exact False.elim hq
  | brk=>exact False.elim hq
  | cont=>exact False.elim hq
theorem Hk(F:aB X.prog X.w X.K X.mg X.base CX cm k f fd ps sp)(hr:bJ cm k X.A)(hg:Gl X x)(hm:X.mg x=some (.ref f))(hk:PySem.W.keepIn X.K (.ref f)=true)(hb:Binds X.K fd ps ds)(hd:Vals dvs ds)(hx:Passes CX X E)
  (ha:PA X (e::es) t) (hdb:(x == ("__debug__":Str))=false:=by decide) (he:starEach (e::es) X.env=(false,eval e X.env)::starEach es X.env:=by rfl) (hpl:(backTo pos (starEach es X.env)).any (·.1)=false:=by rfl):
  PE X (.Call (.Name x p) (e::es) [] pos) (um sp dvs E t):=by
 intro pins s σ H Q I h;refine wpAny_Call_Name_kw (gE I hg hm ?_ hdb);refine PySem.W.callWith_K (h₀:=X.base) I.ok.mod.kin hk (ha.th I h λus s1 vs H1 I1 r q=>⟨I1.kIn,?_⟩) he hpl;exact sN F hr hb hd hx I1 r q
theorem F2(F:aB X.prog X.w X.K X.mg X.base CX cm k f fd ps sp)(hr:bJ cm k X.A)(hg:Gl X x)(hm:X.mg x=some (.ref f))(hk:PySem.W.keepIn X.K (.ref f)=true)(hb:Binds X.K fd ps ds)(hd:Vals dvs ds)(hx:Passes CX X E)
  (hdb:(x == ("__debug__":Str))=false:=by decide):PE X (.Call (.Name x p) [] [] pos) (um sp dvs E AX):=by
 intro pins s σ H Q I h;refine wpAny_Call_Name_kw (gE I hg hm ?_ hdb);exact PySem.W.callWith_K0 I.kIn hk (sN (us:=[]) F hr hb hd hx I .nil h)
structure Mk(K:PySem.W.Frag)(C f:Addr):Prop where
 makes:PySem.W.makesIn K C=true
 init:PySem.W.findIn K (.ref C) "__init__"=some (some (.ref f))
 fn:PySem.W.isFn K (.ref f)=true
 kp:PySem.W.keepIn K (.ref C)=true
theorem zN{pins:List (Addr × Obj)}{σ:St}{H:Hp}{s:Shared}{Q:VK}{us:List Value}{vs:List V}(M:Mk X.K C f)(F:aB X.prog X.w X.K X.mg X.base CX cm k f fd ps sp)(hr:bJ cm (k + 1) X.A)(hb:Binds X.K fd ps ds)(hd:Vals dvs ds)
  (hx:Passes CX X E) (I:Inv X pins σ H s) (r:Vals vs us)
  (h:∀x dx,H x=none->H dx=none->dx≠x->sp (.ref x::(vs++dvs)) (upd (upd H dx (.own x)) x (.ins C dx [])) (λv H2=>v=.non/\Q (.ref x) H2) (E σ)):
  wpAny (model X.prog X.w) X.A (call (.ref C) us) (EP X pins σ Q) X.xe s:=by
 have hq:=h (s.heap.objs.size + 1) s.heap.objs.size (I.hok.fresh (Nat.le_succ _)) (I.hok.fresh (Nat.le_refl _)) (Nat.ne_of_lt (Nat.lt_succ_self _));have I2:=Inv.made (C:=C) I;have r2:Vals (V.ref (s.heap.objs.size + 1)::(vs++dvs)) (Value.ref (s.heap.objs.size + 1)::(us++ds)):= .cons rfl (r.append hd)
 have hl:(Value.ref (s.heap.objs.size + 1)::us++ds).length=ps.length:=by
  have e:=r2.length;rw[F.len _ _ _ _ hq] at e;exact e.symm
 refine wpAny_call (Ge (f:=f) I.kIn M.makes M.init (beq_iff_eq.mp M.fn) (codeAny_mono (F.run _ X.stack _ _ ⟨Value.ref (s.heap.objs.size + 1)::us,[]⟩ (Value.ref (s.heap.objs.size + 1)::(us++ds)) _ _ (E σ) (hr.make C us [])
  (I2.J8.make C us []) (hb _ (Value.ref (s.heap.objs.size + 1)::us) I2.kIn hl) r2 hq) λr s' hq'=> ?_))
 cases r with
 | error e=>exact hx pins σ _ _ e s' I2 hq'
 | ok fl=>
  cases fl with
  | ret u=>
   obtain⟨v,H',I3,rv,ev,q3⟩:=I2.after hq';subst ev;exact⟨rv,⟨V.ref (s.heap.objs.size + 1),H',I3,rfl,q3⟩⟩
  | next=>exact False.elim hq'
  | brk=>exact False.elim hq'
  | cont=>exact False.elim hq'
theorem Hc(M:Mk X.K C f)(F:aB X.prog X.w X.K X.mg X.base CX cm k f fd ps sp)(hr:bJ cm (k + 1) X.A)(hg:Gl X x)(hm:X.mg x=some (.ref C))(hb:Binds X.K fd ps ds)(hd:Vals dvs ds)(hx:Passes CX X E)
  (ha:PA X (e::es) t) (hdb:(x == ("__debug__":Str))=false:=by decide) (he:starEach (e::es) X.env=(false,eval e X.env)::starEach es X.env:=by rfl) (hpl:(backTo pos (starEach es X.env)).any (·.1)=false:=by rfl):
  PE X (.Call (.Name x p) (e::es) [] pos) (C2 C sp dvs E t):=by
 intro pins s σ H Q I h;refine wpAny_Call_Name_kw (gE I hg hm ?_ hdb);refine PySem.W.callWith_K (h₀:=X.base) I.ok.mod.kin M.kp (ha.th I h λus s1 vs H1 I1 r q=>⟨I1.kIn,?_⟩) he hpl;exact zN M F hr hb hd hx I1 r q
theorem Gk(M:Mk X.K C f)(F:aB X.prog X.w X.K X.mg X.base CX cm k f fd ps sp)(hr:bJ cm (k + 1) X.A)(hg:Gl X x)(hm:X.mg x=some (.ref C))(hb:Binds X.K fd ps ds)(hd:Vals dvs ds)(hx:Passes CX X E)
  (hdb:(x == ("__debug__":Str))=false:=by decide):PE X (.Call (.Name x p) [] [] pos) (C2 C sp dvs E AX):=by
 intro pins s σ H Q I h;refine wpAny_Call_Name_kw (gE I hg hm ?_ hdb);exact PySem.W.callWith_K0 I.kIn M.kp (zN (us:=[]) M F hr hb hd hx I .nil h)
end
structure aw(N P:List Str)(sc:Scope):Prop where
 kind:sc.kind=.function
 co:sc.isCoroutine=false
 gen:sc.isGenerator=false
 nd:N.Nodup
 pre:N.take P.length=P
 par:∀x∈P,sc.names.lookup x=some .local\/sc.names.lookup x=some .cell
 JU:∀y∈sc.names,y.2≠ .free
theorem w5{kindOf:Str->Option NameKind}{x:Str}:∀{binds:List (Str × Value)} {m:Str->Option Value},(∀v,(x,v)∉binds)->bindL kindOf binds m x=m x
 | [],_,_=>rfl
 | (n,v)::r,m,h=>by
  unfold bindL;rw[w5 λw hw=>h w (List.mem_cons_of_mem _ hw)]
  split
  .have:x≠n:=by rintro rfl;exact h v List.mem_cons_self
   simp [this]
  .rfl
theorem xw{kindOf:Str->Option NameKind}{x:Str}:∀{binds:List (Str × Value)} {m:Str->Option Value},(∀v,(x,v)∉binds)->bindC kindOf binds m x=m x
 | [],_,_=>rfl
 | (n,v)::r,m,h=>by
  unfold bindC;rw[xw λw hw=>h w (List.mem_cons_of_mem _ hw)]
  split
  .rfl
  .have:x≠n:=by rintro rfl;exact h v List.mem_cons_self
   simp [this]
theorem xv{kindOf:Str->Option NameKind}{x:Str}{v:Value}:∀{P:List Str} {vs:List Value} {i:Nat} {m:Str->Option Value},P.Nodup->P[i]? =some x->vs[i]? =some v->kindOf x=some .local→
  bindL kindOf (P.zip vs) m x=some v
 | [],_,_,_,_,h,_,_=>by simp at h
 | _::_,[],_,_,_,_,h,_=>by simp at h
 | p::P,w::vs,0,m,nd,h1,h2,hk=>by
  simp at h1 h2;subst h1;subst h2;show bindL kindOf ((p,w)::P.zip vs) m p=_;unfold bindL;rw[w5 λv hv=>(List.nodup_cons.mp nd).1 (List.of_mem_zip hv).1,if_pos hk];simp
 | p::P,w::vs,i + 1,m,nd,h1,h2,hk=>by
  show bindL kindOf ((p,w)::P.zip vs) m x=_;unfold bindL;exact xv (i:=i) (List.nodup_cons.mp nd).2 (by simpa using h1) (by simpa using h2) hk
theorem wQ{kindOf:Str->Option NameKind}{x:Str}{v:Value}:∀{P:List Str} {vs:List Value} {i:Nat} {m:Str->Option Value},P.Nodup->P[i]? =some x->vs[i]? =some v->kindOf x≠some .local→
  bindC kindOf (P.zip vs) m x=some v
 | [],_,_,_,_,h,_,_=>by simp at h
 | _::_,[],_,_,_,_,h,_=>by simp at h
 | p::P,w::vs,0,m,nd,h1,h2,hk=>by
  simp at h1 h2;subst h1;subst h2;show bindC kindOf ((p,w)::P.zip vs) m p=_;unfold bindC;rw[xw λv hv=>(List.nodup_cons.mp nd).1 (List.of_mem_zip hv).1,if_neg hk];simp
 | p::P,w::vs,i + 1,m,nd,h1,h2,hk=>by
  show bindC kindOf ((p,w)::P.zip vs) m x=_;unfold bindC;exact wQ (i:=i) (List.nodup_cons.mp nd).2 (by simpa using h1) (by simpa using h2) hk
def start(N:List Str)(vs:List V):St:=vs.map some++List.replicate (N.length - vs.length) none
def fO(cm:Bool)(CX:CXT)(P:Program)(w:World)(K:PySem.W.Frag)(mg:Str->Option Value)(base:Heap)(N:List Str)(qual:Str)(scope:Scope)(f:Addr)(cd:Value)(A:Around)(outer:List Env)(s:Shared)(H:Hp)(E:XK):Cx where
 prog:=P
 w:=w
 K:=K
 mg:=mg
 base:=base
 A:=A.deeper (envOfC qual scope s.heap.objs.size f cd)
 N:=N
 s₀:=s
 H₀:=H
 env:=envOfC qual scope s.heap.objs.size f cd
 outer:=outer
 stack:=envOfC qual scope s.heap.objs.size f cd::outer
 ex:=[]
 calm:=cm
 fn:=λ_=>true
 pn:=[]
 xe:=λe s'=>wpAny (model P w) (A.deeper (envOfC qual scope s.heap.objs.size f cd)) (leaving (envOfC qual scope s.heap.objs.size f cd) e) (λ_ s''=>CX outer H s E e s'') (λe' s''=>CX outer H s E e' s'') s'
theorem z8{sc:Scope}{n:Nat}{x:Str}(h:sc.names.lookup x=some .cell):∃c,(cellsFrom n sc.names []).lookup x=some c:=by
 have q:=PySem.W.cellsFrom_some sc.names n [] (.inl h);exact Option.isSome_iff_exists.mp q
theorem Dd{CX:CXT}{P:Program}{w:World}{K:PySem.W.Frag}{mg:Str->Option Value}{base:Heap}{N ps:List Str}{qual:Str}{scope:Scope}{f:Addr}{cd:Value}{A:Around}{outer:List Env}{s s1:Shared}{H:Hp}{E:XK}{us:List Value}{vs:List V}
  (S:aw N ps scope) (hd:cm=true->A.handled=none) (e0:A0 P w K mg base A outer s H) (hl:vs.length=ps.length) (r:Vals vs us)
  (x:InCallC s s.heap.objs.size (bindL (envOfC qual scope s.heap.objs.size f cd).kindOf (ps.zip us) λ_=>none) (cellsFrom (s.heap.objs.size + 1) scope.names []) (bindC (envOfC qual scope s.heap.objs.size f cd).kindOf (ps.zip us) λ_=>none) s1):
  Inv (fO cm CX P w K mg base N qual scope f cd A outer s H E) [] (start N vs) H s1:=by
 have hpl:ps.length<=N.length:=by have:=congrArg List.length S.pre;rw[List.length_take] at this;lia
 obtain⟨h1,tk,rfl,hk⟩:=x.done;have noA:∀b:Addr,b∉(fO cm CX P w K mg base N qual scope f cd A outer s H E).ex:=λb z=>absurd (show b∈([]:List Addr) from z) (by simp)
 refine⟨⟨e0.mod,S.kind,rfl,rfl,Nat.le_refl _,λy z c h1 h2=> ?_,λy hy=> ?_,λy c _ h=> ?_,hd,Around.frames_deeper e0.frames,.inr ⟨rfl,rfl⟩,λb z=>absurd z (noA b),e0.bs,e0.bsz,λb _ _=>noA b,λb z=>absurd z (noA b),e0.ke,e0.frf⟩,
  rfl,e0.bare,Un.kept hk,⟨_,x.toInCall.ns,λi y v h1 h2 h3=> ?_⟩,λy c h=>⟨_,x.cell y c h⟩,e0.hok.fresh (Nat.le_refl _),λy c h=> ?_,λp hp=>absurd (show p∈([]:List (Addr × Obj)) from hp) (by simp),e0.hok.kept hk,?_⟩
 .exact name_of_addr x.apart (PySem.mem_of_lookup h1) (PySem.mem_of_lookup h2)
 .have hy:scope.names.lookup y=some .cell\/scope.names.lookup y=some .free:=hy;rcases hy with hy | hy
  .exact z8 hy
  .exact absurd rfl (S.JU _ (PySem.mem_of_lookup hy))
 .exact Nat.le_of_lt (x.above y c (PySem.mem_of_lookup h))
 .have hi:i < vs.length:=by
   unfold start at h2;by_cases hi:i < vs.length
   .exact hi
   .rw [List.getElem?_append_right (by simpa using hi)] at h2;rw[List.getElem?_replicate] at h2
    split at h2 <;> cases h2
  have ha:vs[i]? =some v:=by
   unfold start at h2;rw[List.getElem?_append_left (by simpa using hi),List.getElem?_map] at h2;cases e:vs[i]? with
   | none=>rw[e] at h2;cases h2
   | some a=>rw[e] at h2;cases h2;rfl
  obtain⟨u,hu,rv⟩:=r.get ha
  have hp:ps[i]? =some y:=by
   rw[<- S.pre,List.getElem?_take_of_lt (by lia)];exact h1
  have ndP:ps.Nodup:=by rw[<- S.pre];exact S.nd.sublist (List.take_sublist _ _)
  refine⟨u,rv,?_⟩;rcases S.par y (List.mem_of_getElem? hp) with k | k
  .exact .inl ⟨k,xv ndP hp hu k⟩
  .obtain ⟨c,e⟩:=z8 (n:=s.heap.objs.size + 1) k;refine .inr ⟨.inl k,c,e,?_⟩;have q:=x.cell y c e;rw[wQ ndP hp hu (by show scope.names.lookup y≠_;rw[k];decide)] at q;exact q
 .exact e0.hok.fresh (Nat.le_of_lt (x.above y c (PySem.mem_of_lookup h)))
 .unfold start;show _=N.length;rw[List.length_append,List.length_map,List.length_replicate]
  lia
theorem KW{CX:CXT}{P:Program}{w:World}{K:PySem.W.Frag}{mg:Str->Option Value}{base:Heap}{k:Nat}{f:Addr}{name qual:Str}{params:Arguments}{body:List Stmt}{scope:Scope}{dV kV doc pm cdv ct oc:Value}{an od:Option Addr}
  {osl:Array (Option Value)} {N ps:List Str} {sp:Sp} (lk:K.lookup f=some ⟨oc,od,.func (PySem.W.fnOf name qual params body scope dV kV doc pm an cdv ct),osl⟩) (hcd:PySem.W.codeIn K cdv qual=true) (S:aw N ps scope)
  (len:∀vs H Q E,sp vs H Q E->vs.length=ps.length)
  (hbody:∀(A:Around) (outer:List Env) (s:Shared) (H:Hp) (vs:List V) (Q:VK) (E:XK),bJ cm k (A.deeper (envOfC qual scope s.heap.objs.size f cdv))->sp vs H Q E→
   ∃t,PSs (fO cm CX P w K mg base N qual scope f cdv A outer s H E) body t/\t { nx:=λ_ H'=>Q .non H',rt:=Q} (start N vs) H):
  aB P w K mg base CX cm (k + 1) f (PySem.W.fnOf name qual params body scope dV kV doc pm an cdv ct) ps sp:=by
 refine⟨len,λA outer s H args us vs Q E hr e0 hb r hsp=> ?_⟩;have hl:=len _ _ _ _ hsp;have KX:K.In s.heap:=e0.mod.kin.keeps λb o e=>(e0.bs b o e).1;have lim:s.heap.NoLimit:=e0.mod.nolimit.keeps λb o e=>(e0.bs b o e).1
 have hkind:∀y∈ps.zip us,scope.names.lookup y.1=some .local\/(scope.names.lookup y.1=some .cell/\((cellsFrom (s.heap.objs.size + 1) scope.names []).lookup y.1).isSome=true):=λ⟨n,v⟩ hy=>by
  rcases S.par n (List.of_mem_zip hy).1 with q | q
  .exact .inl q
  .exact .inr ⟨q,PySem.W.cellsFrom_some _ _ _ (.inl q)⟩
 refine codeAny_call_function hr.depth (KX _ _ lk) rfl S.co S.gen rfl (PySem.W.codeRec_of KX hcd) (hb _ _ _ _ ?_);refine wpAny_newFunctionEnv_cells S.kind hkind λenv he s1 x=> ?_;subst he;refine⟨lim.keeps x.toInCall.keep,codeAny_func ?_⟩;obtain⟨t,ht,hq⟩:=hbody A outer s H vs Q E (hr.deeper _) hsp;have I:Inv (fO cm CX P w K mg base N qual scope f cdv A outer s H E) [] (start N vs) H s1:=Dd S hr.hd e0 hl r x;refine wpAny_mono (ht [] s1 (start N vs) H _ I hq) (λfl s' hs=> ?_) λe s' hs=>hs
 have fin:∀{σ':St} {H':Hp} {v:V} {u:Value},Inv (fO cm CX P w K mg base N qual scope f cdv A outer s H E) [] σ' H' s'->RelV v u->Q v H'->CE outer P w H s Q u s':=
  λ{σ' H' v u} J rv q=>⟨v,H',J.os,J.bare,J.base,J.hok,rv,q⟩
 cases fl with
 | ret u=>
  obtain⟨v,σ',H',J,rv,q⟩:=hs;exact fin J rv q
 | next=>
  obtain⟨σ',H',J,q⟩:=hs;exact fin (v:=V.non) (u:=Value.none) J rfl q
 | brk=>
  obtain⟨_,_,_,q⟩:=hs;exact False.elim q
 | cont=>
  obtain⟨_,_,_,q⟩:=hs;exact False.elim q
section
variable{X:Cx}{x:Str}{p pos:Pos}{e:Expr}{es:List Expr}{t:TA}{id T:String}{r:List V->Hp->VK->Prop}
def tCB(r:List V->Hp->VK->Prop)(t:TA):TE:=λσ H Q=>t σ H λvs H1=>r vs H1 Q
theorem aE(hc:mf X (.builtin id) r)(hg:Gl X x)(hm:X.mg x=none)(hv:bootBuiltins x=some (.builtin id))(ha:PA X (e::es) t)(hn:x≠"__name__":=by decide)(hdb:(x == ("__debug__":Str))=false:=by decide)
  (he:starEach (e::es) X.env=(false,eval e X.env)::starEach es X.env:=by rfl) (hpl:(backTo pos (starEach es X.env)).any (·.1)=false:=by rfl):PE X (.Call (.Name x p) (e::es) [] pos) (tCB r t):=by
 intro pins s σ H Q I h;refine wpAny_Call_Name_kw (mF I hg hm hv ?_ hn hdb);exact PyProof.Rows.callWith_builtin1 (ha.th I h λus s1 vs H1 I1 r1 q1=>hc pins s1 σ H1 vs us Q I1 r1 q1) he hpl
theorem a9(hc:mf X (.type T) r)(hg:Gl X x)(hm:X.mg x=none)(hv:bootBuiltins x=some (.type T))(ha:PA X (e::es) t)(hn:x≠"__name__":=by decide)(hdb:(x == ("__debug__":Str))=false:=by decide)
  (he:starEach (e::es) X.env=(false,eval e X.env)::starEach es X.env:=by rfl) (hpl:(backTo pos (starEach es X.env)).any (·.1)=false:=by rfl):PE X (.Call (.Name x p) (e::es) [] pos) (tCB r t):=by
 intro pins s σ H Q I h;refine wpAny_Call_Name_kw (mF I hg hm hv ?_ hn hdb);exact PyProof.Rows.callWith_type1 (ha.th I h λus s1 vs H1 I1 r1 q1=>hc pins s1 σ H1 vs us Q I1 r1 q1) he hpl
end
end L2
namespace HT
open PySem PyProof.Rows
section
open PySem.SeqAt
open PySem.AutoSeq1 (wpAny_loadPart')
open PySem.MeetsSeq PySem.MeetsSeq2 PySem.MeetsSeq3
end
section
variable{prog:Program}{w:World}{A:Around}{E:Value->Shared->Prop}{s:Shared}
def sIx(n d:Nat):Option Int->Nat
 | none=>d
 | some v=>if v < 0 then (v + (n:Int)).toNat else min v.toNat n
theorem Ii(n d k:Nat):sIx n d (some (k:Int))=min k n:=by
 show(if (k:Int) < 0 then ((k:Int) + (n:Int)).toNat else min (k:Int).toNat n)=min k n;rw[if_neg (by lia),Int.toNat_natCast]
end
end HT
namespace L2
open PySem PySem.Spec PyProof.Rows
abbrev TO:=St->Hp->(Option Int->Hp->Prop)->Prop
def PO(X:Cx)(e:Option Expr)(t:TO):Prop:=
 ∀(pins:List (Addr × Obj)) (s:Shared) (σ:St) (H:Hp) (Q:Option Int->Hp->Prop),Inv X pins σ H s->t σ H Q→
  wpAny (model X.prog X.w) X.A (evalPart e X.env) (λu s'=>∃o H',Inv X pins σ H' s'/\IsPart u o/\Q o H') X.xe s
def HG:TO:=λ_ H Q=>Q none H
def KR(t:TE):TO:=λσ H Q=>t σ H λx H1=>∃i,x=.int i/\Q (some i) H1
section
variable{X:Cx}{e:Expr}{te:TE}{lo hi:Option Expr}{tl th:TO}{pos p2:Pos}
theorem ox:PO X none HG:=by
 intro pins s σ H Q I h;rw[evalPart_none];exact wpAny_pure ⟨none,H,I,.none,h⟩
theorem gC(h:PE X e te):PO X (some e) (KR te):=by
 intro pins s σ H Q I hw;rw[evalPart_some];refine h.th I hw λu s1 x H1 I1 r1 q1=> ?_;obtain⟨i,rfl,q⟩:=q1;obtain⟨t,rfl⟩:=r1;exact⟨some i,H1,I1,.int i t,q⟩
def SlR(X:Cx)(r:V->Option Int->Option Int->Hp->VK->Prop):Prop:=
 ∀(pins:List (Addr × Obj)) (s:Shared) (σ:St) (H:Hp) (x:V) (v vl vu:Value) (lo hi:Option Int) (sl:Addr) (Q:VK),Inv X pins σ H s->RelV x v->s.heap.IsSliceOf sl vl vu .none->IsPart vl lo->IsPart vu hi->r x lo hi H Q→
  ∃T id,typeLookup (.type T) "__getitem__"=pure (some (.builtin id))/\s.TypeIs v T/\wpAny (model X.prog X.w) X.A (getItem v (.ref sl)) (EP X pins σ Q) X.xe s
def tSl(r:V->Option Int->Option Int->Hp->VK->Prop)(te:TE)(tl th:TO):TE:=λσ H Q=>te σ H λx H1=>tl σ H1 λl H2=>th σ H2 λu H3=>r x l u H3 Q
theorem gW{r:V->Option Int->Option Int->Hp->VK->Prop}(hr:SlR X r)(he:PE X e te)(hl:PO X lo tl)(hu:PO X hi th):PE X (.Subscript e (.Slice lo hi none p2) pos) (tSl r te tl th):=by
 intro pins s σ H Q I h;refine Subscript_ (he.th I h λv s1 x H1 I1 r1 q1=> ?_);refine wpAny_Slice (thn (hl pins s1 σ H1 _ I1 q1) λvl s2 ⟨l,H2,I2,pl,q2⟩=>thn (hu pins s2 σ H2 _ I2 q2) λvu s3 zz=> ?_);obtain⟨u,H3,I3,pu,q3⟩:=zz;rw[evalPart_none];refine wpAny_pure ?_;have I4:Inv X pins σ H3 { s3 with heap:=s3.heap.push { cls:= .type "slice",data:= .fields #[vl,vu,.none]}}:=I3.kept (t':=s3.toks) λb ob q=>Heap.get?_push_of_some _ q;obtain⟨T,id,hT,ht,hg⟩:=hr pins { s3 with heap:=s3.heap.push { cls:= .type "slice",data:= .fields #[vl,vu,.none]}} σ H3 x v vl vu l u s3.heap.objs.size Q I4 r1 (Heap.IsSliceOf.new ..) pl pu q3;show wpAny (model X.prog X.w) X.A (subscriptTail e (.Slice lo hi none p2) v (.ref s3.heap.objs.size)) (EP X pins σ Q) X.xe { s3 with heap:=s3.heap.push { cls:= .type "slice",data:= .fields #[vl,vu,.none]}};exact tail_any (ops:=[.ref s3.heap.objs.size,v]) ht hT hg (by with_unfolding_all rfl)
def qx(xs:List V)(lo hi:Option Int):List V:=(xs.drop (HT.sIx xs.length 0 lo)).take (HT.sIx xs.length xs.length hi - HT.sIx xs.length 0 lo)
theorem Aj(xs:List V)(lo hi:Option Int):(qx xs lo hi).length<=xs.length:=by
 unfold qx;rw[List.length_take,List.length_drop]
 lia
end
def ixN(n:Nat)(i:Int):Option Nat:=if 0<=i then (if i < n then some i.toNat else none) else if -(n:Int)<=i then some (i + n).toNat else none
def atI{α:Type}(xs:List α)(i:Int):Option α:=(ixN xs.length i).bind λj=>xs[j]?
theorem CM{n:Nat}{i:Int}{j:Nat}(h:ixN n i=some j):seqIndex? i n=some j/\j < n/\ -(n:Int)<=i/\i < n:=by
 unfold ixN at h;by_cases h0:0<=i
 .rw [if_pos h0] at h;by_cases h1:i < n
  .rw [if_pos h1] at h;have e:i.toNat=j:=Option.some.inj h;exact⟨by rw[seqIndex_of h0 h1,e],by lia,by lia,h1⟩
  .rw [if_neg h1] at h;cases h
 .rw [if_neg h0] at h;by_cases h1: -(n:Int)<=i
  .rw [if_pos h1] at h;have e:(i + n).toNat=j:=Option.some.inj h;exact⟨by rw[seqIndex_neg (by lia) h1,e],by lia,h1,by lia⟩
  .rw [if_neg h1] at h;cases h
theorem Iz{α:Type}{xs:List α}{i:Int}{v:α}(h:atI xs i=some v):∃j,seqIndex? i xs.length=some j/\xs[j]? =some v/\j < xs.length/\ -(xs.length:Int)<=i/\i < xs.length:=by
 unfold atI at h;cases e:ixN xs.length i with
 | none=>rw[e] at h;cases h
 | some j=>
  rw[e] at h;obtain⟨h1,h2,h3,h4⟩:=CM e;exact⟨j,h1,h,h2,h3,h4⟩
theorem aO{α:Type}{xs:List α}{j:Nat}{v:α}(h:xs[j]? =some v):atI xs (j:Int)=some v:=by
 have hj:j < xs.length:=(List.getElem?_eq_some_iff.mp h).1
 have e:ixN xs.length (j:Int)=some j:=by
  unfold ixN;rw[if_pos (by lia),if_pos (by lia)];simp
 unfold atI;rw[e];exact h
theorem FV{α:Type}(xs:List α)(v:α):atI (xs++[v]) (-1)=some v:=by
 have hl:(xs++[v]).length=xs.length + 1:=by simp
 have e:ixN (xs++[v]).length (-1)=some xs.length:=by
  unfold ixN;rw[hl,if_neg (by decide),if_pos (by lia)]
  congr 1
  lia
 unfold atI;rw[e];show(xs++[v])[xs.length]? =some v;simp
def Cj(b:Expr):Prop:=∀o i,subscripted b false o i=operate [o,i] (getItem o i)
def IxR(X:Cx)(r:R2):Prop:=
 ∀(value slice:Expr) (pins:List (Addr × Obj)) (s:Shared) (σ:St) (H:Hp) (x y:V) (v u:Value) (Q:VK),Inv X pins σ H s->RelV x v->RelV y u->r x y H Q→
  subscripted slice false v u=operate [v,u] (getItem v u)->wpAny (model X.prog X.w) X.A (subscriptTail value slice v u) (EP X pins σ Q) X.xe s
def MtR(X:Cx)(id:String)(r:V->List V->Hp->VK->Prop):Prop:=
 ∀(pins:List (Addr × Obj)) (s:Shared) (σ:St) (H:Hp) (x:V) (xs:List V) (v:Value) (us:List Value) (Q:VK),Inv X pins σ H s->RelV x v->Vals xs us->r x xs H Q→
  wpAny (model X.prog X.w) X.A (call (.builtin id) (v::us)) (EP X pins σ Q) X.xe s
section
variable{X:Cx}{a b:Expr}{ta tb:TE}{pos:Pos}
theorem KU{r:R2}(hr:IxR X r)(ha:PE X a ta)(hb:PE X b tb)(hs:Cj b):PE X (.Subscript a b pos) (tOp r ta tb):=by
 intro pins s σ H Q I h;exact Subscript_ (Iv ha hb I h λv u s2 x y H2 I2 rx ry q=>hr a b pins s2 σ H2 x y v u Q I2 rx ry q (hs _ _))
def KQ(K:PySem.W.Frag):R2:=λx y H Q=>∃p xs i v,x=.ref p/\y=.int i/\SqL K H p xs/\atI xs i=some v/\Q v H
theorem av:IxR X (KQ X.K):=by
 intro value slice pins s σ H x y v u Q I rx ry h hs;obtain⟨p,xs,i,z,rfl,rfl,hq,he,q⟩:=h;cases rx;obtain⟨t,rfl⟩:=ry;obtain⟨its,r,pl,hz⟩:=I.list hq;obtain⟨j,h1,h2,h3,h4,h5⟩:=Iz he;obtain⟨w,ew,rw'⟩:=r.get h2;have hl:=r.length;have hn:=yZ;have fin:EP X pins σ Q w s:=⟨z,H,I,rw',q⟩;by_cases h0:0<=i
 .have hj:i.toNat=j:=by
   rw[seqIndex_of h0 h5] at h1;exact Option.some.inj h1
  exact item_listR pl.isList h0 (by lia) (by rw[hj];simpa using ew) fin hs
 .have hj:(i + (its.toArray.size:Int)).toNat=j:=by
   rw[seqIndex_neg (by lia) h4] at h1;rw[List.size_toArray,<-hl];exact Option.some.inj h1
  exact subscriptTail_builtinR (x:=w) pl.isList.typeIs slot_list_getitem.lookup
   (wpAny_getItem_list_neg (Q:=λr s'=>r=w/\EP X pins σ Q r s') pl.isList (by lia) (by rw[List.size_toArray] <;> lia) (by lia) (by rw[hj];simpa using ew) ⟨rfl,fin⟩) hs
theorem BS(its:List Value)(n j:Nat)(u:Value):Obj.mapSeq (·.setIfInBounds j u) { cls:= .type "list",data:= .seq its.toArray n}={ cls:= .type "list",data:= .seq (its.set j u).toArray n}:=by
 simp [Obj.mapSeq]
theorem Inv.lst{pins:List (Addr × Obj)}{σ:St}{H:Hp}{s:Shared}{p:Addr}{xs:List V}(I:Inv X pins σ H s)(h:H p=some (.lst xs)):
  ∃(its:List Value) (n:Nat),Vals xs its/\s.heap.get? p=some { cls:= .type "list",data:= .seq its.toArray n}/\xs.length<=sizeLine:=by
 obtain⟨z,its,n,r,e⟩:=I.hok p _ h;exact⟨its,n,r,e,z⟩
theorem Inv.KD{pins:List (Addr × Obj)}{σ:St}{H:Hp}{s:Shared}{p:Addr}{xs ys:List V}{its its':List Value}{n n':Nat}{f:Obj->Obj}(I:Inv X pins σ H s)(h:H p=some (.lst xs))
  (ho:s.heap.get? p=some { cls:= .type "list",data:= .seq its.toArray n}) (hf:f { cls:= .type "list",data:= .seq its.toArray n}={ cls:= .type "list",data:= .seq its'.toArray n'}) (r:Vals ys its') (hz:ys.length<=sizeLine) (t:Nat):
  Inv X pins σ (upd H p (.lst ys)) { s with heap:=s.heap.update p f,toks:=t}:=by
 have e:(s.heap.update p f).get? p=some { cls:= .type "list",data:= .seq its'.toArray n'}:=by
  rw[Heap.get?_update_self f ho (by rw[hf] <;> rfl),hf]
 refine I.write (x:=p) (e:=p) (by rw[h];trivial) (.inl rfl) (λb u hb q=>(Heap.get?_update_other _ _ (Ne.symm hb)).trans q) ⟨_,e⟩ ?_;exact⟨hz,its',n',r,e⟩
def LJ:V->V->V->Hp->(Hp->Prop)->Prop:=λo i v H Q=>∃p xs k j,o=.ref p/\i=.int k/\H p=some (.lst xs)/\ixN xs.length k=some j/\Q (upd H p (.lst (xs.set j v)))
theorem set_list:HJ X LJ:=by
 intro pins s σ H o i v ov iv u Q I ro ri rv h;obtain⟨p,xs,k,j,rfl,rfl,hp,hj,q⟩:=h;cases ro;obtain⟨t,rfl⟩:=ri;obtain⟨its,n,r,ho,hz⟩:=I.lst hp;obtain⟨h1,h2,h3,h4⟩:=CM hj;have hl:=r.length;have hn:=yZ
 have I':Inv X pins σ (upd H p (.lst (xs.set j v))) { s with heap:=s.heap.update p (Obj.mapSeq (·.setIfInBounds j u))}:=
  I.KD hp ho (BS its n j u) (r.set rv j) (by rw[List.length_set];exact hz) s.toks
 by_cases h0:0<=k
 .have hk:k.toNat=j:=by
   rw[seqIndex_of h0 h4] at h1;exact Option.some.inj h1
  exact PySem.W.ki_setAt ho h0 (by lia) (by rw[List.size_toArray,<-hl];exact h4) (by rw[hk];exact⟨_,I',q⟩)
 .have hk:(k + (its.toArray.size:Int)).toNat=j:=by
   rw[seqIndex_neg (by lia) h3] at h1;rw[List.size_toArray,<-hl];exact Option.some.inj h1
  exact PySem.W.ki_setBack ho (by lia) (by rw[List.size_toArray,<-hl];exact h3) (by lia) (by rw[hk];exact⟨_,I',q⟩)
theorem yo(lo hi:Option Int)(n:Nat):(sliceBounds lo hi none n).1=((HT.sIx n 0 lo:Nat):Int)/\(sliceBounds lo hi none n).2.1=((HT.sIx n n hi:Nat):Int)/\(sliceBounds lo hi none n).2.2=1:=by
 refine⟨?_,?_,rfl⟩
 .cases lo with
  | none=>simp [sliceBounds,HT.sIx]
  | some i=>
   simp only [sliceBounds,HT.sIx,Option.getD_none,show(1:Int) > 0 by decide,if_true];by_cases h:i < 0
   .simp only [h,if_true] <;> lia
   .simp only [h,if_false] <;> lia
 .cases hi with
  | none=>simp [sliceBounds,HT.sIx]
  | some i=>
   simp only [sliceBounds,HT.sIx,Option.getD_none,show(1:Int) > 0 by decide,if_true];by_cases h:i < 0
   .simp only [h,if_true] <;> lia
   .simp only [h,if_false] <;> lia
theorem vQ(its:List Value)(lo hi:Option Int):slicePick its.toArray lo hi none=((its.drop (HT.sIx its.length 0 lo)).take (HT.sIx its.length its.length hi - HT.sIx its.length 0 lo)).toArray:=by
 obtain⟨h1,h2,h3⟩:=yo lo hi its.toArray.size;unfold slicePick;rw[h1,h2,h3];simp only [sliceRange_one,pick_run,List.size_toArray] <;> rfl
def Md(K:PySem.W.Frag):V->Option Int->Option Int->Hp->VK->Prop:=λx lo hi H Q=>∃a xs,x=.ref a/\SqL K H a xs/\∀p,H p=none->Q (.ref p) (upd H p (.lst (qx xs lo hi)))
theorem jw:SlR X (Md X.K):=by
 intro pins s σ H x v vl vu lo hi sl Q I rx hs pl pu h;obtain⟨a,xs,rfl,hx,q⟩:=h;cases rx;obtain⟨its,r,ht,hz⟩:=I.list hx;have hlen:=r.length;refine⟨"list",_,slot_list_getitem.lookup,ht.isList.typeIs,?_⟩;refine wpAny_getItem_list_slice ht.isList hs pl pu .none (by simp) ?_ (by rw[List.size_toArray] <;> lia)
 rw[vQ,<-hlen];refine⟨.ref s.heap.objs.size,_,I.laid (t':=s.toks) (o:= .lst (qx xs lo hi)) (λb ob q=>Heap.get?_push_of_some _ q) (Nat.le_refl _) ?_,rfl,q _ (I.hok.fresh (Nat.le_refl _))⟩;exact⟨Nat.le_trans (Aj xs lo hi) hz,_,0,(r.drop (HT.sIx xs.length 0 lo)).take (HT.sIx xs.length xs.length hi - HT.sIx xs.length 0 lo),Heap.get?_push_size _ rfl⟩
def dY:V->Bool
 | .non=>true
 | .bl _=>true
 | .int _=>true
 | .str _=>true
 | _=>false
def eqV:V->V->Bool
 | .non,.non=>true
 | .bl a,.bl b=>a == b
 | .bl a,.int b=>(if a then 1 else 0) == b
 | .int a,.bl b=>a == (if b then 1 else 0)
 | .int a,.int b=>a == b
 | .str a,.str b=>a == b
 | _,_=>false
theorem BO{A:Around}{s:Shared}{y x:V}{u v:Value}(ry:RelV y u)(rx:RelV x v)(fy:dY y=true)(fx:dY x=true):SeqAt.EqAt A s u v (eqV y x):=by
 cases y with
 | non=>
  cases ry;cases x with
  | non=>cases rx;exact SeqAt.EqAt.same _
  | bl b=>cases rx;exact SeqAt.EqAt.none_bool b
  | int b=>obtain⟨t,rfl⟩:=rx;exact SeqAt.EqAt.none_int b t
  | str b=>obtain⟨t,rfl⟩:=rx;exact SeqAt.EqAt.none_str b t
  | _=>exact absurd (show false=true from fx) Bool.false_ne_true
 | bl a=>
  cases ry;cases x with
  | non=>cases rx;exact SeqAt.EqAt.bool_none a
  | bl b=>cases rx;exact SeqAt.EqAt.bool_bool a b
  | int b=>obtain⟨t,rfl⟩:=rx;exact SeqAt.EqAt.bool_int a b t
  | str b=>obtain⟨t,rfl⟩:=rx;exact SeqAt.EqAt.bool_str a b t
  | _=>exact absurd (show false=true from fx) Bool.false_ne_true
 | int a=>
  obtain⟨t',rfl⟩:=ry;cases x with
  | non=>cases rx;exact SeqAt.EqAt.int_none a t'
  | bl b=>cases rx;exact SeqAt.EqAt.int_bool a t' b
  | int b=>obtain⟨t,rfl⟩:=rx;exact SeqAt.EqAt.int_int a t' b t
  | str b=>obtain⟨t,rfl⟩:=rx;exact SeqAt.EqAt.int_str a t' b t
  | _=>exact absurd (show false=true from fx) Bool.false_ne_true
 | str a=>
  obtain⟨t',rfl⟩:=ry;cases x with
  | non=>cases rx;exact SeqAt.EqAt.str_none a t'
  | bl b=>cases rx;exact SeqAt.EqAt.str_bool a t' b
  | int b=>obtain⟨t,rfl⟩:=rx;exact SeqAt.EqAt.str_int a t' b t
  | str b=>obtain⟨t,rfl⟩:=rx;exact SeqAt.EqAt.str_str a t' b t
  | _=>exact absurd (show false=true from fx) Bool.false_ne_true
 | _=>exact absurd (show false=true from fy) Bool.false_ne_true
def eqU(x:V)(u:Value):Bool:=match u with
 | .none=>eqV .non x
 | .bool b=>eqV (.bl b) x
 | .int i _=>eqV (.int i) x
 | .str z _=>eqV (.str z) x
 | _=>false
theorem E6{x y:V}{u:Value}(r:RelV y u)(f:dY y=true):eqU x u=eqV y x:=by
 cases y with
 | non=>cases r;rfl
 | bl b=>cases r;rfl
 | int i=>obtain⟨t,rfl⟩:=r;rfl
 | str z=>obtain⟨t,rfl⟩:=r;rfl
 | _=>exact absurd (show false=true from f) Bool.false_ne_true
theorem xK{x:V}:∀{xs:List V} {us:List Value},Vals xs us->xs.all dY=true->us.any (eqU x)=xs.any λy=>eqV y x
 | _,_,.nil,_=>rfl
 | y::xs,u::us,.cons r t,f=>by
  rw[List.all_cons,Bool.and_eq_true] at f;rw[List.any_cons,List.any_cons,E6 r f.1,xK t f.2]
theorem uV{A:Around}{s:Shared}{x:V}{v:Value}(rx:RelV x v)(fx:dY x=true):∀{xs:List V} {us:List Value},Vals xs us->xs.all dY=true->∀u∈us,SeqAt.EqAt A s u v (eqU x u)
 | _,_,.nil,_=>λu hu=>by cases hu
 | y::xs,u::us,.cons r t,f=>λu' hu=>by
  rw[List.all_cons,Bool.and_eq_true] at f;rcases List.mem_cons.mp hu with rfl | hu
  .rw [E6 r f.1];exact BO r rx f.1 fx
  .exact uV rx fx t f.2 u' hu
def inV(x:V)(xs:List V):Bool:=xs.any λy=>eqV y x
def rIn(K:PySem.W.Frag)(neg:Bool):R2:=λx y H Q=>∃p xs,y=.ref p/\(SqL K H p xs\/SqT K H p xs)/\dY x=true/\xs.all dY=true/\Q (.bl (if neg then !inV x xs else inV x xs)) H
theorem pd:OpR X (compareOp .NotIn) (rIn X.K true):=by
 intro pins s σ H x y v u Q I rx ry h;obtain⟨p,xs,rfl,hq,fx,fs,q⟩:=h;cases ry;rcases hq with hq | hq
 .obtain ⟨its,r,pl,hz⟩:=I.list hq;refine SeqAt.notIn_listAt (eqU x) pl.isList (λw hw=>uV rx fx r fs w (by simpa using hw)) ⟨.bl _,H,I,rfl,?_⟩;rw[show its.toArray.any (eqU x)=its.any (eqU x) by simp,xK r fs];exact q
 .obtain ⟨its,r,pl,hz⟩:=I.tuple hq;refine SeqAt.notIn_tupleAt (eqU x) pl (λw hw=>uV rx fx r fs w (by simpa using hw)) ⟨.bl _,H,I,rfl,?_⟩;rw[show its.toArray.any (eqU x)=its.any (eqU x) by simp,xK r fs];exact q
theorem aF:mf X (.builtin "len") (λxs H Q=>∃p ys,xs=[.ref p]/\(SqL X.K H p ys\/SqT X.K H p ys)/\Q (.int ys.length) H):=by
 intro pins s σ H xs us Q I r h;obtain⟨p,ys,rfl,hq,q⟩:=h;obtain⟨u,rfl,rx⟩:=vals1 r;cases rx;have hn:=yZ;rcases hq with hq | hq
 .obtain ⟨its,r',pl,hz⟩:=I.list hq;have hlen:=r'.length;exact Calls.call_len_list pl.isList (by simp only [List.size_toArray] <;> lia) ⟨.int ys.length,H,I.tok _,⟨s.toks + 1,by rw[List.size_toArray,hlen]⟩,q⟩
 .obtain ⟨its,r',pl,hz⟩:=I.tuple hq;have hlen:=r'.length;exact len_tuple pl (by simp only [List.size_toArray] <;> lia) ⟨.int ys.length,H,I.tok _,⟨s.toks + 1,by rw[List.size_toArray,hlen]⟩,q⟩
theorem gD:mf X (.builtin "len") (λxs H Q=>∃z,xs=[.str z]/\z.length<=sizeLine/\Q (.int z.length) H):=by
 intro pins s σ H xs us Q I r h;obtain⟨z,rfl,hz,q⟩:=h;obtain⟨u,rfl,t,rfl⟩:=vals1 r;have hn:=yZ;exact len_str (by lia) ⟨.int z.length,H,I.tok _,⟨_,rfl⟩,q⟩
def tyV(K:PySem.W.Frag)(T:String)(x:V)(H:Hp):Prop:=match x with
 | .str _=>T="str"
 | .int _=>T="int"
 | .ref p=>(T="list"/\∃xs,SqL K H p xs)\/(T="tuple"/\∃o,K.lookup p=some o/\o.cls=.type "tuple"/\o.dict=none)∨
   (T="dict"/\((∃kvs,H p=some (.dK kvs))\/∃kvs,H p=some (.dT kvs)))\/(T="set"/\∃S n,H p=some (.set S n))
 | _=>False
theorem Kk{pins:List (Addr × Obj)}{σ:St}{H:Hp}{s:Shared}{T:String}{x:V}{v:Value}(I:Inv X pins σ H s)(r:RelV x v)(ty:tyV X.K T x H):
  s.TypeIs v T/\∀a,v=.ref a->∃ob,s.heap.get? a=some ob/\ob.dict=none:=by
 cases x with
 | str z=>
  obtain⟨t,rfl⟩:=r;cases (show T="str" from ty);exact⟨typeIs_str s z t,λ_ e=>nomatch e⟩
 | int i=>
  obtain⟨t,rfl⟩:=r;cases (show T="int" from ty);exact⟨typeIs_int s i t,λ_ e=>nomatch e⟩
 | ref p=>
  cases r;rcases ty with⟨rfl,xs,hq⟩ | ⟨rfl,o,hk,hc,hd⟩ | ⟨rfl,hk⟩ | ⟨rfl,S,n,hk⟩
  .obtain ⟨its,_,pl,_⟩:=I.list hq;refine⟨pl.isList.typeIs,λa e=> ?_⟩;cases e;obtain⟨o,n,e,c,hd,_⟩:=pl;exact⟨o,e,hd⟩
  .refine ⟨⟨o,I.kIn p o hk,hc⟩,λa e=> ?_⟩;cases e;exact⟨o,I.kIn _ o hk,hd⟩
  .have z:∃o,s.heap.get? p=some o/\o.ExactDict:=by
    rcases hk with⟨kvs,hk⟩ | ⟨kvs,hk⟩
    .obtain ⟨_,_,_,_,o,_,_,e,ex,_⟩:=I.hok p _ hk;exact⟨o,e,ex⟩
    .obtain ⟨_,_,_,_,o,_,_,e,ex,_⟩:=I.hok p _ hk;exact⟨o,e,ex⟩
   obtain⟨o,e,ex⟩:=z;refine⟨⟨o,e,ex.1⟩,λa e2=> ?_⟩;cases e2;exact⟨o,e,ex.2.1⟩
  .obtain ⟨o,_,_,_,e,ex,_⟩:=I.hok p _ hk;refine⟨⟨o,e,ex.1⟩,λa e2=> ?_⟩;cases e2;exact⟨o,e,ex.2.1⟩
 | _=>exact False.elim ty
def tBM(K:PySem.W.Frag)(T:String)(r:V->List V->Hp->VK->Prop)(to:TE)(t:TA):TE:=λσ H Q=>to σ H λx H1=>tyV K T x H1/\t σ H1 λxs H2=>r x xs H2 Q
variable{o e:Expr}{es:List Expr}{to:TE}{t:TA}{name:Str}{apos cpos:Pos}{T id:String}{r:V->List V->Hp->VK->Prop}
theorem cv(pa:PlainAttrs T)(slot:Slot T name id)(hty:typeOf (.builtin id)=pure (.type "method_descriptor"))(hm:MtR X id r)(ho:PE X o to)(ha:PA X (e::es) t)
  (hbase:attributeBase o name X.env (eval o X.env)=eval o X.env:=by rfl)
  (hfew:((backTo cpos (starEach (e::es) X.env)).all (λx=> !x.1) && (backToKw cpos (keywordEach [] X.env)).all (λx=>x.1.isSome)
   && decide ((e::es).length + ([]:List Keyword).length + (if ([]:List Keyword).isEmpty then 0 else 1) < 30))=true:=by rfl)
  (hline:(apos.endLine == cpos.line)=true:=by rfl) (hs:starEach (e::es) X.env=(false,eval e X.env)::starEach es X.env:=by rfl) (hplain:(backTo cpos (starEach es X.env)).any (·.1)=false:=by rfl):
  PE X (.Call (.Attribute o name apos) (e::es) [] cpos) (tBM X.K T r to t):=by
 intro pins s σ H Q I h;refine wpAny_Call_method_late hbase hfew hline rfl (ho.th I h λv s1 x H1 I1 r1 zz=> ?_);obtain⟨ty,q1⟩:=zz;obtain⟨h1,h2⟩:=Kk I1 r1 ty;refine⟨T,id,pa,slot,hty,h1,h2,?_⟩;have hA:=ha cpos pins s1 σ H1 _ I1 q1;rw[hs] at hA ⊢;refine Calls.callWith_builtin (by show(false || (backTo cpos (starEach es X.env)).any (·.1))=false;rw[hplain] <;> rfl) (Calls.evalArgs_plain ?_)
 exact thn hA λus s2 zz=>by obtain⟨vs,H2,I2,r2,q2⟩:=zz;exact hm pins s2 σ H2 x vs v us Q I2 r1 r2 q2
end
def MtM(X:Cx)(id:String)(r:V->List V->Hp->VK->Prop):Prop:=
 ∀(pins:List (Addr × Obj)) (s:Shared) (σ:St) (H:Hp) (x:V) (xs:List V) (v:Value) (us:List Value) (Q:VK),Inv X pins σ H s->RelV x v->Vals xs us->r x xs H Q→
  wpAny (model X.prog X.w) X.A (call (.builtin id) (v::us)) (EP X pins σ Q) X.xe s
theorem Vals.one:∀{x:V} {us:List Value},Vals [x] us->∃u,us=[u]/\RelV x u
 | _,_,.cons r .nil=>⟨_,rfl,r⟩
section
variable{X:Cx}{pins:List (Addr × Obj)}{σ:St}{H:Hp}{s:Shared}{l b:Addr}{xs ys zs:List V}
theorem Inv.Mc{its its':List Value}{n:Nat}{f:Array Value->Array Value}{t':Nat}(I:Inv X pins σ H s)(hH:H l=some (.lst xs))
  (e:s.heap.get? l=some { cls:= .type "list",data:= .seq its.toArray n}) (hf:f its.toArray=its'.toArray) (hv:Vals ys its') (hz:ys.length<=sizeLine):
  Inv X pins σ (upd H l (.lst ys)) { s with heap:=s.heap.update l (Obj.mapSeq f),toks:=t'}:=by
 have q:=PySem.IsL.update e f;rw[hf] at q;refine I.write (x:=l) (e:=l) (by rw[hH];exact trivial) (.inl rfl) (λb' u hb hu=>(Heap.get?_update_other s.heap (Obj.mapSeq f) (Ne.symm hb)).trans hu) ⟨_,q⟩ ?_;exact⟨hz,its',_,hv,q⟩
theorem Inv.JF{its:List Value}{t':Nat}(I:Inv X pins σ H s)(hv:Vals ys its)(hz:ys.length<=sizeLine):
  Inv X pins σ (upd H s.heap.objs.size (.lst ys)) { s with heap:=s.heap.push { cls:= .type "list",data:= .seq its.toArray},toks:=t'}:=
 I.laid (λ_ _ q=>Heap.get?_push_of_some _ q) (Nat.le_refl _) ⟨hz,its,0,hv,Heap.get?_push_size _ rfl⟩
theorem Inv.fresh(I:Inv X pins σ H s):H s.heap.objs.size=none:=I.hok.fresh (Nat.le_refl _)
theorem Inv.JA(I:Inv X pins σ H s)(hH:H l=some (.lst xs)):xs.length<=sizeLine/\∃(its:List Value) (n:Nat),Vals xs its/\xs.length=its.length/\s.heap.get? l=some { cls:= .type "list",data:= .seq its.toArray n}:=by
 obtain⟨z,its,n,r,e⟩:=I.hok l _ hH;exact⟨z,its,n,r,r.length,e⟩
end
section
variable{X:Cx}
def HK:V->List V->Hp->VK->Prop:=λx vs H Q=>∃l xs y,x=.ref l/\vs=[y]/\H l=some (.lst xs)/\xs.length < sizeLine/\Q .non (upd H l (.lst (xs++[y])))
theorem bI:MtM X "list.append" HK:=by
 intro pins s σ H x vs v us Q I rx rv h;obtain⟨l,xs,y,rfl,rfl,hH,hz,q⟩:=h;cases rx;obtain⟨u,rfl,ru⟩:=rv.one;obtain⟨z,its,n,r,hl,e⟩:=I.JA hH;refine call_meets F.slot_list_append ⟨_,e,rfl⟩ F.entry_list_append (F.args_list_append_2 _ _) (PySem.list_append l its.toArray n u (by rw[List.size_toArray];lia)) ⟨e,?_⟩;refine⟨.non,_,I.Mc (its':=its++[u]) hH e (by simp) (r.append (.cons ru .nil)) ?_,rfl,q⟩;rw[List.length_append,List.length_singleton]
 lia
def Lp:R2:=λx y H Q=>∃l b xs zs,x=.ref l/\y=.ref b/\H l=some (.lst xs)/\H b=some (.lst zs)/\xs.length + zs.length<=sizeLine/\∀p,H p=none->Q (.ref p) (upd H p (.lst (xs++zs)))
theorem dG:OpR X (binaryOp .Add) Lp:=by
 intro pins s σ H x y v u Q I rx ry h;obtain⟨l,b,xs,zs,rfl,rfl,hH,hB,hz,q⟩:=h;cases rx;cases ry;obtain⟨z,its,n,r,hl,e⟩:=I.JA hH;obtain⟨z2,its2,n2,r2,hl2,e2⟩:=I.JA hB;refine PySem.P.add_list e e2 ?_ (by rw[List.size_toArray,List.size_toArray];lia);have ea:its.toArray++its2.toArray=(its++its2).toArray:=by simp
 rw[ea];exact⟨.ref _,_,I.JF (t':=s.toks) (r.append r2) (by rw[List.length_append];lia),rfl,q _ I.fresh⟩
end
section
variable{κ:Type}[DecidableEq κ]
def lU(kvs:List (κ × V))(k:κ):Option V:=(kvs.find? λkv=>decide (kv.1=k)).map (·.2)
def putK(kvs:List (κ × V))(k:κ)(v:V):List (κ × V):=
 if (kvs.any λkv=>decide (kv.1=k))=true then kvs.map (λkv=>if kv.1=k then (kv.1,v) else kv) else kvs++[(k,v)]
theorem sI{p:κ × V}{r:List (κ × V)}{k:κ}(e:p.1=k):lU (p::r) k=some p.2:=by simp [lU,List.find?_cons,e]
theorem vb{p:κ × V}{r:List (κ × V)}{k:κ}(e:¬p.1=k):lU (p::r) k=lU r k:=by simp [lU,List.find?_cons,e]
theorem Ai(k:κ):∀kvs:List (κ × V),(kvs.any λkv=>decide (kv.1=k))=(lU kvs k).isSome
 | []=>rfl
 | p::r=>by
  rw[List.any_cons];by_cases e:p.1=k
  .simp only [sI e,decide_eq_true e,Bool.true_or,Option.isSome_some]
  .rw [vb e,decide_eq_false e,Bool.false_or];exact Ai k r
theorem q0(kvs:List (κ × V))(k:κ)(v:V):(putK kvs k v).length<=kvs.length + 1:=by
 unfold putK
 split
 .rw [List.length_map];lia
 .rw [List.length_append,List.length_cons,List.length_nil];lia
theorem oV.pJ{o:Option V}{u:Option Value}(r:oV o u):o.isSome=u.isSome:=by
 cases o with
 | none=>cases u with
  | none=>rfl
  | some _=>exact(show False from r).elim
 | some _=>cases u with
  | none=>exact(show False from r).elim
  | some _=>rfl
theorem KV.val{kvs:List (κ × V)}{vs:List (κ × Value)}(r:KV kvs vs)(k:κ):oV (lU kvs k) (valueAt vs k):=by
 unfold KV at r
 induction r with
 | nil=>exact True.intro
 | @cons p q ps qs h t ih=>
  obtain⟨h1,h2⟩:=h;by_cases e:p.1=k
  .have e':q.1=k:=h1.symm.trans e;have b:valueAt (q::qs) k=some q.2:=by simp [valueAt,List.find?_cons,e']
   rw[sI e,b];exact h2
  .have e':¬q.1=k:=λz=>e (h1.trans z);have b:valueAt (q::qs) k=valueAt qs k:=by simp [valueAt,List.find?_cons,e']
   rw[vb e,b];exact ih
theorem KV.any{kvs:List (κ × V)}{vs:List (κ × Value)}(r:KV kvs vs)(k:κ):(kvs.any λkv=>decide (kv.1=k))=vs.any λkv=>decide (kv.1=k):=by
 unfold KV at r
 induction r with
 | nil=>rfl
 | cons h t ih=>rw[List.any_cons,List.any_cons,ih,h.1]
theorem KV.JQ{kvs:List (κ × V)}{vs:List (κ × Value)}(r:KV kvs vs)(k:κ){y:V}{u:Value}(ry:RelV y u):
  KV (kvs.map λkv=>if kv.1=k then (kv.1,y) else kv) (vs.map λkv=>if kv.1=k then (kv.1,u) else kv):=by
 unfold KV at r ⊢
 induction r with
 | nil=>exact .nil
 | @cons p q ps qs h t ih=>
  rw[List.map_cons,List.map_cons];refine .cons ?_ ih;obtain⟨h1,h2⟩:=h;by_cases e:p.1=k
  .rw [if_pos e,if_pos (h1.symm.trans e)];exact⟨h1,ry⟩
  .rw [if_neg e,if_neg (λz=>e (h1.trans z))];exact⟨h1,h2⟩
theorem KV.put{kvs:List (κ × V)}{vs:List (κ × Value)}(r:KV kvs vs)(k:κ){y:V}{u:Value}(ry:RelV y u):KV (putK kvs k y) (stored vs k u):=by
 unfold putK stored;rw[r.any k];by_cases e:(vs.any λkv=>decide (kv.1=k))=true
 .rw [if_pos e,if_pos e];exact r.JQ k ry
 .rw [if_neg e,if_neg e];exact Paired.snoc r ⟨rfl,ry⟩
theorem KV.length{kvs:List (κ × V)}{vs:List (κ × Value)}(r:KV kvs vs):kvs.length=vs.length:=Paired.length r
end
theorem FF{P:Program}{w:World}{k:Key}{u:Value}(r:RelV (kV k) u):(dh P w).is k u=true:=by
 cases k with
 | inl i=>obtain⟨t,e⟩:=(show ∃t,u=Value.int i t from r);subst e;exact zo P w i t
 | inr x=>obtain⟨t,e⟩:=(show ∃t,u=Value.str x t from r);subst e;exact zA P w x t
theorem xg{P:Program}{w:World}:∀{ks:List Key} {us:List Value},Vals (ks.map kV) us->ItemsAre (dh P w) ks us
 | [],_,r=>by rw[List.map_nil] at r;cases r;exact .nil
 | k::ks,_,r=>by
  rw[List.map_cons] at r;cases r with
  | cons h t=>exact .cons (FF h) (xg t)
abbrev KT(H:Hp):List (List Key × V)->List (List Key × Addr × Value)->Prop:=Paired λp q=>p.1=q.1/\H q.2.1=some (.tup (p.1.map kV))/\RelV p.2 q.2.2
theorem KT.val{H:Hp}{kvs:List (List Key × V)}{xs:List (List Key × Addr × Value)}(r:KT H kvs xs)(k:List Key):oV (lU kvs k) ((atKey xs k).map (·.2)):=by
 induction r with
 | nil=>exact True.intro
 | @cons p q ps qs h t ih=>
  obtain⟨h1,_,h2⟩:=h;by_cases e:p.1=k
  .have e':q.1=k:=h1.symm.trans e;have b:atKey (q::qs) k=some q.2:=by simp [atKey,List.find?_cons,e']
   rw[sI e,b];exact h2
  .have e':¬q.1=k:=λz=>e (h1.trans z);have b:atKey (q::qs) k=atKey qs k:=by simp [atKey,List.find?_cons,e']
   rw[vb e,b];exact ih
theorem KT.JQ{H:Hp}{kvs:List (List Key × V)}{xs:List (List Key × Addr × Value)}(r:KT H kvs xs)(k:List Key){y:V}{u:Value}(ry:RelV y u):
  KT H (kvs.map λkv=>if kv.1=k then (kv.1,y) else kv) (xs.map (putAt k u)):=by
 induction r with
 | nil=>exact .nil
 | @cons p q ps qs h t ih=>
  rw[List.map_cons,List.map_cons];refine .cons ?_ ih;obtain⟨h1,h2,h3⟩:=h;unfold putAt;by_cases e:p.1=k
  .rw [if_pos e,if_pos (h1.symm.trans e)];exact⟨h1,h2,ry⟩
  .rw [if_neg e,if_neg (λz=>e (h1.trans z))];exact⟨h1,h2,h3⟩
theorem KT.put{H:Hp}{kvs:List (List Key × V)}{xs:List (List Key × Addr × Value)}(r:KT H kvs xs)(k:List Key){b:Addr}{y:V}{u:Value}(hb:H b=some (.tup (k.map kV)))(ry:RelV y u):
  KT H (putK kvs k y) (storedH xs k b u):=by
 have e:(kvs.any λkv=>decide (kv.1=k))=(atKey xs k).isSome:=by
  rw[Ai,(r.val k).pJ,Option.isSome_map]
 unfold putK storedH;rw[e];by_cases q:(atKey xs k).isSome=true
 .rw [if_pos q,if_pos q];exact r.JQ k ry
 .rw [if_neg q,if_neg q];exact Paired.snoc r ⟨rfl,hb,ry⟩
theorem KT.keeps{H H':Hp}{kvs:List (List Key × V)}{xs:List (List Key × Addr × Value)}(r:KT H kvs xs)(ht:∀b ys,H b=some (.tup ys)->H' b=some (.tup ys)):KT H' kvs xs:=
 Paired.Jy r λ_ _ z=>⟨z.1,ht _ _ z.2.1,z.2.2⟩
section
variable{P:Program}{w:World}{H:Hp}{h:Heap}{a:Addr}
theorem Jj{u:HO}(ok:HOk P w H h)(e:Rd H a u):dc P w H h a u:=e.ok ok
theorem Jl{kvs:List (Key × V)}(ok:HOk P w H h)(e:Rd H a (.dK kvs)):kvs.length<=sizeLine/\(a == sysModules)=false/\∃vs,KV kvs vs/\h.DictOf (dh P w) a vs:=
 show dc P w H h a (.dK kvs) from Jj ok e
theorem LU{kvs:List (Key × V)}(ok:HOk P w H h)(e:H a=some (.dK kvs)):kvs.length<=sizeLine/\(a == sysModules)=false/\∃vs,KV kvs vs/\h.DictOf (dh P w) a vs:=Jl ok (.inl e)
theorem AI{ks:List Key}(ok:HOk P w H h)(e:H a=some (.tup (ks.map kV))):(tupleKind (dh P w)).is h ks a:=by
 obtain⟨_,its,r,o,h1,h2,n,h3⟩:=(show dc P w H h a (.tup (ks.map kV)) from ok a _ e);exact⟨o,its.toArray,n,h1,h2,h3,by simpa using xg r⟩
theorem Jr{kvs:List (List Key × V)}(ok:HOk P w H h)(e:Rd H a (.dT kvs)):kvs.length<=sizeLine/\(a == sysModules)=false∧
  ∃xs,KT H kvs xs/\h.DictOfH (tupleKind (dh P w)) a xs:=by
 obtain⟨z,y,xs,r,o,es,ep,h1,h2,h3,h4,h5⟩:=(show dc P w H h a (.dT kvs) from Jj ok e);refine⟨z,y,xs,r,o,es,ep,h1,h2,h3,h4,λx hx=> ?_,h5⟩
 have all:∀{l:List (List Key × V)} {m:List (List Key × Addr × Value)},KT H l m->∀x∈m,(tupleKind (dh P w)).is h x.1 x.2.1:=by
  intro l m q
  induction q with
  | nil=>intro x hx;exact nomatch hx
  | @cons p q ps qs hq t ih=>
   intro x hx;rcases List.mem_cons.mp hx with e | hx
   .subst e;exact AI ok (by rw[<- hq.1];exact hq.2.1)
   .exact ih x hx
 exact all r x hx
theorem K1{kvs:List (List Key × V)}(ok:HOk P w H h)(e:H a=some (.dT kvs)):kvs.length<=sizeLine/\(a == sysModules)=false∧
  ∃xs,KT H kvs xs/\h.DictOfH (tupleKind (dh P w)) a xs:=Jr ok (.inl e)
end
def z7(H:Hp)(a:Addr)(y:V)(r:Option V):Prop:=
 (∃kvs k,Rd H a (.dK kvs)/\y=kV k/\r=lU kvs k)\/∃kvs k b,Rd H a (.dT kvs)/\y=.ref b/\H b=some (.tup (k.map kV))/\r=lU kvs k
def Gp(H:Hp)(a:Addr)(y v:V)(H':Hp):Prop:=
 (∃kvs k,H a=some (.dK kvs)/\y=kV k/\kvs.length < sizeLine/\H'=upd H a (.dK (putK kvs k v)))∨
 ∃kvs k b,H a=some (.dT kvs)/\y=.ref b/\H b=some (.tup (k.map kV))/\kvs.length < sizeLine/\H'=upd H a (.dT (putK kvs k v))
theorem z7.k{H:Hp}{a:Addr}{kvs:List (Key × V)}{k:Key}(e:H a=some (.dK kvs)):z7 H a (kV k) (lU kvs k):= .inl ⟨kvs,k,.inl e,rfl,rfl⟩
theorem Gp.k{H:Hp}{a:Addr}{kvs:List (Key × V)}{k:Key}{v:V}(e:H a=some (.dK kvs))(hl:kvs.length < sizeLine):Gp H a (kV k) v (upd H a (.dK (putK kvs k v))):= .inl ⟨kvs,k,e,rfl,hl,rfl⟩
section
variable{X:Cx}{pins:List (Addr × Obj)}{σ:St}{H:Hp}{s:Shared}{a:Addr}{y v:V}{u r:Value}{o:Option V}{A:Around}{E:Value->Shared->Prop}
theorem Inv.big(I:Inv X pins σ H s):sysModules < s.heap.objs.size:=by
 have h:mainGlobals < s.heap.objs.size:=(I.mod.glob.keeps I.bk).lt;exact Nat.lt_trans (by decide) h
theorem G4{Q:Value->Shared->Prop}(hu:A.units + 1 < cLine)(I:Inv X pins σ H s)(g:z7 H a y o)(ry:RelV y u)(h:∀s',Inv X pins σ H s'->Q (.bool (!o.isSome)) s'):
  wpAny (model X.prog X.w) A (compareOp .NotIn u (.ref a)) Q E s:=by
 rcases g with⟨kvs,k,e,ey,l⟩ | ⟨kvs,k,b,e,ey,eb,l⟩
 .subst ey;obtain⟨z,hd,vs,rel,dd⟩:=Jl I.hok e;refine wpAny_notIn_of (FF ry) hd dd.mapOf ?_;rw[<- (rel.val k).pJ,<-l];exact h _ (I.tok _)
 .subst ey;cases (show u=Value.ref b from ry);obtain⟨z,hd,xs,rel,dd⟩:=Jr I.hok e;refine wpAny_notIn_heap (tupleKind_room_in1 hu) (AI I.hok eb) hd dd ?_;have q:=(rel.val k).pJ;rw[Option.isSome_map] at q;rw[<- q,<-l];exact h _ (I.tok _)
theorem CJ{h':Heap}{t':Nat}{ob:HO}(I:Inv X pins σ H s)(mu:Mut (H a))(hs:Heap.SameBut a s.heap h')(he:∃q,h'.get? a=some q)(new:dc X.prog X.w (upd H a ob) h' a ob):
  Inv X pins σ (upd H a ob) { s with heap:=h',toks:=t'}:=
 I.write (x:=a) (e:=a) mu (.inl rfl) (λb q hb z=>(hs.2 b hb).trans z) he new
theorem Kp{P:Program}{w:World}{H':Hp}{h':Heap}{kvs:List (Key × V)}{vs:List (Key × Value)}(z:kvs.length<=sizeLine)(hd:(a == sysModules)=false)(rel:KV kvs vs)(dd:h'.DictOf (dh P w) a vs):
  dc P w H' h' a (.dK kvs):=⟨z,hd,vs,rel,dd⟩
theorem DJ{H':Hp}{Q:Unit->Shared->Prop}(hu:A.units + 1 < cLine)(I:Inv X pins σ H s)(g:Gp H a y v H')(ry:RelV y u)(rv:RelV v r)(h:∀s',Inv X pins σ H' s'->Q () s'):
  wpAny (model X.prog X.w) A (setItem (.ref a) u r) Q E s:=by
 rcases g with⟨kvs,k,e,ey,l,eH⟩ | ⟨kvs,k,b,e,ey,eb,l,eH⟩
 .subst ey eH;obtain⟨z,hd,vs,rel,dd⟩:=LU I.hok e;have hz:vs.length<=sizeLine:=by rw[<- rel.length];exact z
  have hl:(putK kvs k v).length<=sizeLine:=by have:=q0 kvs k v;lia
  refine wpAny_setItem_pairs (hsz:=hz) (FF ry) dd λh' dd' hs=>h _ ?_;have he:∃q,h'.get? a=some q:=let ⟨q,_,_,hq,_⟩:=dd';⟨q,hq⟩;exact CJ I (by rw[e];exact True.intro) hs he (Kp hl hd (rel.put k rv) dd')
 .subst ey eH;cases (show u=Value.ref b from ry);obtain⟨z,hd,xs,rel,dd⟩:=K1 I.hok e;have hz:xs.length<=sizeLine:=by rw[<- Paired.length rel];exact z
  have hl:(putK kvs k v).length<=sizeLine:=by have:=q0 kvs k v;lia
  refine wpAny_setItem_heap (hsz:=hz) (tupleKind_room_in1 hu) (AI I.hok eb) dd λh' dd' hs=>h _ ?_;obtain⟨q,es,ep,hq,h2,h3,h4,_,h5⟩:=dd';refine CJ I (by rw[e];exact True.intro) hs ⟨q,hq⟩ ⟨hl,hd,_,(rel.put k eb rv).keeps λc ys ec=> ?_,q,es,ep,hq,h2,h3,h4,h5⟩;rw[aq (K6 ec e (λz=>nomatch z))];exact ec
end
def Hu(ty td:TE):TE:=λσ H Q=>ty σ H λy H1=>td σ H1 λx H2=>∃a o,x=.ref a/\z7 H2 a y o/\Q (.bl (!o.isSome)) H2
def Lu(td ty tv:TE):TS:=λD σ H=>tv σ H λv H1=>td σ H1 λx H2=>ty σ H2 λy H3=>∃a H4,x=.ref a/\Gp H3 a y v H4/\D.nx σ H4
section
variable{X:Cx}{o i e value:Expr}{pos pos' tpos:Pos}{td ty tv:TE}
theorem wV(hu:X.A.units + 1 < cLine)(hi:PE X i ty)(ho:PE X o td):PC X .NotIn i o (Hu ty td):=by
 intro pins s σ H Q I h;refine hi.th I h λiv s1 y H1 I1 ry q1=>ho.th I1 q1 λu s2 x H2 I2 rx zz=> ?_;obtain⟨a,ov,ex,g,q2⟩:=zz;subst ex;obtain rfl:u=Value.ref a:=rx;exact G4 hu I2 g ry λs3 I3=>⟨.bl (!ov.isSome),H2,I3,rfl,q2⟩
theorem IJ(hu:X.A.units + 1 < cLine)(ho:PE X o td)(hi:PE X i ty)(hv:PE X value tv)(hs:swapsWith value (some (.Subscript o i pos')) pos.line X.env=pure false):
  PS X (.Assign [.Subscript o i pos'] value pos) (Lu td ty tv):=by
 intro pins s σ H D I h;refine wpAny_Assign_Subscript (hv.th I h λr s1 v H1 I1 rv q1=>ho.th I1 q1 λu s2 x H2 I2 rx q2=>hi.th I2 q2 λiv s3 y H3 I3 ry zz=> ?_) hs;obtain⟨a,H4,ex,g,q3⟩:=zz;subst ex;obtain rfl:u=Value.ref a:=rx;exact DJ hu I3 g ry rv λs4 I4=>⟨σ,H4,I4,q3⟩
end
theorem FD{P:Program}{w:World}{H:Hp}(h:Heap)(hb:sysModules < h.objs.size):dc P w H (h.push { cls:= .type "dict",data:= .dict #[]}) h.objs.size (.dK []):=
 ⟨Nat.zero_le _,beq_eq_false_iff_ne.mpr (Ne.symm (Nat.ne_of_lt hb)),[],.nil,Heap.DictOf.new h⟩
def Kl:TE:=λ_ H Q=>∀p,H p=none->Q (.ref p) (upd H p (.dK []))
section
variable{X:Cx}{pos:Pos}
theorem EK:PE X (.Dict [] [] pos) Kl:=λpins s σ H Q I h=>
 wpAny_Dict_empty ⟨.ref s.heap.objs.size,_,I.laid (a:=s.heap.objs.size) (o:= .dK []) (t':=s.toks) (λ_ _ q=>Heap.get?_push_of_some _ q) (Nat.le_refl _) (FD s.heap I.big),rfl,h _ (I.hok.fresh (Nat.le_refl _))⟩
end
end L2
namespace Att
open PySem PySem.W PySem.Calls PyProof.Rows
theorem rn{P:Params}{h:Heap}:∀(ns:List Int) (vs:List Value),WellAll P h vs (ns.map WData.int)->IntsAre vs ns:=by
 intro ns
 induction ns with
 | nil=>
  intro vs w;rw[List.map_nil] at w;cases w;exact .nil
 | cons n ns ih=>
  intro vs w;rw[List.map_cons] at w;cases w with
  | cons a b=>
   cases a;exact .cons _ _ (ih _ b)
theorem C7{l:OpenLaw}{n:Nat}(hn:l.most=some n){P:Params}{h:Heap}{args:List WData}{vals:List Value}
  (hpre:l.row.toRowW.claim.pre args=true) (hwl:WellAll P h vals args):
  ∃a vs ns,vals=[Value.ref a]/\args=[WData.list (ns.map WData.int)]/\h.get? a=some { cls:= .type "list",data:= .seq vs.toArray}/\IntsAre vs ns/\ns.length<=n:=by
 have hsh:WShape.hasAll [] args [.list .int]=true:=(pre_splitW hpre).1;have hc:l.pre.holds [] { args:=args}=true:=(pre_splitW hpre).2;obtain⟨d,r,rfl,h1,h2⟩:=hasAllW_cons hsh;obtain rfl:=hasAllW_nil h2;obtain⟨xs,rfl,h3⟩:=hasW_list h1;obtain⟨ns,rfl⟩:=items_int h3
 have hlen:ns.length<=n:=by
  unfold OpenLaw.pre at hc
  have h4:(WTm.not (.lt (.lit (.int (n:Int))) (.len (.arg 0)))).holds [] { args:=[.list (ns.map .int)]}=true:=by
   have h4:=(holds_andW hc).1;rw[hn] at h4;exact h4
  have h5:=condW_of h4 (w_not (w_lt w_lit (w_len_list (w_arg rfl))));rw[List.length_map] at h5;refine Nat.le_of_not_lt λq=> ?_;have q':(n:Int) < ((ns.length:Nat):Int):=by lia
  first
   | (rw[decide_eq_true q'] at h5;exact absurd h5 (by decide))
   | (simp at h5;lia)
 cases hwl with
 | cons w1 w2=>
  cases w2;cases w1 with
  | list ho hall=>exact⟨_,_,ns,rfl,rfl,ho,rn ns _ hall,hlen⟩
theorem D1(l:OpenLaw)(args:List WData):l.row.toRowW.claim.post args (.bool true) args=true:=
 postW_of (r:=l.row.toRowW) (X:=(true == true))
  (show WShape.has [] (.bool true) .bool=true by first | rfl | decide | simp [WShape.has,WShape.arms,WShape.armsAll])
  (show(WTm.eq .res (.lit (.bool true))).value [] { args:=args,res:=some (.bool true),after:=args}=some (.bool (true == true)) from w_eq_bool (w_res rfl) w_lit) rfl
theorem zC{l:OpenLaw}{n:Nat}{q:Program}{loose:List Str}{XP:(Str->Option Value)->Heap->Prop}{YP:World->Heap->Prop}{d:DefRec}
  (hn:l.most=some n) (hdf:d.params.defaults=[])
  (call:∀(w:World) (s₀ s₁:Shared) (mg mb:Str->Option Value) (fa:Addr) (o:Obj) (pm cd doc:Value) (a:Addr) (vs:List Value) (ns:List Int),
   Ground q loose [] XP w s₀ mg mb s₁.heap->YP w s₁.heap→
   s₁.heap.get? fa=some o->o.data=.func (docDef d.name d.params d.body d.scope pm cd doc)->s₁.heap.CodeRec cd d.name->mg d.name=some (.ref fa)→
   s₁.heap.get? a=some { cls:= .type "list",data:= .seq vs.toArray}->IntsAre vs ns->ns.length<=n->s₁.gens=#[]→
   codeAny (model l.prog w) callerA (.call (.ref fa) ⟨[.ref a],[]⟩) (λr s'=>r=.ok (.ret (.bool true))/\OldK s₁.heap s'.heap/\s'.os=s₁.os/\AllBare s'.gens) s₁):
  WalkO q loose XP YP l.row.toRowW d [] (λf vs=>PySem.call f vs):=by
 intro w s₀ s₁ mg mb G Y fa o pm cd doc dV kV ho hd hcd hD hmg hg args vals as hpre hlay hrd hwl hlo;obtain rfl:dV=.none:=Dflts.none hD hdf;obtain rfl:kV=.none:=Dflts.noKw hD;obtain⟨a,vs,ns,rfl,rfl,hobj,hints,hlen⟩:=C7 hn hpre hwl;refine enter_call (codeAny_mono (call w s₀ s₁ mg mb fa o pm cd doc a vs ns G Y ho (fd_plain hd) hcd hmg hobj hints hlen hg) λr s' hq=> ?_);obtain⟨rfl,h2,h3,h4⟩:=hq;exact⟨.inl ⟨.bool true,.bool true,[],rfl,λ_=>rfl,.bool true,D1 l _,λ_=>⟨List.Pairwise.nil,λ_ hm=>(nomatch hm)⟩⟩,h2,h3,h4⟩
end Att
namespace L2
open PySem PySem.Spec PyProof.Rows
theorem wW:∀{vs:List Value} {ns:List Int},IntsAre vs ns->Vals (ns.map V.int) vs
 | _,_,.nil=> .nil
 | _,_,.cons n t h=> .cons ⟨t,rfl⟩ (wW h)
def JV(H:Hp):Prop:=∀b,H b=none\/∃o xs,H b=some (.frz o (.lst xs))
theorem FY{P:Program}{w:World}{K:PySem.W.Frag}{mg mb:Str->Option Value}{CX:CXT}{k:Nat}{fa a:Addr}{fd:FuncData}{x:Str}{sp:Sp}{s₁:Shared}{vs:List Value}{ns:List Int}
  (KX:K.In s₁.heap) (hns:s₁.heap.Ns mainGlobals mg) (hb:s₁.heap.Ns builtinsNs mb) (hbb:∀x:Str,x≠"__name__"->mb x=bootBuiltins x) (hlim:s₁.heap.NoLimit) (hg:s₁.gens=#[])
  (ha:s₁.heap.get? a=some { cls:= .type "list",data:= .seq vs.toArray}) (hi:IntsAre vs ns) (hl:ns.length<=sizeLine) (hr:bJ cm k callerA)
  (F:∀base:Heap,K.In base->base.Ns mainGlobals mg->aB P w K mg base CX cm k fa fd [x] sp) (hbind:∀(s:Shared) (u:Value),BindsTo s fd ⟨[u],[]⟩ [(x,u)])
  (hsp:∀H:Hp,JV H->SqL K H a (ns.map V.int)->sp [.ref a] H (λv _=>v=.bl true) λ_ _ _=>False)
  (hCX:∀H e s',CX [] H s₁ (λ_ _ _=>False) e s'->False):
  codeAny (model P w) callerA (.call (.ref fa) ⟨[.ref a],[]⟩) (λr s'=>r=.ok (.ret (.bool true))/\OldK s₁.heap s'.heap/\s'.os=s₁.os/\AllBare s'.gens) s₁:=by
 have rv:=wW hi;have lenV:=hi.length
 have core:∀H:Hp,JV H->SqL K H a (ns.map V.int)->HOk P w H s₁.heap->(∀b,H b≠none->b=a)->(H a≠none->K.lookup a=none)→
   codeAny (model P w) callerA (.call (.ref fa) ⟨[.ref a],[]⟩) (λr s'=>r=.ok (.ret (.bool true))/\OldK s₁.heap s'.heap/\s'.os=s₁.os/\AllBare s'.gens) s₁:=by
  intro H hO hS hok hA hK;have base_of:∀{b:Addr} {o:Obj},s₁.heap.get? b=some o->H b=none->(yO s₁.heap H).get? b=some o:=λe n=>Fi e n
  have noA:∀{b:Addr} {o:Obj} {es:Array DictEntry} {ep:Nat},s₁.heap.get? b=some o->o.data=.dict es ep->H b=none:=λ{b o es ep} e d=>by
   cases q:H b with
   | none=>rfl
   | some u=>
    have e':b=a:=hA b (by rw[q];simp);subst e';rw[ha] at e;cases e;have d':Data.seq vs.toArray _=Data.dict es ep:=d;cases d'
  have nsK:∀{b:Addr} {m:Str->Option Value},s₁.heap.Ns b m->(yO s₁.heap H).Ns b m:=λ{b m} ⟨o,es,ep,e,d,r⟩=>⟨o,es,ep,base_of e (noA e d),d,r⟩
  have hKb:K.In (yO s₁.heap H):=λb o e=>base_of (KX b o e) (by
   cases q:H b with
   | none=>rfl
   | some u=>
    have e':b=a:=hA b (by rw[q];simp);subst e';rw[hK (by rw[q];simp)] at e;cases e)
  have hM:Mod K mg (yO s₁.heap H):=⟨hKb,nsK hns,⟨mb,nsK hb,hbb⟩,let ⟨mc,h1,h2⟩:=hlim;⟨mc,nsK h1,h2⟩⟩;have e0:A0 P w K mg (yO s₁.heap H) callerA [] s₁ H:=⟨rfl,hM,λb o e=>IV e,Nat.le_of_eq (D4 _ _),trivial,λb hb=>absurd (show b∈([]:List Addr) from hb) (by simp),hok,.of_eq hg⟩;refine codeAny_mono ((F _ hKb (nsK hns)).run callerA [] s₁ H ⟨[.ref a],[]⟩ [.ref a] [.ref a] _ _ hr e0 (hbind s₁ (.ref a)) (.cons rfl .nil) (hsp H hO hS)) λr s' h=> ?_;cases r with
  | error e=>exact(hCX H e s' h).elim
  | ok fl=>
   cases fl with
   | next=>exact False.elim h
   | brk=>exact False.elim h
   | cont=>exact False.elim h
   | ret u=>
    obtain⟨v,H',os,bare,un,hok',r',q⟩:=h;have q':v=.bl true:=q;subst q';obtain rfl:u=Value.bool true:=r';refine⟨rfl,OldK.of_keep λb o e=> ?_,os,bare⟩;cases q:H b with
    | none=>exact un.keep b o e q (by intro z;exact absurd (show b∈([]:List Addr) from z) (by simp)) (by simp)
    | some u=>
     rcases hO b with z | ⟨ob,xs,z⟩
     .rw [q] at z;cases z
     .have z2:=un.rJ b ob _ z;obtain⟨e1,_⟩:=hok b _ z;obtain⟨e2,_⟩:=hok' b _ z2;rw[e] at e1;cases e1;exact e2
 cases hk:K.lookup a with
 | some o=>
  have e:=KX a o hk;rw[ha] at e;cases e;refine core (λ_=>none) (λ_=> .inl rfl) (.inr ⟨_,vs.toArray,_,hk,rfl,rfl,rfl,by rw[List.size_toArray,lenV];exact hl,by simpa using rv⟩) (λb u z=>by have z':(none:Option HO)=some u:=z;cases z') (λb z=>absurd rfl z) λz=>absurd rfl z
 | none=>
  refine core (λb=>if b=a then some (.frz { cls:= .type "list",data:= .seq vs.toArray} (.lst (ns.map V.int))) else none) (λb=> ?_) (.inl (.inr ⟨{ cls:= .type "list",data:= .seq vs.toArray},if_pos rfl⟩)) (λb u z=> ?_) (λb z=> ?_) λ_=>hk
  .by_cases hb:b=a
   .exact .inr ⟨_,_,if_pos hb⟩
   .exact .inl (if_neg hb)
  .by_cases hb:b=a
   .have z':=(if_pos hb).symm.trans z;cases z';subst hb;exact⟨ha,by rw[List.length_map];exact hl,vs,_,rv,ha⟩
   .have z':=(if_neg hb).symm.trans z;cases z'
  .by_cases hb:b=a
   .exact hb
   .exact absurd (if_neg hb) z
theorem Hz{l:PySem.W.OpenLaw}{n k:Nat}{q:Program}{loose:List Str}{XP:(Str->Option Value)->Heap->Prop}{YP:World->Heap->Prop}{d:DefRec}{K:Params->PySem.W.Frag}{CX:World->CXT}{sp:World->Sp}{x:Str}
  (hn:l.most=some n) (hn2:n<=sizeLine) (hdf:d.params.defaults=[]) (hr:bJ cm k callerA)
  (hY:∀(w:World) (h:Heap),YP w h->(K w.params).In h)
  (F:∀(w:World) (mg:Str->Option Value) (fa:Addr) (h:Heap),(K w.params).In h->h.Ns mainGlobals mg->mg d.name=some (.ref fa)→
   ∃fd:FuncData,(∀(s:Shared) (u:Value),BindsTo s fd ⟨[u],[]⟩ [(x,u)])∧
    ∀base:Heap,(K w.params).In base->base.Ns mainGlobals mg->aB l.prog w (K w.params) mg base (CX w) cm k fa fd [x] (sp w))
  (hsp:∀(w:World) (H:Hp) (a:Addr) (ns:List Int),ns.length<=n->JV H->SqL (K w.params) H a (ns.map V.int)->sp w [.ref a] H (λv _=>v=.bl true) λ_ _ _=>False)
  (hCX:∀(w:World) (H:Hp) (s:Shared) (e:Value) (s':Shared),CX w [] H s (λ_ _ _=>False) e s'->False):
  PySem.W.WalkO q loose XP YP l.row.toRowW d [] (λf vs=>PySem.call f vs):=by
 refine Att.zC hn hdf λw s₀ s₁ mg mb fa o pm cd doc a vs ns G Y ho hd hcd hmg hobj hints hlen hg=> ?_;have KX:=hY w _ Y;obtain⟨fd,hb,hF⟩:=F w mg fa _ KX G.T.g hmg;exact FY KX G.T.g G.T.b G.T.builtins G.T.nolimit hg hobj hints (Nat.le_trans hlen hn2) hr hF hb (λH hO hS=>hsp w H a ns hlen hO hS) λH e s'=>hCX w H s₁ e s'
def gJ(s:Stmt):Arguments:=match s with
 | .FunctionDef _ a _ _ _ _ _ _ _ _=>a
 | _=>{ posonlyargs:=[],args:=[],vararg:=none,kwonlyargs:=[],kw_defaults:=[],kwarg:=none,defaults:=[]}
def aY(s:Stmt):List Stmt:=match s with
 | .FunctionDef _ _ b _ _ _ _ _ _ _=>b
 | _=>[]
def aj(s:Stmt):Scope:=match s with
 | .FunctionDef _ _ _ _ _ _ sc _ _ _=>sc
 | _=>{ kind:= .function,names:=[],isGenerator:=false,isCoroutine:=false}
theorem B3{A:Around}{k:Nat}(hr:bJ cm k A):A.units + 1 < cLine:=Nat.lt_of_le_of_lt (Nat.add_le_add_left (by decide:1<=64) _) hr.units
theorem aI{n:Nat}(h:n<=1000):n < sizeLine:=Nat.lt_of_le_of_lt h (by decide)
section
variable{X:Cx}
theorem pv(i:Nat){x:Str}{pos:Pos}(hN:X.N[i]? =some x:=by rfl)(hv:Vis X.env.scope x:=by first | exact Or.inl rfl | exact Or.inr (Or.inl rfl) | exact Or.inr (Or.inr rfl))(hd:(x == ("__debug__":Str))=false:=by decide)
  (hcd:(x == ("__classdict__":Str))=false:=by decide):PE X (.Name x pos) (K5 i):=Ko hN hv hd hcd
end
theorem aV{c A B:Prop}[Decidable c](h1:c->A)(h2:¬c->B):if c then A else B:=by
 by_cases h:c
 .rw [if_pos h];exact h1 h
 .rw [if_neg h];exact h2 h
def ay(H H':Hp):Prop:=∀b o,H b=some o->H' b=some o
theorem ay.refl(H:Hp):ay H H:=λ_ _ h=>h
theorem ay.trans{H H1 H2:Hp}(a:ay H H1)(b:ay H1 H2):ay H H2:=λc o h=>b c o (a c o h)
theorem ay.free{H H':Hp}(e:ay H H'){l:Addr}(h:H' l=Option.none):H l=Option.none:=by
 cases q:H l with
 | none=>rfl
 | some o=>
  rw[e l o q] at h;cases h
theorem ay.seq{K:PySem.W.Frag}{H H':Hp}{a:Addr}{xs:List V}(e:ay H H')(h:SqL K H a xs):SqL K H' a xs:=by
 rcases h with(h | ⟨o,h⟩) | h
 .exact .inl (.inl (e _ _ h))
 .exact .inl (.inr ⟨o,e _ _ h⟩)
 .exact .inr h
theorem exP{α:Sort _}{p r:α->Prop}{a:α}(e:p a)(h:r a):∃c,p c/\r c:=⟨a,e,h⟩
theorem ex2{α0:Sort _}{α1:Sort _}{R:α0->α1->Prop}(a:α0)(b:α1)(hh:R a b):∃a b,R a b:=⟨a,b,hh⟩
theorem ex3{α0:Sort _}{α1:Sort _}{α2:Sort _}{R:α0->α1->α2->Prop}(a:α0)(b:α1)(c:α2)(hh:R a b c):∃a b c,R a b c:=⟨a,b,c,hh⟩
theorem ex4{α0:Sort _}{α1:Sort _}{α2:Sort _}{α3:Sort _}{R:α0->α1->α2->α3->Prop}(a:α0)(b:α1)(c:α2)(d:α3)(hh:R a b c d):∃a b c d,R a b c d:=⟨a,b,c,d,hh⟩
theorem ex5{α0:Sort _}{α1:Sort _}{α2:Sort _}{α3:Sort _}{α4:Sort _}{R:α0->α1->α2->α3->α4->Prop}(a:α0)(b:α1)(c:α2)(d:α3)(e:α4)(hh:R a b c d e):∃a b c d e,R a b c d e:=⟨a,b,c,d,e,hh⟩
theorem ex7{α0:Sort _}{α1:Sort _}{α2:Sort _}{α3:Sort _}{α4:Sort _}{α5:Sort _}{α6:Sort _}{R:α0->α1->α2->α3->α4->α5->α6->Prop}(a:α0)(b:α1)(c:α2)(d:α3)(e:α4)(f:α5)(g:α6)(hh:R a b c d e f g):∃a b c d e f g,R a b c d e f g:=⟨a,b,c,d,e,f,g,hh⟩
theorem ex8{α0:Sort _}{α1:Sort _}{α2:Sort _}{α3:Sort _}{α4:Sort _}{α5:Sort _}{α6:Sort _}{α7:Sort _}{R:α0->α1->α2->α3->α4->α5->α6->α7->Prop}(a:α0)(b:α1)(c:α2)(d:α3)(e:α4)(f:α5)(g:α6)(h:α7)(hh:R a b c d e f g h):∃a b c d e f g h,R a b c d e f g h:=⟨a,b,c,d,e,f,g,h,hh⟩
theorem Er{α0:Sort _}{α1:Sort _}{α2:Sort _}{α3:Sort _}{α4:Sort _}{α5:Sort _}{α6:Sort _}{α7:Sort _}{α8:Sort _}{α9:Sort _}{R:α0->α1->α2->α3->α4->α5->α6->α7->α8->α9->Prop}(a:α0)(b:α1)(c:α2)(d:α3)(e:α4)(f:α5)(g:α6)(h:α7)(i:α8)(j:α9)(hh:R a b c d e f g h i j):∃a b c d e f g h i j,R a b c d e f g h i j:=⟨a,b,c,d,e,f,g,h,i,j,hh⟩
theorem an3{a b c:Prop}(ha:a)(hb:b)(hc:c):a/\b/\c:=⟨ha,hb,hc⟩
theorem an4{a b c d:Prop}(ha:a)(hb:b)(hc:c)(hd:d):a/\b/\c/\d:=⟨ha,hb,hc,hd⟩
theorem an5{a b c d e:Prop}(ha:a)(hb:b)(hc:c)(hd:d)(he:e):a/\b/\c/\d/\e:=⟨ha,hb,hc,hd,he⟩
theorem an6{a b c d e f:Prop}(ha:a)(hb:b)(hc:c)(hd:d)(he:e)(hf:f):a/\b/\c/\d/\e/\f:=⟨ha,hb,hc,hd,he,hf⟩
theorem an7{a b c d e f g:Prop}(ha:a)(hb:b)(hc:c)(hd:d)(he:e)(hf:f)(hg:g):a/\b/\c/\d/\e/\f/\g:=⟨ha,hb,hc,hd,he,hf,hg⟩
theorem an9{a b c d e f g h i:Prop}(ha:a)(hb:b)(hc:c)(hd:d)(he:e)(hf:f)(hg:g)(hh:h)(hi:i):a/\b/\c/\d/\e/\f/\g/\h/\i:=⟨ha,hb,hc,hd,he,hf,hg,hh,hi⟩
section
variable{K:PySem.W.Frag}{H:Hp}{f:Str}{a C dx:Addr}{fs:List (Str × V)}{v:V}
theorem jk{R:Addr->Addr->V->Prop}(h:H a=some (.ins C dx fs))(c:Cls K C)(n:bX K C f)(l:fs.lookup f=some v)(r:R a C v):∃a' C dx fs v,V.ref a=.ref a'/\H a'=some (.ins C dx fs)/\Cls K C/\bX K C f/\fs.lookup f=some v/\R a' C v:=⟨a,C,dx,fs,v,rfl,h,c,n,l,r⟩
theorem sY{R:Addr->Addr->Addr->List (Str × V)->Prop}(h:H a=some (.ins C dx fs))(c:Cls K C)(n:bX K C f)(l:fs.length < 1000)(r:R a C dx fs):∃a' C dx fs,V.ref a=.ref a'/\H a'=some (.ins C dx fs)/\Cls K C/\bX K C f/\fs.length < 1000/\R a' C dx fs:=⟨a,C,dx,fs,rfl,h,c,n,l,r⟩
theorem nc{Dt:Addr->Sp->List V->Prop}{sp:Sp}{dvs:List V}{R:Addr->Sp->List V->Prop}(h:H a=some (.ins C dx fs))(d:Dt C sp dvs)(l:fs.lookup f=none)(r:R a sp dvs):∃a' C dx fs sp dvs,V.ref a=.ref a'/\H a'=some (.ins C dx fs)/\Dt C sp dvs/\fs.lookup f=none/\R a' sp dvs:=⟨a,C,dx,fs,sp,dvs,rfl,h,d,l,r⟩
theorem DQ{R:V->Prop}{p:Addr}{xs:List V}{i:Int}{v:V}(s:SqL K H p xs)(e:atI xs i=some v)(r:R v):∃p' xs i' v,V.ref p=.ref p'/\V.int i=.int i'/\SqL K H p' xs/\atI xs i'=some v/\R v:=⟨p,xs,i,v,rfl,rfl,s,e,r⟩
end
theorem Inv.zW{X:Cx}{pins:List (Addr × Obj)}{σ:St}{H:Hp}{s:Shared}{a:Addr}{o:HO}(I:Inv X pins σ H s)(hn:H a=none)(ha:X.s₀.heap.get? a=none)(hL:a≠X.env.locals)
  (hc:∀x c,X.env.cells.lookup x=some c->c≠a) (hp:∀p∈X.pn++pins,p.1≠a) (new:dc X.prog X.w (upd H a o) s.heap a o):Inv X pins σ (upd H a o) s:=by
 refine⟨I.ok,I.os,I.bare,⟨I.base.keep,I.base.slot,λb ob q n hx=> ?_,I.base.there,λb xs q=> ?_,λb ob u q=> ?_,λb ps q=> ?_⟩,I.loc,I.cell,?_,λx c e=> ?_,λp hp'=> ?_,λb u e=> ?_,I.len⟩
 .rw [aq λz=>by rw[z,ha] at q;cases q];exact I.base.free b ob q n hx
 .have z:=I.base.uU b xs q;rw[aq (au z hn)];exact z
 .have z:=I.base.rJ b ob u q;rw[aq (au z hn)];exact z
 .obtain ⟨more,z⟩:=I.base.uJ b ps q;exact⟨more,by rw[aq (au z hn)];exact z⟩
 .rw [aq (Ne.symm hL)];exact I.free
 .rw [aq (hc x c e)];exact I.ed x c e
 .obtain ⟨h1,h2,h3⟩:=I.pin p hp';exact⟨h1,by rw[aq (hp p hp')];exact h2,h3⟩
 .by_cases hb:b=a
  .subst hb;rw[ae] at e;cases e;exact new
  .rw [aq hb] at e;exact(I.hok b u e).u5 (λ_ _ _ q=>q) (λc q=>by rw[aq (au q hn)];exact q) λc xs q=>by rw[aq (au q hn)];exact q
section
variable{prog:Program}{w:World}{A:Around}{R:Result->Shared->Prop}{s:Shared}
theorem pk{elt target iter:Expr}{ifs:List Expr}{scope:Scope}{pos:Pos}{it acc:Value}{env:Env}(I:Nat->Shared->Prop)
  (turn:∀n s,I n s->wpAny (model prog w) A (pyNext it) (λr s₁=>match r with
   | none=>R (.ok .next) s₁
   | some v=>wpAny (model prog w) A (letOwnedTupleGo target it v) (λ_ s₁'=>wpAny (model prog w) A (assign target env v) (λ_ s₂=>
     wpAny (model prog w) A (forIn ifs true λc r=>if r=true then do let ok<-isTrue c env (eval c env);pure (ForInStep.yield ok) else pure (ForInStep.yield r)) (λok s₃=>
      if ok=true then wpAny (model prog w) A (eval elt env) (λx s₄=>
       wpAny (model prog w) A (call (.builtin "list.append") [acc,x]) (λ_ s₅=>∃m,m < n/\I m s₅) (λ_ _=>False) s₄) (λ_ _=>False) s₃
      else ∃m,m < n/\I m s₃) (λ_ _=>False) s₂) (λ_ _=>False) s₁') (λ_ _=>False) s₁) (λ_ _=>False) s)
  (n:Nat) (h:I n s):
  codeAny (model prog w) A (.compLoop (.ListComp elt [⟨target,iter,ifs,0⟩] scope pos) 0 it acc env) R s:=by
 refine codeAny_loop rfl I (λn s hI=> ?_) n h;show wpAny _ A ((compTurn (.ListComp elt [⟨target,iter,ifs,0⟩] scope pos) 0 it acc env).onRaise (λx=>do noteFrame x env;theTreesLotGoes x)) _ _ s;refine wpAny_noted ?_;rw[compTurn_list];refine wpAny_bind (wpAny_standAt (wpAny_bind (wpAny_mono (turn n s hI) (λr s₁ h₁=> ?_) λ_ _ f=>f.elim)));cases r with
 | none=>exact wpAny_pure h₁
 | some v=>
  refine wpAny_bind (wpAny_mono h₁ (λ_ s₁' h₁'=> ?_) λ_ _ f=>f.elim);refine wpAny_bind (wpAny_mono h₁' (λ_ s₂ h₂=>wpAny_bind (wpAny_mono h₂ (λok s₃ h₃=> ?_) λ_ _ f=>f.elim)) λ_ _ f=>f.elim);cases ok with
  | false=>exact wpAny_pure ⟨rfl,h₃⟩
  | true=>
   exact wpAny_bind (wpAny_bind (wpAny_mono h₃ (λx s₄ h₄=>wpAny_bind (wpAny_mono h₄ (λ_ s₅ h₅=>wpAny_pure (wpAny_pure ⟨rfl,h₅⟩)) λ_ _ f=>f.elim)) λ_ _ f=>f.elim))
end
def PF(X:Cx)(ifs:List Expr)(t:TT):Prop:=
 ∀(pins:List (Addr × Obj)) (s:Shared) (σ:St) (H:Hp) (Q:Bool->Hp->Prop),Inv X pins σ H s->t σ H Q→
  wpAny (model X.prog X.w) X.A (forIn ifs true λc r=>if r=true then do let ok<-isTrue c X.env (eval c X.env);pure (ForInStep.yield ok) else pure (ForInStep.yield r)) (TP X pins σ Q) X.xe s
def L6:TT:=λ_ H Q=>Q true H
theorem pw{X:Cx}:PF X [] L6:=λ_ _ _ H _ I h=>wpAny_tests_nil ⟨H,I,h⟩
theorem JD{X:Cx}{c:Expr}{t:TT}(h:PT X c t):PF X [c] t:=λpins s σ H Q I q=>wpAny_tests_one (h pins s σ H Q I q)
def Cx.comp(X:Cx)(NC:List Str)(scope:Scope)(cl:List (Str × Addr))(C:Addr)(fp:List Addr)(s2:Shared)(H2:Hp):Cx:=
 { X with N:=NC,s₀:=s2,H₀:=H2,env:=compEnvC scope cl C X.env,outer:=X.stack,ex:=fp,fn:=λ_=>false,pn:=[],xe:=λ_ _=>False}
def vX{α:Type}(P:α->Prop):List α->Prop
 | []=>True
 | a::r=>P a/\vX P r
theorem vX.mem{α:Type}{P:α->Prop}:∀{l:List α},vX P l->∀a∈l,P a
 | _::_,⟨h,_⟩,_,.head _=>h
 | _::_,⟨_,t⟩,_,.tail _ m=>vX.mem t _ m
structure nF(X:Cx)(scope:Scope)(x:Str)(fr:List (Str × Nat))(cl:List (Str × Addr)):Prop where
 kind:scope.kind=.function
 Je:closureFor scope X.env=pure cl
 sD:∀y∈scope.names,y.2≠ .cell
 names:∀y∈scope.names,y.2=.local->scope.names.lookup y.1=some .local
 own:scope.names.lookup x=some .local
 nd:(x::fr.map (·.1)).Nodup
 cells:vX (λp:Str × Addr=>X.env.cells.lookup p.1=some p.2) cl
 has:vX (λy:Str × NameKind=>y.2=.free->∃c,cl.lookup y.1=some c) scope.names
 slot:vX (λp:Str × Nat=>X.N[p.2]? =some p.1/\(X.env.kindOf p.1=some .cell\/X.env.kindOf p.1=some .free)/\scope.names.lookup p.1=some .free/\cl.lookup p.1=X.env.cells.lookup p.1) fr
theorem nF.cell{X:Cx}{scope:Scope}{x:Str}{fr:List (Str × Nat)}{cl:List (Str × Addr)}(S:nF X scope x fr cl){y:Str}{c:Addr}(e:cl.lookup y=some c):X.env.cells.lookup y=some c:=
 S.cells.mem _ (PySem.mem_of_lookup e)
theorem jq{scope:Scope}{env:Env}{y:Str}:∀{l:List (Str × NameKind)} {k:NameKind},
  (l.map λ(n,k)=>if (k == NameKind.free && env.scope.kind == .function && env.kindOf n == some .cell) then (n,NameKind.cell) else (n,k)).lookup y=some k→
  ∃k0,l.lookup y=some k0/\(k=k0\/(k0=.free/\k=.cell))
 | [],_,h=>by simp at h
 | (n,k0)::r,k,h=>by
  have ih:=@jq scope env y r k;have h:List.lookup y ((if (k0 == NameKind.free && env.scope.kind == .function && env.kindOf n == some .cell)=true then (n,NameKind.cell) else (n,k0))::(r.map λ(n,k)=>if (k == NameKind.free && env.scope.kind == .function && env.kindOf n == some .cell) then (n,NameKind.cell) else (n,k)))=some k:=h;cases hx:y == n with
  | true=>
   refine⟨k0,by simp [List.lookup_cons,hx],?_⟩;by_cases hc:(k0 == NameKind.free && env.scope.kind == .function && env.kindOf n == some .cell)=true
   .rw [if_pos hc] at h;simp only [List.lookup_cons,hx] at h;simp only [Bool.and_eq_true,beq_iff_eq] at hc;exact .inr ⟨hc.1.1,(Option.some.inj h).symm⟩
   .rw [if_neg hc] at h;simp only [List.lookup_cons,hx] at h;exact .inl (Option.some.inj h).symm
  | false=>
   have h':List.lookup y (r.map λ(n,k)=>if (k == NameKind.free && env.scope.kind == .function && env.kindOf n == some .cell) then (n,NameKind.cell) else (n,k))=some k:=by
    by_cases hc:(k0 == NameKind.free && env.scope.kind == .function && env.kindOf n == some .cell)=true
    .rw [if_pos hc] at h;simpa only [List.lookup_cons,hx] using h
    .rw [if_neg hc] at h;simpa only [List.lookup_cons,hx] using h
   obtain⟨k1,e1,e2⟩:=ih h';exact⟨k1,by simpa [List.lookup_cons,hx] using e1,e2⟩
theorem oY{scope:Scope}{env:Env}{y:Str}:∀{l:List (Str × NameKind)},l.lookup y=some .free→
  (l.map λ(n,k)=>if (k == NameKind.free && env.scope.kind == .function && env.kindOf n == some .cell) then (n,NameKind.cell) else (n,k)).lookup y=some .free∨
  (l.map λ(n,k)=>if (k == NameKind.free && env.scope.kind == .function && env.kindOf n == some .cell) then (n,NameKind.cell) else (n,k)).lookup y=some .cell
 | [],h=>by simp at h
 | (n,k0)::r,h=>by
  have ih:=@oY scope env y r;show List.lookup y ((if (k0 == NameKind.free && env.scope.kind == .function && env.kindOf n == some .cell)=true then (n,NameKind.cell) else (n,k0))::_)=_\/List.lookup y ((if (k0 == NameKind.free && env.scope.kind == .function && env.kindOf n == some .cell)=true then (n,NameKind.cell) else (n,k0))::_)=_;cases hx:y == n with
  | true=>
   simp only [List.lookup_cons,hx] at h;cases h;by_cases hc:(NameKind.free == NameKind.free && env.scope.kind == .function && env.kindOf n == some .cell)=true
   .rw [if_pos hc];exact .inr (by simp [List.lookup_cons,hx])
   .rw [if_neg hc];exact .inl (by simp [List.lookup_cons,hx])
  | false=>
   simp only [List.lookup_cons,hx] at h;by_cases hc:(k0 == NameKind.free && env.scope.kind == .function && env.kindOf n == some .cell)=true
   .rw [if_pos hc];simpa only [List.lookup_cons,hx] using ih h
   .rw [if_neg hc];simpa only [List.lookup_cons,hx] using ih h
def inner(σ:St)(fr:List (Str × Nat))(v:Option V):St:=v::fr.map λp=>(σ[p.2]?).join
section
variable{X:Cx}{pins:List (Addr × Obj)}{σ:St}{H2:Hp}{s2:Shared}{scope:Scope}{x:Str}{fr:List (Str × Nat)}{cl:List (Str × Addr)}{C:Addr}{fp:List Addr}
theorem C1(S:nF X scope x fr cl)(I:Inv X pins σ H2 s2)(hC:s2.heap.objs.size<=C)(hf:∀b∈fp,cS X pins H2 b)(hfo:∀b∈fp,b < s2.heap.objs.size):
  (X.comp (x::fr.map (·.1)) scope cl C fp s2 H2).Ok where
 mod:=I.mod
 kind:=S.kind
 glob:=I.ok.glob
 blt:=I.ok.blt
 above:=hC
 inj:=λy z c h1 h2=>I.ok.inj y z c (S.cell h1) (S.cell h2)
 has:=λy hy=>by
  have hy:(relabel scope X.env).names.lookup y=some .cell\/(relabel scope X.env).names.lookup y=some .free:=hy
  have key:∀k,(relabel scope X.env).names.lookup y=some k->(k=.cell\/k=.free)->∃c,cl.lookup y=some c:=λk hk hkk=>by
   obtain⟨k0,e1,e2⟩:=jq (scope:=scope) hk;have hm:=PySem.mem_of_lookup e1
   have hfr:k0=.free:=by
    rcases e2 with e2 | e2
    .subst e2;rcases hkk with z | z
     .exact absurd z (S.sD _ hm)
     .exact z
    .exact e2.1
   exact S.has.mem _ hm hfr
  rcases hy with z | z
  .exact key _ z (.inl rfl)
  .exact key _ z (.inr rfl)
 cab:=λy c h _=>absurd (show(false:Bool)=true from h) (by decide)
 hd:=I.ok.hd
 frames:=I.ok.frames
 stk:= .inl rfl
 exf:=λb hb=>⟨Nat.ne_of_lt (Nat.lt_of_lt_of_le (hfo b hb) hC),λy c e=>(hf b hb).2.2.2.2.1 y c (S.cell e)⟩
 bs:=I.bs
 bsz:=Nat.le_trans I.ok.bsz I.sz
 uo:=λb o e hb=>by
  rcases(hf b hb).2.2.2.1 with z | z
  .exact I.ok.uo b o e z
  .have q:=(I.ok.bs b o e).1;rw[z] at q;cases q
 sC:=λb hb hm=>by
  rcases List.mem_cons.mp (I.yB b hm) with z | z
  .exact (hf b hb).2.1 z
  .exact (hf b hb).2.2.1 z
 ke:=I.stack
 frf:=I.rZ
theorem Fd{h1:Heap}{t1:Nat}(S:nF X scope x fr cl)(I:Inv X pins σ H2 s2)(hC:s2.heap.objs.size<=C)(hf:∀b∈fp,cS X pins H2 b)(hfo:∀b∈fp,b < s2.heap.objs.size)
  (old:∀b o,s2.heap.get? b=some o->h1.get? b=some o) (hn:h1.Ns C λ_=>none) {D:Addr} {oD:Obj} (hD:h1.get? D=some oD) (hDn:s2.heap.objs.size<=D) (hDC:D≠C) (hDc:∀v,oD.data≠ .cell v):
  Inv (X.comp (x::fr.map (·.1)) scope cl C fp s2 H2) [(D,oD)] (inner σ fr none) H2 { s2 with heap:=h1,toks:=t1} where
 ok:=C1 S I hC hf hfo
 os:=rfl
 bare:=I.bare
 base:=Un.kept old
 loc:=by
  refine⟨_,hn,λi y v e1 e2 e3=> ?_⟩;obtain⟨m,hm,hl⟩:=I.loc;cases i with
  | zero=>simp [inner] at e2
  | succ i=>
   have e1:(fr.map (·.1))[i]? =some y:=e1;have e2:(fr.map λp=>(σ[p.2]?).join)[i]? =some (some v):=e2;rw[List.getElem?_map] at e1 e2;cases q:fr[i]? with
   | none=>rw[q] at e1;cases e1
   | some p=>
    rw[q] at e1 e2;have e1:p.1=y:=Option.some.inj e1;have e2:(σ[p.2]?).join=some v:=Option.some.inj e2;subst e1;obtain⟨n1,n2,n3,n4⟩:=S.slot.mem p (List.mem_of_getElem? q)
    have e2':σ[p.2]? =some (some v):=by
     cases r:σ[p.2]? with
     | none=>rw[r] at e2;cases e2
     | some r0=>
      rw[r] at e2;cases r0 with
      | none=>cases e2
      | some r1=>rw[show r1=v from Option.some.inj e2]
    have vis:Vis X.env.scope p.1:=by
     rcases n2 with z | z
     .exact .inr (.inl z)
     .exact .inr (.inr z)
    obtain⟨u,ru,lk⟩:=hl p.2 p.1 v n1 e2' vis;refine⟨u,ru,.inr ⟨?_,?_⟩⟩
    .have:=oY (scope:=scope) (env:=X.env) n3;rcases this with z | z
     .exact .inr z
     .exact .inl z
    .rcases lk with⟨k,_⟩ | ⟨_,c,ec,ic⟩
     .rcases n2 with z | z <;> (rw[z] at k;cases k)
     .refine ⟨c,n4.trans ec,?_⟩;obtain⟨o,ho,hd⟩:=ic;exact⟨o,old _ _ ho,hd⟩
 cell:=λy c e=>by
  obtain⟨v,o,ho,hd⟩:=I.cell y c (S.cell e);exact⟨v,o,old _ _ ho,hd⟩
 free:=I.hok.fresh hC
 ed:=λy c e=>I.ed y c (S.cell e)
 pin:=λp hp=>by
  have hp:p=(D,oD):=by simpa [Cx.comp] using hp
  subst hp;refine⟨hD,I.hok.fresh hDn,hDC,λhm=> ?_,hDc⟩;obtain⟨_,o,ho,_⟩:=I.stack.mem (show D∈X.stack.filterMap (·.frame) from hm);exact absurd (Nat.lt_of_lt_of_le (Heap.lt_size ho) hDn) (Nat.lt_irrefl _)
 hok:=I.hok.kept old
 len:=by simp [inner,Cx.comp]
end
abbrev kf(its:List Value)(n:Nat):Obj:={ cls:= .type "list",data:= .seq its.toArray n}
def Fo(J:It)(σ:St)(fr:List (Str × Nat))(tf:TT)(te:TE)(H1:Hp)(Q:VK):Prop:=∃W:Nat->Nat->List V->Hp->Prop,(∃m,W 0 m [] H1)/\∀i m ys H',W i m ys H'→
 (J.stop i H'/\ys.length<=sizeLine/\∀p,H' p=none->Q (.ref p) (upd H' p (.lst ys)))∨
 (J.go i H'/\∃N:List V->Hp->Prop,(∀zs H5,N zs H5->∃m',m' < m/\W (i + 1) m' zs H5)/\∀v H2,J.yld i H' v H2->tf (inner σ fr (some v)) H2 λok H3=>
  if ok=true then te (inner σ fr (some v)) H3 λy H4=>ys.length < sizeLine/\N (ys++[y]) H4 else N ys H3)
def Jh(wi:TI)(fr:List (Str × Nat))(tf:TT)(te:TE):TE:=λσ H Q=>wi σ H λJ H1=>Fo J σ fr tf te H1 Q
section
variable{X:Cx}{scope:Scope}{x:Str}{fr:List (Str × Nat)}{cl:List (Str × Addr)}{px pos:Pos}{iter elt:Expr}{ifs:List Expr}{wi:TI}{tf:TT}{te:TE}
theorem Aa(S:nF X scope x fr cl)(hc:X.calm=true)
  (hf:∀C fp s2 H2,PF (X.comp (x::fr.map (·.1)) scope cl C fp s2 H2) ifs tf) (he:∀C fp s2 H2,PE (X.comp (x::fr.map (·.1)) scope cl C fp s2 H2) elt te)
  {pins:List (Addr × Obj)} {σ:St} {s2:Shared} {H2:Hp} {it:Addr} {fp:List Addr} {tn:Nat->Heap->Prop} {J:It} {Q:V->Hp->Prop} {E:Value->Shared->Prop} {RR:Value->Addr->Result->Shared->Prop}
  (I:Inv X pins σ H2 s2) (T:Turn X.prog X.w X.K (.Name x px) J fp it tn) (st:tn 0 s2.heap) (fo:∀b∈fp,cS X pins H2 b)
  (h:Fo J σ fr tf te H2 Q)
  (fin:∀D C m s' H',Inv X pins σ H' s'->s'.heap.Ns C m->cS X pins H' C->Q (.ref D) H'->RR (.ref D) C (.ok .next) s'):
  wpAny (model X.prog X.w) X.A (newList []) (λacc s₃=>wpAny (model X.prog X.w) X.A (newFunctionEnv scope X.env.globals cl [] X.env.qual none .none (some X.env)) (λcenv s₄=>
   codeAny (model X.prog X.w) X.A (.compStart (.ListComp elt [⟨.Name x px,iter,ifs,0⟩] scope pos) 0 (.ref it) acc { cenv with scope:=relabel scope X.env}) (RR acc cenv.locals) s₄) E s₃) E s2:=by
 obtain⟨W,⟨m0,w0⟩,turn⟩:=h;refine wpAny_newObj_type (wpAny_newFunctionEnv S.sD (by intro y hy;simp at hy) (λh₁ hns₁ hsb₁=> ?_) S.kind);dsimp only at hns₁ hsb₁ ⊢;generalize hH2:s2.heap.push { cls:= .type "list",dict:=none,data:= .seq ([]:List Value).toArray}=G2 at hns₁ hsb₁ ⊢;have hC:G2.objs.size=s2.heap.objs.size + 1:=by rw[<- hH2,Heap.size_push]
 have hDC:s2.heap.objs.size≠G2.objs.size:=by rw[hC];exact Nat.ne_of_lt (Nat.lt_succ_self _)
 have hCle:s2.heap.objs.size<=G2.objs.size:=by rw[hC];exact Nat.le_succ _
 have below:∀b,b < s2.heap.objs.size->b≠G2.objs.size:=λb hb=>by rw[hC];exact Nat.ne_of_lt (Nat.lt_succ_of_lt hb)
 have old:∀b o,s2.heap.get? b=some o->h₁.get? b=some o:=λb o e=>hsb₁.extBut b o (below b (Heap.lt_size e)) (Heap.get?_push_of_some _ (hH2 ▸ Heap.get?_push_of_some _ e));have hacc:h₁.get? s2.heap.objs.size=some (kf [] 0):=hsb₁.extBut _ _ hDC (Heap.get?_push_of_some _ (hH2 ▸ Heap.get?_push_size _ rfl))
 have fob:∀b∈fp,b < s2.heap.objs.size:=λb hb=>by
  obtain⟨o,e,_⟩:=T.obj _ _ st b hb;exact Heap.lt_size e
 generalize hDD:s2.heap.objs.size=D at *;generalize hCC:G2.objs.size=C at *;have nsE:(λy:Str=>([]:List (Str × Value)).reverse.lookup y)=λ_=>none:=rfl;have hns₁:h₁.Ns C λ_=>none:=hns₁;have IY:=Fd (t1:=s2.toks + ([]:List (Str × Value)).length) S I (C:=C) (by rw[hDD];exact hCle) fo (λb hb=>by rw[hDD];exact fob b hb) old hns₁ hacc (by rw[hDD];exact Nat.le_refl _) hDC (λv z=>by cases z);have st₁:tn 0 h₁:=T.keep _ _ _ st λb hb o e=>old b o e
 let Y:Cx:=X.comp (x::fr.map (·.1)) scope cl C fp s2 H2
 have fpY:∀{H':Hp} {oD:Obj},(∀b∈fp,H' b=none)->∀b∈fp,cS Y [(D,oD)] H' b:=λ{H' oD} hn b hb=>
  ⟨hn b hb,below b (fob b hb),λhm=>(C1 S I (C:=C) (by rw[hDD];exact hCle) fo (λb hb=>by rw[hDD];exact fob b hb)).sC b hb hm,.inl hb,λy c e=>(fo b hb).2.2.2.2.1 y c (S.cell e),λp hp=>by
   have hp:p=(D,oD):=by simpa [Y,Cx.comp] using hp
   subst hp;exact Nat.ne_of_gt (fob b hb)⟩
 have nNd:Y.N.Nodup:=S.nd;have pg:PG Y (.Name x px) (j0 0):=cz (i:=0) nNd rfl (.inl (lookup_relabel_local S.own)) (.inr (lookup_relabel_local S.own))
 have loop:∀s3:Shared,s3={ s2 with heap:=h₁,toks:=s2.toks + ([]:List (Str × Value)).length}→
   codeAny (model X.prog X.w) X.A (.compLoop (.ListComp elt [⟨.Name x px,iter,ifs,0⟩] scope pos) 0 (.ref it) (.ref D) (compEnvC scope cl C X.env)) (RR (.ref D) C) s3:=by
  rintro s3 rfl;refine pk (λn s'=>∃i v H' ys its k,Inv Y [(D,kf its k)] (inner σ fr v) H' s'/\tn i s'.heap/\(∀b∈fp,H' b=none)/\Vals ys its/\W i n ys H') ?_ m0 ⟨0,none,H2,[],[],0,IY,st₁,λb hb=>(fo b hb).1,.nil,w0⟩;rintro n s3 ⟨i,v0,H3,ys,its,k,I3,st3,fr3,vs3,w3⟩;rcases turn i n ys H3 w3 with⟨stop,hz,qn⟩ | ⟨go,N,hN,step⟩
  .refine thn (T.done Y rfl rfl rfl hc i _ s3 _ H3 _ I3 (fpY fr3) st3 stop) λr s4 zz=> ?_;obtain⟨hr,I4⟩:=zz;subst hr;have pD:=I4.pin (D,kf its k) (List.mem_append_right _ (List.mem_singleton.mpr rfl));obtain⟨mC,hmC,_⟩:=I4.loc;have nC:H3 C=none:=I4.free;have IX:Inv X pins σ H3 s4:=I.Ga I4.os I4.base I4.hok I4.bare λb hb=>⟨(fo b hb).2.2.2.1,(fo b hb).2.1,(fo b hb).2.2.2.2.1,(fo b hb).2.2.2.2.2⟩;have lt2:∀{b:Addr},b < D->b < s2.heap.objs.size:=λh=>by rw[hDD];exact h
   have nL:∀a,D<=a->a≠X.env.locals/\(∀y c,X.env.cells.lookup y=some c->c≠a)/\(∀p∈X.pn++pins,p.1≠a)/\a∉X.fs:=λa ha=>by
    have ha':s2.heap.objs.size<=a:=by rw[hDD];exact ha
    have z:=I.vV (H':=H2) ha' (I.hok.fresh ha');exact⟨z.2.1,z.2.2.2.2.1,z.2.2.2.2.2,z.2.2.1⟩
   have sz:∀a,D<=a->X.s₀.heap.get? a=none:=λa ha=>Heap.get?_none_of_le (Nat.le_trans I.sz (by rw[hDD];exact ha));obtain⟨d1,d2,d3,d4⟩:=nL D (Nat.le_refl _);have IT:=IX.zW (a:=D) (o:= .lst ys) pD.2.1 (sz D (Nat.le_refl _)) d1 d2 d3 ⟨hz,its,k,vs3,pD.1⟩;obtain⟨c1,c2,c3,c4⟩:=nL C hCle;exact fin D C mC s4 _ IT hmC ⟨by rw[aq (Ne.symm hDC)];exact nC,c1,c4,.inr (sz C hCle),c2,c3⟩ (qn D pD.2.1)
  .refine thn (T.item Y rfl rfl rfl hc i _ s3 _ H3 _ I3 (fpY fr3) st3 go) λr s4 zz=> ?_;obtain⟨u,hr,h4⟩:=zz;subst hr;refine thn h4 λ_ s5 zz=> ?_;obtain⟨v,H5,I5,r5,y5,st5,fr5⟩:=zz;have I5':=I5.pinned (fpY fr5) (T.obj _ _ st5);have ev:(inner σ fr v0).set 0 (some v)=inner σ fr (some v):=rfl;refine thn (pg _ s5 _ H5 v u _ I5' r5 (show j0 0 v (inner σ fr v0) H5 (λσ6 H6=>σ6=inner σ fr (some v)/\H6=H5) from⟨ev,rfl⟩)) λ_ s6 zz=> ?_;obtain⟨σ6,H6,I6,e6,e6'⟩:=zz;subst e6;subst e6';refine thn (hf C fp s2 H2 _ s6 _ _ _ I6 (step v _ y5)) λok s7 zz=> ?_;obtain⟨H7,I7,q7⟩:=zz
   have back:∀{vv:Option V} {H':Hp} {s':Shared} {its':List Value} {k':Nat},Inv Y ([(D,kf its' k')]++eF fp s5.heap) (inner σ fr vv) H' s'->Inv Y [(D,kf its' k')] (inner σ fr vv) H' s'/\tn (i + 1) s'.heap/\∀b∈fp,H' b=none:=λ{vv H' s' its' k'} J'=>by
    refine⟨J'.kh,T.keep _ _ _ st5 λb hb o e=>(J'.pin (b,o) (List.mem_append_right _ (List.mem_append_right _ (eV hb e)))).1,λb hb=> ?_⟩;obtain⟨o,e,d⟩:=T.obj _ _ st5 b hb;exact(J'.pin (b,o) (List.mem_append_right _ (List.mem_append_right _ (eV hb e)))).2.1
   cases ok with
   | false=>
    obtain⟨m',hm,w7⟩:=hN _ _ q7;obtain⟨J1,J2,J3⟩:=back I7;exact⟨m',hm,i + 1,some v,H7,ys,its,k,J1,J2,J3,vs3,w7⟩
   | true=>
    refine thn (he C fp s2 H2 _ s7 _ _ _ I7 q7) λuy s8 zz=> ?_;obtain⟨y,H8,I8,r8,q8⟩:=zz;obtain⟨hz,q8⟩:=q8;obtain⟨m',hm,w8⟩:=hN _ _ q8;have pD:=I8.pin (D,kf its k) (List.mem_append_right _ (List.mem_append_left _ (List.mem_singleton.mpr rfl)));have hlen:=vs3.length;refine call_meets F.slot_list_append ⟨_,pD.1,rfl⟩ F.entry_list_append (F.args_list_append_2 _ _) (PySem.list_append D its.toArray k uy (by rw[List.size_toArray];lia)) ⟨pD.1,?_⟩;have q:=PySem.IsL.update pD.1 (·.push uy);have eq1:its.toArray.push uy=(its++[uy]).toArray:=by simp
    rw[eq1] at q;obtain⟨k',q⟩:∃k',(s8.heap.update D (Obj.mapSeq (·.push uy))).get? D=some (kf (its++[uy]) k'):=⟨_,q⟩;have oth:∀b o,b≠D->s8.heap.get? b=some o->(s8.heap.update D (Obj.mapSeq (·.push uy))).get? b=some o:=λb o hb e=>(Heap.get?_update_other s8.heap _ (Ne.symm hb)).trans e;have I8':Inv Y (eF fp s5.heap) (inner σ fr (some v)) H8 s8:=I8.lA λp hp=>I8.pin p (List.mem_append_right _ (List.mem_append_right _ hp))
    have nDp:∀p∈Y.pn++eF fp s5.heap,p.1≠D:=λp hp=>by
     have hp:p∈eF fp s5.heap:=by simpa [Y,Cx.comp] using hp
     exact Nat.ne_of_lt (fob _ (qD hp).1)
    have nDc:∀y c,Y.env.cells.lookup y=some c->c≠D:=λy c e z=>by
     obtain⟨vv,o,ho,hd⟩:=I8.cell y c e;rw[z,pD.1] at ho;cases ho;cases hd
    have I9:=I8'.turned (t':=s8.toks) (it:=D) oth pD.2.1 hDC (.inr (by show s2.heap.get? D=none;exact Heap.get?_none_of_le (by rw[hDD];exact Nat.le_refl _))) nDc nDp
    have I10:Inv Y ([(D,kf (its++[uy]) k')]++eF fp s5.heap) (inner σ fr (some v)) H8 { s8 with heap:=s8.heap.update D (Obj.mapSeq (·.push uy)),toks:=s8.toks}:=I9.lA λp hp=>by
     rcases List.mem_append.mp hp with z | z
     .have z:p=(D,kf (its++[uy]) k'):=List.mem_singleton.mp z;subst z;exact⟨q,pD.2.1,hDC,pD.2.2.2.1,λvv z=>by cases z⟩
     .exact I9.pin p (List.mem_append_right _ z)
    obtain⟨J1,J2,J3⟩:=back I10;exact⟨m',hm,i + 1,some v,H8,ys++[y],its++[uy],k',J1,J2,J3,vs3.append (.cons r8 .nil),w8⟩
 exact codeAny_compStart_list (loop _ rfl) (T.self _ 0 _ _ _ st₁ (loop _ rfl))
theorem y4(S:nF X scope x fr cl)(hc:X.calm=true)(hi:PI X (.Name x px) iter wi)
  (hf:∀C fp s2 H2,PF (X.comp (x::fr.map (·.1)) scope cl C fp s2 H2) ifs tf) (he:∀C fp s2 H2,PE (X.comp (x::fr.map (·.1)) scope cl C fp s2 H2) elt te)
  (hs:∀v,foldedSetIterable iter X.env v=pure v:=by intro _;rfl):PE X (.ListComp elt [⟨.Name x px,iter,ifs,0⟩] scope pos) (Jh wi fr tf te):=by
 intro pins s σ H Q I h;rw[eval_ListComp];refine wpAny_comprehension_free (use:=none) rfl hs S.Je S.kind S.names (thn (hi pins s σ H _ I h) λv s1 h1=>thn h1 λitv s2 h2=> ?_);obtain⟨it,fp,tn,J,H2,e,I2,T,st2,f2,h2⟩:=h2;subst e;refine Aa (Q:=Q) (RR:=λacc C=>compPost (model X.prog X.w) X.A X.xe none (EP X pins σ Q) acc C) S hc hf he I2 T st2 f2 h2 ?_;intro D C m s' H' I' hm fC q;refine⟨m,hm,λh' sb=> ?_⟩;exact⟨.ref D,H',I'.turned (t':=s'.toks) (λb o hb e=>(sb.2 b hb).trans e) fC.1 fC.2.1 fC.2.2.2.1 fC.2.2.2.2.1 fC.2.2.2.2.2,rfl,q⟩
theorem m9{y:Str}{py spos:Pos}{j:Nat}(hN:X.N.Nodup)(hj:X.N[j]? =some y)(hy:Loc X.env.scope y)(S:nF X scope x fr cl)(hc:X.calm=true)(hi:PI X (.Name x px) iter wi)
  (hf:∀C fp s2 H2,PF (X.comp (x::fr.map (·.1)) scope cl C fp s2 H2) ifs tf) (he:∀C fp s2 H2,PE (X.comp (x::fr.map (·.1)) scope cl C fp s2 H2) elt te)
  (hsw:swapsWith (.ListComp elt [⟨.Name x px,iter,ifs,0⟩] scope pos) (some (.Name y py)) spos.line X.env=pure true:=by rfl)
  (hfn:X.fn y=true\/X.env.scope.names.lookup y=some .local:=by first | exact .inl rfl | exact .inr rfl | assumption)
  (hs:∀v,foldedSetIterable iter X.env v=pure v:=by intro _;rfl):PS X (.Assign [.Name y py] (.ListComp elt [⟨.Name x px,iter,ifs,0⟩] scope pos) spos) (GJ (Jh wi fr tf te) (j0 j)):=by
 intro pins s σ H D I h;rw[exec_Assign_Name_used _ _ _ _ hsw];refine wpAny_bind (wpAny_standAt (wpAny_bind ?_));show wpAny _ X.A (do let _<-comprehension (.ListComp elt [⟨.Name x px,iter,ifs,0⟩] scope pos) scope X.env _ (newList []) false (eval iter X.env) (some (assign (.Name y py) X.env))) _ _ s
 refine wpAny_bind (wpAny_mono (wpAny_comprehension_free (use:=some (assign (.Name y py) X.env)) (Q:=λ_ s'=>SP X pins D .next s') rfl hs S.Je S.kind S.names
  (thn (hi pins s σ H _ I h) λv s1 h1=>thn h1 λitv s2 h2=> ?_)) (λ_ s' hq=>wpAny_pure (wpAny_pure hq)) λ_ _ e=>e)
 obtain⟨it,fp,tn,J,H2,e,I2,T,st2,f2,h2⟩:=h2;subst e;refine Aa (Q:=λv H'=>j0 j v σ H' D.nx) (RR:=λacc C=>compPost (model X.prog X.w) X.A X.xe (some (assign (.Name y py) X.env)) (λ_ s'=>SP X pins D .next s') acc C) S hc hf he I2 T st2 f2 h2 ?_;intro D' C m s' H' I' hm fC q;show wpAny _ X.A (assign (.Name y py) X.env (.ref D')) _ _ _;refine wpAny_assign_Name (pB I' hN hj hy (show RelV (.ref D') (.ref D') from rfl) (λs3 I3 zz=> ?_) hfn);obtain⟨a,sb,ha⟩:=zz
 have nCa:C≠a:=by
  rcases ha with z | z
  .rw [z];exact fC.2.1
  .exact λw=>fC.2.2.2.2.1 y a z w.symm
 refine⟨m,hm.sameBut sb nCa,λh' sb'=> ?_⟩;exact⟨_,H',I3.turned (t':=s3.toks) (λb o hb e=>(sb'.2 b hb).trans e) fC.1 fC.2.1 fC.2.2.2.1 fC.2.2.2.2.1 fC.2.2.2.2.2,q⟩
end
theorem ff{J:It}{n:Nat}{σ:St}{fr:List (Str × Nat)}{tf:TT}{te:TE}{H:Hp}{Q:VK}(Pv:Nat->List V->Hp->Prop)(h0:Pv 0 [] H)(go:∀i ys H',i < n->Pv i ys H'->J.go i H')(stop:∀ys H',Pv n ys H'->J.stop n H')
  (step:∀i ys H' v H2,i < n->Pv i ys H'->J.yld i H' v H2->tf (inner σ fr (some v)) H2 λok H3=>if ok=true then te (inner σ fr (some v)) H3 λy H4=>ys.length < sizeLine/\Pv (i + 1) (ys++[y]) H4 else Pv (i + 1) ys H3)
  (fin:∀ys H',Pv n ys H'->ys.length<=sizeLine/\∀p,H' p=none->Q (.ref p) (upd H' p (.lst ys))):
  Fo J σ fr tf te H Q:=by
 refine⟨λi m ys H'=>Pv i ys H'/\i<=n/\m=n - i,⟨n,h0,Nat.zero_le _,rfl⟩,?_⟩;rintro i m ys H' ⟨hp,hi,rfl⟩;by_cases e:i=n
 .subst e;obtain⟨f1,f2⟩:=fin ys H' hp;exact .inl ⟨stop ys H' hp,f1,f2⟩
 .have hlt:i < n:=Nat.lt_of_le_of_ne hi e;exact .inr ⟨go i ys H' hlt hp,λzs H5=>Pv (i + 1) zs H5,λzs H5 q=>⟨n - (i + 1),by omega,q,hlt,rfl⟩,λv H2 y=>step i ys H' v H2 hlt hp y⟩
def xV(h:Heap)(e:Addr)(cls:Value)(d:Option Addr):Option (Addr × Value)->Prop
 | none=>∃oe vs,h.get? e=some oe/\oe.cls=cls/\oe.dict=d/\oe.data=.fields vs/\vs[1]? =some .none
 | some (T,fl)=>T≠e/\(∃oe vs,h.get? e=some oe/\oe.cls=cls/\oe.dict=d/\oe.data=.fields vs/\vs[1]? =some (.ref T))/\∃oT ts,h.get? T=some oT/\oT.data=.fields ts/\ts[3]? =some fl
structure Nt(fs ch:List Addr)(h h':Heap):Prop where
 keep:∀b o,b∉fs->b∉ch->h.get? b=some o->h'.get? b=some o
 slot:∀b o,b∉ch->h.get? b=some o->∃sl,h'.get? b=some { o with slots:=sl}
theorem Nt.refl(fs ch:List Addr)(h:Heap):Nt fs ch h h:=⟨λ_ _ _ _ e=>e,λ_ o _ e=>⟨o.slots,e⟩⟩
theorem Nt.trans{fs ch:List Addr}{h h1 h2:Heap}(a:Nt fs ch h h1)(b:Nt fs ch h1 h2):Nt fs ch h h2:=
 ⟨λc o h1 h2 e=>b.keep c o h1 h2 (a.keep c o h1 h2 e),λc o hc e=>by
  obtain⟨_,e1⟩:=a.slot c o hc e;obtain⟨sl,e2⟩:=b.slot c _ hc e1;exact⟨sl,e2⟩⟩
theorem Nt.mono{fs ch ch':List Addr}{h h':Heap}(a:Nt fs ch h h')(s:∀b∈ch,b∈ch'):Nt fs ch' h h':=
 ⟨λc o h1 h2 e=>a.keep c o h1 (λz=>h2 (s c z)) e,λc o hc e=>a.slot c o (λz=>hc (s c z)) e⟩
section
variable{M:Model}{A:Around}{E:Value->Shared->Prop}{s:Shared}{base:Heap}{env:Env}{outer:List Env}{L e:Addr}
theorem qp{T:Addr}{oT:Obj}{ts:Array Value}{k:Nat}{v:Value}{Q:Unit->Shared->Prop}(hT:s.heap.get? T=some oT)(hd:oT.data=.fields ts)(hk:k < ts.size)
  (h:∀h',h'.get? T=some (oT.mapFields (·.setIfInBounds k v))->(∀b,b≠T->h'.get? b=s.heap.get? b)->h'.objs.size=s.heap.objs.size->Q () { s with heap:=h'}):wpAny M A (setField (.ref T) k v) Q E s:=by
 refine wpAny_setField hT hd hk (h _ ?_ (λb hb=>Heap.get?_update_other _ _ (Ne.symm hb)) (Heap.size_after_update ..));exact Heap.get?_update_self _ hT (Obj.isFreed_of_fields (Obj.data_mapFields hd _))
theorem vd{oe:Obj}{vs:Array Value}{head:Value}{had:Bool}{Q:Unit->Shared->Prop}(hfr:A.frames=some (env::outer))(hl:s.heap.FunFrames base (env::outer))(hf:env.frame=some L)
  (he:s.heap.get? e=some oe) (hd:oe.data=.fields vs) (hsz:1 < vs.size)
  (h:∀h' T oT ts,Nt (frs (env::outer)) [e] s.heap h'->s.heap.get? T=none->s.heap.objs.size<=T->h'.get? e=some (oe.mapFields (·.setIfInBounds 1 (.ref T)))->h'.get? T=some oT->oT.data=.fields ts→
   ts[3]? =some (rawInt L)->Q () { s with heap:=h'}):
  wpAny M A (do let a<-frameOf env;let pl<-entryPlaceOf L had;let b<-EntryCells.newEntry head a .none (rawInt L) .none pl;setField (.ref e) 1 b) Q E s:=by
 have ne:e∉frs (env::outer):=λhm=>by
  obtain⟨_,o,ho,nf⟩:=hl.mem hm;rw[he] at ho;cases ho;exact nf vs hd
 refine wpAny_bind (wpAny_frameOf_fun hfr hl hf λh1 s1=>wpAny_bind (wpAny_entryPlaceOf λpl hpl=> ?_));unfold EntryCells.newEntry newFields;refine wpAny_bind (wpAny_newObj_type ?_ (hpl.sizeOk5 _ _ _ _ _));have e1:h1.get? e=some oe:=(s1.2.1 e ne).trans he;have neT:h1.objs.size≠e:=Nat.ne_of_gt (Heap.lt_size e1);refine qp (Heap.get?_push_of_some _ e1) hd hsz λh2 g1 g2 _=> ?_;refine h h2 h1.objs.size _ _ ⟨λb o hb hc q=> ?_,λb o hc q=> ?_⟩ (Heap.get?_none_of_le (by rw[s1.1];exact Nat.le_refl _)) (by rw[s1.1];exact Nat.le_refl _) g1 ((g2 _ neT).trans (Heap.get?_push_size _ rfl)) rfl ?_
 .have hb':b≠e:=λz=>hc (by rw[z];exact List.mem_singleton.mpr rfl);rw[g2 b hb'];exact Heap.get?_push_of_some _ ((s1.2.1 b hb).trans q)
 .have hb':b≠e:=λz=>hc (by rw[z];exact List.mem_singleton.mpr rfl);obtain⟨sl,z⟩:=s1.2.2 b o q;exact⟨sl,by rw[g2 b hb'];exact Heap.get?_push_of_some _ z⟩
 .first | (simp;done) | (rcases hpl with rfl | ⟨_,_,_,_,_,_,_,rfl⟩ <;> simp)
def EW(L:Addr):Option (Addr × Value)->Prop
 | none=>True
 | some (_,fl)=>fl=.none\/fl=rawInt L
def AY:Option (Addr × Value)->List Addr
 | none=>[]
 | some (T,_)=>[T]
theorem Fg{cls:Value}{d:Option Addr}{tr:Option (Addr × Value)}{Q:Unit->Shared->Prop}(hfr:A.frames=some (env::outer))(hl:s.heap.FunFrames base (env::outer))(hf:env.frame=some L)
  (x:xV s.heap e cls d tr) (hk:EW L tr)
  (h:∀h' T',Nt (frs (env::outer)) (e::AY tr) s.heap h'->(T'∈AY tr\/(s.heap.get? T'=none/\s.heap.objs.size<=T'))->xV h' e cls d (some (T',rawInt L))->Q () { s with heap:=h'}):
  wpAny M A (noteFrame (.ref e) env) Q E s:=by
 cases tr with
 | none=>
  obtain⟨oe,vs,he,hc,hdd,hd,h1⟩:=x;have hsz:1 < vs.size:=(Array.getElem?_eq_some_iff.mp h1).1;unfold noteFrame;simp only [hf];refine wpAny_bind (wpAny_field he hd h1 ?_);rw[if_neg (by decide)];refine vd hfr hl hf he hd hsz λh' T oT ts n hT hTz g1 g2 g3 g4=>h h' T n (.inr ⟨hT,hTz⟩) ⟨?_,⟨_,_,g1,?_,?_,Obj.data_mapFields hd _,by simp [hsz]⟩,oT,ts,g2,g3,g4⟩
  .intro z;rw[z,he] at hT;cases hT
  .rw [Obj.cls_mapFields];exact hc
  .obtain ⟨c,dd,dt,sl⟩:=oe;cases dt <;> exact hdd
 | some p=>
  obtain⟨T,fl⟩:=p;obtain⟨hTe,⟨oe,vs,he,hc,hdd,hd,h1⟩,oT,ts,gT,gd,g3⟩:=x;have hsz:1 < vs.size:=(Array.getElem?_eq_some_iff.mp h1).1;have hsz3:3 < ts.size:=(Array.getElem?_eq_some_iff.mp g3).1;rcases hk with rfl | rfl
  .unfold noteFrame;simp only [hf];refine wpAny_bind (wpAny_field he hd h1 ?_);rw[if_pos (show(Value.ref T != Value.none)=true from by simp)];refine wpAny_bind (wpAny_field gT gd g3 ?_);rw[if_neg (show ¬((Value.none == rawInt L)=true) from by simp [rawInt])];refine wpAny_bind (qp gT gd hsz3 λh2 k1 k2 k3=> ?_);have nt0:Nt (frs (env::outer)) [e,T] s.heap h2:=⟨λb o _ hb q=>by rw[k2 b λz=>hb (by simp [z])];exact q,λb o hb q=>⟨o.slots,by rw[k2 b λz=>hb (by simp [z])];exact q⟩⟩;have hl2:h2.FunFrames base (env::outer):=hl.of_keeps λb o q nf=>⟨o,by rw[k2 b λz=>by rw[z,gT] at q;cases q;exact nf ts gd];exact q,rfl⟩;refine vd (s:={ s with heap:=h2}) hfr hl2 hf ((k2 e (Ne.symm hTe)).trans he) hd hsz λh' T' oT' ts' n hT hTz g1 g2 g3' g4=>h h' T' (nt0.trans (n.mono (by simp))) (.inr ⟨?_,?_⟩) ⟨?_,⟨_,_,g1,?_,?_,Obj.data_mapFields hd _,by simp [hsz]⟩,oT',ts',g2,g3',g4⟩
   .by_cases z:T'=T
    .rw [z,k1] at hT;cases hT
    .rw [<- k2 T' z];exact hT
   .exact k3 ▸ hTz
   .intro z;rw[z,k2 e (Ne.symm hTe),he] at hT;cases hT
   .rw [Obj.cls_mapFields];exact hc
   .obtain ⟨c,dd,dt,sl⟩:=oe;cases dt <;> exact hdd
  .refine wpAny_noteFrame_inFlight hf he hd h1 gT gd g3 ?_;exact h s.heap T (Nt.refl _ _ _) (.inl (by simp [AY])) ⟨hTe,⟨oe,vs,he,hc,hdd,hd,h1⟩,oT,ts,gT,gd,g3⟩
theorem qT{T:Addr}{cls fl:Value}{d:Option Addr}{Q:Unit->Shared->Prop}(x:xV s.heap e cls d (some (T,fl)))
  (h:∀h',Nt [] [T] s.heap h'->xV h' e cls d (some (T,.none))->Q () { s with heap:=h'}):wpAny M A (setFlight (.ref e) none) Q E s:=by
 obtain⟨hTe,⟨oe,vs,he,hc,hdd,hd,h1⟩,oT,ts,gT,gd,g3⟩:=x;have hsz3:3 < ts.size:=(Array.getElem?_eq_some_iff.mp g3).1;unfold setFlight;refine wpAny_bind (wpAny_field he hd h1 ?_);rw[if_pos (show(Value.ref T != Value.none)=true from by simp)];refine qp gT gd hsz3 λh' k1 k2 _=>h h' ⟨λb o _ hb q=>by rw[k2 b λz=>hb (by simp [z])];exact q,λb o hb q=>⟨o.slots,by rw[k2 b λz=>hb (by simp [z])];exact q⟩⟩ ?_;exact⟨hTe,⟨oe,vs,(k2 e (Ne.symm hTe)).trans he,hc,hdd,hd,h1⟩,_,_,k1,Obj.data_mapFields gd _,by simp [hsz3]⟩
end
theorem Nt.Jn{fs fs' ch:List Addr}{h h':Heap}(a:Nt fs ch h h')(s:∀b∈fs,b∈fs'):Nt fs' ch h h':=⟨λc o h1 h2 e=>a.keep c o (λz=>h1 (s c z)) h2 e,a.slot⟩
section
variable{X:Cx}{pins:List (Addr × Obj)}{σ:St}{H:Hp}{s:Shared}
theorem Inv.noted{h':Heap}{ch:List Addr}{t':Nat}(I:Inv X pins σ H s)(n:Nt (frs X.stack) ch s.heap h')(hch:∀b∈ch,cS X pins H b):Inv X pins σ H { s with heap:=h',toks:=t'}:=by
 refine I.call (g':=s.gens) (d':=s.drawn) (t':=t') (ch:=ch) ⟨λb o q _ hb hx=>n.keep b o hb hx q,λb o q _ _ hx=>n.slot b o hx q,λ_ _ _ z _=>z,λb o q hx=> ?_,λ_ _ z=>z,λ_ _ _ z=>z,λb ps z=>⟨#[],by rw[z];simp⟩⟩ ?_ I.bare
  λb hb=>⟨(hch b hb).2.2.2.1,(hch b hb).2.1,(hch b hb).2.2.2.2.1,(hch b hb).2.2.2.2.2⟩
 .obtain ⟨sl,z⟩:=n.slot b o hx q;exact⟨_,z⟩
 .intro b u e;refine(I.hok b u e).u5 (λc v hc q=> ?_) (λ_ z=>z) λ_ _ z=>z
  have hH:H c≠none:=by
   rcases hc with z | z
   .rw [z,e];intro q;cases q
   .rw [z];intro q;cases q
  exact n.keep c v (λz=>hH (I.rZ c z)) (λz=>hH (hch c z).1) q
theorem Inv.AA{H':Hp}{b:Addr}(I:Inv X pins σ H s)(hb:s.heap.get? b=none)(hn:H' b=none):cS X pins H' b:=by
 have ne:∀c o,s.heap.get? c=some o->c≠b:=λc o e z=>by rw[z,hb] at e;cases e
 refine⟨hn,?_,λhm=> ?_,?_,λx c e=> ?_,λp hp=> ?_⟩
 .obtain ⟨m,⟨o,_,_,ho,_⟩,_⟩:=I.loc;exact Ne.symm (ne _ o ho)
 .obtain ⟨_,o,ho,_⟩:=I.ke.mem hm;exact ne _ o ho rfl
 .by_cases hx:b∈X.ex
  .exact .inl hx
  .refine .inr ?_;cases q:X.s₀.heap.get? b with
   | none=>rfl
   | some o=>
    obtain⟨o',z⟩:=I.base.there b o q hx;rw[hb] at z;cases z
 .obtain ⟨v,o,ho,_⟩:=I.cell x c e;exact ne _ o ho
 .exact ne _ _ (I.pin p hp).1
theorem Inv.pW{b:Addr}(I:Inv X pins σ H s)(hb:s.heap.get? b=none):H b=none:=by
 cases q:H b with
 | none=>rfl
 | some o=>
  have z:=I.hok b o q
  have:∃ob,s.heap.get? b=some ob:=by
   cases o with
   | lst xs=>obtain⟨_,_,_,_,e⟩:=z;exact⟨_,e⟩
   | tup xs=>obtain⟨_,_,_,ob,e,_⟩:=z;exact⟨_,e⟩
   | dK kvs=>obtain⟨_,_,_,_,ob,_,_,e,_⟩:=z;exact⟨_,e⟩
   | dT kvs=>obtain⟨_,_,_,_,ob,_,_,e,_⟩:=z;exact⟨_,e⟩
   | set S n=>obtain⟨ob,_,_,_,e,_⟩:=z;exact⟨_,e⟩
   | ins C dx fs=>obtain⟨_,_,_,e,_⟩:=z;exact⟨_,e⟩
   | own y=>obtain⟨_,e⟩:=z;exact⟨_,e⟩
   | xd fs=>obtain⟨_,⟨_,_,_,e,_⟩,_⟩:=z;exact⟨_,e⟩
   | rng lo hi=>obtain⟨_,_,_,e⟩:=z;exact⟨_,e⟩
   | frz ob u=>obtain⟨e,_⟩:=z;exact⟨_,e⟩
   | tbl ps=>exact⟨_,show s.heap.get? b=some _ from z⟩
   | met f y=>exact⟨_,show s.heap.get? b=some _ from z⟩
   | ext φ=>obtain⟨_,⟨_,e⟩,_⟩:=z;exact⟨_,e⟩
  obtain⟨ob,e⟩:=this;rw[hb] at e;cases e
end
def CXE(P:Program)(w:World):CXT:=λouter H s E ev s'=>∃(e:Addr) (cls:Value) (d:Option Addr) (T:Addr) (H':Hp),ev=.ref e/\s'.os=s.os/\AllBare s'.gens/\Un (frs outer) [] H H' s.heap s'.heap/\HOk P w H' s'.heap∧
 xV s'.heap e cls d (some (T,.none))/\(H' e=none/\s.heap.get? e=none)/\(H' T=none/\s.heap.get? T=none)/\E cls d H'
structure Arr(X:Cx)(pins:List (Addr × Obj))(σ:St)(H:Hp)(s:Shared)(e:Addr)(cls:Value)(d:Option Addr):Prop where
 inv:Inv X pins σ H s
 tr:∃tr,xV s.heap e cls d tr/\EW X.env.locals tr/\∀T∈AY tr,cS X pins H T
 fp:cS X pins H e
def Throws(X:Cx)(E:St->XK):Prop:=∀(pins:List (Addr × Obj)) (σ:St) (H:Hp) (s:Shared) (e:Addr) (cls:Value) (d:Option Addr),Arr X pins σ H s e cls d->E σ cls d H->X.xe (.ref e) s
def sV(X:Cx):Prop:=X.stack=X.env::X.outer/\X.env.frame=some X.env.locals/\X.ex=[]
section
variable{X:Cx}{pins:List (Addr × Obj)}{σ:St}{H:Hp}{s:Shared}{e:Addr}{cls:Value}{d:Option Addr}
theorem Arr.land{M:Model}{E:Value->Shared->Prop}{Q:Unit->Shared->Prop}(a:Arr X pins σ H s e cls d)(hd:sV X)
  (h:∀h' T,Inv X pins σ H { s with heap:=h'}->xV h' e cls d (some (T,.none))->cS X pins H T->Q () { s with heap:=h'}):
  wpAny M X.A (noteFrame (.ref e) X.env) (λ_ s2=>wpAny M X.A (setFlight (.ref e) none) Q E s2) E s:=by
 obtain⟨tr,x,hk,ft⟩:=a.tr;refine Fg (base:=X.base) (by rw[<- hd.1];exact a.inv.ok.frames) (by rw[<- hd.1];exact a.inv.stack) hd.2.1 x hk λh1 T' n hT x1=> ?_
 have fT:cS X pins H T':=by
  rcases hT with z | ⟨z,_⟩
  .exact ft T' z
  .exact a.inv.AA z (a.inv.pW z)
 refine qT x1 λh2 n2 x2=>h h2 T' ?_ x2 fT
 have nn:Nt (frs X.stack) (e::T'::AY tr) s.heap h2:=by
  rw[hd.1];refine(n.mono λb hb=> ?_).trans ((n2.mono λb hb=> ?_).Jn λb hb=>absurd hb (by simp))
  .rcases List.mem_cons.mp hb with z | z
   .rw [z];exact List.mem_cons_self
   .exact List.mem_cons_of_mem _ (List.mem_cons_of_mem _ z)
  .rw [List.mem_singleton.mp hb];exact List.mem_cons_of_mem _ List.mem_cons_self
 refine a.inv.noted (t':=s.toks) nn λb hb=> ?_;rcases List.mem_cons.mp hb with z | z
 .rw [z];exact a.fp
 .rcases List.mem_cons.mp z with z | z
  .rw [z];exact fT
  .exact ft b z
theorem passes{E:St->XK}(ht:Throws X E):Passes (CXE X.prog X.w) X E:=λpins σ H s ev s' I h=>by
 obtain⟨e,cls,d,T,H',rfl,os,bare,un,hok,x,⟨n1,g1⟩,⟨n2,g2⟩,q⟩:=h;have I':Inv X pins σ H' s':=I.Ga os un hok bare λb hb=>absurd hb (by simp);exact ht pins σ H' s' e cls d ⟨I',⟨_,x,.inl rfl,λT' hT=>by rw[List.mem_singleton.mp hT];exact I.AA g2 n2⟩,I.AA g1 n1⟩ q
end
theorem ax{P:Program}{w:World}{K:PySem.W.Frag}{mg:Str->Option Value}{base:Heap}{N:List Str}{qual:Str}{scope:Scope}{f:Addr}{cd:Value}{A:Around}{outer:List Env}{s0:Shared}{H0:Hp}{E:XK}{cm:Bool}:
  Throws (fO cm (CXE P w) P w K mg base N qual scope f cd A outer s0 H0 E) λ_=>E:=λpins σ H s e cls d a q=>by
 show wpAny (model P w) (A.deeper (envOfC qual scope s0.heap.objs.size f cd)) (leaving (envOfC qual scope s0.heap.objs.size f cd) (.ref e)) _ _ s;unfold leaving;refine wpAny_bind (a.land ⟨rfl,rfl,rfl⟩ λh' T I' x' fT=>⟨e,cls,d,T,H,rfl,I'.os,I'.bare,I'.base,I'.hok,x',⟨a.fp.1,?_⟩,⟨fT.1,?_⟩,q⟩)
 .rcases a.fp.2.2.2.1 with z | z
  .exact absurd (show e∈([]:List Addr) from z) (by simp)
  .exact z
 .rcases fT.2.2.2.1 with z | z
  .exact absurd (show T∈([]:List Addr) from z) (by simp)
  .exact z
abbrev bmV:List Value:=[.type "ValueError",.type "Exception",.type "BaseException",.type "object"]
abbrev qd(K:PySem.W.Frag)(C:Addr):Prop:=PySem.W.excIn K C bmV "ValueError.__new__"=true
theorem qd.obj{K:PySem.W.Frag}{C:Addr}{h:Heap}(q:qd K C)(k:K.In h):∃bm N nm qn bs hdct sn sub ab col dd k0 k1 k2 k3 k5 mN,
  h.get? C=some (excClassObj nm qn C N bs bm hdct sn sub ab col dd k0 k1 k2 k3 k5 "ValueError.__new__")/\h.Ns N mN/\mN "__init__"=none/\OwnTail h bmV bm:=by
 unfold qd PySem.W.excIn at q
 split at q
 .rename_i dd cd sl ho
  split at q
  .rename_i C' bm k0 k1 k2 k3 n k5 hm hs
   simp only [Bool.and_eq_true,beq_iff_eq,Bool.not_eq_true'] at q;obtain⟨⟨⟨⟨⟨rfl,rfl⟩,hdel⟩,ht⟩,hok⟩,hni⟩:=q;obtain⟨nm,bs,mro,ns,qn,hd,sn,sub,ab,col,del⟩:=cd;dsimp only at hm hdel hok hni;subst hm hdel;obtain⟨l⟩:=sl;dsimp only at hs;subst hs;exact⟨bm,ns,nm,qn,bs,hd,sn,sub,ab,col,dd,k0,k1,k2,k3,k5,_,k _ _ ho,.of_isNs (PySem.W.isNs_of_in k hok),PySem.W.nsMap_none_of_in k hok hni,PySem.W.tail_of_in k ht⟩
  .cases q
 .cases q
def KA(C:Addr)(E:St->XK)(ta:TA):TS:=λ_ σ H=>ta σ H λvs H1=>vs.length<=sizeLine/\E σ (.ref C) none H1
section
variable{X:Cx}{x:Str}{C:Addr}{np cpos pos:Pos}{a:Expr}{es:List Expr}{ta:TA}{E:St->XK}
theorem A4{pins:List (Addr × Obj)}{σ:St}{H:Hp}{s:Shared}{h':Heap}{e:Addr}{vs:List Value}(ht:Throws X E)(I:Inv X pins σ H s)(m:Heap.MadeExcOf s.heap h' e (.ref C) vs)(q:E σ (.ref C) none H):
  X.xe (.ref e) { s with heap:=h'}:=by
 obtain⟨t,h1,_,_⟩:=m.there;exact ht pins σ H _ e (.ref C) none ⟨I.kept (t':=s.toks) m.keeps,⟨none,⟨_,_,h1,rfl,rfl,rfl,rfl⟩,trivial,λT hT=>absurd hT (by simp [AY])⟩,I.AA m.new (I.pW m.new)⟩ q
theorem sv(hc:X.calm=true)(ht:Throws X E)(xc:qd X.K C)(hg:Gl X x)(hm:X.mg x=some (.ref C))(ha:PA X (a::es) ta)(hd:(x == ("__debug__":Str))=false:=by decide)
  (he:starEach (a::es) X.env=(false,eval a X.env)::starEach es X.env:=by rfl) (hpl:(backTo cpos (starEach es X.env)).any (·.1)=false:=by rfl):
  PS X (.Raise (some (.Call (.Name x np) (a::es) [] cpos)) none pos) (KA C E ta):=by
 intro pins s σ H D I h;obtain⟨bm,N,nm,qn,bs,hdct,sn,sub,ab,col,dd,k0,k1,k2,k3,k5,mN,hC,hN,hni,T⟩:=xc.obj I.mod.kin
 refine wpAny_Raise_call_subT (C:=C) (nm:=nm) (q:=qn) (N:=N) (bs:=bs) (bm:=bm) (hdct:=hdct) (sn:=sn) (sub:=sub) (ab:=ab) (col:=col) (dd:=dd) (k0:=k0) (k1:=k1) (k2:=k2) (k3:=k3) (k5:=k5)
  PySem.F.excBase_ValueError (mN:=mN) (T.hasType PySem.F.excBase_ValueError.hasBase) (I.ok.hd hc) (by rw[he];show(false || (backTo cpos (starEach es X.env)).any (·.1))=false;rw[hpl];rfl) hni (gE I hg hm ⟨rfl,?_⟩ hd)
 have w:=ha cpos pins s σ H _ I h;rw[he] at w ⊢;refine Calls.evalArgs_plain (wpAny_mono w (λus s2 h2=> ?_) λ_ _ y=>y);obtain⟨vs,H2,I2,r2,hl,q⟩:=h2;exact⟨rfl,by rw[<- r2.length];exact hl,I2.bk _ _ hC,hN.keeps I2.bk,T.keeps I2.bk,λh' e m=>A4 ht I2 m q⟩
end
end L2
namespace Cut
open PySem PySem.Builtin PySem.Builtin.Str
end Cut
namespace L2
open PySem PySem.Spec PyProof.Rows
section
variable{X:Cx}
theorem fz:mf X (.type "int") (λxs H Q=>∃z n,xs=[.str z]/\PySem.intText? z=some n/\z.length<=640/\Q (.int n) H):=by
 intro pins s σ H xs us Q I r h;obtain⟨z,n,rfl,hn,hl,q⟩:=h;obtain⟨u,rfl,ru⟩:=vals1 r;obtain⟨t,rfl⟩:=(show ∃t,u=Value.str z t from ru);exact PySem.W.KIN.call_text hn hl ⟨.int n,H,I.tok _,⟨_,rfl⟩,q⟩
def Its(z:Str):It:=⟨λi _=>i < z.cps.size,λi H x H'=>H'=H/\∃c,z.cps[i]? =some c/\x=.str ⟨#[c]⟩,λi _=>i=z.cps.size⟩
theorem Fu{P:Program}{w:World}{K:PySem.W.Frag}{x:Str}{px:Pos}{it:Addr}{ty:String}{z:Str}{t:Tok}(W:∀A:Around,A.handled=none->Walks P w A it [it] [it] z.cps.size (SignAt z) (λi h=>h.IsStrIter it ty z t i))
  (self:∀(A:Around) (i:Nat) (s:Shared) (Q:Value->Shared->Prop) (E:Value->Shared->Prop),s.heap.IsStrIter it ty z t i->Q (.ref it) s->wpAny (model P w) A (pyIter (.ref it)) Q E s):
  Turn P w K (.Name x px) (Its z) [it] it (λi h=>h.IsStrIter it ty z t i) where
 mem:=by simp
 obj:=λi h st b hb=>by
  have e:b=it:=by simpa using hb
  subst e;obtain⟨o,e,c,d⟩:=st;exact⟨o,e,λv q=>by rw[d] at q;cases q⟩
 keep:=λi h h' st k=>let ⟨o,ho,r⟩:=st;⟨o,k it (by simp) o ho,r⟩
 item:=by
  intro X hP hw hK hc i pins s σ H E I hf st hg;subst hP hw hK;obtain⟨f0,f1,f2,f3,f4,f5⟩:=hf it (by simp);refine(W X.A (I.ok.hd hc)).item i s _ _ hg st λv h' tk pv st' k=> ?_;obtain⟨c,u,e,rfl⟩:=pv;have I1:Inv X pins σ H { s with heap:=h',toks:=tk}:=I.turned (t':=tk) (λb o hb q=>k b o (by simpa using hb) q) f0 f1 f3 f4 f5;exact⟨_,rfl,wpAny_pure ⟨.str ⟨#[c]⟩,H,I1,⟨u,rfl⟩,⟨rfl,c,e,rfl⟩,st',λb hb=>(hf b hb).1⟩⟩
 done:=by
  intro X hP hw hK hc i pins s σ H E I hf st hg;subst hP hw hK;have hg:i=z.cps.size:=hg;subst hg;obtain⟨f0,f1,f2,f3,f4,f5⟩:=hf it (by simp);exact(W X.A (I.ok.hd hc)).done s _ _ st λh' tk k=>⟨rfl,I.turned (t':=tk) (λb o hb q=>k b o (by simpa using hb) q) f0 f1 f3 f4 f5⟩
 self:=self
def Mm(tl:TE):TI:=λσ H R=>tl σ H λx H1=>∃z,x=.str z/\R (Its z) H1
theorem Jw{l:Expr}{tl:TE}{x:Str}{px:Pos}(hl:PE X l tl):PI X (.Name x px) l (Mm tl):=by
 intro pins s σ H R I h;refine thn (hl pins s σ H _ I h) λv s1 zz=> ?_;obtain⟨y,H1,I1,r1,q1⟩:=zz;obtain⟨z,rfl,q⟩:=q1;obtain⟨t,rfl⟩:=(show ∃t,v=Value.str z t from r1)
 have fin:∀{ty:String} {o:Obj},(∀A:Around,A.handled=none->Walks X.prog X.w A s1.heap.objs.size [s1.heap.objs.size] [s1.heap.objs.size] z.cps.size (SignAt z) (λi h=>h.IsStrIter s1.heap.objs.size ty z t i))→
   (∀(A:Around) (i:Nat) (s:Shared) (Q:Value->Shared->Prop) (E:Value->Shared->Prop),s.heap.IsStrIter s1.heap.objs.size ty z t i->Q (.ref s1.heap.objs.size) s->wpAny (model X.prog X.w) A (pyIter (.ref s1.heap.objs.size)) Q E s)→
   (s1.heap.push o).IsStrIter s1.heap.objs.size ty z t 0->PIE X pins σ (.Name x px) R (.ref s1.heap.objs.size) { s1 with heap:=s1.heap.push o}:=λ{ty o} W self st=>by
  refine⟨s1.heap.objs.size,[s1.heap.objs.size],_,_,H1,rfl,I1.kept (t':=s1.toks) λb ob e=>Heap.get?_push_of_some _ e,Fu W self,st,λb hb=> ?_,q⟩;have e:b=s1.heap.objs.size:=by simpa using hb
  subst e;exact I1.vV (Nat.le_refl _) (I1.hok.fresh (Nat.le_refl _))
 cases ha:z.cps.all (· < 128)
 .exact wpAny_pyIter_wide ha (fin (λA hA=>Walks.strWide hA _ z t) (λ_ _ _ _ _ st q=>wpAny_pyIter_striter_wide st q) ⟨_,Heap.get?_push_size _ rfl,rfl,rfl⟩)
 .exact wpAny_pyIter_ascii ha (fin (λA hA=>Walks.strAscii hA _ z t) (λ_ _ _ _ _ st q=>wpAny_pyIter_striter_ascii st q) ⟨_,Heap.get?_push_size _ rfl,rfl,rfl⟩)
theorem Lq{bs:List Bool}:∀{its:List Value} {i:Nat} {v:Value},Vals (bs.map V.bl) its->its[i]? =some v->∃b,bs[i]? =some b/\v=.bool b:=λ{its i v} r e=>by
 have hl:=r.length
 have hi:i < bs.length:=by
  have:=(List.getElem?_eq_some_iff.mp e).1;rw[List.length_map] at hl
  lia
 have eb:bs[i]? =some bs[i]:=List.getElem?_eq_getElem hi;obtain⟨u,hu,ru⟩:=r.get (show(bs.map V.bl)[i]? =some (V.bl bs[i]) by rw[List.getElem?_map,eb];rfl);rw[e] at hu;cases hu;exact⟨_,eb,ru⟩
theorem BU(bs:List Bool):((List.range bs.length).all λi=>(bs[i]?).getD true)=bs.all id:=by
 rw[Bool.eq_iff_iff,List.all_eq_true,List.all_eq_true]
 constructor
 .intro h b hb;obtain⟨i,hi,e⟩:=List.getElem_of_mem hb;have:=h i (List.mem_range.mpr hi);rw[List.getElem?_eq_getElem hi,e] at this;exact this
 .intro h i hi;have hi:=List.mem_range.mp hi;rw[List.getElem?_eq_getElem hi];exact h _ (List.getElem_mem hi)
theorem FC(hc:X.calm=true):mf X (.builtin "all") (λxs H Q=>∃(p:Addr) (bs:List Bool),xs=[.ref p]/\SqL X.K H p (bs.map V.bl)/\Q (.bl (bs.all id)) H):=by
 intro pins s σ H xs us Q I r h;obtain⟨p,bs,rfl,hp,q⟩:=h;obtain⟨u,rfl,ru⟩:=vals1 r;cases ru;obtain⟨its,rv,ht,hz⟩:=I.list hp;have hl:=ht.isList;have hlt:p < s.heap.objs.size:=by obtain⟨_,e,_⟩:=hl;exact Heap.lt_size e
 have hlen:its.length=bs.length:=by have:=rv.length;rw[List.length_map] at this;lia
 refine call_all_walk (wpAny_pyIter_list hl ?_)
 refine⟨s.heap.objs.size,[s.heap.objs.size,p],[s.heap.objs.size],its.toArray.size,_,_,λi=>(bs[i]?).getD true,rfl,Walks.list (A:=X.A.in1) (I.ok.hd hc) _ p (Nat.ne_of_lt hlt) its.toArray,
  ⟨⟨_,Heap.get?_push_size _ rfl,rfl,rfl⟩,hl.push _⟩,λi v s' Q' E' hP hQ=> ?_,λh' tk hk=> ?_⟩
 .obtain ⟨b,e,rfl⟩:=Lq rv (by simpa using hP);simp only [e,Option.getD_some] at hQ;exact wpAny_truthy_bool hQ
 .rw [List.size_toArray,hlen,BU];refine⟨.bl (bs.all id),H,I.kept (t':=tk) λb o e=>hk b o (λhm=> ?_) (Heap.get?_push_of_some _ e),rfl,q⟩;rw[List.mem_singleton.mp hm] at e;exact Nat.lt_irrefl _ (Heap.lt_size e)
def PJ(X:Cx)(es:List Expr)(t:St->Hp->Str->(Str->Hp->Prop)->Prop):Prop:=∀(pins:List (Addr × Obj)) (s:Shared) (σ:St) (H:Hp) (out:Str) (Q:Str->Hp->Prop),Inv X pins σ H s->t σ H out Q→
 wpAny (model X.prog X.w) X.A (joinParts out (evalEach es X.env)) (EP X pins σ λx H'=>∃z,x=.str z/\Q z H') X.xe s
theorem A3:PJ X [] (λ_ H out Q=>out.length<=sizeLine/\Q out H):=λpins s σ H out Q I h=>joinParts_nil ⟨.str out,H,I.tok _,⟨_,rfl⟩,out,rfl,h.2⟩ h.1
theorem iD{e:Expr}{es:List Expr}{te:TE}{t:St->Hp->Str->(Str->Hp->Prop)->Prop}(he:PE X e te)(hr:PJ X es t)(hs:evalEach (e::es) X.env=eval e X.env::evalEach es X.env:=by rfl):
  PJ X (e::es) (λσ H out Q=>te σ H λx H1=>∃y,x=.str y/\(out++y).length<=sizeLine/\t σ H1 (out++y) Q):=by
 intro pins s σ H out Q I h;rw[hs];refine joinParts_cons (he.th I h λv s1 x H1 I1 r1 q1=> ?_);obtain⟨y,rfl,hz,q⟩:=q1;obtain⟨t,rfl⟩:=(show ∃t,v=Value.str y t from r1);exact⟨hz,hr pins s1 σ H1 _ Q I1 q⟩
theorem yM{v1 v2:Expr}{rest:List Expr}{pos:Pos}{t:St->Hp->Str->(Str->Hp->Prop)->Prop}(h:PJ X (v1::v2::rest) t)(hs:evalEach (v1::v2::rest) X.env=eval v1 X.env::eval v2 X.env::evalEach rest X.env:=by rfl):
  PE X (.JoinedStr (v1::v2::rest) pos) (λσ H Q=>t σ H Str.empty λz H'=>Q (.str z) H'):=by
 intro pins s σ H Q I q;have w:=h pins s σ H Str.empty _ I q;rw[hs] at w;exact JoinedStr_many (thn w λv s1 zz=>by obtain⟨x,H1,I1,r1,z,e,q1⟩:=zz;exact⟨x,H1,I1,r1,by rw[e];exact q1⟩)
theorem Fq{e:Expr}{pos:Pos}{te:TE}(h:PE X e te):PE X (.FormattedValue e (-1) none pos) (λσ H Q=>te σ H λx H1=>(∃i,x=.int i/\i.natAbs.log2 < 1920/\Q (.str (toString i)) H1)\/∃y,x=.str y/\y.length<=sizeLine/\Q (.str y) H1):=by
 intro pins s σ H Q I q;refine FormattedValue_plain (h.th I q λv s1 x H1 I1 r1 q1=> ?_);rcases q1 with⟨i,rfl,hi,q1⟩ | ⟨y,rfl,hy,q1⟩
 .obtain ⟨t,rfl⟩:=(show ∃t,v=Value.int i t from r1);exact formatField_int_small hi ⟨.str _,H1,I1.tok _,⟨_,rfl⟩,q1⟩
 .obtain ⟨t,rfl⟩:=(show ∃t,v=Value.str y t from r1);exact formatField_str (λt' tk=>⟨.str y,H1,I1.tok tk,⟨t',rfl⟩,q1⟩) hy
end
section
variable{X:Cx}{pins pins':List (Addr × Obj)}{σ:St}{H:Hp}{s:Shared}{pn':List (Addr × Obj)}{E':Value->Shared->Prop}
abbrev Cx.i0(X:Cx)(pn':List (Addr × Obj))(E':Value->Shared->Prop):Cx:={ X with pn:=pn',xe:=E'}
theorem Cx.Ok.i0(ok:X.Ok)(pn':List (Addr × Obj))(E':Value->Shared->Prop):(X.i0 pn' E').Ok:=
 ⟨ok.mod,ok.kind,ok.glob,ok.blt,ok.above,ok.inj,ok.has,ok.cab,ok.hd,ok.frames,ok.stk,ok.exf,ok.bs,ok.bsz,ok.uo,ok.sC,ok.ke,ok.frf⟩
theorem Cx.Ok.di(ok:(X.i0 pn' E').Ok):X.Ok:=
 ⟨ok.mod,ok.kind,ok.glob,ok.blt,ok.above,ok.inj,ok.has,ok.cab,ok.hd,ok.frames,ok.stk,ok.exf,ok.bs,ok.bsz,ok.uo,ok.sC,ok.ke,ok.frf⟩
theorem Inv.i0(I:Inv X pins σ H s)(E':Value->Shared->Prop):Inv (X.i0 (X.pn++pins) E') [] σ H s:=
 ⟨I.ok.i0 _ _,I.os,I.bare,I.base,I.loc,I.cell,I.free,I.ed,λp hp=>I.pin p (by simpa using hp),I.hok,I.len⟩
theorem Inv.di(I:Inv (X.i0 (X.pn++pins) E') pins' σ H s):Inv X pins σ H s:=
 ⟨I.ok.di,I.os,I.bare,I.base,I.loc,I.cell,I.free,I.ed,λp hp=>I.pin p (List.mem_append_left _ hp),I.hok,I.len⟩
theorem cS.di{b:Addr}(f:cS (X.i0 (X.pn++pins) E') pins' H b):cS X pins H b:=
 ⟨f.1,f.2.1,f.2.2.1,f.2.2.2.1,f.2.2.2.2.1,λp hp=>f.2.2.2.2.2 p (List.mem_append_left _ hp)⟩
theorem Arr.di{e:Addr}{cls:Value}{d:Option Addr}(a:Arr (X.i0 (X.pn++pins) E') pins' σ H s e cls d):Arr X pins σ H s e cls d:=
 ⟨a.inv.di,let ⟨tr,x,hk,ft⟩:=a.tr;⟨tr,x,hk,λT hT=>(ft T hT).di⟩,a.fp.di⟩
def PH(X:Cx)(hs:List ExceptHandler)(t:Ends->St->XK):Prop:=∀(pins:List (Addr × Obj)) (s:Shared) (σ:St) (H:Hp) (e:Addr) (cls:Value) (d:Option Addr) (T:Addr) (D:Ends),
 Inv X pins σ H s->xV s.heap e cls d (some (T,.none))->cS X pins H e->cS X pins H T->t D σ cls d H->wpAny (model X.prog X.w) X.A (handleBy (.ref e) X.env hs) (SP X pins D) X.xe s
theorem Ba{body orelse:List Stmt}{h0:ExceptHandler}{hs:List ExceptHandler}{pos:Pos}{tb:Ends->TS}{to:TS}{th:Ends->St->XK}(hdef:sV X)
  (hb:∀D pn' E',Throws (X.i0 pn' E') (th D)->PassesOwn (model X.prog X.w) X.A X.env E'->PSs (X.i0 pn' E') body (tb D)) (ho:PSs X orelse to) (hh:PH X (h0::hs) th):
  PS X (.Try body (h0::hs) orelse [] pos) (λD σ H=>tb D { D with nx:=to D} σ H):=by
 intro pins s σ H D I h;refine wpAny_Try_except ?_
 let E':Value->Shared->Prop:=λev s1=>wpAny (model X.prog X.w) X.A (noteFrame ev X.env) (λ_ s2=>wpAny (model X.prog X.w) X.A (setFlight ev none) (λ_ s3=>wpAny (model X.prog X.w) X.A (handleBy ev X.env (h0::hs)) (SP X pins D) X.xe s3) X.xe s2) X.xe s1
 have hT:Throws (X.i0 (X.pn++pins) E') (th D):=λpins' σ1 H1 s1 e cls d a q=>(a.di).land hdef λh' T I' x' fT=>hh pins _ σ1 H1 e cls d T D I' x' a.di.fp fT q;refine wpAny_mono (hb D _ E' hT PassesOwn.looking [] s σ H _ (I.i0 E') h) (λf s1 h1=> ?_) λev s1 h1=>h1;cases f with
 | next=>obtain⟨σ1,H1,I1,q⟩:=h1;exact ho pins s1 σ1 H1 D I1.di q
 | brk=>obtain⟨σ1,H1,I1,q⟩:=h1;exact⟨σ1,H1,I1.di,q⟩
 | cont=>obtain⟨σ1,H1,I1,q⟩:=h1;exact⟨σ1,H1,I1.di,q⟩
 | ret u=>obtain⟨v,σ1,H1,I1,r,q⟩:=h1;exact⟨v,σ1,H1,I1.di,r,q⟩
theorem vK{P:Program}{w:World}{K:PySem.W.Frag}{mg:Str->Option Value}{base:Heap}{N:List Str}{qual:Str}{scope:Scope}{f:Addr}{cd:Value}{A:Around}{outer:List Env}{s0:Shared}{H0:Hp}{E:XK}{cm:Bool}{CX:CXT}:
  PassesOwn (model P w) (fO cm CX P w K mg base N qual scope f cd A outer s0 H0 E).A (fO cm CX P w K mg base N qual scope f cd A outer s0 H0 E).env (fO cm CX P w K mg base N qual scope f cd A outer s0 H0 E).xe:=PassesOwn.leaving
end
section
variable{M:Model}{A:Around}{E:Value->Shared->Prop}
theorem qQ{K:PySem.W.Frag}{s:Shared}{e C C':Addr}{oe:Obj}{b:Bool}{Q:Bool->Shared->Prop}(k:K.In s.heap)(he:s.heap.get? e=some oe)(hc:oe.cls=.ref C)(xc:qd K C')(m:PySem.W.mroIn K C (.ref C')=some b)(h:Q b s):
  wpAny M A (excMatches (.ref e) (.ref C')) Q E s:=by
 obtain⟨bm,N,nm,qn,bs,hdct,sn,sub,ab,col,dd,k0,k1,k2,k3,k5,mN,hC,hN,hni,T⟩:=xc.obj k;have hb:(Value.ref C'::bm).contains (.type "BaseException")=true:=by rw[List.contains_cons,T.hasType (show bmV.contains (.type "BaseException")=true from rfl),Bool.or_true]
 have L:=PySem.W.looks_mroIn (M:=M) k m;obtain⟨hh,g,d,t,os⟩:=s;have f:=tc_notTuple;unfold excMatches
 repeat (first | (with_reducible refine wpAny_loadPart_at he ?_;rw[hc]) | with_reducible refine wpAny_loadPart_at hC ?_ | (with_reducible refine wpAny_isSubtype_exc hC ?_;rw[hb]) | (with_reducible refine L.at ?_) | wp_step)
 cases b <;> (wp_walk;exact h)
end
def XOb(e C:Addr)(d:Option Addr):HO:= .ext λh=>∃o vs,h.get? e=some o/\o.cls=.ref C/\o.dict=d/\o.data=.fields vs
theorem XOb.ok{P:Program}{w:World}{H:Hp}{h:Heap}{e C:Addr}{d:Option Addr}(x:∃o vs,h.get? e=some o/\o.cls=.ref C/\o.dict=d/\o.data=.fields vs):dc P w H h e (XOb e C d):=by
 refine⟨x,?_,λh1 h2 p k=> ?_⟩
 .obtain ⟨o,_,e1,_⟩:=x;exact⟨o,e1⟩
 .obtain ⟨o,vs,e1,r⟩:=p;exact⟨o,vs,k o e1,r⟩
section
variable{X:Cx}{pins:List (Addr × Obj)}{σ:St}{H:Hp}{s:Shared}{e:Addr}
abbrev Cx.bt(X:Cx)(e:Addr):Cx:={ X with A:=X.A.mark (some (.ref e)),calm:=false,xe:=λ_ _=>False}
theorem Cx.Ok.bt(ok:X.Ok)(e:Addr):(X.bt e).Ok:=
 ⟨ok.mod,ok.kind,ok.glob,ok.blt,ok.above,ok.inj,ok.has,ok.cab,λz=>absurd (show(false:Bool)=true from z) (by decide),ok.frames,ok.stk,ok.exf,ok.bs,ok.bsz,ok.uo,ok.sC,ok.ke,ok.frf⟩
theorem Inv.bt(I:Inv X pins σ H s)(e:Addr):Inv (X.bt e) pins σ H s:=⟨I.ok.bt e,I.os,I.bare,I.base,I.loc,I.cell,I.free,I.ed,I.pin,I.hok,I.len⟩
theorem Inv.c9(I:Inv (X.bt e) pins σ H s)(ok:X.Ok):Inv X pins σ H s:=⟨ok,I.os,I.bare,I.base,I.loc,I.cell,I.free,I.ed,I.pin,I.hok,I.len⟩
theorem SP.c9{D:Ends}{f:Flow}(h:SP (X.bt e) pins D f s)(ok:X.Ok):SP X pins D f s:=by
 cases f with
 | next=>obtain⟨σ1,H1,I1,q⟩:=h;exact⟨σ1,H1,I1.c9 ok,q⟩
 | brk=>obtain⟨σ1,H1,I1,q⟩:=h;exact⟨σ1,H1,I1.c9 ok,q⟩
 | cont=>obtain⟨σ1,H1,I1,q⟩:=h;exact⟨σ1,H1,I1.c9 ok,q⟩
 | ret u=>obtain⟨v,σ1,H1,I1,r,q⟩:=h;exact⟨v,σ1,H1,I1.c9 ok,r,q⟩
def KS(i:Nat)(D:Ends):Ends:={ nx:=λσ H=>D.nx (σ.set i none) H,rt:=D.rt,bk:=λσ H=>D.bk (σ.set i none) H,ct:=λσ H=>D.ct (σ.set i none) H}
theorem Inv.zE{M:Model}{A:Around}{E:Value->Shared->Prop}{i:Nat}{n:Str}{pos:Pos}{Q:Unit->Shared->Prop}(I:Inv X pins σ H s)(hN:X.N.Nodup)(hi:X.N[i]? =some n)(hl:X.env.kindOf n=some .local)
  (h:∀s',Inv X pins (σ.set i none) H s'->Q () s'):wpAny M A (do bindName X.env n .none;unbindBehindTheSuite X.env n pos) Q E s:=by
 obtain⟨m,hm,lo⟩:=I.loc;have hcls:(X.env.scope.kind == .class || (X.env.scope.kind == .module && X.env.locals != X.env.globals))=false:=by rw[I.ok.kind];rfl
 refine wpAny_nameGoes_keeps hl hm hcls λh' v hn hs=>h _ ?_;obtain⟨oL,es,ep,hoL,_⟩:=id hm;refine⟨I.ok,I.os,I.bare,⟨λb o e n hb hx=> ?_,λb o e n hb hx=> ?_,I.base.free,λb o e hx=> ?_,I.base.uU,I.base.rJ,I.base.uJ⟩,⟨_,hn,λj y w e1 e2 e3=> ?_⟩,λy c e=> ?_,I.free,I.ed,λp hp=> ?_,?_,by simpa using I.len⟩
 .exact (hs.2 b (Nat.ne_of_lt (Nat.lt_of_lt_of_le (Heap.lt_size e) I.ok.above))).trans (I.base.keep b o e n hb hx)
 .obtain ⟨sl,q⟩:=I.base.slot b o e n hb hx;exact⟨sl,(hs.2 b (Nat.ne_of_lt (Nat.lt_of_lt_of_le (Heap.lt_size e) I.ok.above))).trans q⟩
 .obtain ⟨o',q⟩:=I.base.there b o e hx;exact⟨o',(hs.2 b (Nat.ne_of_lt (Nat.lt_of_lt_of_le (Heap.lt_size e) I.ok.above))).trans q⟩
 .by_cases hj:j=i
  .subst hj;have z:j < σ.length:=by rw[I.len];exact(List.getElem?_eq_some_iff.mp hi).1
   rw[List.getElem?_set_self z] at e2;cases e2
  .rw [List.getElem?_set_ne (Ne.symm hj)] at e2;obtain⟨u,r,q⟩:=lo j y w e1 e2 e3;refine⟨u,r,?_⟩;rcases q with⟨k,q⟩ | ⟨k,c,e,z⟩
   .refine .inl ⟨k,?_⟩;have:y≠n:=λq=>hj (tw hN e1 (q ▸ hi));simp [this,q]
   .exact .inr ⟨k,c,e,z.sameBut hs (I.cne y c e)⟩
 .obtain ⟨w,z⟩:=I.cell y c e;exact⟨w,z.sameBut hs (I.cne y c e)⟩
 .obtain ⟨e,n,ne,nf,d⟩:=I.pin p hp;exact⟨(hs.2 p.1 ne).trans e,n,ne,nf,d⟩
 .intro b u e;refine(I.hok b u e).u5 (λc w hc q=>(hs.2 c λz=> ?_).trans q) (λ_ z=>z) λ_ _ z=>z;subst z;rcases hc with z | z
  .rw [<- z] at e;rw[I.free] at e;cases e
  .rw [I.free] at z;cases z
end
section
variable{X:Cx}{x n:Str}{C':Addr}{np pos:Pos}{b0:Stmt}{suite:List Stmt}{rest:List ExceptHandler}{ts:TS}{tr:Ends->St->XK}
theorem mY{pins:List (Addr × Obj)}{s:Shared}{σ:St}{H:Hp}{e:Addr}{cls:Value}{d:Option Addr}{T:Addr}(hdef:sV X)(I:Inv X pins σ H s)(xo:xV s.heap e cls d (some (T,.none)))(fe:cS X pins H e)(fT:cS X pins H T){C:Addr}(hc:cls=.ref C)
  {Q:Unit->Shared->Prop} {M:Model} {A:Around} {E:Value->Shared->Prop} (h:∀h',Inv X pins σ (upd H e (XOb e C d)) { s with heap:=h'}->Q () { s with heap:=h'}):wpAny M A (setFlight (.ref e) none) Q E s:=by
 subst hc;refine qT xo λh' nt x'=>h h' ?_;have I':Inv X pins σ H { s with heap:=h'}:=I.noted (t':=s.toks) (nt.Jn λb hb=>absurd hb (by simp)) λb hb=>by rw[List.mem_singleton.mp hb];exact fT
 obtain⟨_,⟨oe,vs,e1,e2,e3,e4,_⟩,_⟩:=x';rcases fe.2.2.2.1 with z | z
 .rw [hdef.2.2] at z;exact absurd z (by simp)
 .exact I'.zW fe.1 z fe.2.1 fe.2.2.2.2.1 fe.2.2.2.2.2 (XOb.ok ⟨oe,vs,e1,e2,e3,e4⟩)
theorem LA{i:Nat}(hdef:sV X)(hN:X.N.Nodup)(hi:X.N[i]? =some n)(hl:X.env.kindOf n=some .local)(hg:Gl X x)(hm:X.mg x=some (.ref C'))(xc:qd X.K C')(hs:∀e,PSs (X.bt e) (b0::suite) ts)(hr:PH X rest tr)
  (hd:(x == ("__debug__":Str))=false:=by decide):
  PH X (.ExceptHandler (some (.Name x np)) (some n) (b0::suite) pos::rest) (λD σ cls d H=>∃C b,cls=.ref C/\PySem.W.mroIn X.K C (.ref C')=some b∧
   if b=true then ∀e,H e=none->ts (KS i D) (σ.set i (some (.ref e))) (upd H e (XOb e C d)) else tr D σ cls d H):=by
 intro pins s σ H e cls d T D I xo fe fT h;obtain⟨C,b,rfl,m,q⟩:=h;refine wpAny_handleBy_cons (codeAny_handlers_test (Calls.Name_function_global I.ok.kind hg (Calls.loadGlobal_global (by rw[I.ok.glob];exact I.mod.glob.keeps I.bk) hm ?_) hd)) (by intro z;cases z);obtain⟨oe,vs,e1,e2,_⟩:=id xo.2.1;refine qQ I.kIn e1 e2 xc m ?_;cases b with
 | false=>exact hr pins s σ H e _ d T D I xo fe fT q
 | true=>
  refine codeAny_handlers_suite_as ?_;refine mY hdef I xo fe fT rfl λh' I'=> ?_;have IH:=I'.bt e;refine ph (X:=X.bt e) IH hN hi (.inl hl) (show RelV (.ref e) (.ref e) from rfl) (λs2 I2=> ?_) (.inr hl);refine wpAny_mono (hs e pins s2 _ _ _ I2 (q e fe.1)) (λf s3 h3=> ?_) λ_ _ z=>z.elim;have done:∀{σ3:St} {H3:Hp} {Q:Unit->Shared->Prop},Inv (X.bt e) pins σ3 H3 s3->(∀s4,Inv X pins (σ3.set i none) H3 s4->Q () s4)->wpAny (model X.prog X.w) X.A (do bindName X.env n .none;unbindBehindTheSuite X.env n pos) Q X.xe s3:=λ{σ3 H3 Q} I3 k=>Inv.zE (I3.c9 I.ok) hN hi hl k;cases f with
  | next=>obtain⟨σ3,H3,I3,q3⟩:=h3;exact done I3 λs4 I4=>⟨_,H3,I4,q3⟩
  | brk=>obtain⟨σ3,H3,I3,q3⟩:=h3;exact done I3 λs4 I4=>⟨_,H3,I4,q3⟩
  | cont=>obtain⟨σ3,H3,I3,q3⟩:=h3;exact done I3 λs4 I4=>⟨_,H3,I4,q3⟩
  | ret u=>obtain⟨v,σ3,H3,I3,r3,q3⟩:=h3;exact done I3 λs4 I4=>⟨v,_,H3,I4,r3,q3⟩
theorem Fl(hdef:sV X)(hg:Gl X x)(hm:X.mg x=some (.ref C'))(xc:qd X.K C')(hs:∀e,PSs (X.bt e) (b0::suite) ts)(hr:PH X rest tr)(hd:(x == ("__debug__":Str))=false:=by decide):
  PH X (.ExceptHandler (some (.Name x np)) none (b0::suite) pos::rest) (λD σ cls d H=>∃C b,cls=.ref C/\PySem.W.mroIn X.K C (.ref C')=some b∧
   if b=true then ∀e,H e=none->ts D σ (upd H e (XOb e C d)) else tr D σ cls d H):=by
 intro pins s σ H e cls d T D I xo fe fT h;obtain⟨C,b,rfl,m,q⟩:=h;refine wpAny_handleBy_cons (codeAny_handlers_test (Calls.Name_function_global I.ok.kind hg (Calls.loadGlobal_global (by rw[I.ok.glob];exact I.mod.glob.keeps I.bk) hm ?_) hd)) (by intro z;cases z);obtain⟨oe,vs,e1,e2,_⟩:=id xo.2.1;refine qQ I.kIn e1 e2 xc m ?_;cases b with
 | false=>exact hr pins s σ H e _ d T D I xo fe fT q
 | true=>
  refine codeAny_handlers_suite ?_;refine mY hdef I xo fe fT rfl λh' I'=> ?_;exact wpAny_mono (hs e pins _ _ _ _ (I'.bt e) (q e fe.1)) (λf s3 h3=>SP.c9 h3 I.ok) λ_ _ z=>z.elim
end
structure XIn(K:PySem.W.Frag)(C:Addr):Prop where
 ga:PySem.W.findIn K (.ref C) "__getattribute__"=some (some (.builtin "BaseException.__getattribute__"))
 gt:PySem.W.findIn K (.ref C) "__getattr__"=some none
 cl:PySem.W.findIn K (.ref C) "__class__"=some (some (.builtin "object.__class__"))
 mb:PySem.W.mroIn K C (.type "BaseException")=some true
 mo:PySem.W.mroIn K C (.type "object")=some true
section
variable{prog:Program}{w:World}{A:Around}{E:Value->Shared->Prop}{K:PySem.W.Frag}{C a:Addr}{o:Obj}{vs:Array Value}{h:Heap}{g:Array GenState}{d:Drawn}{t:Nat}{os:OsState}
theorem CP{h:Heap}(hx:h.get? a=some o)(hc:o.cls=.ref C)(hd:o.data=.fields vs)(hn:o.dict=none):PySem.W.InstAt h a o C none:=
 ⟨hx,hc,by obtain⟨c,dd,dt,sl⟩:=o;cases hd;rfl,by rw[hn];trivial⟩
theorem GU{tk:Tok}{Q:Fin->Shared->Prop}(X:K.In h)(x:XIn K C)(hx:h.get? a=some o)(hc:o.cls=.ref C)(hd:o.data=.fields vs)(hn:o.dict=none)(hq:Q (.done (.ret (.ref C))) ⟨h,g,d,t,os⟩):
  wpAny (model prog w) A (Builtin.«object.__getattribute__» ⟨[.ref a,.str "__class__" tk],[]⟩) Q E ⟨h,g,d,t,os⟩:=by
 have hT5:(⟨h,g,d,t,os⟩:Shared).TypeIs (.builtin "object.__class__") "getset_descriptor":=F.typeOf_object_class;have L:=PySem.W.looks_findIn (M:=model prog w) X x.cl;have f5:=F.typeOf_object_class;have f6:=F.slot_gs_get.lookup;have f7:=F.slot_gs_set.lookup
 repeat (any_goals (first | assumption | (with_reducible refine wpAny_loadPart_at hx ?_;rw[hc]) | (with_reducible refine L.at ?_) | wp_step))
 refine PySem.W.class_get X (CP hx hc hd hn) x.mo ?_
 repeat (any_goals (first | assumption | wp_step))
theorem u3{M:Model}{nameV:Value}{Q:Unit->Shared->Prop}(X:K.In h)(x:XIn K C)(hx:h.get? a=some o)(hc:o.cls=.ref C)(hq:Q () ⟨h,g,d,t,os⟩):
  wpAny M A (checkBuiltinCall "BaseException.__getattribute__" ⟨[.ref a,nameV],[]⟩) Q E ⟨h,g,d,t,os⟩:=by
 have k1:builtinKind "BaseException.__getattribute__"=some .slot:=by decide +kernel
 have k2:splitId "BaseException.__getattribute__"=some ("BaseException","__getattribute__"):=by decide +kernel
 have L:=PySem.W.looks_mroIn (M:=M) X x.mb;have ha:=F.args_bexc_ga (.ref a) nameV;simp only [checkBuiltinCall,k1,k2];refine wpAny_bind ?_;unfold isInstance
 repeat (first | (with_reducible refine wpAny_loadPart_at hx ?_;rw[hc]) | (with_reducible refine L.at ?_) | wp_step)
 exact hq
theorem Ld{tk:Tok}{Q:Value->Shared->Prop}(X:K.In h)(x:XIn K C)(hx:h.get? a=some o)(hc:o.cls=.ref C)(hd:o.data=.fields vs)(hn:o.dict=none)(hq:Q (.ref C) ⟨h,g,d,t,os⟩):
  wpAny (model prog w) A (getAttrBy (.ref a) (.str "__class__" tk) false) Q E ⟨h,g,d,t,os⟩:=by
 have FB:=PySem.F.attrBase_ValueError;have f3:=FB.ga.bind (.ref a);have hx2:(Value.builtin "BaseException.__getattribute__" == Value.builtin "object.__getattribute__")=false:=by decide +kernel
 have hx1:(onTheHeap (Value.ref C) && Value.builtin "BaseException.__getattribute__" == Value.builtin "object.__getattribute__")=false:=by rw[hx2];rfl
 have L1:=PySem.W.looks_findIn (M:=model prog w) X x.ga;have L2:=PySem.W.looks_findIn (M:=model prog w) X x.gt
 repeat (any_goals (first | assumption | (with_reducible refine wpAny_loadPart_at hx ?_;rw[hc]) | (with_reducible refine L1.at ?_) | (with_reducible refine L2.at ?_) | wp_step))
 refine codeAny_call_builtin FB.ga.plain F.entry_bexc_ga (u3 X x hx hc (GU X x hx hc hd hn ?_))
 repeat (any_goals (first | assumption | wp_step))
theorem HM{Q:Option Value->Shared->Prop}(X:K.In h)(x:XIn K C)(hx:h.get? a=some o)(hc:o.cls=.ref C)(hd:o.data=.fields vs)(hn:o.dict=none)(hq:Q (some (.ref C)) ⟨h,g,d,t + 1,os⟩):
  wpAny (model prog w) A (getAttr? (.ref a) "__class__") Q E ⟨h,g,d,t,os⟩:=by
 unfold getAttr? getAttrBy?
 repeat (any_goals (first | assumption | with_reducible apply Ld X x hx hc hd hn | wp_step))
end
structure aM(K:PySem.W.Frag)(x qual:Str)(st:Stmt)(dV:Value)(f:Addr)(fd:FuncData):Prop where
 ex:∃(oc:Value) (od:Option Addr) (kV doc pm:Value) (an:Option Addr) (cdv ct:Value) (osl:Array (Option Value)),
  fd=PySem.W.fnOf x qual (gJ st) (aY st) (aj st) dV kV doc pm an cdv ct/\K.lookup f=some ⟨oc,od,.func fd,osl⟩/\PySem.W.codeIn K cdv qual=true
 kp:PySem.W.keepIn K (.ref f)=true
abbrev XNo:St->XK:=λ_ _ _ _=>False
theorem BM{X:Cx}:Throws X.nox XNo:=λ_ _ _ _ _ _ _ _ q=>q
theorem bM{X:Cx}:Passes (CXE X.nox.prog X.nox.w) X.nox XNo:=passes BM
section
variable{P:Program}{w:World}{K:PySem.W.Frag}{mg:Str->Option Value}{base:Heap}{x qual:Str}{st:Stmt}{dV:Value}{f:Addr}{fd:FuncData}{N ps:List Str}{k:Nat}{cm:Bool}{sp:Sp}
theorem aM.ok(F:aM K x qual st dV f fd)(S:aw N ps (aj st))(len:∀vs H Q E,sp vs H Q E->vs.length=ps.length)
  (hbody:∀(cdv:Value) (A:Around) (outer:List Env) (s:Shared) (H:Hp) (vs:List V) (Q:VK) (E:XK),bJ cm k (A.deeper (envOfC qual (aj st) s.heap.objs.size f cdv))->sp vs H Q E→
   ∃t,PSs (fO cm (CXE P w) P w K mg base N qual (aj st) f cdv A outer s H E) (aY st) t/\t { nx:=λ_ H'=>Q .non H',rt:=Q} (start N vs) H):aB P w K mg base (CXE P w) cm (k + 1) f fd ps sp:=by
 obtain⟨oc,od,kV,doc,pm,an,cdv,ct,osl,rfl,lk,hcd⟩:=F.ex;exact KW lk hcd S len λA outer s H vs Q E hr hsp=>hbody cdv A outer s H vs Q E hr hsp
theorem aM.okN(F:aM K x qual st dV f fd)(S:aw N ps (aj st))(len:∀vs H Q E,sp vs H Q E->vs.length=ps.length)
  (hbody:∀(cdv:Value) (A:Around) (outer:List Env) (s:Shared) (H:Hp) (vs:List V) (Q:VK) (E:XK),bJ cm k (A.deeper (envOfC qual (aj st) s.heap.objs.size f cdv))->sp vs H Q E→
   ∃t,PSs (fO cm (CXE P w) P w K mg base N qual (aj st) f cdv A outer s H E).nox (aY st) t/\t { nx:=λ_ H'=>Q .non H',rt:=Q} (start N vs) H):aB P w K mg base (CXE P w) cm (k + 1) f fd ps sp:=
 F.ok S len λcdv A outer s H vs Q E hr hsp=>let ⟨t,h,q⟩:=hbody cdv A outer s H vs Q E hr hsp;⟨t,h.nox,q⟩
theorem aM.ok1(F:aM K x qual st dV f fd)(S:aw N ps (aj st))(h:∀vs H Q E,sp vs H Q E->vs.length=ps.length∧
   ∀(cdv:Value) (A:Around) (outer:List Env) (s:Shared),bJ cm k (A.deeper (envOfC qual (aj st) s.heap.objs.size f cdv))→
   ∃t,PSs (fO cm (CXE P w) P w K mg base N qual (aj st) f cdv A outer s H E) (aY st) t/\t { nx:=λ_ H'=>Q .non H',rt:=Q} (start N vs) H):aB P w K mg base (CXE P w) cm (k + 1) f fd ps sp:=
 F.ok S (λvs H Q E q=>(h vs H Q E q).1) λcdv A outer s H vs Q E hr q=>(h vs H Q E q).2 cdv A outer s hr
theorem aM.pf(F:aM K x qual st dV f fd)(S:aw N ps (aj st))(h:∀vs H Q E,sp vs H Q E->vs.length=ps.length∧
   ∀(cdv:Value) (A:Around) (outer:List Env) (s:Shared),bJ cm k (A.deeper (envOfC qual (aj st) s.heap.objs.size f cdv))→
   ∃t,PSs (fO cm (CXE P w) P w K mg base N qual (aj st) f cdv A outer s H E).nox (aY st) t/\t { nx:=λ_ H'=>Q .non H',rt:=Q} (start N vs) H):aB P w K mg base (CXE P w) cm (k + 1) f fd ps sp:=
 F.okN S (λvs H Q E q=>(h vs H Q E q).1) λcdv A outer s H vs Q E hr q=>(h vs H Q E q).2 cdv A outer s hr
theorem aM.binds(F:aM K x qual st dV f fd)
  (h:∀(kV doc pm:Value) (an:Option Addr) (cdv ct:Value) (us:List Value),us.length=ps.length->bindArgs (PySem.W.fnOf x qual (gJ st) (aY st) (aj st) dV kV doc pm an cdv ct) ⟨us,[]⟩=pure (ps.zip us)):Binds K fd ps []:=by
 obtain⟨oc,od,kV,doc,pm,an,cdv,ct,osl,rfl,lk,hcd⟩:=F.ex;exact .all (h kV doc pm an cdv ct)
theorem aM.xS{T:Addr}{o:Obj}{items:Array Value}{n:Nat}{ds:List Value}(F:aM K x qual st (.ref T) f fd)(lt:K.lookup T=some o)(hs:o.data=.seq items n)
  (h:∀(kV doc pm:Value) (an:Option Addr) (cdv ct:Value) (us:List Value),(us++ds).length=ps.length→
   ∃k,bindArgs (PySem.W.fnOf x qual (gJ st) (aY st) (aj st) (.ref T) kV doc pm an cdv ct) ⟨us,[]⟩=seqItems? (.ref T) >>= k/\k (some items)=pure (ps.zip (us++ds))):Binds K fd ps ds:=by
 obtain⟨oc,od,kV,doc,pm,an,cdv,ct,osl,rfl,lk,hcd⟩:=F.ex;intro s us kin hl;obtain⟨kk,h1,h2⟩:=h kV doc pm an cdv ct us hl;exact BindsTo.of_defaults (fd:=PySem.W.fnOf x qual (gJ st) (aY st) (aj st) (.ref T) kV doc pm an cdv ct) rfl (kin _ _ lt) hs h1 h2
theorem Hn{oc:Value}{od an:Option Addr}{osl:Array (Option Value)}{kV doc pm cdv ct:Value}(l:K.lookup f=some ⟨oc,od,.func (PySem.W.fnOf x qual (gJ st) (aY st) (aj st) dV kV doc pm an cdv ct),osl⟩)
  (c:PySem.W.codeIn K cdv qual=true) (k:PySem.W.keepIn K (.ref f)=true):aM K x qual st dV f (PySem.W.fnOf x qual (gJ st) (aY st) (aj st) dV kV doc pm an cdv ct):=⟨⟨oc,od,kV,doc,pm,an,cdv,ct,osl,rfl,l,c⟩,k⟩
end
def IsC(K:PySem.W.Frag)(C:Addr):Prop:=∃dd cd sl,K.lookup C=some ⟨.type "type",dd,.cls cd,sl⟩
theorem rY{K:PySem.W.Frag}{C D:Addr}{b:Bool}(hD:IsC K D)(m:PySem.W.mroIn K C (.ref D)=some b)(ne:C=D->b=true):PySem.W.kitOne K (.ref C) (.ref D)=some b:=by
 obtain⟨dd,cd,sl,l⟩:=hD;unfold PySem.W.kitOne;by_cases e:C=D
 .rw [if_pos (by rw[e];exact beq_self_eq_true _),ne e]
 .rw [if_neg (by rw[beq_iff_eq];intro z;exact e (Value.ref.inj z))];unfold PySem.W.kitCls;have h1:PySem.W.clsIn K D=some cd:=by unfold PySem.W.clsIn;rw[l]
  have h2:PySem.W.typeIn K (.ref D)=some (.type "type"):=by
   show(K.lookup D).map (·.cls)=_;rw[l]
   rfl
  dsimp only;rw[h1,h2];exact m
theorem GX{K:PySem.W.Frag}{e C:Addr}(x:XIn K C)(hC:IsC K C):PySem.W.KitX K (.ref e) (.ref C) (λh=>∃o vs,h.get? e=some o/\o.cls=.ref C/\o.dict=none/\o.data=.fields vs) where
 ty:=λM h _ p=>by
  obtain⟨o,vs,h1,h2,_⟩:=p;exact h2 ▸ (PySem.W.Looks.ld h1).andThen .now
 it:=λM h X _=>by
  obtain⟨dd,cd,sl,l⟩:=hC;intro A' Q' E' s' k q;unfold isType loadHead;exact wpAny_bind (wpAny_loadPart (k _ _ (X _ _ l)) (wpAny_pure q))
 ne:=λh tp dd its n sl X htp=>by
  obtain⟨dd',cd,sl',l⟩:=hC;refine Bool.eq_false_iff.mpr λq=> ?_;have e:C=tp:=Value.ref.inj (beq_iff_eq.mp q);subst e;have z:=congrArg (λo:Obj=>o.data) (Option.some.inj ((X _ _ l).symm.trans htp));cases z
 ca:=λ{prog w A E Q s} X p q=>by
  obtain⟨o,vs,h1,h2,h3,h4⟩:=p;obtain⟨hh,g,d,t,os⟩:=s;exact HM X x h1 h2 h4 h3 q
section
variable{X:Cx}
theorem Gq:mf X (.builtin "isinstance") (λxs H Q=>∃(e C:Addr) (c:V) (vc:Value) (b:Bool),xs=[.ref e,c]/\H e=some (XOb e C none)/\XIn X.K C/\IsC X.K C/\RelV c vc/\PySem.W.kitOne X.K (.ref C) vc=some b/\Q (.bl b) H):=by
 intro pins s σ H xs us Q I r h;obtain⟨e,C,c,vc,b,rfl,he,xi,ic,rc,kt,q⟩:=h;obtain⟨u1,u2,rfl,r1,r2⟩:=vals2 r;cases r1
 have e2:u2=vc:=by
  cases c with
  | ref a=>exact(show u2=Value.ref a from r2).trans (show vc=Value.ref a from rc).symm
  | ty n=>exact(show u2=Value.type n from r2).trans (show vc=Value.type n from rc).symm
  | non=>exact(show u2=Value.none from r2).trans (show vc=Value.none from rc).symm
  | bl y=>exact(show u2=Value.bool y from r2).trans (show vc=Value.bool y from rc).symm
  | int i=>obtain⟨t,rfl⟩:=rc;simp [PySem.W.kitOne,PySem.W.kitCls] at kt
  | str y=>obtain⟨t,rfl⟩:=rc;simp [PySem.W.kitOne,PySem.W.kitCls] at kt
  | byt y=>obtain⟨t,rfl⟩:=rc;simp [PySem.W.kitOne,PySem.W.kitCls] at kt
  | flt y=>obtain⟨t,rfl⟩:=rc;simp [PySem.W.kitOne,PySem.W.kitCls] at kt
 subst e2;have ok:=(I.hok e _ he).1;exact PySem.W.kia_one (GX xi ic) I.kIn ok kt (λz=>nomatch z) λtk=>⟨.bl b,H,I.tok tk,rfl,q⟩
theorem dj{x:Str}{i:Int}{t:Tok}{pos:Pos}(hg:Gl X x)(hm:X.mg x=some (.int i t))(hd:(x == ("__debug__":Str))=false:=by decide):PE X (.Name x pos) (tC (.int i)):=yE hg hm ⟨t,rfl⟩ hd
theorem xP{x z:Str}{t:Tok}{pos:Pos}(hg:Gl X x)(hm:X.mg x=some (.str z t))(hd:(x == ("__debug__":Str))=false:=by decide):PE X (.Name x pos) (tC (.str z)):=yE hg hm ⟨t,rfl⟩ hd
theorem gK{x:Str}{a:Addr}{pos:Pos}(hg:Gl X x)(hm:X.mg x=some (.ref a))(hd:(x == ("__debug__":Str))=false:=by decide):PE X (.Name x pos) (tC (.ref a)):=yE hg hm (v:= .ref a) rfl hd
end
def MethAt(P:Program)(w:World)(K:PySem.W.Frag)(mg:Str->Option Value)(base:Heap)(CX:CXT)(cm:Bool)(k:Nat)(m:Str)(C:Addr)(sp:Sp)(dvs:List V):Prop:=
 ∃f fd ps ds,Cls K C/\Meth K C m f/\aB P w K mg base CX cm k f fd ps sp/\Binds K fd ps ds/\Vals dvs ds
def xW(Dt:Addr->Sp->List V->Prop)(m:Str)(E:St->XK)(ta:TE)(t:TA):TE:=λσ H Q=>ta σ H λx H1=>∃a C dx fs sp dvs,x=.ref a/\H1 a=some (.ins C dx fs)/\Dt C sp dvs/\fs.lookup m=none∧
 t σ H1 λvs H2=>sp (x::(vs++dvs)) H2 Q (E σ)
section
variable{X:Cx}{CX:CXT}{k:Nat}{cm:Bool}{E:St->XK}{m:Str}{pos apos:Pos}{e o:Expr}{es:List Expr}{ta:TE}{t:TA}{Dt:Addr->Sp->List V->Prop}
theorem ui{pl:Sem Bool}(he:PE X o ta)(hD:∀C sp dvs,Dt C sp dvs->MethAt X.prog X.w X.K X.mg X.base CX cm k m C sp dvs)(hr:bJ cm k X.A)(hx:Passes CX X E)(ha:PA X (e::es) t)
  (hst:starEach (e::es) X.env=(false,eval e X.env)::starEach es X.env:=by rfl) (hpl:(backTo pos (starEach es X.env)).any (·.1)=false:=by rfl)
  (ht:eval (.Call (.Attribute o m apos) (e::es) [] pos) X.env=(do
   let ov<-eval o X.env
   standAt apos.atName
   let (f,first)<-holding [ov] (getMethod ov m pl)
   callWith pos f first (backTo pos (starEach (e::es) X.env)) (backToKw pos (keywordEach [] X.env))):=by rfl):
  PE X (.Call (.Attribute o m apos) (e::es) [] pos) (xW Dt m E ta t):=by
 intro pins s σ H Q I h;refine PySem.W.methodCall_KW (pl:=pl) (he.th I h λu s1 x H1 I1 rx zz=> ?_) ht;obtain⟨a,C,dx,fs,sp,dvs,ex,ea,dt,l,q⟩:=zz;subst ex;obtain rfl:u=Value.ref a:=rx;obtain⟨f,fd,ps,ds,c,hm,F,hb,hd⟩:=hD C sp dvs dt;refine sL I1 ea c hm l ?_;refine PySem.W.callWith_K (first:=[.ref a]) (h₀:=X.base) I.ok.mod.kin hm.kp (ha.th I1 q λus s2 vs H2 I2 r q2=>⟨I2.kIn,?_⟩) hst hpl;exact sN (us:= .ref a::us) (vs:= .ref a::vs) F hr hb hd hx I2 (.cons rfl r) q2
theorem qF{pl:Sem Bool}(he:PE X o ta)(hD:∀C sp dvs,Dt C sp dvs->MethAt X.prog X.w X.K X.mg X.base CX cm k m C sp dvs)(hr:bJ cm k X.A)(hx:Passes CX X E)
  (ht:eval (.Call (.Attribute o m apos) [] [] pos) X.env=(do
   let ov<-eval o X.env
   standAt apos.atName
   let (f,first)<-holding [ov] (getMethod ov m pl)
   callWith pos f first (backTo pos (starEach [] X.env)) (backToKw pos (keywordEach [] X.env))):=by rfl):
  PE X (.Call (.Attribute o m apos) [] [] pos) (xW Dt m E ta AX):=by
 intro pins s σ H Q I h;refine PySem.W.methodCall_KW (pl:=pl) (he.th I h λu s1 x H1 I1 rx zz=> ?_) ht;obtain⟨a,C,dx,fs,sp,dvs,ex,ea,dt,l,q⟩:=zz;subst ex;obtain rfl:u=Value.ref a:=rx;obtain⟨f,fd,ps,ds,c,hm,F,hb,hd⟩:=hD C sp dvs dt;refine sL I1 ea c hm l ?_;exact PySem.W.callWith_K0 (first:=[.ref a]) I1.kIn hm.kp (sN (us:=[.ref a]) (vs:=[.ref a]) F hr hb hd hx I1 (.cons rfl .nil) q)
end
structure Gw(K:PySem.W.Frag)(C:Addr)(m:Str)(f:Addr):Prop where
 sp:PySem.W.specialIn K (.ref C) "__getattribute__"=some (some (.builtin "type.__getattribute__"))
 rd:PySem.W.readsIn K C (.type "type")=true
 fc:PySem.W.findCls K (.ref C) (.type "type") m=some (.val (.ref f))
 kp:PySem.W.keepIn K (.ref f)=true
section
variable{X:Cx}{CX:CXT}{k:Nat}{cm:Bool}{f C:Addr}{fd:FuncData}{ps:List Str}{sp:Sp}{dvs:List V}{ds:List Value}{E:St->XK}{x m:Str}{p pos apos:Pos}{e:Expr}{es:List Expr}{t:TA}
theorem GW{pl:Sem Bool}(F:aB X.prog X.w X.K X.mg X.base CX cm k f fd ps sp)(hr:bJ cm k X.A)(hg:Gl X x)(hm:X.mg x=some (.ref C))(bc:Gw X.K C m f)(hb:Binds X.K fd ps ds)(hd:Vals dvs ds)(hx:Passes CX X E)(ha:PA X (e::es) t)
  (hdb:(x == ("__debug__":Str))=false:=by decide)
  (hst:starEach (e::es) X.env=(false,eval e X.env)::starEach es X.env:=by rfl) (hpl:(backTo pos (starEach es X.env)).any (·.1)=false:=by rfl)
  (ht:eval (.Call (.Attribute (.Name x p) m apos) (e::es) [] pos) X.env=(do
   let ov<-eval (.Name x p) X.env
   standAt apos.atName
   let (f,first)<-holding [ov] (getMethod ov m pl)
   callWith pos f first (backTo pos (starEach (e::es) X.env)) (backToKw pos (keywordEach [] X.env))):=by rfl):
  PE X (.Call (.Attribute (.Name x p) m apos) (e::es) [] pos) (um sp dvs E t):=by
 intro pins s σ H Q I h;refine PySem.W.methodCall_KW (pl:=pl) (gE I hg hm ?_ hdb) ht;refine PySem.W.method_cls I.kIn bc.sp (PySem.W.cls_value I.kIn bc.rd bc.fc rfl ?_);have I1:Inv X pins σ H { s with toks:=s.toks + 1}:=I.tok _;refine PySem.W.callWith_K (first:=[]) (h₀:=X.base) I.ok.mod.kin bc.kp (ha.th I1 h λus s2 vs H2 I2 r q2=>⟨I2.kIn,?_⟩) hst hpl;exact sN F hr hb hd hx I2 r q2
end
def oj:List V->List V->Bool
 | [],[]=>true
 | x::xs,y::ys=>eqV x y && oj xs ys
 | _,_=>false
theorem zF:∀{xs ys:List V},xs.length≠ys.length->oj xs ys=false
 | [],[],h=>absurd rfl h
 | [],_::_,_=>rfl
 | _::_,[],_=>rfl
 | x::xs,y::ys,h=>by
  have:=zF (xs:=xs) (ys:=ys) λz=>h (by rw[List.length_cons,List.length_cons,z]);show(eqV x y && oj xs ys)=false;rw[this,Bool.and_false]
theorem tZ:∀{xs ys:List V},xs.length=ys.length->((List.range xs.length).all λj=>match xs[j]?,ys[j]? with | some a,some b=>eqV a b | _,_=>true)=oj xs ys
 | [],[],_=>rfl
 | x::xs,y::ys,h=>by
  have ih:=tZ (xs:=xs) (ys:=ys) (by simpa using h);rw[List.length_cons,List.range_succ_eq_map,List.all_cons,List.all_map];show(eqV x y && (List.range xs.length).all λj=>match xs[j]?,ys[j]? with | some a,some b=>eqV a b | _,_=>true)=(eqV x y && oj xs ys);rw[ih]
section
variable{X:Cx}
theorem items_eqAt{A:Around}{s:Shared}{xs ys:List V}{is js:List Value}(r1:Vals xs is)(r2:Vals ys js)(f1:xs.all dY=true)(f2:ys.all dY=true)(j:Nat)(h1:j < is.toArray.size)(h2:j < js.toArray.size):
  SeqAt.EqAt A s is.toArray[j] js.toArray[j] (match xs[j]?,ys[j]? with | some a,some b=>eqV a b | _,_=>true):=by
 rw[List.size_toArray] at h1 h2;have l1:=r1.length;have l2:=r2.length;have e1:xs[j]? =some xs[j]:=List.getElem?_eq_getElem (by omega);have e2:ys[j]? =some ys[j]:=List.getElem?_eq_getElem (by omega);obtain⟨u1,q1,v1⟩:=r1.get e1;obtain⟨u2,q2,v2⟩:=r2.get e2;rw[List.getElem?_eq_getElem h1] at q1;rw[List.getElem?_eq_getElem h2] at q2;cases q1;cases q2;rw[e1,e2];simp only [List.getElem_toArray];exact BO v1 v2 (List.all_eq_true.mp f1 _ (List.getElem_mem _)) (List.all_eq_true.mp f2 _ (List.getElem_mem _))
def L5(K:PySem.W.Frag)(neg:Bool):R2:=λx y H Q=>∃(a b:Addr) (xs ys:List V),x=.ref a/\y=.ref b/\SqL K H a xs/\SqL K H b ys/\xs.all dY=true/\ys.all dY=true/\Q (.bl (if neg=true then !oj xs ys else oj xs ys)) H
theorem pK(hu:X.A.units < cLine):OpR X (compareOp .Eq) (L5 X.K false):=by
 intro pins s σ H x y v u Q I rx ry h;obtain⟨a,b,xs,ys,rfl,rfl,h1,h2,f1,f2,q⟩:=h;cases rx;cases ry;obtain⟨is,r1,p1,z1⟩:=I.list h1;obtain⟨js,r2,p2,z2⟩:=I.list h2;have l1:=r1.length;have l2:=r2.length;have q:Q (.bl (oj xs ys)) H:=q;by_cases hl:xs.length=ys.length
 .refine SeqAt.eq_listAt (e:=λj=>match xs[j]?,ys[j]? with | some a,some b=>eqV a b | _,_=>true) p1.isList p2.isList (by rw[List.size_toArray,List.size_toArray];lia) hu (items_eqAt r1 r2 f1 f2) ?_;rw[List.size_toArray,<-l1,tZ hl];exact⟨.bl _,H,I,rfl,q⟩
 .refine SeqAt.eq_list_lengthsAt p1.isList p2.isList (by rw[List.size_toArray,List.size_toArray,bne_iff_ne];lia) hu ?_;rw[zF hl] at q;exact⟨.bl _,H,I,rfl,q⟩
end
def Cal(P:Program)(w:World)(K:PySem.W.Frag)(mg:Str->Option Value)(base:Heap)(cm:Bool)(k:Nat)(x:Str)(sp:Sp)(dvs:List V):Prop:=
 ∃f fd ps ds,aB P w K mg base (CXE P w) cm k f fd ps sp/\mg x=some (.ref f)/\PySem.W.keepIn K (.ref f)=true/\Binds K fd ps ds/\Vals dvs ds
def Mak(P:Program)(w:World)(K:PySem.W.Frag)(mg:Str->Option Value)(base:Heap)(cm:Bool)(k:Nat)(x:Str)(C:Addr)(sp:Sp)(dvs:List V):Prop:=
 ∃f fd ps ds,Mk K C f/\aB P w K mg base (CXE P w) cm k f fd ps sp/\mg x=some (.ref C)/\Binds K fd ps ds/\Vals dvs ds
def Cmt(P:Program)(w:World)(K:PySem.W.Frag)(mg:Str->Option Value)(base:Heap)(cm:Bool)(k:Nat)(x m:Str)(sp:Sp)(dvs:List V):Prop:=
 ∃C f fd ps ds,Gw K C m f/\aB P w K mg base (CXE P w) cm k f fd ps sp/\mg x=some (.ref C)/\Binds K fd ps ds/\Vals dvs ds
section
variable{X:Cx}{k:Nat}{cm:Bool}{C:Addr}{sp:Sp}{dvs:List V}{E:St->XK}{x m:Str}{p pos apos:Pos}{e:Expr}{es:List Expr}{t:TA}
theorem bO(c:Cal X.prog X.w X.K X.mg X.base cm k x sp dvs)(hr:bJ cm k X.A)(hg:Gl X x)(hx:Passes (CXE X.prog X.w) X E)
  (ha:PA X (e::es) t) (hdb:(x == ("__debug__":Str))=false:=by decide) (he:starEach (e::es) X.env=(false,eval e X.env)::starEach es X.env:=by rfl) (hpl:(backTo pos (starEach es X.env)).any (·.1)=false:=by rfl):
  PE X (.Call (.Name x p) (e::es) [] pos) (um sp dvs E t):=by
 obtain⟨f,fd,ps,ds,F,hm,hk,hb,hd⟩:=c;exact Hk F hr hg hm hk hb hd hx ha hdb he hpl
theorem Cr(c:Cal X.prog X.w X.K X.mg X.base cm k x sp dvs)(hr:bJ cm k X.A)(hg:Gl X x)(hx:Passes (CXE X.prog X.w) X E)
  (hdb:(x == ("__debug__":Str))=false:=by decide):PE X (.Call (.Name x p) [] [] pos) (um sp dvs E AX):=by
 obtain⟨f,fd,ps,ds,F,hm,hk,hb,hd⟩:=c;exact F2 F hr hg hm hk hb hd hx hdb
theorem fY(c:Mak X.prog X.w X.K X.mg X.base cm k x C sp dvs)(hr:bJ cm (k + 1) X.A)(hg:Gl X x)(hx:Passes (CXE X.prog X.w) X E)
  (ha:PA X (e::es) t) (hdb:(x == ("__debug__":Str))=false:=by decide) (he:starEach (e::es) X.env=(false,eval e X.env)::starEach es X.env:=by rfl) (hpl:(backTo pos (starEach es X.env)).any (·.1)=false:=by rfl):
  PE X (.Call (.Name x p) (e::es) [] pos) (C2 C sp dvs E t):=by
 obtain⟨f,fd,ps,ds,M,F,hm,hb,hd⟩:=c;exact Hc M F hr hg hm hb hd hx ha hdb he hpl
theorem A7{pl:Sem Bool}(c:Cmt X.prog X.w X.K X.mg X.base cm k x m sp dvs)(hr:bJ cm k X.A)(hg:Gl X x)(hx:Passes (CXE X.prog X.w) X E)(ha:PA X (e::es) t)
  (hdb:(x == ("__debug__":Str))=false:=by decide)
  (hst:starEach (e::es) X.env=(false,eval e X.env)::starEach es X.env:=by rfl) (hpl:(backTo pos (starEach es X.env)).any (·.1)=false:=by rfl)
  (ht:eval (.Call (.Attribute (.Name x p) m apos) (e::es) [] pos) X.env=(do
   let ov<-eval (.Name x p) X.env
   standAt apos.atName
   let (f,first)<-holding [ov] (getMethod ov m pl)
   callWith pos f first (backTo pos (starEach (e::es) X.env)) (backToKw pos (keywordEach [] X.env))):=by rfl):
  PE X (.Call (.Attribute (.Name x p) m apos) (e::es) [] pos) (um sp dvs E t):=by
 obtain⟨C,f,fd,ps,ds,bc,F,hm,hb,hd⟩:=c;exact GW F hr hg hm bc hb hd hx ha hdb hst hpl ht
end
theorem wL{X:Cx}{NC:List Str}{scope:Scope}{cl:List (Str × Addr)}{C:Addr}{fp:List Addr}{s2:Shared}{H2:Hp}:Passes (CXE (X.comp NC scope cl C fp s2 H2).prog (X.comp NC scope cl C fp s2 H2).w) (X.comp NC scope cl C fp s2 H2) XNo:=passes λ_ _ _ _ _ _ _ _ q=>q
def isStar:Expr->Bool
 | .Starred .. =>true
 | _=>false
theorem Cs{e:Expr}{es:List Expr}{env:Env}(h:isStar e=false):starEach (e::es) env=(false,eval e env)::starEach es env:=by
 cases e <;> first | rfl | cases h
theorem Me{X:Cx}{e:Expr}{es:List Expr}{te:TE}{t:TA}(ha:PE X e te)(hr:PA X es t)(h:isStar e=false:=by rfl):PA X (e::es) (Jf te t):=CH ha hr (Cs h)
def isConst:Expr->Bool
 | .Constant (.str _) _ _=>true
 | .Constant (.int _) _ _=>true
 | _=>false
def FZ:Expr->V
 | .Constant (.str x) _ _=> .str x
 | .Constant (.int x) _ _=> .int x
 | _=> .non
def Iu(vs:List V):TA:=λ_ H Q=>Q vs H
theorem Gr{e:Expr}(h:isConst e=true):(∃x j p,e=.Constant (.str x) j p)\/∃x j p,e=.Constant (.int x) j p:=by
 unfold isConst at h
 split at h
 .exact .inl ⟨_,_,_,rfl⟩
 .exact .inr ⟨_,_,_,rfl⟩
 .cases h
theorem wI{X:Cx}:∀{es:List Expr},es.all isConst=true->PA X es (Iu (es.map FZ))
 | [],_=>λpos pins s σ H Q I h=>eT pos pins s σ H Q I h
 | e::es,h=>by
  rw[List.all_cons,Bool.and_eq_true] at h;have ih:=wI (X:=X) (es:=es) h.2;intro pos pins s σ H Q I q
  have hs:PE X e (tC (FZ e))/\isStar e=false:=by
   rcases Gr h.1 with⟨x,j,p,rfl⟩ | ⟨x,j,p,rfl⟩
   .exact ⟨ai,rfl⟩
   .exact ⟨af,rfl⟩
  exact CH hs.1 ih (Cs hs.2) pos pins s σ H Q I q
theorem pA{A:Around}{k:Nat}{cm:Bool}(hr:bJ cm k A):A.units < cLine:=Nat.lt_of_succ_lt (B3 hr)
def eB(c:Stmt)(j:Nat):Stmt:=match c with
 | .ClassDef _ _ _ body .. =>body.getD j (.Pass ⟨0,0,0,0⟩)
 | _=> .Pass ⟨0,0,0,0⟩
theorem cn:bootBuiltins "len"=some (.builtin "len"):=by decide +kernel
theorem bZ:bootBuiltins "isinstance"=some (.builtin "isinstance"):=by decide +kernel
theorem GC:bootBuiltins "min"=some (.builtin "min"):=by decide +kernel
theorem JB:bootBuiltins "all"=some (.builtin "all"):=by decide +kernel
theorem yV:bootBuiltins "int"=some (.type "int"):=by decide +kernel
theorem eR:bootBuiltins "str"=some (.type "str"):=by decide +kernel
theorem K8{i j:Int}(h:(decide (0 < j) && decide (j < 1073741824))=true):Ly i j:=by
 rw[Bool.and_eq_true,decide_eq_true_iff,decide_eq_true_iff] at h;exact h
section
variable{prog:Program}{w:World}{A:Around}{E:Value->Shared->Prop}{h:Heap}{g:Array GenState}{d:Drawn}{t:Nat}{os:OsState}
variable{nm q:Str}{C N:Addr}{bs bm bmB:List Value}{hdct:Bool}{sn:List Str}{sub:List Value}{ab:Bool}{col:Option Bool}{dd:Option Addr}{k0 k1 k2 k3 k5:Option Value}{B newId initId:String}
theorem vy(F:ExcBaseFacts B newId initId bmB)(T:OwnTail h bmB bm){mN:Str->Option Value}{rest:List Value}{fI:Addr}{oI:Obj}{Q:Fin->Shared->Prop}
  (hC:h.get? C=some (excClassObj nm q C N bs bm hdct sn sub ab col dd k0 k1 k2 k3 k5 newId)) (hn:h.Ns N mN) (hi:mN "__init__"=some (.ref fI)) (hfI:h.get? fI=some oI) (hfc:oI.cls=.type "function")
  (hq:∀h' e,Heap.MadeExcOf h h' e (.ref C) rest->wpAny (model prog w) A (call (.ref fI) (.ref e::rest)) (λr s'=>r=.none/\Q (.done (.ret (.ref e))) s') E ⟨h',g,d,t,os⟩) (hrest:rest.length<=sizeLine):
  wpAny (model prog w) A (Builtin.«type.__call__» ⟨.ref C::rest,[]⟩) Q E ⟨h,g,d,t,os⟩:=by
 repeat (first | with_reducible refine wpAny_loadPart_at hC ?_ | with_reducible refine wpAny_madeBy_exc hC ?_ | wp_step)
 refine codeAny_call_builtin_code (Code.quiet_builtin _ F.quiet) (wpAny_check_new_subT F T hC (codeAny_exc_new_subT F T hC ?_ hrest));show wpAny _ _ _ _ _ _;have up:∀b o,h.get? b=some o->((h.push { cls:= .type "tuple",data:= .seq rest.toArray}).push { cls:= .ref C,data:= .fields #[.ref h.objs.size,.none,.none,.none,.bool false,.none]}).get? b=some o:=λb o e=>Heap.get?_push_of_some _ (Heap.get?_push_of_some _ e);have hn1:((h.push { cls:= .type "tuple",data:= .seq rest.toArray}).push { cls:= .ref C,data:= .fields #[.ref h.objs.size,.none,.none,.none,.bool false,.none]}).Ns N mN:=let ⟨o,es,ep,e,r⟩:=hn;⟨o,es,ep,up _ _ e,r⟩;have hg:((h.push { cls:= .type "tuple",data:= .seq rest.toArray}).push { cls:= .ref C,data:= .fields #[.ref h.objs.size,.none,.none,.none,.bool false,.none]}).get? (h.objs.size + 1)=some { cls:= .ref C,data:= .fields #[.ref h.objs.size,.none,.none,.none,.bool false,.none]}:=by heap_get
 have hcC:(Value.ref C::bm).contains (.ref C)=true:=by simp
 unfold isInstance
 repeat (first | with_reducible refine wpAny_loadPart_at hg ?_ | (with_reducible refine wpAny_isSubtype_exc (up _ _ hC) ?_;rw[hcC]) | wp_step)
 show wpAny _ _ (typeLookup (.ref C) _) _ _ _;refine wpAny_typeLookup_tail (up _ _ hC) hn1 (T.keeps up) F.mroIs F.init.lookup ?_;rw[hi];refine wpAny_holding (wpAny_bind ?_);unfold bindSpecial;refine wpAny_bind (wpAny_typeOf (T:="function") ⟨_,up _ _ hfI,hfc⟩ ?_);rw[if_pos (by decide)];refine wpAny_pure (wpAny_bind (wpAny_mono (hq _ (h.objs.size + 1) ⟨up,Heap.get?_none_of_le (Nat.le_succ _),h.objs.size,hg,Heap.get?_none_of_le (Nat.le_refl _),?_⟩) (λr s' hr=> ?_) λ_ _ x=>x))
 .exact Heap.get?_push_of_some _ (Heap.get?_push_at rfl rfl)
 .obtain ⟨rfl,hQ⟩:=hr
  wp_walk
  exact hQ
theorem El(F:ExcBaseFacts B newId initId bmB)(T:OwnTail h bmB bm){mN:Str->Option Value}{rest:List Value}{fI:Addr}{oI:Obj}{Q:Value->Shared->Prop}
  (hC:h.get? C=some (excClassObj nm q C N bs bm hdct sn sub ab col dd k0 k1 k2 k3 k5 newId)) (hn:h.Ns N mN) (hi:mN "__init__"=some (.ref fI)) (hfI:h.get? fI=some oI) (hfc:oI.cls=.type "function")
  (hq:∀h' e,Heap.MadeExcOf h h' e (.ref C) rest->wpAny (model prog w) (A.under (.builtin "type.__call__" ⟨.ref C::rest,[]⟩)) (call (.ref fI) (.ref e::rest)) (λr s'=>r=.none/\Q (.ref e) s') E ⟨h',g,d,t,os⟩) (hrest:rest.length<=sizeLine):
  wpAny (model prog w) A (call (.ref C) rest) Q E ⟨h,g,d,t,os⟩:=by
 have f1:=tc_lookup;have f2:=tc_bind (.ref C);have hT:(⟨h,g,d,t,os⟩:Shared).TypeIs (.ref C) "type":=⟨_,hC,rfl⟩;refine wpAny_call (codeAny_of_tree ?_);show wpAny _ _ (callAny (.ref C) _) _ _ _
 repeat (any_goals (first | assumption | with_reducible refine wpAny_loadPart_at hC ?_ | wp_step))
 exact⟨rfl,codeAny_call_builtin_at (Code.quiet_builtin _ (by decide +kernel)) entry_typeCall (wpAny_check_type_call_sub hC (vy F T hC hn hi hfI hfc (λh' e hm=>hq h' e hm) hrest))⟩
theorem Bo{M:Model}{s:Shared}{env:Env}{x:Sem Value}{Q:Flow->Shared->Prop}(hbase:bm.contains (.type "BaseException")=true)(hh:A.handled=none)
  (h:wpAny M A x (λv s1=>∃e o,v=.ref e/\s1.heap.get? C=some (excClassObj nm q C N bs bm hdct sn sub ab col dd k0 k1 k2 k3 k5 newId)/\s1.heap.get? e=some o/\o.cls=.ref C/\(∃vs,o.data=.fields vs/\vs[1]? =some .none)/\E (.ref e) s1) E s):
  wpAny M A (raiseStmt env (some x) none) Q E s:=by
 have hcB:(Value.ref C::bm).contains (.type "BaseException")=true:=by rw[List.contains_cons,hbase,Bool.or_true]
 unfold raiseStmt;refine wpAny_bind (wpAny_mono h (λv s1 h1=> ?_) λ_ _ x=>x);obtain⟨e,o,rfl,hC,he,hc,⟨vs,hd,h1⟩,hE⟩:=h1;obtain⟨hp,g,d,tk,os⟩:=s1;obtain⟨oc,od,odt,osl⟩:=o;have hc:oc=.ref C:=hc;have hd:odt=.fields vs:=hd;subst hc hd
 repeat (first | with_reducible refine wpAny_loadPart_at he ?_ | with_reducible refine wpAny_field he rfl h1 ?_ | with_reducible refine wpAny_loadPart_at hC ?_ | (with_reducible refine wpAny_isSubtype_exc hC ?_;rw[hcB]) | wp_step)
 exact wpAny_raiseNew_none hh hE
end
open Builtin Builtin.ObjectAttr
def vf:List Value->Bool
 | .ref _::r=>vf r
 | l=>l == bmV
theorem AE(v:Value)(r:List Value)(h:vf (v::r)=true):(∃a,v=.ref a/\vf r=true)\/v::r=bmV:=by
 cases v <;> first | exact .inl ⟨_,rfl,h⟩ | exact .inr (by simpa [vf] using h)
theorem Aw(self:Value):∀{l:List Value},vf l=true->refuseLoop self "__setattr__" l=pure ()
 | [],e=>absurd e (by decide)
 | v::r,e=>by
  rcases AE v r e with⟨a,rfl,h⟩ | h
  .rw [refuseLoop_ref];exact Aw self h
  .rw [h];exact PySem.F.store_ValueError.passes self
theorem FE{K:PySem.W.Frag}{C:Addr}{h:Heap}(X:K.In h)(q:PySem.W.hasDictIn K C=true):∃cd oc od osl,h.get? C=some ⟨oc,od,.cls cd,osl⟩/\cd.hasDict=true:=by
 obtain⟨cd,hc,hd⟩:=PySem.W.any_some q;unfold PySem.W.clsIn at hc
 split at hc
 .rename_i ho
  cases hc;exact⟨_,_,_,_,X _ _ ho,hd⟩
 .cases hc
structure XSt(K:PySem.W.Frag)(C:Addr)(name:Str):Prop where
 sa:PySem.W.findIn K (.ref C) "__setattr__"=some (some (.builtin "object.__setattr__"))
 ov:((PySem.W.clsIn K C).any λcd=>vf cd.mro)=true
 mo:PySem.W.mroIn K C (.type "object")=some true
 mv:PySem.W.mroIn K C (.type "ValueError")=some true
 tk:PySem.W.takerIn K C name=some none
 hd:PySem.W.hasDictIn K C=true
section
variable{prog:Program}{w:World}{A:Around}{E:Value->Shared->Prop}{K:PySem.W.Frag}{C e:Addr}{o:Obj}{vs:Array Value}{s:Shared}{name:Str}{v:Value}
theorem JK{u:Value}{Q:Value->Shared->Prop}(X:K.In s.heap)(x:XSt K C name)(hx:s.heap.get? e=some o)(hc:o.cls=.ref C)(hd:o.data=.fields vs)(h0:0 < vs.size)
  (q:∀h' t,h'.get? e=some (o.mapFields (·.setIfInBounds 0 t))->(∀b ob,b≠e->s.heap.get? b=some ob->h'.get? b=some ob)->Q .none { s with heap:=h'}):
  wpAny (model prog w) A (call (.builtin "ValueError.__init__") [.ref e,u]) Q E s:=by
 have F:=PySem.F.excBase_ValueError;refine wpAny_call (codeAny_call_builtin F.init.plain F.initEntry ?_);have L:=PySem.W.looks_mroIn (M:=model prog w) X x.mv;have hshort:=F.noStar;obtain⟨h,g,d,t,os⟩:=s;simp only [checkBuiltinCall,F.initKind,F.initSplit,F.initRow];refine wpAny_bind ?_;unfold isInstance;obtain⟨cd,oc,od,osl,hC,_⟩:=FE X x.hd
 repeat (first | (with_reducible refine wpAny_loadPart_at hx ?_;rw[hc]) | with_reducible refine wpAny_loadPart_at hC ?_ | (with_reducible refine L.at ?_) | wp_step)
 rw[hd];refine wpAny_pure ?_;rw[show vs[0]? =some vs[0] by simp [h0]];refine wpAny_pure (wpAny_bind (wpAny_setField (Heap.get?_push_of_some _ hx) hd h0 ?_))
 have fin:Q .none ⟨((h.push { cls:= .type "tuple",data:= .seq [u].toArray}).update e (Obj.mapFields (·.setIfInBounds 0 (.ref h.objs.size)))),g,d,t,os⟩:=by
  refine q _ (.ref h.objs.size) (Heap.get?_update_self _ (Heap.get?_push_of_some _ hx) (Obj.isFreed_of_fields (Obj.data_mapFields hd _))) λb ob hb z=> ?_;exact(Heap.get?_update_other _ _ (Ne.symm hb)).trans (Heap.get?_push_of_some _ z)
 split
 .exact wpAny_letGo (wpAny_pure fin)
 .exact wpAny_pure (wpAny_pure fin)
theorem IQ{Q:Unit->Shared->Prop}(X:K.In s.heap)(x:XSt K C name)(hx:s.heap.get? e=some o)(hc:o.cls=.ref C)(hd:o.data=.fields vs)(hn:o.dict=none)
  (q:∀h' dx tk,s.heap.objs.size<=dx->dx≠e->h'.get? e=some { o with dict:=some dx}->h'.Ns1 dx (λy=>if y=name then some v else none)->(∀b ob,b≠e->s.heap.get? b=some ob->h'.get? b=some ob)->Q () { s with heap:=h',toks:=tk}):
  wpAny (model prog w) A (setAttr (.ref e) name v) Q E s:=by
 have J:=CP (C:=C) hx hc hd hn;have SF:=PySem.F.store_object;obtain⟨cd,hcd,ho⟩:=PySem.W.any_some x.ov;obtain⟨cd',hcd',hdict⟩:=PySem.W.any_some x.hd;cases hcd.symm.trans hcd';refine PySem.W.set_plain X J x.sa ?_;have sub:PySem.W.Looks (model prog w) s.heap (isInstance (.ref e) (.type "object")) true:=J.type.andThen (PySem.W.looks_mroIn X x.mo);refine codeAny_call_builtin SF.slot.plain SF.entry (@PySem.W.check_slot (model prog w) _ _ { s with toks:=s.toks + 1} "object.__setattr__" "object" "__setattr__" (.ref e) [.str name s.toks,v] [] _ SF.kind SF.split sub (SF.args (.ref e) (.str name s.toks) v) ?_);obtain⟨attr,ha,hr⟩:=Option.bind_eq_some_iff.mp x.tk;have hm:PySem.W.Looks (model prog w) s.heap (mroOf (.ref C)) cd.mro:=(PySem.W.looks_clsIn X hcd).andThen .now
 have L3:PySem.W.Looks (model prog w) s.heap (storeTaker? attr) none:=by
  cases attr with
  | none=>exact .now
  | some a=>
   obtain⟨b,hb,hb2⟩:=Option.map_eq_some_iff.mp hr;refine(PySem.W.looks_takesIn X hb).andThen ?_;cases b with
   | true=>cases hb2
   | false=>exact .now
 rw[PySem.W.osa_eq,refuse_eq];refine wpAny_bind (wpAny_bind (J.type.here (s:={ s with toks:=s.toks + 1}) (wpAny_bind (hm.here (s:={ s with toks:=s.toks + 1}) ?_))));rw[Aw _ ho];refine wpAny_pure (wpAny_bind (J.type.here (s:={ s with toks:=s.toks + 1}) (wpAny_bind ((PySem.W.looks_findIn X ha).here (s:={ s with toks:=s.toks + 1}) (wpAny_bind (L3.here (s:={ s with toks:=s.toks + 1}) ?_))))));obtain⟨oc,odi,oda,osl⟩:=o;have hc:oc=.ref C:=hc;have hd:oda=.fields vs:=hd;have hn:odi=none:=hn;subst hc hd hn;refine wpAny_bind (wpAny_pure (wpAny_bind (wpAny_bind (wpAny_loadPart hx (wpAny_bind ((PySem.W.looks_clsIn X hcd).here (s:={ s with toks:=s.toks + 1}) ?_))))));rw[hdict];have xs:e≠s.heap.objs.size:=Nat.ne_of_lt (Heap.lt_size hx);have hx1:(s.heap.push { cls:= .type "dict",data:= .dict #[]}).get? e=some ⟨.ref C,none,.fields vs,osl⟩:=Heap.get?_push_of_some _ hx;refine wpAny_bind (m:=alloc { cls:= .type "dict",data:= .dict #[]}) (wpAny_alloc (wpAny_bind (wpAny_update hx1 (wpAny_pure ?_))));have ge:((s.heap.push { cls:= .type "dict",data:= .dict #[]}).update e λo=>{ o with dict:=some s.heap.objs.size}).get? e=some ⟨.ref C,some s.heap.objs.size,.fields vs,osl⟩:=Heap.get?_update_self _ hx1 rfl;have gd:((s.heap.push { cls:= .type "dict",data:= .dict #[]}).update e λo=>{ o with dict:=some s.heap.objs.size}).get? s.heap.objs.size=some { cls:= .type "dict",data:= .dict #[]}:=(Heap.get?_update_other _ _ xs).trans (Heap.get?_push_size _ rfl);have nd:((s.heap.push { cls:= .type "dict",data:= .dict #[]}).update e λo=>{ o with dict:=some s.heap.objs.size}).Ns s.heap.objs.size (λ_=>none):=⟨_,#[],_,gd,rfl,λe he=>absurd he (by simp),λ_=>rfl⟩;show wpAny _ _ (storeInDict s.heap.objs.size (.str name s.toks) name v) _ _ _;unfold storeInDict newKeyGuard;refine wpAny_bind (wpAny_pure (wpAny_bind (wpAny_nsSet1 (Heap.Ns1.of_empty nd) λh' hn' hs=> ?_)));obtain⟨oD,esD,epD,hoD,hdD,hcD⟩:=hn'.count (Within.cons name v Within.nil);refine wpAny_bind (wpAny_lookBehind hoD (by rw[hdD];exact pastItsLine_dict (Nat.le_trans hcD (by rw[List.length_cons,List.length_nil,sizeLine_eq];omega))) ?_);refine wpAny_pure (q h' s.heap.objs.size _ (Nat.le_refl _) (Ne.symm xs) ((hs.2 e xs).trans ge) hn' λb ob hb z=> ?_);exact(hs.2 b (Nat.ne_of_lt (Heap.lt_size z))).trans ((Heap.get?_update_other _ _ (Ne.symm hb)).trans (Heap.get?_push_of_some _ z))
theorem JL{h:Heap}{dx:Addr}{od:Obj}(hx:h.get? e=some o)(hc:o.cls=.ref C)(hd:o.data=.fields vs)(hn:o.dict=some dx)(hD:h.get? dx=some od):PySem.W.InstAt h e o C (some od):=
 ⟨hx,hc,by obtain⟨c,dd,dt,sl⟩:=o;cases hd;rfl,by rw[hn];exact hD⟩
variable{h:Heap}{g:Array GenState}{d:Drawn}{t:Nat}{os:OsState}{dx:Addr}{mA:Str->Option Value}
theorem in_dict{M:Model}{Q:Option Value->Shared->Prop}(ns:h.Ns1 dx mA)(hv:mA name=some v)(hq:Q (some v) ⟨h,g,d,t,os⟩):wpAny M A (inDict name (some dx)) Q E ⟨h,g,d,t,os⟩:=by
 unfold inDict;exact wpAny_nsGet ns.ns (by rw[hv];exact hq)
theorem ID{tk:Tok}{Q:Fin->Shared->Prop}(X:K.In h)(na:PySem.W.findIn K (.ref C) name=some none)(hh:PySem.W.hasDictIn K C=true)(hx:h.get? e=some o)(hc:o.cls=.ref C)(hd:o.data=.fields vs)(hn:o.dict=some dx)(ns:h.Ns1 dx mA)(hv:mA name=some v)
  (hq:Q (.done (.ret v)) ⟨h,g,d,t,os⟩):wpAny (model prog w) A (Builtin.«object.__getattribute__» ⟨[.ref e,.str name tk],[]⟩) Q E ⟨h,g,d,t,os⟩:=by
 have L:=PySem.W.looks_findIn (M:=model prog w) X na;obtain⟨cd,c0,c1,c2,hC,hdict⟩:=FE X hh;obtain⟨oc,odi,oda,osl⟩:=o;have hc:oc=.ref C:=hc;have hd:oda=.fields vs:=hd;have hn:odi=some dx:=hn;subst hc hd hn
 repeat (any_goals (first | assumption | with_reducible refine wpAny_loadPart_at hx ?_ | with_reducible refine wpAny_loadPart_at hC ?_ | (with_reducible refine L.at ?_) | with_reducible refine in_dict ns hv ?_ | wp_step))
theorem Hq{M:Model}{Q:Value->Shared->Prop}(hv2:handedOut v=pure v)(hq:Q v s):wpAny M A (handedOut v) Q E s:=by
 rw[hv2];exact wpAny_pure hq
theorem LY{tk:Tok}{fill expr:Bool}{Q:Value->Shared->Prop}(hv2:handedOut v=pure v)(X:K.In h)(x:XIn K C)(na:PySem.W.findIn K (.ref C) name=some none)(hh:PySem.W.hasDictIn K C=true)(hx:h.get? e=some o)(hc:o.cls=.ref C)(hd:o.data=.fields vs)(hn:o.dict=some dx)(ns:h.Ns1 dx mA)(hv:mA name=some v)
  (hq:Q v ⟨h,g,d,t,os⟩):wpAny (model prog w) A (getAttrBy (.ref e) (.str name tk) fill expr) Q E ⟨h,g,d,t,os⟩:=by
 have he:(expr && onTheHeap (Value.builtin "BaseException.__getattribute__"))=false:=by cases expr <;> rfl
 have FB:=PySem.F.attrBase_ValueError;have f3:=FB.ga.bind (.ref e);have hx2:(Value.builtin "BaseException.__getattribute__" == Value.builtin "object.__getattribute__")=false:=by decide +kernel
 have hx1:(onTheHeap (Value.ref C) && Value.builtin "BaseException.__getattribute__" == Value.builtin "object.__getattribute__")=false:=by rw[hx2];rfl
 have L1:=PySem.W.looks_findIn (M:=model prog w) X x.ga;have L2:=PySem.W.looks_findIn (M:=model prog w) X x.gt
 repeat (any_goals (first | assumption | (with_reducible refine wpAny_loadPart_at hx ?_;rw[hc]) | (with_reducible refine L1.at ?_) | (with_reducible refine L2.at ?_) | wp_step))
 refine codeAny_call_builtin FB.ga.plain F.entry_bexc_ga (u3 X x hx hc (ID X na hh hx hc hd hn ns hv ?_))
 repeat (any_goals (first | assumption | (with_reducible refine Hq hv2 ?_) | wp_step))
theorem x_load{Q:Value->Shared->Prop}{expr:Bool}(X:K.In h)(x:XIn K C)(na:PySem.W.findIn K (.ref C) name=some none)(hh:PySem.W.hasDictIn K C=true)(hx:h.get? e=some o)(hc:o.cls=.ref C)(hd:o.data=.fields vs)(hn:o.dict=some dx)(ns:h.Ns1 dx mA)(hv:mA name=some v)
  (hv2:handedOut v=pure v) (hq:Q v ⟨h,g,d,t + 1,os⟩):wpAny (model prog w) A (getAttr (.ref e) name expr) Q E ⟨h,g,d,t,os⟩:=by
 unfold getAttr;exact wpAny_bind (wpAny_mkText (LY hv2 X x na hh hx hc hd hn ns hv hq))
end
def XOn(e C:Addr)(d:Option Addr):HO:= .ext λh=>∃o vs,h.get? e=some o/\o.cls=.ref C/\o.dict=d/\o.data=.fields vs/\vs[1]? =some .none
theorem XOn.ok{P:Program}{w:World}{H:Hp}{h:Heap}{e C:Addr}{d:Option Addr}(x:∃o vs,h.get? e=some o/\o.cls=.ref C/\o.dict=d/\o.data=.fields vs/\vs[1]? =some .none):dc P w H h e (XOn e C d):=by
 refine⟨x,?_,λh1 h2 p k=> ?_⟩
 .obtain ⟨o,_,e1,_⟩:=x;exact⟨o,e1⟩
 .obtain ⟨o,vs,e1,r⟩:=p;exact⟨o,vs,k o e1,r⟩
def yU(H:Hp)(a:Addr):Hp:=λb=>if b=a then none else H b
theorem ik{H:Hp}{a b:Addr}(h:b≠a):yU H a b=H b:=if_neg h
theorem xk{H:Hp}{a:Addr}:yU H a a=none:=if_pos rfl
theorem lr{H:Hp}{a b:Addr}(h:H b=none):yU H a b=none:=by
 unfold yU
 split
 .rfl
 .exact h
section
variable{X:Cx}{pins:List (Addr × Obj)}{σ:St}{H:Hp}{s:Shared}{a:Addr}{φ:Heap->Prop}
theorem Inv.HL(I:Inv X pins σ H s)(ha:H a=some (.ext φ)):Inv X pins σ (yU H a) s:=by
 have ne:∀{b:Addr} {o:HO},H b=some o->(∀ψ,o≠ .ext ψ)->b≠a:=λ{b o} e h z=>by
  rw[z,ha] at e;exact h φ (Option.some.inj e).symm
 refine⟨I.ok,I.os,I.bare,⟨I.base.keep,I.base.slot,λb ob q n hx=>lr (I.base.free b ob q n hx),I.base.there,λb xs q=> ?_,λb ob u q=> ?_,λb ps q=> ?_⟩,I.loc,I.cell,lr I.free,λx c e=>lr (I.ed x c e),λp hp=> ?_,λb u e=> ?_,I.len⟩
 .have z:=I.base.uU b xs q;rw[ik (ne z λ_ y=>by cases y)];exact z
 .have z:=I.base.rJ b ob u q;rw[ik (ne z λ_ y=>by cases y)];exact z
 .obtain ⟨more,z⟩:=I.base.uJ b ps q;exact⟨more,by rw[ik (ne z λ_ y=>by cases y)];exact z⟩
 .obtain ⟨h1,h2,h3⟩:=I.pin p hp;exact⟨h1,lr h2,h3⟩
 .by_cases hb:b=a
  .rw [hb,xk] at e;cases e
  .rw [ik hb] at e;exact(I.hok b u e).u5 (λ_ _ _ q=>q) (λc q=>by rw[ik (ne q λ_ y=>by cases y)];exact q) λc xs q=>by rw[ik (ne q λ_ y=>by cases y)];exact q
end
theorem Iq{K:PySem.W.Frag}{h:Heap}{N:Addr}{m:Str->Option Value}{n:Str}{v:Value}(X:K.In h)(G:h.Ns N m)(e:PySem.W.nsIn K N n=some (some v)):m n=some v:=by
 obtain⟨o,es,ep,ho,hd,_,hf⟩:=G;unfold PySem.W.nsIn at e
 split at e
 .rename_i q
  cases (ho.symm.trans (X _ _ q));cases hd
  split at e
  .rename_i en he
   cases e;rw[<- hf];unfold nsFind findBy;rw[<- Array.find?_toList,he]
   rfl
  .split at e <;> cases e
 .cases e
def nY(K:PySem.W.Frag)(C f:Addr):Prop:=(match K.lookup C with
 | some ⟨.type "type",_,.cls cd,sl⟩=>(match cd.mro,sl.toList with
  | .ref C'::bm,[_,_,_,_,some (.builtin n),_]=>C' == C && n == "ValueError.__new__" && !cd.hasDel && PySem.W.tailIn K bmV bm && PySem.W.nsOkIn K cd.ns && PySem.W.nsIn K cd.ns "__init__" == some (some (.ref f))
  | _,_=>false)
 | _=>false)=true
theorem nY.obj{K:PySem.W.Frag}{C f:Addr}{h:Heap}(q:nY K C f)(k:K.In h):∃bm N nm qn bs hdct sn sub ab col dd k0 k1 k2 k3 k5 mN,
  h.get? C=some (excClassObj nm qn C N bs bm hdct sn sub ab col dd k0 k1 k2 k3 k5 "ValueError.__new__")/\h.Ns N mN/\mN "__init__"=some (.ref f)/\OwnTail h bmV bm:=by
 unfold nY at q
 split at q
 .rename_i dd cd sl ho
  split at q
  .rename_i C' bm k0 k1 k2 k3 n k5 hm hs
   simp only [Bool.and_eq_true,beq_iff_eq,Bool.not_eq_true'] at q;obtain⟨⟨⟨⟨⟨rfl,rfl⟩,hdel⟩,ht⟩,hok⟩,hni⟩:=q;obtain⟨nm,bs,mro,ns,qn,hd,sn,sub,ab,col,del⟩:=cd;dsimp only at hm hdel hok hni;subst hm hdel;obtain⟨l⟩:=sl;dsimp only at hs;subst hs;exact⟨bm,ns,nm,qn,bs,hd,sn,sub,ab,col,dd,k0,k1,k2,k3,k5,_,k _ _ ho,.of_isNs (PySem.W.isNs_of_in k hok),Iq k (.of_isNs (PySem.W.isNs_of_in k hok)) hni,PySem.W.tail_of_in k ht⟩
  .cases q
 .cases q
def IP(C:Addr)(sp:Sp)(E:St->XK)(ta:TA):TS:=λ_ σ H=>ta σ H λvs H1=>vs.length<=sizeLine/\∀e,H1 e=none->sp (.ref e::vs) (upd H1 e (XOn e C none)) (λv H2=>v=.non/\∃dx,H2 e=some (XOn e C (some dx))/\E σ (.ref C) (some dx) (yU H2 e)) λ_ _ _=>False
section
variable{X:Cx}{x:Str}{C f:Addr}{fd:FuncData}{ps:List Str}{sp:Sp}{k:Nat}{cm:Bool}{np cpos pos:Pos}{a:Expr}{es:List Expr}{ta:TA}{E:St->XK}
theorem DV(hdef:sV X)(hc:X.calm=true)(ht:Throws X E)(xc:nY X.K C f)(hfn:PySem.W.isFn X.K (.ref f)=true)(F:aB X.prog X.w X.K X.mg X.base (CXE X.prog X.w) cm k f fd ps sp)(hr:bJ cm (k + 1) X.A)(hb:Binds X.K fd ps [])(hg:Gl X x)(hm:X.mg x=some (.ref C))(ha:PA X (a::es) ta)
  (hd:(x == ("__debug__":Str))=false:=by decide) (he:starEach (a::es) X.env=(false,eval a X.env)::starEach es X.env:=by rfl) (hpl:(backTo cpos (starEach es X.env)).any (·.1)=false:=by rfl):
  PS X (.Raise (some (.Call (.Name x np) (a::es) [] cpos)) none pos) (IP C sp E ta):=by
 intro pins s σ H D I h;obtain⟨bm,N,nm,qn,bs,hdct,sn,sub,ab,col,dd,k0,k1,k2,k3,k5,mN,hC,hN,hni,T⟩:=xc.obj I.mod.kin;rw[arm_exec_Raise];simp only [evalOpt,Option.map]
 refine wpAny_bind (wpAny_standAt (Bo (C:=C) (nm:=nm) (q:=qn) (N:=N) (bs:=bs) (bm:=bm) (hdct:=hdct) (sn:=sn) (sub:=sub) (ab:=ab) (col:=col) (dd:=dd) (k0:=k0) (k1:=k1) (k2:=k2) (k3:=k3) (k5:=k5) (newId:="ValueError.__new__")
  (T.hasType PySem.F.excBase_ValueError.hasBase) (I.ok.hd hc) (wpAny_bind (wpAny_mono (wpAny_Call_ofName (gE I hg hm ?_ hd)) (λv s3 h3=>wpAny_bind (wpAny_standAt (wpAny_pure h3))) λ_ _ y=>y))))
 have w:=ha cpos pins s σ H _ I h;have hpl2:(backTo cpos (starEach (a::es) X.env)).any (·.1)=false:=by rw[he];show(false || (backTo cpos (starEach es X.env)).any (·.1))=false;rw[hpl];rfl
 have w2:wpAny (model X.prog X.w) X.A (evalArgs (.ref C) true (backTo cpos (starEach (a::es) X.env)) []) (λb s2=>b.kw=[]/\∃vs H2,Inv X pins σ H2 s2/\Vals vs b.pos/\vs.length<=sizeLine∧
   ∀e,H2 e=none->sp (.ref e::vs) (upd H2 e (XOn e C none)) (λv H3=>v=.non/\∃dx,H3 e=some (XOn e C (some dx))/\E σ (.ref C) (some dx) (yU H3 e)) λ_ _ _=>False) X.xe s:=by
  rw[he] at w ⊢;refine Calls.evalArgs_plain (wpAny_mono w (λus s2 h2=> ?_) λ_ _ y=>y);obtain⟨vs,H2,I2,r2,hl,q⟩:=h2;exact⟨rfl,vs,H2,I2,r2,hl,q⟩
 unfold callWith;refine wpAny_bind (wpAny_holding (wpAny_mono w2 (λb s2 h2=>wpAny_bind (wpAny_standAt ?_)) λ_ _ y=>y));obtain⟨apos,akw⟩:=b;obtain⟨hkw,vs,H2,I2,r2,hl,q⟩:=h2;have hkw:akw=[]:=hkw;subst hkw;have hC2:=I2.bk _ _ hC;have hlen:apos.length<=sizeLine:=by rw[<- r2.length];exact hl
 simp only [hpl2];obtain⟨hp,g,dr,tk,os⟩:=s2;refine wpAny_bind (wpAny_keeperOf_exc hC2 ?_)
 obtain⟨oI,hfI,hfc⟩:∃oI,hp.get? f=some oI/\oI.cls=.type "function":=by
  have hfn:PySem.W.typeIn X.K (.ref f)=some (.type "function"):=beq_iff_eq.mp hfn;unfold PySem.W.typeIn at hfn;obtain⟨oI,l,z⟩:=Option.map_eq_some_iff.mp hfn;exact⟨oI,I2.kIn _ _ l,z⟩
 refine wpAny_bind (El PySem.F.excBase_ValueError (T.keeps I2.bk) hC2 (hN.keeps I2.bk) hni hfI hfc (λh' e hm=> ?_) hlen);obtain⟨t0,m1,m2,m3⟩:=hm.there;have fr:H2 e=none:=I2.pW hm.new;have fe:=I2.AA (H':=H2) hm.new fr
 have s0n:X.s₀.heap.get? e=none:=by
  rcases fe.2.2.2.1 with z | z
  .rw [hdef.2.2] at z;exact absurd z (by simp)
  .exact z
 have Ik:Inv X pins σ H2 { heap:=h',gens:=g,drawn:=dr,toks:=tk,os:=os}:=I2.kept (t':=tk) hm.keeps;have It:=Ik.zW fr s0n fe.2.1 fe.2.2.2.2.1 fe.2.2.2.2.2 (XOn.ok (C:=C) (d:=none) ⟨_,_,m1,rfl,rfl,rfl,rfl⟩);have hq:=q e fr;have r3:Vals (V.ref e::vs) (Value.ref e::apos):= .cons rfl r2;have hl3:(Value.ref e::apos).length=ps.length:=by rw[<- r3.length];exact F.len _ _ _ _ hq
 have hl4:((Value.ref e::apos)++[]).length=ps.length:=by rw[List.append_nil];exact hl3
 have hbb:=hb _ (Value.ref e::apos) It.kIn hl4;rw[List.append_nil] at hbb;refine wpAny_call (codeAny_mono (F.run _ X.stack _ _ ⟨Value.ref e::apos,[]⟩ (Value.ref e::apos) _ _ _ (hr.make C apos []) (It.J8.make C apos []) hbb r3 hq) λr s' hq'=> ?_);cases r with
 | error ev=>
  obtain⟨_,_,_,_,_,_,_,_,_,_,_,_,_,z⟩:=hq';exact z.elim
 | ok fl=>
  cases fl with
  | ret u=>
   obtain⟨v,H3,I3,rv,ev,dx,hx3,q3⟩:=It.after hq';subst ev;obtain⟨o,ws,o1,o2,o3,o4,o5⟩:=(I3.hok e _ hx3).1;refine⟨rv,wpAny_bind (wpAny_holding (wpAny_point (wpAny_pure ⟨e,o,rfl,I3.bk _ _ hC,o1,o2,⟨ws,o4,o5⟩,?_⟩)))⟩;exact ht pins σ (yU H3 e) s' e (.ref C) (some dx) ⟨I3.HL hx3,⟨none,⟨o,ws,o1,o2,o3,o4,o5⟩,trivial,λT hT=>absurd hT (by simp [AY])⟩,⟨xk,fe.2⟩⟩ q3
  | next=>exact False.elim hq'
  | brk=>exact False.elim hq'
  | cont=>exact False.elim hq'
end
theorem KL{H:Hp}{a:Addr}{o:HO}(h:H a=some o):upd H a o=H:=by
 funext b
 by_cases z:b=a
 .rw [z,ae,h]
 .rw [aq z]
structure Gx(K:PySem.W.Frag)(C:Addr)(m:Str)(id:String):Prop where
 sp:PySem.W.specialIn K (.ref C) "__getattribute__"=some (some (.builtin "type.__getattribute__"))
 rd:PySem.W.readsIn K C (.type "type")=true
 fc:PySem.W.findCls K (.ref C) (.type "type") m=some (.val (.builtin id))
def Kc(K:PySem.W.Frag)(t:TA):TE:=λσ H Q=>t σ H λvs H1=>∃e C y name,vs=[.ref e,y]/\H1 e=some (XOn e C none)/\XSt K C name/\Q .non H1
def L8(K:PySem.W.Frag)(ta tv:TE)(f:Str):TS:=λD σ H=>tv σ H λy H1=>ta σ H1 λx H2=>∃e C,x=.ref e/\H2 e=some (XOn e C none)/\XSt K C f/\∀dx,H2 dx=none->D.nx σ (upd (upd H2 e (XOn e C (some dx))) dx (.xd [(f,y)]))
structure XLd(K:PySem.W.Frag)(C:Addr)(f:Str):Prop where
 xi:XIn K C
 na:PySem.W.findIn K (.ref C) f=some none
 hd:PySem.W.hasDictIn K C=true
def LQ(K:PySem.W.Frag)(ta:TE)(f:Str):TE:=λσ H Q=>ta σ H λx H1=>∃e C dx fs v,x=.ref e/\H1 e=some (XOb e C (some dx))/\H1 dx=some (.xd fs)/\XLd K C f/\fs.lookup f=some v/\Q v H1
section
variable{X:Cx}{x:Str}{M:Addr}{p pos apos:Pos}{e o value:Expr}{es:List Expr}{t:TA}{f:Str}{pos':Pos}{ta tv:TE}
theorem Fx{pl:Sem Bool}(hg:Gl X x)(hm:X.mg x=some (.ref M))(bc:Gx X.K M "__init__" "ValueError.__init__")(ha:PA X (e::es) t)(hdb:(x == ("__debug__":Str))=false:=by decide)
  (hst:starEach (e::es) X.env=(false,eval e X.env)::starEach es X.env:=by rfl) (hpl:(backTo pos (starEach es X.env)).any (·.1)=false:=by rfl)
  (ht:eval (.Call (.Attribute (.Name x p) "__init__" apos) (e::es) [] pos) X.env=(do
   let ov<-eval (.Name x p) X.env
   standAt apos.atName
   let (f,first)<-holding [ov] (getMethod ov "__init__" pl)
   callWith pos f first (backTo pos (starEach (e::es) X.env)) (backToKw pos (keywordEach [] X.env))):=by rfl):
  PE X (.Call (.Attribute (.Name x p) "__init__" apos) (e::es) [] pos) (Kc X.K t):=by
 intro pins s σ H Q I h;refine PySem.W.methodCall_KW (pl:=pl) (gE I hg hm ?_ hdb) ht;refine PySem.W.method_cls I.kIn bc.sp (PySem.W.cls_value I.kIn bc.rd bc.fc rfl ?_);have I1:Inv X pins σ H { s with toks:=s.toks + 1}:=I.tok _;refine callWith_builtin1 (ha.th I1 h λus s2 vs H2 I2 r q2=> ?_) hst hpl;obtain⟨a,C,y,name,rfl,hx,xs,q⟩:=q2;obtain⟨u1,u2,rfl,r1,r2⟩:=vals2 r;cases r1;obtain⟨o,ws,o1,o2,o3,o4,o5⟩:=(I2.hok a _ hx).1;have hz:1 < ws.size:=(Array.getElem?_eq_some_iff.mp o5).1;refine JK I2.kIn xs o1 o2 o4 (by lia) λh' t0 g1 g2=>⟨.non,H2,?_,rfl,q⟩;have W:=I2.write (h':=h') (x:=a) (e:=a) (o:=XOn a C none) (t':=s2.toks) (by rw[hx];trivial) (.inl rfl) (λb ob hb z=>g2 b ob hb z) ⟨_,g1⟩ (XOn.ok ⟨_,_,g1,by rw[Obj.cls_mapFields];exact o2,?_,Obj.data_mapFields o4 _,by simp [o5]⟩)
 .rw [KL hx] at W;exact W
 .obtain ⟨c,dd,dt,sl⟩:=o;cases dt <;> exact o3
theorem JN(ha:PE X o ta)(hv:PE X value tv)(hs:swapsWith value (some (.Attribute o f pos')) pos.line X.env=pure false):PS X (.Assign [.Attribute o f pos'] value pos) (L8 X.K ta tv f):=by
 intro pins s σ H D I h;refine plainObj_wpAny_Assign_Attribute (hv.th I h λu s1 y H1 I1 ry q=>ha.th I1 q λov s2 x H2 I2 rx zz=> ?_) hs;obtain⟨a,C,rfl,hx,xs,q2⟩:=zz;obtain rfl:ov=Value.ref a:=rx;obtain⟨o,ws,o1,o2,o3,o4,o5⟩:=(I2.hok a _ hx).1;refine IQ I2.kIn xs o1 o2 o4 o3 λh' dx tk hs1 hne g1 g2 g3=> ?_;have fd:H2 dx=none:=I2.hok.fresh hs1;have fo:=I2.vV (H':=H2) hs1 fd;have W:=I2.write (h':=h') (x:=a) (e:=a) (o:=XOn a C (some dx)) (t':=tk) (by rw[hx];trivial) (.inl rfl) (λb ob hb z=>g3 b ob hb z) ⟨_,g1⟩ (XOn.ok ⟨_,ws,g1,o2,rfl,o4,o5⟩);have fd2:(upd H2 a (XOn a C (some dx))) dx=none:=by rw[aq hne];exact fd
 have s0:X.s₀.heap.get? dx=none:=Heap.get?_none_of_le (Nat.le_trans I2.sz hs1);refine⟨σ,_,W.zW (o:= .xd [(f,y)]) fd2 s0 fo.2.1 fo.2.2.2.2.1 fo.2.2.2.2.2 ⟨_,g2,λn=> ?_⟩,q2 dx fd⟩;by_cases z:n=f
 .subst z;simp only [if_true,List.lookup_cons,beq_self_eq_true];exact ry
 .simp only [if_neg z,List.lookup_cons,beq_eq_false_iff_ne.mpr z,List.lookup_nil];trivial
theorem Kv(he:PE X e ta)(hb:attributeBase e f X.env (eval e X.env)=eval e X.env):PE X (.Attribute e f pos) (LQ X.K ta f):=by
 intro pins s σ H Q I h;refine Cw hb (he.th I h λu s1 x H1 I1 rx zz=> ?_);obtain⟨a,C,dx,fs,v,rfl,hx,hd,xl,l,q⟩:=zz;obtain rfl:u=Value.ref a:=rx;obtain⟨o,ws,o1,o2,o3,o4⟩:=(I1.hok a _ hx).1;obtain⟨mA,ns,rel⟩:=I1.hok dx _ hd;have r:=rel f;rw[l] at r;cases hv:mA f with
 | none=>rw[hv] at r;exact r.elim
 | some u=>
  rw[hv] at r;obtain⟨hh,g,d,t,os⟩:=s1;exact x_load I1.kIn xl.xi xl.na xl.hd o1 o2 o4 o3 ns hv (PySem.W.handedOut_of (wJ r)) ⟨v,H1,I1.tok _,r,q⟩
end
section
variable{prog:Program}{w:World}{A:Around}{E:Value->Shared->Prop}{K:PySem.W.Frag}{C a:Addr}{o:Obj}{od:Option Obj}{vs:Array Value}{h:Heap}{g:Array GenState}{d:Drawn}{t:Nat}{os:OsState}
theorem FG{tk:Tok}{Q:Fin->Shared->Prop}(X:K.In h)(x:XIn K C)(hx:h.get? a=some o)(hc:o.cls=.ref C)(J:PySem.W.InstAt h a o C od)(hq:Q (.done (.ret (.ref C))) ⟨h,g,d,t,os⟩):
  wpAny (model prog w) A (Builtin.«object.__getattribute__» ⟨[.ref a,.str "__class__" tk],[]⟩) Q E ⟨h,g,d,t,os⟩:=by
 have hT5:(⟨h,g,d,t,os⟩:Shared).TypeIs (.builtin "object.__class__") "getset_descriptor":=F.typeOf_object_class;have L:=PySem.W.looks_findIn (M:=model prog w) X x.cl;have f5:=F.typeOf_object_class;have f6:=F.slot_gs_get.lookup;have f7:=F.slot_gs_set.lookup
 repeat (any_goals (first | assumption | (with_reducible refine wpAny_loadPart_at hx ?_;rw[hc]) | (with_reducible refine L.at ?_) | wp_step))
 refine PySem.W.class_get X J x.mo ?_
 repeat (any_goals (first | assumption | wp_step))
theorem LG{tk:Tok}{Q:Value->Shared->Prop}(X:K.In h)(x:XIn K C)(hx:h.get? a=some o)(hc:o.cls=.ref C)(J:PySem.W.InstAt h a o C od)(hq:Q (.ref C) ⟨h,g,d,t,os⟩):
  wpAny (model prog w) A (getAttrBy (.ref a) (.str "__class__" tk) false) Q E ⟨h,g,d,t,os⟩:=by
 have FB:=PySem.F.attrBase_ValueError;have f3:=FB.ga.bind (.ref a);have hx2:(Value.builtin "BaseException.__getattribute__" == Value.builtin "object.__getattribute__")=false:=by decide +kernel
 have hx1:(onTheHeap (Value.ref C) && Value.builtin "BaseException.__getattribute__" == Value.builtin "object.__getattribute__")=false:=by rw[hx2];rfl
 have L1:=PySem.W.looks_findIn (M:=model prog w) X x.ga;have L2:=PySem.W.looks_findIn (M:=model prog w) X x.gt
 repeat (any_goals (first | assumption | (with_reducible refine wpAny_loadPart_at hx ?_;rw[hc]) | (with_reducible refine L1.at ?_) | (with_reducible refine L2.at ?_) | wp_step))
 refine codeAny_call_builtin FB.ga.plain F.entry_bexc_ga (u3 X x hx hc (FG X x hx hc J ?_))
 repeat (any_goals (first | assumption | wp_step))
theorem Jc{Q:Option Value->Shared->Prop}(X:K.In h)(x:XIn K C)(hx:h.get? a=some o)(hc:o.cls=.ref C)(J:PySem.W.InstAt h a o C od)(hq:Q (some (.ref C)) ⟨h,g,d,t + 1,os⟩):
  wpAny (model prog w) A (getAttr? (.ref a) "__class__") Q E ⟨h,g,d,t,os⟩:=by
 unfold getAttr? getAttrBy?
 repeat (any_goals (first | assumption | with_reducible apply LG X x hx hc J | wp_step))
end
theorem Eo{K:PySem.W.Frag}{e C dx:Addr}(x:XIn K C)(hC:IsC K C):PySem.W.KitX K (.ref e) (.ref C) (λh=>∃o vs od,h.get? e=some o/\o.cls=.ref C/\o.dict=some dx/\o.data=.fields vs/\h.get? dx=some od) where
 ty:=λM h _ p=>by
  obtain⟨o,vs,od,h1,h2,_⟩:=p;exact h2 ▸ (PySem.W.Looks.ld h1).andThen .now
 it:=λM h X _=>by
  obtain⟨dd,cd,sl,l⟩:=hC;intro A' Q' E' s' k q;unfold isType loadHead;exact wpAny_bind (wpAny_loadPart (k _ _ (X _ _ l)) (wpAny_pure q))
 ne:=λh tp dd its n sl X htp=>by
  obtain⟨dd',cd,sl',l⟩:=hC;refine Bool.eq_false_iff.mpr λq=> ?_;have e:C=tp:=Value.ref.inj (beq_iff_eq.mp q);subst e;have z:=congrArg (λo:Obj=>o.data) (Option.some.inj ((X _ _ l).symm.trans htp));cases z
 ca:=λ{prog w A E Q s} X p q=>by
  obtain⟨o,vs,od,h1,h2,h3,h4,h5⟩:=p;obtain⟨hh,g,d,t,os⟩:=s;exact Jc X x h1 h2 (JL h1 h2 h4 h3 h5) q
theorem eQ{X:Cx}:mf X (.builtin "isinstance") (λxs H Q=>∃(e C:Addr) (c:V) (vc:Value) (b:Bool),xs=[.ref e,c]/\(H e=some (XOb e C none)\/∃dx fs,H e=some (XOb e C (some dx))/\H dx=some (.xd fs))/\XIn X.K C/\IsC X.K C/\RelV c vc/\PySem.W.kitOne X.K (.ref C) vc=some b/\Q (.bl b) H):=by
 intro pins s σ H xs us Q I r h;obtain⟨e,C,c,vc,b,rfl,he,xi,ic,rc,kt,q⟩:=h;rcases he with he | ⟨dx,fs,he,hd⟩
 .exact Gq pins s σ H _ us Q I r ⟨e,C,c,vc,b,rfl,he,xi,ic,rc,kt,q⟩
 obtain⟨u1,u2,rfl,r1,r2⟩:=vals2 r;cases r1
 have e2:u2=vc:=by
  cases c with
  | ref a=>exact(show u2=Value.ref a from r2).trans (show vc=Value.ref a from rc).symm
  | ty n=>exact(show u2=Value.type n from r2).trans (show vc=Value.type n from rc).symm
  | non=>exact(show u2=Value.none from r2).trans (show vc=Value.none from rc).symm
  | bl y=>exact(show u2=Value.bool y from r2).trans (show vc=Value.bool y from rc).symm
  | int i=>obtain⟨t,rfl⟩:=rc;simp [PySem.W.kitOne,PySem.W.kitCls] at kt
  | str y=>obtain⟨t,rfl⟩:=rc;simp [PySem.W.kitOne,PySem.W.kitCls] at kt
  | byt y=>obtain⟨t,rfl⟩:=rc;simp [PySem.W.kitOne,PySem.W.kitCls] at kt
  | flt y=>obtain⟨t,rfl⟩:=rc;simp [PySem.W.kitOne,PySem.W.kitCls] at kt
 subst e2;obtain⟨o,ws,o1,o2,o3,o4⟩:=(I.hok e _ he).1;obtain⟨mA,⟨od,es,ep,z,_⟩,rel⟩:=I.hok dx _ hd;exact PySem.W.kia_one (Eo (dx:=dx) xi ic) I.kIn ⟨o,ws,od,o1,o2,o3,o4,z⟩ kt (λz=>nomatch z) λtk=>⟨.bl b,H,I.tok tk,rfl,q⟩
theorem bJ.mark{k:Nat}{cm:Bool}{A:Around}(r:bJ cm k A)(h:Option Value):bJ false k (A.mark h):=⟨λz=>(by cases z),r.dp,r.un⟩
theorem j8{X:Cx}{e:Addr}:Throws (X.bt e) λ_ _ _ _=>False:=λ_ _ _ _ _ _ _ _ q=>q
theorem Hg{X:Cx}{K0:PySem.W.Frag}{f:Str}{e:Expr}{pos:Pos}{ta:TE}(hK:X.K=K0)(he:PE X e ta)(hb:attributeBase e f X.env (eval e X.env)=eval e X.env):PE X (.Attribute e f pos) (LQ K0 ta f):=hK ▸ Kv he hb
section
variable{M:Model}{A:Around}{E:Value->Shared->Prop}
theorem xQ{K:PySem.W.Frag}{fI:Addr}{s:Shared}{e C C':Addr}{oe:Obj}{b:Bool}{Q:Bool->Shared->Prop}(k:K.In s.heap)(he:s.heap.get? e=some oe)(hc:oe.cls=.ref C)(xc:nY K C' fI)(m:PySem.W.mroIn K C (.ref C')=some b)(h:Q b s):
  wpAny M A (excMatches (.ref e) (.ref C')) Q E s:=by
 obtain⟨bm,N,nm,qn,bs,hdct,sn,sub,ab,col,dd,k0,k1,k2,k3,k5,mN,hC,_,_,T⟩:=xc.obj k;have hb:(Value.ref C'::bm).contains (.type "BaseException")=true:=by rw[List.contains_cons,T.hasType (show bmV.contains (.type "BaseException")=true from rfl),Bool.or_true]
 have L:=PySem.W.looks_mroIn (M:=M) k m;obtain⟨hh,g,d,t,os⟩:=s;have f:=tc_notTuple;unfold excMatches
 repeat (first | (with_reducible refine wpAny_loadPart_at he ?_;rw[hc]) | with_reducible refine wpAny_loadPart_at hC ?_ | (with_reducible refine wpAny_isSubtype_exc hC ?_;rw[hb]) | (with_reducible refine L.at ?_) | wp_step)
 cases b <;> (wp_walk;exact h)
end
section
variable{X:Cx}{x n:Str}{C':Addr}{np pos:Pos}{b0:Stmt}{suite:List Stmt}{rest:List ExceptHandler}{ts:TS}{tr:Ends->St->XK}
theorem Kr{i:Nat}{fI:Addr}(hdef:sV X)(hN:X.N.Nodup)(hi:X.N[i]? =some n)(hl:X.env.kindOf n=some .local)(hg:Gl X x)(hm:X.mg x=some (.ref C'))(xc:nY X.K C' fI)(hs:∀e,PSs (X.bt e) (b0::suite) ts)(hr:PH X rest tr)
  (hd:(x == ("__debug__":Str))=false:=by decide):
  PH X (.ExceptHandler (some (.Name x np)) (some n) (b0::suite) pos::rest) (λD σ cls d H=>∃C b,cls=.ref C/\PySem.W.mroIn X.K C (.ref C')=some b∧
   if b=true then ∀e,H e=none->ts (KS i D) (σ.set i (some (.ref e))) (upd H e (XOb e C d)) else tr D σ cls d H):=by
 intro pins s σ H e cls d T D I xo fe fT h;obtain⟨C,b,rfl,m,q⟩:=h;refine wpAny_handleBy_cons (codeAny_handlers_test (Calls.Name_function_global I.ok.kind hg (Calls.loadGlobal_global (by rw[I.ok.glob];exact I.mod.glob.keeps I.bk) hm ?_) hd)) (by intro z;cases z);obtain⟨oe,vs,e1,e2,_⟩:=id xo.2.1;refine xQ I.kIn e1 e2 xc m ?_;cases b with
 | false=>exact hr pins s σ H e _ d T D I xo fe fT q
 | true=>
  refine codeAny_handlers_suite_as ?_;refine mY hdef I xo fe fT rfl λh' I'=> ?_;have IH:=I'.bt e;refine ph (X:=X.bt e) IH hN hi (.inl hl) (show RelV (.ref e) (.ref e) from rfl) (λs2 I2=> ?_) (.inr hl);refine wpAny_mono (hs e pins s2 _ _ _ I2 (q e fe.1)) (λf s3 h3=> ?_) λ_ _ z=>z.elim;have done:∀{σ3:St} {H3:Hp} {Q:Unit->Shared->Prop},Inv (X.bt e) pins σ3 H3 s3->(∀s4,Inv X pins (σ3.set i none) H3 s4->Q () s4)->wpAny (model X.prog X.w) X.A (do bindName X.env n .none;unbindBehindTheSuite X.env n pos) Q X.xe s3:=λ{σ3 H3 Q} I3 k=>Inv.zE (I3.c9 I.ok) hN hi hl k;cases f with
  | next=>obtain⟨σ3,H3,I3,q3⟩:=h3;exact done I3 λs4 I4=>⟨_,H3,I4,q3⟩
  | brk=>obtain⟨σ3,H3,I3,q3⟩:=h3;exact done I3 λs4 I4=>⟨_,H3,I4,q3⟩
  | cont=>obtain⟨σ3,H3,I3,q3⟩:=h3;exact done I3 λs4 I4=>⟨_,H3,I4,q3⟩
  | ret u=>obtain⟨v,σ3,H3,I3,r3,q3⟩:=h3;exact done I3 λs4 I4=>⟨v,_,H3,I4,r3,q3⟩
end
theorem uw:∀{ys:List Str} {its:List Value},Vals (ys.map V.str) its->StrsAre its ys
 | [],[],_=> .nil
 | [],_::_,r=>by cases r
 | _::_,[],r=>by cases r
 | y::ys,_::its,r=>by
  cases r with
  | cons ru r'=>
   obtain⟨t,rfl⟩:=ru;exact .cons _ _ (uw r')
section
variable{X:Cx}
theorem Cb{pins:List (Addr × Obj)}{s:Shared}{σ:St}{H:Hp}{Q:VK}{z:Str}(I:Inv X pins σ H s)(q:Q (.str z) H):∀(t':Tok) (k:Nat),EP X pins σ Q (.str z t') { s with toks:=k}:=λ_ _=>⟨.str z,H,I.tok _,⟨_,rfl⟩,q⟩
theorem cY:MtM X "str.join" (λx vs H Q=>∃(sep:Str) (p:Addr) (ys:List Str),x=.str sep/\vs=[.ref p]/\SqL X.K H p (ys.map V.str)/\(ys.map (·.length)).sum + ys.length * sep.length<=16777216/\Q (.str (Txt.join sep ys)) H):=by
 intro pins s σ H x vs v us Q I rx rv h;obtain⟨sep,p,ys,rfl,rfl,hS,hz,q⟩:=h;obtain⟨t,rfl⟩:=rx;obtain⟨u,rfl,ru⟩:=rv.one;cases ru;obtain⟨its,r,pl,_⟩:=I.list hS;exact join_list pl.isList (uw r) hz (Cb I q)
theorem kq:MtM X "str.lstrip" (λx vs H Q=>∃z y:Str,x=.str z/\vs=[.str y]/\z.length<=sizeLine/\Q (.str (Txt.lstripChars z y)) H):=by
 intro pins s σ H x vs v us Q I rx rv h;obtain⟨z,y,rfl,rfl,hz,q⟩:=h;obtain⟨t,rfl⟩:=rx;obtain⟨u,rfl,⟨u2,rfl⟩⟩:=rv.one;exact call_gives F.slot_str_lstrip (typeIs_str _ _ _) F.entry_str_lstrip (F.args_str_lstrip_2 _ _) (gives_str_lstrip_chars z y t u2) (post_val_or_made (λ_=>fits_stripped _ _ _ hz) (Cb I q))
theorem oZ:MtM X "str.startswith" (λx vs H Q=>∃z y:Str,x=.str z/\vs=[.str y]/\Q (.bl (Txt.startswith z y)) H):=by
 intro pins s σ H x vs v us Q I rx rv h;obtain⟨z,y,rfl,rfl,q⟩:=h;obtain⟨t,rfl⟩:=rx;obtain⟨u,rfl,⟨u2,rfl⟩⟩:=rv.one;exact call_gives F.slot_str_startswith (typeIs_str _ _ _) F.entry_str_startswith (F.args_str_startswith_2 _ _) (gives_str_startswith z y t u2) ⟨.bl _,H,I,rfl,q⟩
theorem wY:∀(tk:Nat) (ys:List Str),Vals (ys.map V.str) (strsFrom tk ys)
 | _,[]=> .nil
 | tk,_::ys=> .cons ⟨_,rfl⟩ (wY (tk + 1) ys)
theorem iV:MtM X "str.split" (λx vs H Q=>∃z y:Str,x=.str z/\vs=[.str y]/\z.length<=sizeLine/\(y.length == 0)=false/\(Builtin.Str.partsBetween z (Builtin.Str.occurrences z y 0 z.length (z.length + 1)) y.length).length<=sizeLine∧
  (Txt.split z y).length<=sizeLine/\∀p,H p=none->Q (.ref p) (upd H p (.lst ((Txt.split z y).map V.str)))):=by
 intro pins s σ H x vs v us Q I rx rv h;obtain⟨z,y,rfl,rfl,hz,hy,hn,hw,q⟩:=h;obtain⟨t,rfl⟩:=rx;obtain⟨u,rfl,⟨u2,rfl⟩⟩:=rv.one;have q:=q _ I.fresh
 have one:∀(q:Q (.ref s.heap.objs.size) (upd H s.heap.objs.size (.lst [V.str z]))),EP X pins σ Q (.ref s.heap.objs.size) { s with heap:=s.heap.push { cls:= .type "list",data:= .seq [Value.str z t].toArray}}:=λq=>
  ⟨.ref _,_,I.JF (t':=s.toks) (its:=[.str z t]) (ys:=[V.str z]) (.cons ⟨_,rfl⟩ .nil) (by rw[List.length_singleton,sizeLine_eq];lia),rfl,q⟩
 unfold Txt.split at q hw;by_cases h1:(decide (z.length < y.length) || decide (Builtin.Str.strKind z < Builtin.Str.strKind y))=true
 .rw [if_pos h1] at q;exact call_meets F.slot_str_split (typeIs_str _ _ _) F.entry_str_split (F.args_str_split_2 _ _) (meets_str_split_cannot_occur z y t u2 h1) (one q)
 .rw [if_neg h1] at q hw;have h1:=Bool.eq_false_iff.mpr h1;by_cases hf:(Builtin.Str.occurrences z y 0 z.length (z.length + 1)).isEmpty=true
  .rw [if_pos hf] at q;exact call_meets F.slot_str_split (typeIs_str _ _ _) F.entry_str_split (F.args_str_split_2 _ _) (meets_str_split_not_found z y t u2 h1 hy hf) (one q)
  .rw [if_neg hf] at q hw;refine call_meets F.slot_str_split (typeIs_str _ _ _) F.entry_str_split (F.args_str_split_2 _ _) (meets_str_split_sep z y t u2 h1 hy (Bool.eq_false_iff.mpr hf) hz hn) ?_;exact⟨.ref _,_,I.JF (its:=strsFrom s.toks _) (ys:=_) (wY _ _) (by rw[List.length_map];exact hw),rfl,q⟩
theorem cW:OpR X (binaryOp .Mult) (λx y H Q=>∃(z:Str) (n:Nat),x=.str z/\y=.int n/\z.length * n<=100000/\n<=100000/\z.length<=100000/\Q (.str ⟨(List.replicate n z.cps).foldl (·++·) #[]⟩) H):=by
 intro pins s σ H x y v u Q I rx ry h;obtain⟨z,n,rfl,rfl,h1,h2,h3,q⟩:=h;obtain⟨t,rfl⟩:=rx;obtain⟨t2,rfl⟩:=ry;have hs:(100000:Nat)<=sizeLine:=by decide
 refine P.mul_str ?_ ?_ ?_ ?_
 .rw [decide_eq_false (by lia),decide_eq_false (by lia)];rfl
 .intro a b;have:(0:Int) < n:=by lia
  rw[Int.not_lt,Int.le_ediv_iff_mul_le this];have h1:((z.length * n:Nat):Int)<=((100000:Nat):Int):=Int.ofNat_le.mpr h1;rw[Int.natCast_mul] at h1
  lia
 .intro a b;rw[Int.toNat_natCast];unfold Builtin.Str.tooLong;exact decide_eq_false (by lia)
 .by_cases a:(n:Int) < 1
  .rw [if_pos a];obtain rfl:n=0:=by lia
   exact⟨by decide,.str _,H,I.tok _,⟨_,rfl⟩,q⟩
  .rw [if_neg a];by_cases b:((n:Int) == 1 || z.length == 0)=true
   .rw [if_pos b]
    have e:(⟨(List.replicate n z.cps).foldl (·++·) #[]⟩:Str)=z:=by
     rw[Bool.or_eq_true,beq_iff_eq,beq_iff_eq] at b;rcases b with b | b
     .obtain rfl:n=1:=by lia
      show(⟨#[]++z.cps⟩:Str)=z;rw[Array.empty_append]
     .have z0:z.cps=#[]:=Array.size_eq_zero_iff.mp b
      have f:∀m:Nat,(List.replicate m (#[]:Array Nat)).foldl (·++·) #[]=#[]:=λm=>by
       induction m with
       | zero=>rfl
       | succ m ih=>exact ih
      rw[z0,f];cases z;exact congrArg Str.mk z0.symm
    rw[e] at q;exact⟨.str _,H,I,⟨_,rfl⟩,q⟩
   .rw [if_neg b,Int.toNat_natCast];refine⟨?_,.str _,H,I.tok _,⟨_,rfl⟩,q⟩
    have sz:∀(m:Nat) (acc:Array Nat),((List.replicate m z.cps).foldl (·++·) acc).size=acc.size + m * z.cps.size:=λm=>by
     induction m with
     | zero=>intro acc;simp
     | succ m ih=>intro acc;rw[List.replicate_succ,List.foldl_cons,ih,Array.size_append,Nat.succ_mul];lia
    show((List.replicate n z.cps).foldl (·++·) #[]).size<=sizeLine;rw[sz,Nat.mul_comm];have:z.cps.size * n<=100000:=h1;simp only [List.size_toArray,List.length_nil]
    lia
end
def EqD(K:PySem.W.Frag)(H:Hp):Nat->V->V->Bool->Prop
 | 0,x,y,b=>dY x=true/\dY y=true/\b=eqV x y
 | n + 1,x,y,b=>(dY x=true/\dY y=true/\b=eqV x y)\/∃(a c:Addr) (xs ys:List V),x=.ref a/\y=.ref c∧
   ((SqL K H a xs/\SqL K H c ys/\xs.length≠ys.length/\b=false)\/(((SqL K H a xs/\SqL K H c ys)\/(SqT K H a xs/\SqT K H c ys))/\xs.length=ys.length/\∃e:Nat->Bool,(∀(j:Nat) (x' y':V),xs[j]? =some x'->ys[j]? =some y'->EqD K H n x' y' (e j))/\b=(List.range xs.length).all e))
theorem n8{x:V}(h:dY x=true):eqV x x=true:=by
 cases x <;> first | rfl | exact beq_self_eq_true _ | cases h
section
variable{X:Cx}{pins:List (Addr × Obj)}{σ:St}{H:Hp}{s:Shared}
theorem EqD.refl(I:Inv X pins σ H s):∀{n:Nat} {x:V} {b:Bool},EqD X.K H n x x b->b=true
 | 0,x,b,h=>by rw[h.2.2];exact n8 h.1
 | n + 1,x,b,h=>by
  rcases h with h | ⟨a,c,xs,ys,ex,ey,h⟩
  .rw [h.2.2];exact n8 h.1
  .subst ex;cases ey;rcases h with⟨h1,h2,h,_⟩ | ⟨hs,_,e,he,hb⟩
   .exact absurd (congrArg List.length (I.je h1 h2)) h
   .have ee:xs=ys:=by
     rcases hs with⟨h1,h2⟩ | ⟨h1,h2⟩
     .exact I.je h1 h2
     .exact I.Df h1 h2
    subst ee;rw[hb,List.all_eq_true];intro j hj;have hj:=List.mem_range.mp hj;have e1:xs[j]? =some xs[j]:=List.getElem?_eq_getElem hj;exact EqD.refl I (he j _ _ e1 e1)
theorem vI{e:Nat->Bool}{n m:Nat}(h:n=m):((List.range (min n m)).all e && n == m)=(List.range n).all e:=by
 subst h;rw[Nat.min_self,beq_self_eq_true,Bool.and_true]
theorem IZ{xs ys:List V}{is js:List Value}(r1:Vals xs is)(r2:Vals ys js){j:Nat}(h1:j < is.length)(h2:j < js.length):∃x y,xs[j]? =some x/\ys[j]? =some y/\RelV x is[j]/\RelV y js[j]:=by
 have l1:=r1.length;have l2:=r2.length;have e1:xs[j]? =some xs[j]:=List.getElem?_eq_getElem (by omega);have e2:ys[j]? =some ys[j]:=List.getElem?_eq_getElem (by omega);obtain⟨u1,q1,v1⟩:=r1.get e1;obtain⟨u2,q2,v2⟩:=r2.get e2;rw[List.getElem?_eq_getElem h1] at q1;rw[List.getElem?_eq_getElem h2] at q2;cases q1;cases q2;exact⟨_,_,e1,e2,v1,v2⟩
theorem EqD.rc(I:Inv X pins σ H s):∀{n:Nat} {A:Around} {a c:Addr} {b:Bool},A.units + n < cLine->EqD X.K H n (.ref a) (.ref c) b->SeqAt.RcAt A s (.ref a) (.ref c) b
 | 0,A,a,c,b,hu,h=>by cases h.1
 | n + 1,A,a,c,b,hu,h=>by
  have hu0:A.units < cLine:=by lia
  rcases h with h | ⟨a',c',xs,ys,ex,ey,h⟩
  .cases h.1
  cases ex;cases ey
  have item:∀{is js:List Value} (r1:Vals xs is) (r2:Vals ys js) {e:Nat->Bool},(∀(j:Nat) (x' y':V),xs[j]? =some x'->ys[j]? =some y'->EqD X.K H n x' y' (e j))->∀j (h1:j < is.toArray.size) (h2:j < js.toArray.size),SeqAt.EqAt A.in1 s is.toArray[j] js.toArray[j] (e j):=by
   intro is js r1 r2 e he j h1 h2;rw[List.size_toArray] at h1 h2;obtain⟨x,y,e1,e2,v1,v2⟩:=IZ r1 r2 h1 h2;simp only [List.getElem_toArray];have hd:=he j x y e1 e2
   have flat:dY x=true/\dY y=true/\e j=eqV x y->SeqAt.EqAt A.in1 s is[j] js[j] (e j):=λz=>by
    rw[z.2.2];exact BO v1 v2 z.1 z.2.1
   cases n with
   | zero=>exact flat hd
   | succ n=>
    have hd':=hd;rcases hd with z | ⟨a2,c2,xs2,ys2,ex,ey,_⟩
    .exact flat z
    .subst ex ey;have v1:is[j]=Value.ref a2:=v1;have v2:js[j]=Value.ref c2:=v2;rw[v1,v2];by_cases hac:a2=c2
     .subst hac;rw[EqD.refl I hd'];exact SeqAt.EqAt.same _
     .exact SeqAt.EqAt.of_refs hac (EqD.rc I (by show A.units + 1 + (n + 1) < cLine;lia) hd')
  rcases h with⟨h1,h2,hl,hb⟩ | ⟨hs,hl,e,he,hb⟩
  .obtain ⟨is,r1,p1,z1⟩:=I.list h1;obtain⟨js,r2,p2,z2⟩:=I.list h2;have l1:=r1.length;have l2:=r2.length;rw[hb];exact SeqAt.RcAt.lists_lengths p1.isList p2.isList (by rw[List.size_toArray,List.size_toArray,bne_iff_ne];lia) hu0
  rcases hs with⟨h1,h2⟩ | ⟨h1,h2⟩
  .obtain ⟨is,r1,p1,z1⟩:=I.list h1;obtain⟨js,r2,p2,z2⟩:=I.list h2;have l1:=r1.length;have l2:=r2.length;have:=SeqAt.RcAt.lists (e:=e) p1.isList p2.isList (by rw[List.size_toArray,List.size_toArray];lia) hu0 (item r1 r2 he);rw[List.size_toArray,<-l1,<-hb] at this;exact this
  .obtain ⟨is,r1,p1,z1⟩:=I.tuple h1;obtain⟨js,r2,p2,z2⟩:=I.tuple h2;have l1:=r1.length;have l2:=r2.length;have:=SeqAt.RcAt.tuples (e:=e) p1 p2 hu0 (item r1 r2 he);rw[List.size_toArray,List.size_toArray,vI (by lia),<-l1,<-hb] at this;exact this
end
def L4(K:PySem.W.Frag)(neg:Bool):R2:=λx y H Q=>∃(a c:Addr) (n:Nat) (b:Bool),x=.ref a/\y=.ref c/\n<=8/\EqD K H n (.ref a) (.ref c) b/\Q (.bl (if neg=true then !b else b)) H
section
variable{X:Cx}
theorem jP(hu:X.A.units + 64 < cLine):OpR X (compareOp .Eq) (L4 X.K false):=by
 intro pins s σ H x y v u Q I rx ry h;obtain⟨a,c,n,b,rfl,rfl,hn,hd,q⟩:=h;cases rx;cases ry;exact EqD.rc I (by lia) hd _ _ _ _ ⟨.bl b,H,I,rfl,q⟩
end
theorem gI{A:Around}{k:Nat}{cm:Bool}(hr:bJ cm k A):A.units + 64 < cLine:=by have:=hr.un;lia
theorem xR{X:Cx}{hs:List ExceptHandler}:PH X hs (λ_ _ _ _ _=>False):=λ_ _ _ _ _ _ _ _ _ _ _ _ _ z=>z.elim
theorem yp{X:Cx}{K0:PySem.W.Frag}(h:X.K=K0:=by rfl):MtM X "str.join" (λx vs H Q=>∃(sep:Str) (p:Addr) (ys:List Str),x=.str sep/\vs=[.ref p]/\SqL K0 H p (ys.map V.str)/\(ys.map (·.length)).sum + ys.length * sep.length<=16777216/\Q (.str (Txt.join sep ys)) H):=by
 subst h;exact cY
section
variable{X:Cx}{K0:PySem.W.Frag}
theorem JO{T id:String}{name:Str}{r:V->List V->Hp->VK->Prop}{o e:Expr}{es:List Expr}{to:TE}{t:TA}{apos cpos:Pos}(hK:X.K=K0)(pa:PlainAttrs T)(slot:Slot T name id)(hty:typeOf (.builtin id)=pure (.type "method_descriptor"))(hm:MtR X id r)(ho:PE X o to)(ha:PA X (e::es) t)
  (hbase:attributeBase o name X.env (eval o X.env)=eval o X.env:=by rfl)
  (hfew:((backTo cpos (starEach (e::es) X.env)).all (λx=> !x.1) && (backToKw cpos (keywordEach [] X.env)).all (λx=>x.1.isSome)
   && decide ((e::es).length + ([]:List Keyword).length + (if ([]:List Keyword).isEmpty then 0 else 1) < 30))=true:=by rfl)
  (hline:(apos.endLine == cpos.line)=true:=by rfl) (hs:starEach (e::es) X.env=(false,eval e X.env)::starEach es X.env:=by rfl) (hplain:(backTo cpos (starEach es X.env)).any (·.1)=false:=by rfl):
  PE X (.Call (.Attribute o name apos) (e::es) [] cpos) (tBM K0 T r to t):=by
 subst hK;exact cv pa slot hty hm ho ha hbase hfew hline hs hplain
end
section
variable{X:Cx}{K0:PySem.W.Frag}
theorem uk(h:X.K=K0):IxR X (KQ K0):=by
 subst h;exact av
end
end L2
namespace Shp
open PySem L2
structure Sh where
 kind:Nat
 keep:Str
 many:Int
 cg:Int
 eC:Int
 name:Str
structure OkS(s:Sh):Prop where
 kd:s.kind<=5
 kp:s.keep="always"\/s.keep="fallen"\/s.keep="never"
 m0:0<=s.many
 m1:s.many<=1000001
 g0:0<=s.cg
 g1:s.cg<=1000001
 s0:0<=s.eC
 s1:s.eC<=1000001
abbrev bE(i:Int):Str:=Str.ofString (toString i)
def words(s:Sh):List Str:=match s.kind with
 | 0=>["leaf",s.keep,bE s.cg,bE s.eC,"idle"]
 | 1=>["leaf",s.keep,bE s.cg,bE s.eC,"steady",bE s.many]
 | 2=>["leaf",s.keep,bE s.cg,bE s.eC,"falls",bE s.many]
 | 3=>["minder",s.keep,"one",bE s.cg,bE s.eC]
 | 4=>["minder",s.keep,"all",bE s.cg,bE s.eC]
 | _=>["minder",s.keep,"rest",bE s.cg,bE s.eC]
abbrev Rep:=Hp->Addr->Sh->Prop
def wx(R:Rep)(C:Addr)(mk:List V->Sh->Prop):Sp:=λvs H Q _=>∃(x dx:Addr) (H0:Hp) (us:List V) (s:Sh),vs=.ref x::us/\mk us s/\H0 x=none/\H0 dx=none/\dx≠x∧
 H=upd (upd H0 dx (.own x)) x (.ins C dx [])/\∀H',ay H0 H'->R H' x s->Q .non H'
def EJ(us:List V)(s:Sh):Prop:=∃(nm kp:Str) (g l:Int),us=[.str nm,.str kp,.int g,.int l]/\s=⟨0,kp,0,g,l,nm⟩/\OkS s
def zq(us:List V)(s:Sh):Prop:=∃(nm kp:Str) (m g l:Int),us=[.str nm,.str kp,.int m,.int g,.int l]/\s=⟨1,kp,m,g,l,nm⟩/\OkS s
def Ag(us:List V)(s:Sh):Prop:=∃(nm kp:Str) (m g l:Int),us=[.str nm,.str kp,.int m,.int g,.int l]/\s=⟨2,kp,m,g,l,nm⟩/\OkS s
def nW(kd:Nat)(us:List V)(s:Sh):Prop:=∃(nm kp:Str) (g l:Int),us=[.str nm,.str kp,.int g,.int l]/\s=⟨kd,kp,0,g,l,nm⟩/\OkS s
def sj(R:Rep)(C:Addr):Sp:=λvs H Q _=>∃(a dx:Addr) (fs:List (Str × V)) (s:Sh),vs=[.ref a]/\R H a s/\H a=some (.ins C dx fs)∧
 ∀(q:Addr) (H':Hp),ay H H'->H q=none->H' q=some (.lst ((words s).map V.str))->Q (.ref q) H'
def nD(R:Rep)(C:Addr):Sp:=λvs H Q _=>∃(a dx:Addr) (fs:List (Str × V)) (s:Sh),vs=[.ref a]/\R H a s/\H a=some (.ins C dx fs)/\∀H',ay H H'->Q (.bl (decide (s.kind < 3))) H'
structure If(P:Program)(w:World)(K:PySem.W.Frag)(mg:Str->Option Value)(base:Heap)(k:Nat)(R:Rep)(Cl:Nat->Addr->Prop):Prop where
 mono:∀{H H':Hp} {a:Addr} {s:Sh},ay H H'->R H a s->R H' a s
 ok:∀{H:Hp} {a:Addr} {s:Sh},R H a s->OkS s
 inst:∀{H:Hp} {a:Addr} {s:Sh},R H a s->∃C dx fs,H a=some (.ins C dx fs)/\Cl s.kind C/\fs.lookup ("words":Str)=none/\fs.lookup ("leaf":Str)=none/\fs.lookup ("begun_again":Str)=none/\fs.lookup ("end_at":Str)=none/\fs.lookup ("chosen":Str)=none
 words:∀{C j},Cl j C->MethAt P w K mg base (CXE P w) true k "words" C (sj R C) []
 leaf:∀{C j},Cl j C->MethAt P w K mg base (CXE P w) true k "leaf" C (nD R C) []
def gL(P:Program)(w:World)(K:PySem.W.Frag)(mg:Str->Option Value)(base:Heap)(k:Nat)(m:Str)(sp:Addr->Sp)(Cl:Addr->Prop):Prop:=∀C,Cl C->MethAt P w K mg base (CXE P w) true k m C (sp C) []
def Dt(sp:Addr->Sp)(Cl:Addr->Prop)(C:Addr)(s:Sp)(dvs:List V):Prop:=Cl C/\s=sp C/\dvs=[]
theorem gL.d{P:Program}{w:World}{K:PySem.W.Frag}{mg:Str->Option Value}{base:Heap}{k:Nat}{m:Str}{sp:Addr->Sp}{Cl:Addr->Prop}(h:gL P w K mg base k m sp Cl):
  ∀C s dvs,Dt sp Cl C s dvs->MethAt P w K mg base (CXE P w) true k m C s dvs:=by
 rintro C s dvs ⟨c,rfl,rfl⟩;exact h C c
end Shp
namespace Nm
open PySem PySem.NumText PySem.StrLaws
abbrev cds(x:Str):List Nat:=x.cps.toList
def ofC(l:List Nat):Str:=⟨l.toArray⟩
theorem fF(l:List Nat):cds (ofC l)=l:=rfl
theorem iw{x y:Str}(h:cds x=cds y):x=y:=PyProof.Rows.ext_toList h
theorem xY(x:Str):ofC (cds x)=x:=iw rfl
theorem aA(x:Str):(cds x).length=x.length:=Array.length_toList
theorem bo(x y:Str):cds (x++y)=cds x++cds y:=PySem.W.KT.app_list x y
theorem yH(x y:Str):(x++y).length=x.length + y.length:=by rw[<- aA,bo,List.length_append,aA,aA]
theorem JC(x:Str)(c:Nat):(!(Builtin.Str.occurrences x ⟨#[c]⟩ 0 x.length 1).isEmpty)=(cds x).contains c:=by
 rw[Bool.eq_iff_iff,found_iff]
 constructor
 .rintro ⟨i,h⟩;exact List.contains_iff_mem.mpr (List.mem_of_getElem? ((subAt_one x c i).mp h))
 .intro h;obtain⟨i,hi⟩:=List.mem_iff_getElem?.mp (List.contains_iff_mem.mp h);exact⟨i,(subAt_one x c i).mpr hi⟩
def dg(m:Nat):List Nat:=(Nat.toDigits 10 m).map Char.toNat
theorem BY(m:Nat):dg m≠[]:=by
 unfold dg;intro e;exact Nat.toDigits_ne_nil (List.map_eq_nil_iff.mp e)
theorem GA(m:Nat):(dg m).length<=7↔m < 10 ^ 7:=by
 unfold dg;rw[List.length_map];exact Nat.length_toDigits_le_iff (by decide) (by decide)
theorem DC{c:Char}(h:c.isDigit=true):48<=c.toNat/\c.toNat<=57:=by
 unfold Char.isDigit at h;simp only [Bool.and_eq_true,decide_eq_true_eq] at h;exact⟨h.1,h.2⟩
theorem GK{m c:Nat}(h:c∈dg m):48<=c/\c<=57:=by
 obtain⟨ch,hch,e⟩:=List.mem_map.mp h;rw[<- e];exact DC (Nat.isDigit_of_mem_toDigits (by decide) (by decide) hch)
theorem zP{d:Nat}(h:d < 10):(Nat.digitChar d).toNat=d + 48:=by
 revert h;revert d;decide
theorem zO{m:Nat}(h:m < 10):dg m=[m + 48]:=by
 unfold dg;rw[Nat.toDigits_of_lt_base h,List.map_cons,List.map_nil,zP h]
theorem Fs{m:Nat}(h:10<=m):dg m=dg (m / 10)++[m % 10 + 48]:=by
 unfold dg;rw[Nat.toDigits_eq_if (n:=m) (by decide),if_neg (by lia),List.map_append,List.map_cons,List.map_nil,zP (by lia)]
theorem uu(cs:List Nat)(c:Nat):digitsVal (cs++[c])=digitsVal cs * 10 + (c - 48):=by
 unfold digitsVal;rw[List.foldl_append];rfl
theorem Kz(m:Nat):digitsVal (dg m)=m:=by
 induction m using Nat.strongRecOn with
 | _ m ih=>
  by_cases h:m < 10
  .rw [zO h];show 0 * 10 + (m + 48 - 48)=m
   lia
  .rw [Fs (by lia),uu,ih (m / 10) (by lia)]
   lia
theorem HV(m:Nat):∀t,dg m=48::t->m=0/\t=[]:=by
 induction m using Nat.strongRecOn with
 | _ m ih=>
  intro t e;by_cases h:m < 10
  .rw [zO h] at e;injection e with e1 e2;exact⟨by lia,e2.symm⟩
  .rw [Fs (by lia)] at e;cases q:dg (m / 10) with
   | nil=>exact absurd q (BY _)
   | cons a r=>
    rw[q] at e;injection e with e1 e2;subst e1;have:=(ih (m / 10) (by lia) r q).1
    lia
theorem lJ{v:Int}(h0:0<=v):cds (PySem.Str.ofString (toString v))=dg v.toNat:=by
 obtain⟨m,rfl⟩:=Int.eq_ofNat_of_zero_le h0;exact PySem.W.KIN.signs_num m
def kl(c:Nat):Bool:=decide (48<=c/\c<=57)
def zc(c:Nat):Bool:=decide (97<=c/\c<=122) || decide (48<=c/\c<=57)
theorem DF:cds "0123456789"=[48,49,50,51,52,53,54,55,56,57]:=by decide +kernel
theorem IG(c:Nat):(cds "0123456789").contains c=kl c:=by
 rw[DF,Bool.eq_iff_iff,List.contains_iff_mem];unfold kl;rw[decide_eq_true_iff];simp only [List.mem_cons,List.not_mem_nil,or_false];omega
theorem Gu:cds "abcdefghijklmnopqrstuvwxyz0123456789"=[97,98,99,100,101,102,103,104,105,106,107,108,109,110,111,112,113,114,115,116,117,118,119,120,121,122,48,49,50,51,52,53,54,55,56,57]:=by decide +kernel
theorem JI(c:Nat):(cds "abcdefghijklmnopqrstuvwxyz0123456789").contains c=zc c:=by
 rw[Gu];by_cases h:c < 128
 .have q:∀c,c < 128->[97,98,99,100,101,102,103,104,105,106,107,108,109,110,111,112,113,114,115,116,117,118,119,120,121,122,48,49,50,51,52,53,54,55,56,57].contains c=zc c:=by decide +kernel
  exact q c h
 .have e:zc c=false:=by
   unfold zc;rw[decide_eq_false (by lia),decide_eq_false (by lia)]
   rfl
  rw[e,<-Bool.not_eq_true,List.contains_iff_mem];intro m;have q:∀x∈[97,98,99,100,101,102,103,104,105,106,107,108,109,110,111,112,113,114,115,116,117,118,119,120,121,122,48,49,50,51,52,53,54,55,56,57],x < 128:=by decide +kernel
  exact h (q c m)
theorem Ie(m k:Nat):(List.replicate k 48++dg m).all kl=true:=by
 rw[List.all_eq_true];intro c hc;unfold kl;rw[decide_eq_true_iff];rcases List.mem_append.mp hc with h | h
 .rw [(List.mem_replicate.mp h).2]
  lia
 .exact GK h
def de(sep:List Nat):List (List Nat)->List Nat
 | []=>[]
 | [a]=>a
 | a::b::r=>a++sep++de sep (b::r)
theorem me(sep:Str):∀ys:List Str,cds (Str.join sep ys)=de (cds sep) (ys.map cds)
 | []=>rfl
 | [_]=>rfl
 | a::b::r=>by
  show cds (a++sep++Str.join sep (b::r))=cds a++cds sep++de (cds sep) ((b::r).map cds);rw[bo,bo,me sep (b::r)]
theorem ju(sep:Str)(ys:List Str):cds (Txt.join sep ys)=de (cds sep) (ys.map cds):=by
 show cds (Builtin.Str.glued sep ys)=_;rw[StrLaws.glued_eq_join,me]
theorem Ci{x:Str}(hn:cds x≠[])(hd:(cds x).all kl=true)(hl:x.length<=60):PySem.intText? x=some ((digitsVal (cds x):Nat):Int):=
 intText_digits (λc hc=>by have:=List.all_eq_true.mp hd c hc;unfold kl at this;exact of_decide_eq_true this) hn (by lia)
end Nm
namespace Tr
open PySem Shp Nm PySem.NumText
def dA(x:Str):Prop:=1<=x.length/\x.length<=12/\(cds x).all zc=true
structure Row where
 dep:Nat
 sh:Sh
def Row.isM(r:Row):Bool:=decide (3<=r.sh.kind)
instance:Inhabited Row:=⟨⟨0,⟨0,"",0,0,0,""⟩⟩⟩
abbrev Path:=List (Nat × Bool)
def uQ(p:Path)(k:Nat)(r:Row):Path:=p.take r.dep++[(k,r.isM)]
def aC(rows:List Row):Nat->Path
 | 0=>[]
 | k + 1=>uQ (aC rows k) k (rows.getD k default)
def fits(p:Path)(k:Nat)(r:Row):Prop:=if k=0 then r.dep=0/\r.isM=true else 1<=r.dep/\r.dep<=8/\∃j,p[r.dep - 1]? =some (j,true)
instance(p:Path)(k:Nat)(r:Row):Decidable (fits p k r):=by
 unfold fits;refine @instDecidableIte _ _ _ _ inferInstance ?_;refine @instDecidableAnd _ _ inferInstance (@instDecidableAnd _ _ inferInstance ?_);cases h:p[r.dep - 1]? with
 | none=>exact isFalse λzz=>by obtain⟨j,e⟩:=zz;cases e
 | some x=>
  obtain⟨j,b⟩:=x;cases b with
  | true=>exact isTrue ⟨j,rfl⟩
  | false=>exact isFalse λzz=>by obtain⟨j,e⟩:=zz;cases e
def b6(rows:List Row)(k:Nat):Int:=match (aC rows k)[(rows.getD k default).dep - 1]? with
 | some x=>if k=0 then -1 else (x.1:Int)
 | none=> -1
theorem hX{α:Type}(xs ys:List α)(d:α){k:Nat}(h:k < xs.length):(xs++ys).getD k d=xs.getD k d:=by
 rw[List.getD_eq_getElem?_getD,List.getD_eq_getElem?_getD,List.getElem?_append_left h]
theorem bC(rows more:List Row):∀k,k<=rows.length->aC (rows++more) k=aC rows k
 | 0,_=>rfl
 | k + 1,h=>by
  unfold aC;rw[bC rows more k (by lia),hX _ _ _ (by lia)]
theorem xn(rows more:List Row){k:Nat}(h:k < rows.length):b6 (rows++more) k=b6 rows k:=by
 unfold b6;rw[bC rows more k (by omega),hX _ _ _ (by omega)]
structure OkR(s:Sh):Prop where
 kd:s.kind<=5
 kp:s.keep="always"\/s.keep="fallen"\/s.keep="never"
 m0:0<=s.many
 m1:s.many<=1000000
 m2:¬(s.kind=1\/s.kind=2)->s.many=0
 g0:0<=s.cg
 g1:s.cg<=1000000
 s0:0<=s.eC
 s1:s.eC<=1000000
 s2:3<=s.kind->1<=s.eC
 nm:dA s.name
theorem OkR.okS{s:Sh}(h:OkR s):OkS s:=⟨h.kd,h.kp,h.m0,by have:=h.m1;lia,h.g0,by have:=h.g1;lia,h.s0,by have:=h.s1;lia⟩
structure OkT(rows:List Row):Prop where
 ne:rows≠[]
 len:rows.length<=64
 fit:∀k,k < rows.length->fits (aC rows k) k (rows.getD k default)
 sh:∀r∈rows,OkR r.sh
 nd:(rows.map (·.sh.name)).Nodup
def spl(c:Nat):List Nat->List (List Nat)
 | []=>[[]]
 | a::r=>if a=c then []::spl c r else match spl c r with
  | []=>[[a]]
  | w::ws=>(a::w)::ws
theorem lq(c a:Nat)(r:List Nat):spl c (a::r)=if a=c then []::spl c r else match spl c r with
  | []=>[[a]]
  | w::ws=>(a::w)::ws:=rfl
theorem Bd(c:Nat):∀l,spl c l≠[]
 | []=>List.cons_ne_nil _ _
 | a::r=>by
  unfold spl
  split
  .exact List.cons_ne_nil _ _
  .cases spl c r <;> exact List.cons_ne_nil _ _
theorem lL(c:Nat)(y:List Nat):∀x,spl c (x++c::y)=spl c x++spl c y
 | []=>by
  show(if c=c then []::spl c y else _)=_;rw[if_pos rfl]
  rfl
 | a::r=>by
  have ih:=lL c y r;rw[List.cons_append,lq,lq];by_cases h:a=c
  .rw [if_pos h,if_pos h,ih]
   rfl
  .rw [if_neg h,if_neg h,ih];cases z:spl c r with
   | nil=>exact absurd z (Bd c r)
   | cons w ws=>rfl
theorem jt(c:Nat):∀x,c∉x->spl c x=[x]
 | [],_=>rfl
 | a::r,h=>by
  have h1:a≠c:=λe=>h (by rw[e];exact List.mem_cons_self);unfold spl;rw[if_neg h1,jt c r (λz=>h (List.mem_cons_of_mem _ z))]
theorem k9(c:Nat):∀ls:List (List Nat),ls≠[]->(∀l∈ls,c∉l)->spl c (de [c] ls)=ls
 | [],h,_=>absurd rfl h
 | [a],_,h=>jt c a (h a List.mem_cons_self)
 | a::b::r,_,h=>by
  have ih:=k9 c (b::r) (List.cons_ne_nil _ _) λl hl=>h l (List.mem_cons_of_mem _ hl);show spl c (a++[c]++de [c] (b::r))=_;rw[List.append_assoc,List.singleton_append,lL,ih,jt c a (h a List.mem_cons_self)]
  rfl
def bu(l:List Nat):List (List Nat):=(spl 32 l).filter λw=> !w.isEmpty
theorem my(x y:List Nat):bu (x++32::y)=bu x++bu y:=by
 unfold bu;rw[lL,List.filter_append]
theorem Bt:bu []=[]:=rfl
theorem Dz(y:List Nat):bu (32::y)=bu y:=by
 have:=my [] y;rwa [Bt,List.nil_append,List.nil_append] at this
theorem jN(n:Nat)(y:List Nat):bu (List.replicate n 32++y)=bu y:=by
 induction n with
 | zero=>rfl
 | succ n ih=>rw[List.replicate_succ,List.cons_append,Dz,ih]
theorem nv{w:List Nat}(h:w≠[])(h2:32∉w):bu w=[w]:=by
 unfold bu;rw[jt 32 w h2];cases w with
 | nil=>exact absurd rfl h
 | cons a r=>rfl
theorem qU(n m:Nat):∀ws:List (List Nat),(∀w∈ws,w≠[]/\32∉w)->bu (de (List.replicate (n + 1) 32) ws++List.replicate m 32)=ws
 | [],_=>by
  show bu ([]++_)=[];rw[List.nil_append];have:=jN m [];rwa [List.append_nil] at this
 | [a],h=>by
  show bu (a++_)=[a];obtain⟨h1,h2⟩:=h a List.mem_cons_self;cases m with
  | zero=>rw[List.replicate_zero,List.append_nil];exact nv h1 h2
  | succ m=>
   rw[List.replicate_succ,my,nv h1 h2];have:=jN m [];rw[List.append_nil] at this;rw[this]
   rfl
 | a::b::r,h=>by
  obtain⟨h1,h2⟩:=h a List.mem_cons_self;have ih:=qU n m (b::r) λw hw=>h w (List.mem_cons_of_mem _ hw);show bu (a++List.replicate (n + 1) 32++de _ (b::r)++_)=_;rw[List.replicate_succ] at ih ⊢;rw[List.append_assoc,List.append_assoc,List.cons_append,my,jN,nv h1 h2];rw[ih]
  rfl
def numOf(x:Str):Option Int:=if cds x≠[]/\(cds x).all kl=true/\((cds x).head? =some 48->cds x=[48])/\digitsVal (cds x)<=1000000 then some ((digitsVal (cds x):Nat):Int) else none
def bw(x:Str):Prop:=x="always"\/x="fallen"\/x="never"
instance(x:Str):Decidable (bw x):=inferInstanceAs (Decidable (_\/_))
instance(x:Str):Decidable (dA x):=inferInstanceAs (Decidable (_/\_))
def zG(x:Str):Option Nat:=if x="one" then some 3 else if x="all" then some 4 else if x="rest" then some 5 else none
def rowOf:List Str->Option Sh
 | [a,kp,g,s,wk,nm]=>if a="leaf"/\bw kp/\wk="idle"/\dA nm then (numOf g).bind λg=>(numOf s).bind λs=>some ⟨0,kp,0,g,s,nm⟩
   else if a="minder"/\bw kp/\dA nm then (zG g).bind λk=>(numOf s).bind λm=>(numOf wk).bind λp=>if p=0 then none else some ⟨k,kp,0,m,p,nm⟩ else none
 | [a,kp,g,s,wk,m,nm]=>if a="leaf"/\bw kp/\dA nm then (if wk="steady" then some 1 else if wk="falls" then some 2 else none).bind λk=>(numOf g).bind λg=>(numOf s).bind λs=>(numOf m).bind λm=>some ⟨k,kp,m,g,s,nm⟩ else none
 | _=>none
def lead(l:List Nat):Nat:=(l.takeWhile (· == 32)).length
def bG(l:List Nat):Bool:=match l.dropWhile (· == 32) with
 | []=>true
 | c::_=>c == 35
def bA(l:List Nat):Option Row:=if lead l % 2=0 then (rowOf ((bu l).map ofC)).map λs=>⟨lead l / 2,s⟩ else none
inductive Res
 | ok (rows:List Row)
 | bad (n:Nat)
 | many
 | i8
def scan(rows:List Row)(n:Nat):List (List Nat)->Res
 | []=>if rows=[] then .i8 else .ok rows
 | l::ls=>if bG l=true then scan rows (n + 1) ls else match bA l with
  | none=> .bad (n + 1)
  | some r=>if fits (aC rows rows.length) rows.length r/\r.sh.name∉rows.map (·.sh.name) then (if rows.length=64 then .many else scan (rows++[r]) (n + 1) ls) else .bad (n + 1)
theorem fw(rows:List Row)(n:Nat)(l:List Nat)(ls:List (List Nat)):scan rows n (l::ls)=if bG l=true then scan rows (n + 1) ls else match bA l with
  | none=> .bad (n + 1)
  | some r=>if fits (aC rows rows.length) rows.length r/\r.sh.name∉rows.map (·.sh.name) then (if rows.length=64 then .many else scan (rows++[r]) (n + 1) ls) else .bad (n + 1):=rfl
def parse(x:List Nat):Res:=scan [] 0 (spl 10 x)
theorem AQ{i:Int}(h0:0<=i)(h1:i<=1000000):numOf (bE i)=some i:=by
 have hc:cds (bE i)=dg i.toNat:=lJ h0;unfold numOf;rw[hc,Kz,if_pos]
 .rw [Int.toNat_of_nonneg h0]
 .refine ⟨BY _,?_,?_,by lia⟩
  .have:=Ie i.toNat 0;rwa [List.replicate_zero,List.nil_append] at this
  .intro e;cases z:dg i.toNat with
   | nil=>exact absurd z (BY _)
   | cons a r=>
    rw[z] at e;obtain rfl:a=48:=by simpa using e
    rw[(HV _ _ z).2]
theorem uH(kp w m p nm:Str)(h1:bw kp)(h2:dA nm):rowOf ["minder",kp,w,m,p,nm]=(zG w).bind λk=>(numOf m).bind λm=>(numOf p).bind λp=>if p=0 then none else some ⟨k,kp,0,m,p,nm⟩:=by
 unfold rowOf;dsimp only;rw[if_neg (λz=>absurd z.1 (by decide)),if_pos ⟨rfl,h1,h2⟩]
theorem Eb{s:Sh}(h:OkR s):rowOf (words s++[s.name])=some s:=by
 obtain⟨kd,kp,m,g,l,nm⟩:=s;have hk:kd=0\/kd=1\/kd=2\/kd=3\/kd=4\/kd=5:=by have:=h.kd;dsimp only at this;lia
 have hg:=AQ h.g0 h.g1;have hs:=AQ h.s0 h.s1;have hm:=AQ h.m0 h.m1;have hkp:bw kp:=h.kp;have hnm:dA nm:=h.nm;have h2:=h.m2;have h3:=h.s2;dsimp only at hg hs hm h2 h3;rcases hk with rfl | rfl | rfl | rfl | rfl | rfl
 .have e:m=0:=h2 (by decide);subst e;show(if ("leaf":Str)="leaf"/\bw kp/\("idle":Str)="idle"/\dA nm then _ else _)=_;rw[if_pos ⟨rfl,hkp,rfl,hnm⟩,hg,Option.bind_some,hs,Option.bind_some]
 .show (if ("leaf":Str)="leaf"/\bw kp/\dA nm then _ else _)=_;rw[if_pos ⟨rfl,hkp,hnm⟩,if_pos rfl,Option.bind_some,hg,Option.bind_some,hs,Option.bind_some,hm,Option.bind_some]
 .show (if ("leaf":Str)="leaf"/\bw kp/\dA nm then _ else _)=_;rw[if_pos ⟨rfl,hkp,hnm⟩,if_neg (by decide),if_pos rfl,Option.bind_some,hg,Option.bind_some,hs,Option.bind_some,hm,Option.bind_some]
 all_goals
  have e:m=0:=h2 (by decide);subst e;have h4:l≠0:=by have:=h3 (by decide);lia
  show rowOf ["minder",kp,_,bE g,bE l,nm]=_;rw[uH _ _ _ _ _ hkp hnm];dsimp only [zG]
 .rw [if_pos rfl,Option.bind_some,hg,Option.bind_some,hs,Option.bind_some,if_neg h4]
 .rw [if_neg (by decide),if_pos rfl,Option.bind_some,hg,Option.bind_some,hs,Option.bind_some,if_neg h4]
 .rw [if_neg (by decide),if_neg (by decide),if_pos rfl,Option.bind_some,hg,Option.bind_some,hs,Option.bind_some,if_neg h4]
def okW(w:List Nat):Prop:=w≠[]/\∀c∈w,33<=c/\c<=126
theorem ze{i:Int}(h:0<=i):okW (cds (bE i)):=by
 rw[show cds (bE i)=dg i.toNat from lJ h];exact⟨BY _,λc hc=>by have:=GK hc;lia⟩
theorem JY{x:Str}(h:dA x):okW (cds x):=by
 refine⟨λe=> ?_,λc hc=> ?_⟩
 .have:=aA x;rw[e] at this;have:=h.1;simp at *
  lia
 .have:=List.all_eq_true.mp h.2.2 c hc;unfold zc at this;rw[Bool.or_eq_true,decide_eq_true_iff,decide_eq_true_iff] at this
  lia
theorem Cy(l:List Nat)(h:(!l.isEmpty && l.all λc=>decide (33<=c/\c<=126))=true):okW l:=by
 rw[Bool.and_eq_true] at h;refine⟨λe=> ?_,λc hc=>of_decide_eq_true (List.all_eq_true.mp h.2 c hc)⟩;rw[e] at h;exact absurd h.1 (by decide)
theorem EF{x:Str}(h:bw x):okW (cds x):=by
 rcases h with rfl | rfl | rfl <;> exact Cy _ (by decide +kernel)
theorem wR{s:Sh}(h:OkR s):∀w∈(words s++[s.name]).map cds,okW w:=by
 intro w hw;obtain⟨x,hx,rfl⟩:=List.mem_map.mp hw;rcases List.mem_append.mp hx with hx | hx
 .have hl:∀x:Str,x="leaf"\/x="minder"\/x="idle"\/x="steady"\/x="falls"\/x="one"\/x="all"\/x="rest"->okW (cds x):=by
   rintro x (rfl | rfl | rfl | rfl | rfl | rfl | rfl | rfl) <;> exact Cy _ (by decide +kernel)
  have hg:=ze h.g0;have hs:=ze h.s0;have hm:=ze h.m0;have hk:=EF h.kp;unfold words at hx
  split at hx <;> simp only [List.mem_cons,List.not_mem_nil,or_false] at hx
  .rcases hx with rfl | rfl | rfl | rfl | rfl
   .exact hl _ (by simp)
   .exact hk
   .exact hg
   .exact hs
   .exact hl _ (by simp)
  .rcases hx with rfl | rfl | rfl | rfl | rfl | rfl
   .exact hl _ (by simp)
   .exact hk
   .exact hg
   .exact hs
   .exact hl _ (by simp)
   .exact hm
  .rcases hx with rfl | rfl | rfl | rfl | rfl | rfl
   .exact hl _ (by simp)
   .exact hk
   .exact hg
   .exact hs
   .exact hl _ (by simp)
   .exact hm
  all_goals
   rcases hx with rfl | rfl | rfl | rfl | rfl
   .exact hl _ (by simp)
   .exact hk
   .exact hl _ (by simp)
   .exact hg
   .exact hs
 .obtain rfl:x=s.name:=by simpa using hx
  exact JY h.nm
theorem GQ(s:Sh):∃a r,words s++[s.name]=a::r/\(a="leaf"\/a="minder"):=by
 unfold words
 split
 .exact ⟨_,_,rfl,.inl rfl⟩
 .exact ⟨_,_,rfl,.inl rfl⟩
 .exact ⟨_,_,rfl,.inl rfl⟩
 .exact ⟨_,_,rfl,.inr rfl⟩
 .exact ⟨_,_,rfl,.inr rfl⟩
 .exact ⟨_,_,rfl,.inr rfl⟩
theorem sW(sep:List Nat){a:List Nat}{c:Nat}{t:List Nat}(r:List (List Nat))(h:a=c::t):∃u,de sep (a::r)=c::u:=by
 subst h;cases r with
 | nil=>exact⟨t,rfl⟩
 | cons b r=>exact⟨t++sep++de sep (b::r),rfl⟩
def hV(d n m:Nat)(s:Sh):List Nat:=List.replicate (2 * d) 32++(de (List.replicate (n + 1) 32) ((words s++[s.name]).map cds)++List.replicate m 32)
theorem Af(d n m:Nat)(s:Sh):∃c u,(c=108\/c=109)/\hV d n m s=List.replicate (2 * d) 32++c::u:=by
 obtain⟨a,r,e,ha⟩:=GQ s;unfold hV;rw[e,List.map_cons];rcases ha with rfl | rfl
 .obtain ⟨u,hu⟩:=sW (List.replicate (n + 1) 32) (r.map cds) (show cds "leaf"=108::[101,97,102] by decide +kernel);exact⟨108,_,.inl rfl,by rw[hu,List.cons_append]⟩
 .obtain ⟨u,hu⟩:=sW (List.replicate (n + 1) 32) (r.map cds) (show cds "minder"=109::[105,110,100,101,114] by decide +kernel);exact⟨109,_,.inr rfl,by rw[hu,List.cons_append]⟩
theorem Kg(k:Nat){c:Nat}(u:List Nat)(h:c≠32):(List.replicate k 32++c::u).takeWhile (· == 32)=List.replicate k 32:=by
 rw[List.takeWhile_append_of_pos (λa ha=>by rw[(List.mem_replicate.mp ha).2];rfl),List.takeWhile_cons_of_neg (by simpa using h),List.append_nil]
theorem J4(k:Nat){c:Nat}(u:List Nat)(h:c≠32):(List.replicate k 32++c::u).dropWhile (· == 32)=c::u:=by
 rw[List.dropWhile_append_of_pos (λa ha=>by rw[(List.mem_replicate.mp ha).2];rfl),List.dropWhile_cons_of_neg (by simpa using h)]
theorem jB(d n m:Nat)(s:Sh):bG (hV d n m s)=false:=by
 obtain⟨c,u,hc,e⟩:=Af d n m s;unfold bG;rw[e,J4 _ _ (by lia)];show(c == 35)=false;rw[beq_eq_false_iff_ne]
 lia
theorem oN(d n m:Nat){s:Sh}(h:OkR s):bA (hV d n m s)=some ⟨d,s⟩:=by
 obtain⟨c,u,hc,e⟩:=Af d n m s
 have hl:lead (hV d n m s)=2 * d:=by
  unfold lead;rw[e,Kg _ _ (by lia),List.length_replicate]
 have hw:bu (hV d n m s)=(words s++[s.name]).map cds:=by
  unfold hV;rw[jN,qU];intro w hw;obtain⟨h1,h2⟩:=wR h w hw;exact⟨h1,λz=>by have:=h2 32 z;lia⟩
 unfold bA;rw[hl,hw,if_pos (by lia),List.map_map,show ofC∘cds=id from funext xY,List.map_id,Eb h];show some (⟨2 * d / 2,s⟩:Row)=_;rw[show 2 * d / 2=d by lia]
theorem yK(d n m:Nat){s:Sh}(h:OkR s):10∉hV d n m s:=by
 unfold hV;intro z;rcases List.mem_append.mp z with z | z
 .have:=(List.mem_replicate.mp z).2;lia
 rcases List.mem_append.mp z with z | z
 .have hj:∀ws:List (List Nat),(∀w∈ws,okW w)->10∉de (List.replicate (n + 1) 32) ws:=by
   intro ws
   induction ws with
   | nil=>intro _ z;cases z
   | cons a r ih=>
    intro hw z;have ha:=(hw a List.mem_cons_self).2;cases r with
    | nil=>have:=ha 10 z;lia
    | cons b r=>
     have z:10∈a++List.replicate (n + 1) 32++de (List.replicate (n + 1) 32) (b::r):=z;rcases List.mem_append.mp z with z | z
     .rcases List.mem_append.mp z with z | z
      .have:=ha 10 z;lia
      .have:=(List.mem_replicate.mp z).2;lia
     .exact ih (λw hh=>hw w (List.mem_cons_of_mem _ hh)) z
  exact hj _ (wR h) z
 .have:=(List.mem_replicate.mp z).2;lia
inductive fM:List (List Nat)->List Row->Prop
 | nil:fM [] []
 | skip {l:List Nat} {ls:List (List Nat)} {rows:List Row}:bG l=true->fM ls rows->fM (l::ls) rows
 | row {l:List Nat} {ls:List (List Nat)} {r:Row} {rows:List Row}:bG l=false->bA l=some r->fM ls rows->fM (l::ls) (r::rows)
theorem fM.app{a b:List (List Nat)}{r s:List Row}(h:fM a r)(g:fM b s):fM (a++b) (r++s):=by
 induction h with
 | nil=>exact g
 | skip p _ ih=>exact .skip p ih
 | row p q _ ih=>exact .row p q ih
theorem dN{α:Type}(pre:List α)(r:α)(rest:List α)(d:α):(pre++r::rest).getD pre.length d=r:=by
 rw[List.getD_eq_getElem?_getD,List.getElem?_append_right (Nat.le_refl _),Nat.sub_self]
 rfl
theorem OkT.next{pre:List Row}{r:Row}{rest:List Row}(h:OkT (pre++r::rest)):fits (aC pre pre.length) pre.length r/\r.sh.name∉pre.map (·.sh.name)/\pre.length < 64:=by
 refine⟨?_,?_,?_⟩
 .have:=h.fit pre.length (by rw[List.length_append,List.length_cons];lia);rwa [bC pre _ _ (Nat.le_refl _),dN] at this
 .have:=h.nd;rw[List.map_append,List.map_cons,List.nodup_append] at this;exact λz=>this.2.2 _ z _ List.mem_cons_self rfl
 .have:=h.len;rw[List.length_append,List.length_cons] at this
  lia
theorem jA{ls:List (List Nat)}{rows:List Row}(L:fM ls rows):∀(pre:List Row) (n:Nat) (more:List (List Nat)),(∀(q:List Row) (r:Row) (t:List Row),pre++rows=q++r::t->pre.length<=q.length->fits (aC q q.length) q.length r/\r.sh.name∉q.map (·.sh.name)/\q.length < 64)→
  scan pre n (ls++more)=scan (pre++rows) (n + ls.length) more:=by
 induction L with
 | nil=>intro pre n more _;rw[List.append_nil];rfl
 | skip p _ ih=>
  intro pre n more h;rw[List.cons_append,fw];rw[if_pos p,ih pre (n + 1) more h,List.length_cons,Nat.add_right_comm]
  rfl
 | row p q _ ih=>
  rename_i l ls r rows _
  intro pre n more h;obtain⟨h1,h2,h3⟩:=h pre r rows rfl (Nat.le_refl _);rw[List.cons_append,fw];rw[if_neg (by rw[p];decide),q];dsimp only;rw[if_pos ⟨h1,h2⟩,if_neg (by lia),ih (pre++[r]) (n + 1) more ?_,List.length_cons,List.append_assoc,List.singleton_append,Nat.add_right_comm]
  .rfl
  .intro q' r' t e hl;rw[List.append_assoc,List.singleton_append] at e;exact h q' r' t e (by rw[List.length_append] at hl;lia)
theorem OkT.all{rows:List Row}(h:OkT rows):∀(q:List Row) (r:Row) (t:List Row),[]++rows=q++r::t->([]:List Row).length<=q.length->fits (aC q q.length) q.length r/\r.sh.name∉q.map (·.sh.name)/\q.length < 64:=by
 intro q r t e _;rw[List.nil_append] at e;subst e;exact h.next
theorem CD{ls:List (List Nat)}{rows:List Row}(L:fM ls rows)(h:OkT rows):scan [] 0 ls=.ok rows:=by
 have:=jA L [] 0 [] h.all;rw[List.append_nil,List.nil_append] at this;rw[this];unfold scan;rw[if_neg h.ne]
open L2
def LLs(H:Hp)(p:Addr)(wss:List (List Str)):Prop:=∃as:List Addr,H p=some (.lst (as.map V.ref))/\as.length=wss.length/\∀(i:Nat) (x:Addr) (ws:List Str),as[i]? =some x->wss[i]? =some ws->H x=some (.lst (ws.map V.str))
theorem LLs.mono{H H':Hp}{p:Addr}{wss:List (List Str)}(e:ay H H')(h:LLs H p wss):LLs H' p wss:=by
 obtain⟨as,h1,h2,h3⟩:=h;exact⟨as,e _ _ h1,h2,λi x ws g1 g2=>e _ _ (h3 i x ws g1 g2)⟩
structure tO(H:Hp)(dp ep wp np:Addr)(rows:List Row):Prop where
 d:H dp=some (.lst (rows.map λr=>V.int (r.dep:Int)))
 e:H ep=some (.lst ((List.range rows.length).map λk=>V.int (b6 rows k)))
 w:LLs H wp (rows.map λr=>words r.sh)
 n:H np=some (.lst (rows.map λr=>V.str r.sh.name))
theorem tO.mono{H H':Hp}{dp ep wp np:Addr}{rows:List Row}(e:ay H H')(h:tO H dp ep wp np rows):tO H' dp ep wp np rows:=⟨e _ _ h.d,e _ _ h.e,h.w.mono e,e _ _ h.n⟩
def hZ(i:Int):Str:=if i=0 then "always" else if i=1 then "fallen" else if i=2 then "always" else "never"
def FW(i:Int):Str:=if i=0 then "one" else if i=1 then "all" else "rest"
def oS(i:Int):Int:=if i=0 then 9 else if i=1 then 2 else if i=2 then 30 else if i=3 then 1 else if i=4 then 3 else if i=5 then 0 else if i=6 then 9 else 2
def w9(i:Int):Str:=if i=0 then "falls" else if i=1 then "idle" else if i=2 then "steady" else "falls"
def aQ(cell other:Int)(nm:Str):Sh:=⟨3 + (cell / 20 % 3).toNat,hZ (cell / 5 % 4),0,if other % 29=7 then other % 1000001 else oS (other % 8),if other % 29=7 then 1 + other / 3 % 1000000 else 1 + other / 8 % 5,nm⟩
def qR(i:Int):Nat:=if i=1 then 0 else if i=2 then 1 else 2
def leafOf(cell other:Int)(nm:Str):Sh:=⟨qR (cell / 20 % 4),hZ (cell / 5 % 4),if cell / 20 % 4=1 then 0 else if other % 29=7 then other / 7 % 1000001 else other / 16 % 5,if other % 29=7 then other % 1000001 else other % 4,if other % 29=7 then other / 3 % 1000001 else other / 4 % 4,nm⟩
theorem bp(x:Int){n:Int}(h:0 < n):0<=x % n/\x % n < n:=⟨Int.emod_nonneg _ (by lia),Int.emod_lt_of_pos _ h⟩
theorem zx(i:Int):hZ i="always"\/hZ i="fallen"\/hZ i="never":=by
 unfold hZ
 repeat' split
 all_goals simp
theorem qG{cell other:Int}{nm:Str}(h:dA nm):OkR (aQ cell other nm):=by
 have h3:=bp (cell / 20) (n:=3) (by decide);have h8:0<=oS (other % 8)/\oS (other % 8)<=1000000:=by unfold oS;(repeat' split) <;> decide
 have a1:=bp other (n:=1000001) (by decide);have a2:=bp (other / 3) (n:=1000000) (by decide);have a3:=bp (other / 8) (n:=5) (by decide);refine⟨?_,zx _,by show(0:Int)<=0;decide,by show(0:Int)<=1000000;decide,λ_=>rfl,?_,?_,?_,?_,λ_=> ?_,h⟩
 .show 3 + (cell / 20 % 3).toNat<=5;lia
 .show 0<=ite _ _ _;split <;> lia
 .show ite _ _ _<=(1000000:Int);split <;> lia
 .show 0<=ite _ _ _;split <;> lia
 .show ite _ _ _<=(1000000:Int);split <;> lia
 .show 1<=ite _ _ _;split <;> lia
theorem Cc{cell other:Int}{nm:Str}(h:dA nm):OkR (leafOf cell other nm):=by
 have a1:=bp other (n:=1000001) (by decide);have a2:=bp (other / 3) (n:=1000001) (by decide);have a3:=bp (other / 7) (n:=1000001) (by decide);have a4:=bp other (n:=4) (by decide);have a5:=bp (other / 4) (n:=4) (by decide);have a6:=bp (other / 16) (n:=5) (by decide);refine⟨?_,zx _,?_,?_,?_,?_,?_,?_,?_,?_,h⟩
 .show qR _<=5;unfold qR;(repeat' split) <;> lia
 .show 0<=ite _ _ _;(repeat' split) <;> lia
 .show ite _ _ _<=(1000000:Int);(repeat' split) <;> lia
 .intro z;show ite _ _ _=(0:Int);rw[if_pos];have z:¬(qR (cell / 20 % 4)=1\/qR (cell / 20 % 4)=2):=z;unfold qR at z;by_cases e:cell / 20 % 4=1
  .exact e
  .rw [if_neg e] at z;by_cases e2:cell / 20 % 4=2
   .rw [if_pos e2] at z;simp at z
   .rw [if_neg e2] at z;simp at z
 .show 0<=ite _ _ _;split <;> lia
 .show ite _ _ _<=(1000000:Int);split <;> lia
 .show 0<=ite _ _ _;split <;> lia
 .show ite _ _ _<=(1000000:Int);split <;> lia
 .intro z;have z:3<=qR (cell / 20 % 4):=z;unfold qR at z
  (repeat' split at z) <;> lia
def SG:List Nat:=cds "abcdefghijklmnopqrstuvwxyz0123456789"
def sgn(i:Nat):Nat:=SG.getD i 0
theorem Bx{i:Nat}(h:i < 36):zc (sgn i)=true:=by
 revert h;revert i;decide +kernel
theorem yx{i j:Nat}(h:i < 36)(g:j < 36)(e:sgn i=sgn j):i=j:=by
 have:∀i < 36,∀j < 36,sgn i=sgn j->i=j:=by decide +kernel
 exact this i h j g e
theorem By{i:Nat}(h:i < 36):("abcdefghijklmnopqrstuvwxyz0123456789":Str).cps[i]? =some (sgn i):=by
 revert h;revert i;decide +kernel
def h7(k:Nat)(mark:Int):List Nat:=if mark % 11=5/\k < 36 then [sgn k] else List.replicate (mark % 7).toNat 113++[sgn (k % 36),sgn ((((k / 36:Nat):Int) + mark) % 36).toNat]++List.replicate (mark / 7 % 5).toNat 113
theorem De(k:Nat)(mark:Int):1<=(h7 k mark).length/\(h7 k mark).length<=12:=by
 have a1:=bp mark (n:=7) (by decide);have a2:=bp (mark / 7) (n:=5) (by decide);unfold h7
 split
 .exact ⟨Nat.le_refl _,by show 1<=12;decide⟩
 .rw [List.length_append,List.length_append,List.length_replicate,List.length_replicate];show 1<=_ + 2 + _/\_ + 2 + _<=12
  lia
theorem Fj{k:Nat}{mark:Int}(h:k < 64):(h7 k mark).all zc=true:=by
 have a1:=bp (((k / 36:Nat):Int) + mark) (n:=36) (by decide);rw[List.all_eq_true];intro c hc;unfold h7 at hc
 split at hc
 .rename_i g
  obtain rfl:c=sgn k:=by simpa using hc
  exact Bx g.2
 .simp only [List.mem_append,List.mem_replicate,List.mem_cons,List.not_mem_nil,or_false] at hc;rcases hc with(⟨_,rfl⟩ | rfl | rfl) | ⟨_,rfl⟩
  .decide
  .exact Bx (by lia)
  .exact Bx (by lia)
  .decide
def nameOf(k:Nat)(mark:Int):Str:=ofC (h7 k mark)
theorem sk{k:Nat}{mark:Int}(h:k < 64):dA (nameOf k mark):=by
 have hl:=De k mark;have e:(nameOf k mark).length=(h7 k mark).length:=by rw[<- aA];rfl
 exact⟨by lia,by lia,Fj h⟩
theorem EB{k j:Nat}{mark:Int}(h:k < 64)(g:j < 64)(e:h7 k mark=h7 j mark):k=j:=by
 have a1:=bp (((k / 36:Nat):Int) + mark) (n:=36) (by decide);have a2:=bp (((j / 36:Nat):Int) + mark) (n:=36) (by decide);unfold h7 at e;by_cases h5:mark % 11=5/\k < 36
 .rw [if_pos h5] at e;by_cases g5:mark % 11=5/\j < 36
  .rw [if_pos g5] at e;exact yx h5.2 g5.2 (List.cons.inj e).1
  .rw [if_neg g5] at e;have:=congrArg List.length e;rw[List.length_append,List.length_append] at this;have:1=_ + 2 + _:=this
   lia
 .rw [if_neg h5] at e;by_cases g5:mark % 11=5/\j < 36
  .rw [if_pos g5] at e;have:=congrArg List.length e;rw[List.length_append,List.length_append] at this;have:_ + 2 + _=1:=this
   lia
  .rw [if_neg g5,List.append_assoc,List.append_assoc] at e;have e:=List.append_cancel_left e;have e1:=(List.cons.inj e).1;have e2:=(List.cons.inj (List.cons.inj e).2).1;have f1:=yx (by lia) (by lia) e1;have f2:=yx (by lia) (by lia) e2;omega
theorem BJ{k j:Nat}{mark:Int}(h:k < 64)(g:j < 64)(e:nameOf k mark=nameOf j mark):k=j:=EB h g (congrArg cds e)
theorem fv(z:Str)(n:Nat):cds ⟨(List.replicate n z.cps).foldl (·++·) #[]⟩=(List.replicate n (cds z)).flatten:=by
 have:∀(m:Nat) (acc:Array Nat),((List.replicate m z.cps).foldl (·++·) acc).toList=acc.toList++(List.replicate m (cds z)).flatten:=λm=>by
  induction m with
  | zero=>intro acc;simp
  | succ m ih=>intro acc;rw[List.replicate_succ,List.foldl_cons,ih,List.replicate_succ,List.flatten_cons,Array.toList_append,List.append_assoc]
 have:=this n #[];rwa [show (#[]:Array Nat).toList=[] from rfl,List.nil_append] at this
theorem ou(n c:Nat):(List.replicate n [c]).flatten=List.replicate n c:=by
 induction n with
 | zero=>rfl
 | succ n ih=>rw[List.replicate_succ,List.flatten_cons,ih,List.replicate_succ];rfl
theorem sS(n c:Nat):(List.replicate n [c,c]).flatten=List.replicate (2 * n) c:=by
 induction n with
 | zero=>rfl
 | succ n ih=>rw[List.replicate_succ,List.flatten_cons,ih,show 2 * (n + 1)=(2 * n + 1) + 1 by lia,List.replicate_succ,List.replicate_succ];rfl
structure cj(rows:List Row)(lp:List Nat):Prop where
 l1:1<=lp.length
 l8:lp.length<=8
 eq:∃ex:Path,aC rows rows.length=lp.map (λj=>(j,true))++ex
theorem cj.first{r:Row}(h:r.isM=true):cj [r] [0]:=by
 refine⟨Nat.le_refl _,by decide,[],?_⟩;show uQ [] 0 r=_;unfold uQ;rw[h,List.take_nil]
 rfl
theorem cj.fits{rows:List Row}{lp:List Nat}{r:Row}(P:cj rows lp)(hk:rows.length≠0)(h1:1<=r.dep)(h2:r.dep<=lp.length):fits (aC rows rows.length) rows.length r:=by
 obtain⟨ex,e⟩:=P.eq;have:=P.l8;unfold Tr.fits;rw[if_neg hk];refine⟨h1,by lia,lp[r.dep - 1]'(by lia),?_⟩;rw[e,List.getElem?_append_left (by rw[List.length_map];lia),List.getElem?_map,List.getElem?_eq_getElem (by lia)]
 rfl
theorem cj.b6{rows:List Row}{lp:List Nat}{r:Row}(P:cj rows lp)(hk:rows.length≠0)(h1:1<=r.dep)(h2:r.dep<=lp.length):b6 (rows++[r]) rows.length=((lp[r.dep - 1]'(by lia):Nat):Int):=by
 obtain⟨ex,e⟩:=P.eq;unfold Tr.b6;rw[bC rows _ _ (Nat.le_refl _),dN,e,List.getElem?_append_left (by rw[List.length_map];lia),List.getElem?_map,List.getElem?_eq_getElem (by lia)];show(if rows.length=0 then _ else _)=_;rw[if_neg hk]
theorem cj.next{rows:List Row}{lp:List Nat}{r:Row}(P:cj rows lp)(h1:1<=r.dep)(h2:r.dep<=lp.length):cj (rows++[r]) (lp.take r.dep):=by
 obtain⟨ex,e⟩:=P.eq;have:=P.l8;refine⟨by rw[List.length_take];lia,by rw[List.length_take];lia,[(rows.length,r.isM)],?_⟩;rw[List.length_append];show uQ (aC (rows++[r]) rows.length) rows.length ((rows++[r]).getD rows.length default)=_;rw[bC rows _ _ (Nat.le_refl _),dN,e];unfold uQ;rw[List.take_append_of_le_length (by rw[List.length_map];exact h2),List.map_take]
theorem cj.more{rows:List Row}{lp:List Nat}{r:Row}(P:cj rows lp)(h1:1<=r.dep)(h2:r.dep<=lp.length)(h3:r.dep < 8)(hm:r.isM=true):cj (rows++[r]) (lp.take r.dep++[rows.length]):=by
 obtain⟨ex,e⟩:=P.eq;refine⟨by rw[List.length_append];show 1<=_ + 1;lia,by rw[List.length_append,List.length_take];show _ + 1<=8;lia,[],?_⟩;rw[List.length_append];show uQ (aC (rows++[r]) rows.length) rows.length ((rows++[r]).getD rows.length default)=_;rw[bC rows _ _ (Nat.le_refl _),dN,e];unfold uQ;rw[List.take_append_of_le_length (by rw[List.length_map];exact h2),List.map_append,List.map_take,hm,List.append_nil]
 rfl
structure dD(rows:List Row)(mark:Int):Prop where
 ne:1<=rows.length
 len:rows.length<=64
 fit:∀k,k < rows.length->fits (aC rows k) k (rows.getD k default)
 sh:∀r∈rows,OkR r.sh
 nm:∀k,k < rows.length->(rows.getD k default).sh.name=nameOf k mark
theorem dD.next{rows:List Row}{mark:Int}{r:Row}(h:dD rows mark)(hl:rows.length < 64)(hf:fits (aC rows rows.length) rows.length r)(hr:OkR r.sh)(hn:r.sh.name=nameOf rows.length mark):dD (rows++[r]) mark:=by
 have hlen:(rows++[r]).length=rows.length + 1:=List.length_append;refine⟨by lia,by lia,?_,?_,?_⟩
 .intro k hk;by_cases e:k=rows.length
  .subst e;rw[bC rows _ _ (Nat.le_refl _),dN];exact hf
  .rw [bC rows _ _ (by lia),hX _ _ _ (by lia)];exact h.fit k (by lia)
 .intro x hx;rcases List.mem_append.mp hx with z | z
  .exact h.sh x z
  .obtain rfl:x=r:=by simpa using z
   exact hr
 .intro k hk;by_cases e:k=rows.length
  .subst e;rw[dN];exact hn
  .rw [hX _ _ _ (by lia)];exact h.nm k (by lia)
theorem dD.ok{rows:List Row}{mark:Int}(h:dD rows mark):OkT rows:=by
 refine⟨λe=>by have:=h.ne;rw[e] at this;exact absurd this (by decide),h.len,h.fit,h.sh,?_⟩;rw[List.Nodup,List.pairwise_iff_getElem];intro i j hi hj hij e;rw[List.length_map] at hi hj;rw[List.getElem_map,List.getElem_map] at e;have e1:=h.nm i hi;have e2:=h.nm j hj;rw[List.getD_eq_getElem?_getD,List.getElem?_eq_getElem hi] at e1;rw[List.getD_eq_getElem?_getD,List.getElem?_eq_getElem hj] at e2;have e1:rows[i].sh.name=nameOf i mark:=e1;have e2:rows[j].sh.name=nameOf j mark:=e2;rw[e1,e2] at e;have:=h.len;have:=BJ (by lia) (by lia) e
 lia
theorem dD.names{rows:List Row}{mark:Int}(h:dD rows mark):rows.map (λr=>V.str r.sh.name)=(List.range rows.length).map λk=>V.str (nameOf k mark):=by
 refine List.ext_getElem (by rw[List.length_map,List.length_map,List.length_range]) λi h1 h2=> ?_;rw[List.length_map] at h1;rw[List.getElem_map,List.getElem_map,List.getElem_range];have:=h.nm i h1;rw[List.getD_eq_getElem?_getD,List.getElem?_eq_getElem h1] at this;exact congrArg V.str this
theorem cj.take{rows:List Row}{lp:List Nat}(P:cj rows lp){m:Nat}(h1:1<=m)(h2:m<=lp.length):cj rows (lp.take m):=by
 obtain⟨ex,e⟩:=P.eq;have:=P.l8;refine⟨by rw[List.length_take];lia,by rw[List.length_take];lia,(lp.drop m).map (λj=>(j,true))++ex,?_⟩;rw[<- List.append_assoc,<-List.map_append,List.take_append_drop];exact e
theorem E3{α:Type}{xs:List α}(h:1<=xs.length):atI xs (-1)=xs[xs.length - 1]? :=by
 unfold atI ixN;rw[if_neg (by decide),if_pos (by lia)];show xs[(-1 + (xs.length:Int)).toNat]? =_
 congr 1
 lia
theorem jb{H H2:Hp}{d:Addr}{o:HO}(h:ay H H2)(hd:H d=none):ay H (upd H2 d o):=λb u e=>by rw[aq (au e hd)];exact h b u e
theorem LLs.ne{H:Hp}{p d:Addr}{wss:List (List Str)}{i:Int}{xs:List V}(h:LLs H p wss)(h1:H d=some (.lst (V.int i::xs)))(hn:wss≠[]):p≠d:=by
 obtain⟨as,e1,e2,e3⟩:=h;intro e;subst e;rw[h1] at e1;cases as with
 | nil=>cases wss with
  | nil=>exact hn rfl
  | cons _ _=>cases e2
 | cons a r=>cases e1
theorem LLs.upd{H:Hp}{p d:Addr}{wss:List (List Str)}{i:Int}{xs:List V}{o:HO}(h:LLs H p wss)(h1:H d=some (.lst (V.int i::xs)))(hn:wss≠[])(hw:∀ws∈wss,ws≠[]):LLs (upd H d o) p wss:=by
 have np:=h.ne h1 hn;obtain⟨as,e1,e2,e3⟩:=h;refine⟨as,(aq np).trans e1,e2,λk x ws g1 g2=> ?_⟩;have hx:=e3 k x ws g1 g2;rw[aq]
 .exact hx
 .intro e;subst e;rw[h1] at hx;cases ws with
  | nil=>exact hw [] (List.mem_of_getElem? g2) rfl
  | cons a r=>cases hx
theorem LLs.push{H:Hp}{p q:Addr}{wss:List (List Str)}{ws:List Str}(h:LLs H p wss)(hq:H q=some (.lst (ws.map V.str)))(hn:wss≠[])(hw:∀ws∈wss,ws≠[])(hws:ws≠[]):
  ∃as:List Addr,H p=some (.lst (as.map V.ref))/\as.length=wss.length/\LLs (L2.upd H p (.lst (as.map V.ref++[.ref q]))) p (wss++[ws]):=by
 obtain⟨as,e1,e2,e3⟩:=h
 have no:∀(x:Addr) (us:List Str),us≠[]->H x=some (.lst (us.map V.str))->x≠p:=λx us hu hx e=>by
  subst e;rw[e1] at hx;cases as with
  | nil=>cases wss with
   | nil=>exact hn rfl
   | cons _ _=>cases e2
  | cons a r=>cases us with
   | nil=>exact hu rfl
   | cons b t=>cases hx
 refine⟨as,e1,e2,as++[q],by rw[ae,List.map_append];rfl,by rw[List.length_append,List.length_append,e2];rfl,λk x us g1 g2=> ?_⟩;by_cases hk:k < as.length
 .rw [List.getElem?_append_left hk] at g1;rw[List.getElem?_append_left (by lia)] at g2;have hx:=e3 k x us g1 g2;rw[aq (no x us (hw us (List.mem_of_getElem? g2)) hx)];exact hx
 .have ek:k=as.length:=by
   have:=(List.getElem?_eq_some_iff.mp g1).1;rw[List.length_append] at this;have:k < as.length + 1:=this
   lia
  subst ek;rw[List.getElem?_append_right (Nat.le_refl _),Nat.sub_self] at g1;rw[List.getElem?_append_right (by lia),e2,Nat.sub_self] at g2;obtain rfl:q=x:=Option.some.inj g1;obtain rfl:ws=us:=Option.some.inj g2;rw[aq (no q ws hws hq)];exact hq
theorem qg(s:Sh):words s≠[]:=by
 unfold words
 split <;> exact List.cons_ne_nil _ _
theorem xD(rows:List Row):∀ws∈rows.map (λr=>words r.sh),ws≠[]:=λws h=>by
 obtain⟨r,_,rfl⟩:=List.mem_map.mp h;exact qg _
theorem lj{rows:List Row}{r:Row}{j:Int}(h:b6 (rows++[r]) rows.length=j):(List.range (rows++[r]).length).map (λk=>V.int (b6 (rows++[r]) k))=(List.range rows.length).map (λk=>V.int (b6 rows k))++[V.int j]:=by
 rw[List.length_append];show(List.range (rows.length + 1)).map _=_;rw[List.range_succ,List.map_append,List.map_cons,List.map_nil,h]
 congr 1
 refine List.map_congr_left λk hk=> ?_;rw[xn rows [r] (List.mem_range.mp hk)]
theorem wH{rows:List Row}(h:1<=rows.length)(g:Row->Int):∃i xs,rows.map (λr=>V.int (g r))=V.int i::xs:=by
 cases rows with
 | nil=>cases h
 | cons r t=>exact⟨_,_,rfl⟩
theorem u9{n:Nat}(h:1<=n)(g:Nat->Int):∃i xs,(List.range n).map (λk=>V.int (g k))=V.int i::xs:=by
 cases n with
 | zero=>cases h
 | succ n=>rw[List.range_succ_eq_map];exact⟨_,_,rfl⟩
theorem Ju{rows:List Row}(h:1<=rows.length):rows.map (λr=>words r.sh)≠[]:=by
 cases rows with
 | nil=>cases h
 | cons r t=>exact List.cons_ne_nil _ _
theorem yz(xs:List V)(b:Nat):qx xs none (some (b:Int))=xs.take b:=by
 unfold qx;have e1:HT.sIx xs.length 0 none=0:=rfl
 have e2:HT.sIx xs.length xs.length (some (b:Int))=min b xs.length:=by
  unfold HT.sIx;dsimp only
  split
  .lia
  .rw [Int.toNat_natCast]
 rw[e1,e2,List.drop_zero,Nat.sub_zero];by_cases h:b<=xs.length
 .rw [Nat.min_eq_left h]
 .rw [Nat.min_eq_right (by lia),List.take_of_length_le (Nat.le_refl _),List.take_of_length_le (by lia)]
def bz(rows:List Row):List (List Nat):=rows.map λr=>hV r.dep 0 0 r.sh
theorem dZ:∀{rows:List Row},(∀r∈rows,OkR r.sh)->fM (bz rows) rows
 | [],_=> .nil
 | r::t,h=> .row (jB _ _ _ _) (oN _ _ _ (h r List.mem_cons_self)) (dZ λx hx=>h x (List.mem_cons_of_mem _ hx))
theorem i7{rows:List Row}(h:∀r∈rows,OkR r.sh):∀l∈bz rows,10∉l:=by
 intro l hl;obtain⟨r,hr,rfl⟩:=List.mem_map.mp hl;exact yK _ _ _ (h r hr)
theorem plain_len(rows:List Row):(bz rows).length=rows.length:=List.length_map _
def written(rows:List Row):List Nat:=de [10] (bz rows)
theorem vG{rows:List Row}(h:OkT rows):parse (written rows)=.ok rows:=by
 unfold parse written;rw[k9 10 (bz rows) (λe=>h.ne (List.map_eq_nil_iff.mp e)) (i7 h.sh)];exact CD (dZ h.sh) h
theorem OkT.pre{rows rest:List Row}(h:OkT (rows++rest)):∀(q:List Row) (r:Row) (t:List Row),[]++rows=q++r::t->([]:List Row).length<=q.length->fits (aC q q.length) q.length r/\r.sh.name∉q.map (·.sh.name)/\q.length < 64:=by
 intro q r t e _;rw[List.nil_append] at e;have e2:rows++rest=q++r::(t++rest):=by rw[e,List.append_assoc];rfl
 rw[e2] at h;exact h.next
def CO(rows:List Row)(l:List Nat):Prop:=bG l=false/\∀r,bA l=some r->¬(fits (aC rows rows.length) rows.length r/\r.sh.name∉rows.map (·.sh.name))
theorem Aq{ls more:List (List Nat)}{rows rest:List Row}{l:List Nat}(L:fM ls rows)(h:OkT (rows++rest))(b:CO rows l):scan [] 0 (ls++l::more)=.bad (ls.length + 1):=by
 rw[jA L [] 0 (l::more) h.pre,List.nil_append,Nat.zero_add,fw,if_neg (by rw[b.1];decide)];cases z:bA l with
 | none=>rfl
 | some r=>
  dsimp only;rw[if_neg (b.2 r z)]
theorem D6{ls more:List (List Nat)}{l:List Nat}(L:fM ls [])(b:CO [] l):scan [] 0 (ls++l::more)=.bad (ls.length + 1):=by
 rw[jA L [] 0 (l::more) (λq r t e _=>by cases q <;> cases e),List.nil_append,Nat.zero_add,fw,if_neg (by rw[b.1];decide)]
 cases z:bA l with
 | none=>rfl
 | some r=>
  dsimp only;rw[if_neg (b.2 r z)]
theorem C8{ls more:List (List Nat)}{rows:List Row}{l:List Nat}{r:Row}(L:fM ls rows)(h:OkT rows)(h64:rows.length=64)(hp:bG l=false)(hl:bA l=some r)(hf:fits (aC rows rows.length) rows.length r)(hn:r.sh.name∉rows.map (·.sh.name)):
  scan [] 0 (ls++l::more)=.many:=by
 rw[jA L [] 0 (l::more) h.all,List.nil_append,fw,if_neg (by rw[hp];decide),hl];dsimp only;rw[if_pos ⟨hf,hn⟩,if_pos h64]
theorem Gf{rows:List Row}{l:List Nat}(h1:bG l=false)(h2:bA l=none):CO rows l:=⟨h1,λr z=>by rw[h2] at z;cases z⟩
theorem yN{i:Int}(h0:0<=i)(h1:i<=1000000):(cds (bE i)).length<=7:=by
 rw[show cds (bE i)=dg i.toNat from lJ h0];exact(GA _).mpr (by lia)
theorem kF{s:Sh}(h:OkR s):((words s++[s.name]).map (·.length)).sum<=60/\(words s++[s.name]).length<=7:=by
 have hg:=yN h.g0 h.g1;have hs:=yN h.s0 h.s1;have hm:=yN h.m0 h.m1;rw[aA] at hg hs hm;have hk:s.keep.length<=6:=by rcases h.kp with e | e | e <;> rw[e] <;> decide
 have hn:=h.nm.2.1;have l1:("leaf":Str).length=4:=by decide
 have l2:("idle":Str).length=4:=by decide
 have l3:("steady":Str).length=6:=by decide
 have l4:("falls":Str).length=5:=by decide
 have l5:("minder":Str).length=6:=by decide
 have l6:("one":Str).length=3:=by decide
 have l7:("all":Str).length=3:=by decide
 have l8:("rest":Str).length=4:=by decide
 unfold words
 split <;> simp only [List.map_append,List.map_cons,List.map_nil,List.sum_append,List.sum_cons,List.sum_nil,List.length_append,List.length_cons,List.length_nil,l1,l2,l3,l4,l5,l6,l7,l8] <;> lia
theorem lG(sep:List Nat):∀ls:List (List Nat),(de sep ls).length<=(ls.map (·.length)).sum + ls.length * sep.length
 | []=>Nat.zero_le _
 | [a]=>by simp [de]
 | a::b::r=>by
  have ih:=lG sep (b::r);show(a++sep++de sep (b::r)).length<=_;rw[List.length_append,List.length_append,List.map_cons,List.sum_cons,List.length_cons,Nat.add_mul]
  lia
theorem lK{s:Sh}(h:OkR s)(d:Nat):(hV d 0 0 s).length<=2 * d + 67:=by
 have hb:=kF h;have hj:=lG (List.replicate 1 32) ((words s++[s.name]).map cds);rw[List.map_map,List.length_map,List.length_replicate,show(λx:List Nat=>x.length)∘cds=λx:Str=>x.length from funext aA] at hj;unfold hV;rw[List.length_append,List.length_append,List.length_replicate,List.replicate_zero];show 2 * d + ((de (List.replicate 1 32) ((words s++[s.name]).map cds)).length + 0)<=_
 lia
theorem FA(d:Nat)(s:Sh):cds ((⟨(List.replicate d ("  ":Str).cps).foldl (·++·) #[]⟩:Str)++Txt.join " " (words s++[s.name]))=hV d 0 0 s:=by
 rw[bo,fv,ju];unfold hV;rw[List.replicate_zero,List.append_nil]
 congr 1
 exact sS d 32
theorem yA{n:Nat}:∀{l:List Nat},(∀x∈l,x<=n)->l.sum<=n * l.length
 | [],_=>Nat.zero_le _
 | a::r,h=>by
  have h1:=h a List.mem_cons_self;have h2:=yA λx hx=>h x (List.mem_cons_of_mem _ hx);rw[List.sum_cons,List.length_cons,Nat.mul_succ]
  lia
end Tr
namespace Hs
open PySem L2 Shp
abbrev FS:=Addr->Prop
end Hs
namespace Nm
open PySem PySem.NumText PySem.StrLaws PySem.Builtin.Str Tr
theorem qa(x:Str)(i j:Nat):cds (strSub x i j)=((cds x).drop i).take (j - i):=strSub_toList x i j
theorem CB(p:Nat->Bool):∀l:List Nat,l.drop (l.takeWhile p).length=l.dropWhile p
 | []=>rfl
 | a::r=>by
  by_cases h:p a=true
  .rw [List.takeWhile_cons_of_pos h,List.dropWhile_cons_of_pos h];exact CB p r
  .rw [List.takeWhile_cons_of_neg h,List.dropWhile_cons_of_neg h]
   rfl
theorem oo(x:Str)(c:Nat):cds (Txt.lstripChars x ⟨#[c]⟩)=(cds x).dropWhile (· == c):=by
 unfold Txt.lstripChars;rw[PyProof.Rows.stripBy_eq,qa]
 have e:(⟨#[c]⟩:Str).cps.contains=(· == c):=by
  funext d
  show(#[c]:Array Nat).contains d=_;rw[Bool.eq_iff_iff];simp
 rw[e];show List.take (x.length - (List.takeWhile (· == c) (cds x)).length) (List.drop (List.takeWhile (· == c) (cds x)).length (cds x))=_;rw[List.take_of_length_le (by rw[List.length_drop,aA];exact Nat.le_refl _),CB]
theorem AJ(x y:Str):(Txt.lstripChars x y).length<=x.length:=PyProof.Rows.len_lstripChars x y
theorem yg(x:Str)(c:Nat):∀(k a:Nat) (st:Array Nat × Nat),a + k=x.length + 1->st.fst.size<=a->st.snd<=a→
  (forIn (List.range' a k) st (occBody x ⟨#[c]⟩ x.length (x.length + 1))).run.fst.toList=st.fst.toList++(List.range' a k).filter λi=>decide ((cds x)[i]? =some c)
 | 0,a,st,_,_,_=>by
  rw[List.range'_zero,List.filter_nil,List.append_nil]
  rfl
 | k + 1,a,st,h,hs,hf=>by
  rw[List.range'_succ,List.forIn_cons,List.filter_cons];unfold occBody;by_cases e:(cds x)[a]? =some c
  .have z:=(subAt_one x c a).mpr e;rw[if_pos ⟨⟨⟨by lia,hf⟩,z.1⟩,z.2⟩,if_pos (decide_eq_true e)];have ih:=yg x c k (a + 1) (st.fst.push a,a + 1) (by lia) (by rw[Array.size_push];lia) (Nat.le_refl _);unfold occBody at ih;refine Eq.trans ih ?_;rw[Array.toList_push,List.append_assoc]
   rfl
  .rw [if_neg (λz=>e ((subAt_one x c a).mp ⟨z.1.2,z.2⟩)),if_neg (λz=>e (of_decide_eq_true z))];have ih:=yg x c k (a + 1) (st.fst,st.snd) (by lia) (by show st.fst.size<=_;lia) (by show st.snd<=_;lia);unfold occBody at ih;exact ih
theorem pV(x:Str)(c:Nat):∀(k a b:Nat),a<=b->b + k=x.length→
  (partsFrom x 1 a ((List.range' b k).filter λi=>decide ((cds x)[i]? =some c))).map cds=match spl c ((cds x).drop b) with
   | []=>[]
   | h::t=>(((cds x).drop a).take (b - a)++h)::t
 | 0,a,b,h,hb=>by
  have n:(cds x).drop b=[]:=List.drop_of_length_le (by rw[aA];lia);rw[List.range'_zero,List.filter_nil,n];show [cds (strSub x a x.length)]=_;rw[qa,show spl c ([]:List Nat)=[[]] from rfl,show b=x.length by lia];show _=[_++[]];rw[List.append_nil]
 | k + 1,a,b,h,hb=>by
  have hlt:b < (cds x).length:=by rw[aA];lia
  have hd:(cds x).drop b=(cds x)[b]::(cds x).drop (b + 1):=List.drop_eq_getElem_cons hlt;have hg:(cds x)[b]? =some (cds x)[b]:=List.getElem?_eq_getElem hlt;rw[List.range'_succ,List.filter_cons,hd,lq];by_cases e:(cds x)[b]=c
  .rw [if_pos (decide_eq_true (by rw[hg,e])),if_pos e];show cds (strSub x a b)::(partsFrom x 1 (b + 1) _).map cds=_;rw[pV x c k (b + 1) (b + 1) (Nat.le_refl _) (by lia),qa];show _=(_++[])::spl c _;rw[List.append_nil]
   congr 1
   cases hz:spl c ((cds x).drop (b + 1)) with
   | nil=>rfl
   | cons h t=>
    show(_++h)::t=h::t;rw[Nat.sub_self,List.take_zero,List.nil_append]
  .rw [if_neg (λz=>e (by have:=of_decide_eq_true z;rw[hg] at this;exact Option.some.inj this)),if_neg e];rw[pV x c k a (b + 1) (by lia) (by lia)];cases hz:spl c ((cds x).drop (b + 1)) with
   | nil=>exact absurd hz (Bd c _)
   | cons h t=>
    show(_++h)::t=(_++((cds x)[b]::h))::t
    congr 1
    have e1:b + 1 - a=(b - a) + 1:=by lia
    rw[e1,List.take_add_one,List.getElem?_drop,show a + (b - a)=b by lia,hg,List.append_assoc]
    rfl
theorem Io(c:Nat):spl c []=[[]]:=rfl
theorem ei(x:Str){c:Nat}(hc:c < 256):(Txt.split x ⟨#[c]⟩).map cds=spl c (cds x):=by
 have hk:¬Builtin.Str.strKind x < Builtin.Str.strKind ⟨#[c]⟩:=by
  have:Builtin.Str.strKind ⟨#[c]⟩=1:=by
   unfold Builtin.Str.strKind;rw[if_pos (by show(#[c]:Array Nat).all _=true;simp [hc])]
  rw[this];unfold Builtin.Str.strKind
  split
  .lia
  .split <;> lia
 unfold Txt.split;by_cases h0:x.length < 1
 .rw [if_pos (by rw[Bool.or_eq_true];exact .inl (decide_eq_true h0))];have:cds x=[]:=List.length_eq_zero_iff.mp (by rw[aA];lia);show [cds x]=_;rw[this]
  rfl
 .rw [if_neg (by rw[Bool.or_eq_true];exact λz=>z.elim (λz=>h0 (of_decide_eq_true z)) (λz=>hk (of_decide_eq_true z)))]
  have occ:occurrences x ⟨#[c]⟩ 0 x.length (x.length + 1)=(List.range' 0 x.length).filter λi=>decide ((cds x)[i]? =some c):=by
   rw[occ_eq,yg x c _ 0 _ (by lia) (Nat.zero_le _) (Nat.zero_le _),Nat.sub_zero,List.range'_concat,List.filter_append];show []++(_++List.filter _ [0 + 1 * x.length])=_
   rw[List.filter_cons,if_neg (by
    intro z;have z:=of_decide_eq_true z;rw[List.getElem?_eq_none (by rw[aA];lia)] at z;cases z),List.filter_nil,List.append_nil,List.nil_append]
  have pb:=pV x c x.length 0 0 (Nat.le_refl _) (by lia);rw[<- occ,List.drop_zero] at pb
  have fin:(match spl c (cds x) with
   | []=>[]
   | h::t=>((cds x).take (0 - 0)++h)::t)=spl c (cds x):=by
   cases hz:spl c (cds x) with
   | nil=>rfl
   | cons h t=>
    show(_++h)::t=h::t;rw[Nat.sub_self,List.take_zero,List.nil_append]
  by_cases hf:(occurrences x ⟨#[c]⟩ 0 x.length (x.length + 1)).isEmpty=true
  .rw [if_pos hf];rw[List.isEmpty_iff.mp hf] at pb;refine Eq.trans ?_ (pb.trans fin);show [cds x]=[cds (strSub x 0 x.length)];rw[sub_whole]
  .rw [if_neg hf,partsBetween_eq];exact pb.trans fin
theorem CV(c:Nat):∀l:List Nat,(spl c l).length<=l.length + 1
 | []=>Nat.le_refl _
 | a::r=>by
  have ih:=CV c r;rw[lq];by_cases e:a=c
  .rw [if_pos e];show(spl c r).length + 1<=r.length + 1 + 1
   lia
  .rw [if_neg e];cases hz:spl c r with
   | nil=>show(_:Nat)<=_;exact Nat.le_trans (Nat.le_of_eq (by rfl)) (by show 1<=_;lia)
   | cons h t=>
    rw[hz] at ih;show t.length + 1<=r.length + 1 + 1;have ih:t.length + 1<=r.length + 1:=ih
    lia
theorem split_len(x:Str){c:Nat}(hc:c < 256):(Txt.split x ⟨#[c]⟩).length<=x.length + 1:=by
 rw[<- List.length_map (f:=cds),ei x hc,<-aA];exact CV c _
theorem G9(x:Str)(c:Nat):(occurrences x ⟨#[c]⟩ 0 x.length (x.length + 1)).length<=x.length + 1:=occ_length_le _ _ _ _ _
theorem wX(x:Str)(w:Nat):∀(cuts:List Nat) (a:Nat),(partsFrom x w a cuts).length=cuts.length + 1
 | [],_=>rfl
 | _::r,a=>congrArg (· + 1) (wX x w r _)
theorem kS(x:Str)(c:Nat):(partsBetween x (occurrences x ⟨#[c]⟩ 0 x.length (x.length + 1)) 1).length<=x.length + 2:=by
 rw[partsBetween_eq,wX];have:=G9 x c
 lia
theorem yb(x:Str)(c:Nat):Txt.startswith x ⟨#[c]⟩=decide ((cds x).head? =some c):=by
 unfold Txt.startswith
 rw[Bool.eq_iff_iff,Bool.and_eq_true,decide_eq_true_iff,decide_eq_true_iff];rw[List.head?_eq_getElem?];exact subAt_one x c 0
end Nm
namespace L2
open PySem PySem.Spec PyProof.Rows
theorem SqL.same{K:PySem.W.Frag}{H H':Hp}{a:Addr}{xs:List V}(h:SqL K H a xs)(e:ay H H'):SqL K H' a xs:=by
 rcases h with(h | ⟨o,h⟩) | h
 .exact .inl (.inl (e _ _ h))
 .exact .inl (.inr ⟨o,e _ _ h⟩)
 .exact .inr h
end L2
namespace Tr
open PySem Shp Nm PySem.NumText
def hG(x:Str):Bool:=decide (cds x≠[]) && decide (x.length<=7) && decide ((cds x).head? =some 48->cds x=[48]) && (cds x).all kl
theorem Cp(c:Nat)(h:49<=c):∀(n:Nat) (l:List Nat),l.length=n->10 ^ n<=digitsVal (c::l)
 | 0,l,e=>by
  obtain rfl:l=[]:=List.length_eq_zero_iff.mp e;have:=uu [] c;rw[List.nil_append] at this;rw[this];show 1<=_
  lia
 | n + 1,l,e=>by
  rcases List.eq_nil_or_concat l with rfl | ⟨r,d,rfl⟩
  .cases e
  .rw [List.concat_eq_append] at e ⊢;rw[List.length_append] at e;have ih:=Cp c h n r (by have:r.length + 1=n + 1:=e;lia);rw[<- List.cons_append,uu,Nat.pow_succ]
   lia
theorem dq{x:Str}{v:Int}(h:numOf x=some v):hG x=true/\PySem.intText? x=some v/\x.length<=7/\0<=v/\v<=1000000:=by
 unfold numOf at h;by_cases z:cds x≠[]/\(cds x).all kl=true/\((cds x).head? =some 48->cds x=[48])/\digitsVal (cds x)<=1000000
 .rw [if_pos z] at h;obtain⟨h1,h2,h3,h4⟩:=z
  have hl:x.length<=7:=by
   obtain⟨c,r,hc⟩:∃c r,cds x=c::r:=by
    cases y:cds x with
    | nil=>exact absurd y h1
    | cons c r=>exact⟨c,r,rfl⟩
   rw[<- aA,hc];by_cases h48:c=48
   .have:=h3 (by rw[hc,h48];rfl);rw[hc] at this;rw[this]
    decide
   .have hf:=List.all_eq_true.mp h2 c (by rw[hc];exact List.mem_cons_self);unfold kl at hf;have hf:=of_decide_eq_true hf;have b:=Cp c (by lia) _ r rfl;rw[hc] at h4;by_cases hr:r.length<=6
    .rw [List.length_cons];lia
    .have:10 ^ 7<=10 ^ r.length:=Nat.pow_le_pow_right (by decide) (by lia)
     lia
  have hv:=Option.some.inj h;refine⟨?_,?_,hl,by lia,by lia⟩
  .unfold hG;rw[decide_eq_true h1,decide_eq_true hl,decide_eq_true h3,h2]
   rfl
  .rw [Ci h1 h2 (by lia),hv]
 .rw [if_neg z] at h;cases h
theorem Br(a kp g s wk nm:Str):rowOf [a,kp,g,s,wk,nm]=if a="leaf"/\bw kp/\wk="idle"/\dA nm then (numOf g).bind λg=>(numOf s).bind λs=>some ⟨0,kp,0,g,s,nm⟩
   else if a="minder"/\bw kp/\dA nm then (zG g).bind λk=>(numOf s).bind λm=>(numOf wk).bind λp=>if p=0 then none else some ⟨k,kp,0,m,p,nm⟩ else none:=rfl
theorem AZ(a kp g s wk m nm:Str):rowOf [a,kp,g,s,wk,m,nm]=if a="leaf"/\bw kp/\dA nm then (if wk="steady" then some 1 else if wk="falls" then some 2 else none).bind λk=>(numOf g).bind λg=>(numOf s).bind λs=>(numOf m).bind λm=>some ⟨k,kp,m,g,s,nm⟩ else none:=rfl
theorem qK{ws:List Str}{s:Sh}(h:rowOf ws=some s):(∃a b c d e f,ws=[a,b,c,d,e,f])\/∃a b c d e f g,ws=[a,b,c,d,e,f,g]:=by
 match ws,h with
 | [a,b,c,d,e,f],_=>exact .inl ⟨a,b,c,d,e,f,rfl⟩
 | [a,b,c,d,e,f,g],_=>exact .inr ⟨a,b,c,d,e,f,g,rfl⟩
theorem ue{ws:List Str}{s:Sh}(h:rowOf ws=some s)(h1:ws.head? =some ("leaf":Str)):
  (∃(kp g l nm:Str) (gi li:Int),ws=(["leaf",kp,g,l,"idle",nm]:List Str)/\bw kp/\dA nm/\numOf g=some gi/\numOf l=some li/\s=⟨0,kp,0,gi,li,nm⟩)∨
  ∃(kp g l wk m nm:Str) (gi li mi:Int) (k:Nat),ws=(["leaf",kp,g,l,wk,m,nm]:List Str)/\bw kp/\dA nm/\(wk="steady"/\k=1\/wk="falls"/\k=2)/\numOf g=some gi/\numOf l=some li/\numOf m=some mi/\s=⟨k,kp,mi,gi,li,nm⟩:=by
 rcases qK h with⟨a,kp,g,l,wk,nm,rfl⟩ | ⟨a,kp,g,l,wk,m,nm,rfl⟩
 .obtain rfl:a="leaf":=Option.some.inj h1
  left
  rw[Br] at h;by_cases c:(("leaf":Str)="leaf"/\bw kp/\wk="idle"/\dA nm)
  .rw [if_pos c] at h;obtain⟨_,c1,rfl,c3⟩:=c;cases eg:numOf g with
   | none=>rw[eg] at h;cases h
   | some gi=>
    rw[eg] at h;cases el:numOf l with
    | none=>rw[el] at h;cases h
    | some li=>
     rw[el] at h;exact⟨kp,g,l,nm,gi,li,rfl,c1,c3,eg,el,(Option.some.inj h).symm⟩
  .rw [if_neg c,if_neg (λz=>absurd z.1 (by decide))] at h;cases h
 .obtain rfl:a="leaf":=Option.some.inj h1
  right
  rw[AZ] at h;by_cases c:(("leaf":Str)="leaf"/\bw kp/\dA nm)
  .rw [if_pos c] at h;obtain⟨_,c1,c3⟩:=c
   have wkc:∃k,(if wk="steady" then some 1 else if wk="falls" then some 2 else none:Option Nat)=some k/\(wk="steady"/\k=1\/wk="falls"/\k=2):=by
    by_cases w1:wk="steady"
    .exact ⟨1,by rw[if_pos w1],.inl ⟨w1,rfl⟩⟩
    .by_cases w2:wk="falls"
     .exact ⟨2,by rw[if_neg w1,if_pos w2],.inr ⟨w2,rfl⟩⟩
     .rw [if_neg w1,if_neg w2] at h;cases h
   obtain⟨k,ek,ck⟩:=wkc;rw[ek] at h;cases eg:numOf g with
   | none=>rw[eg] at h;cases h
   | some gi=>
    rw[eg] at h;cases el:numOf l with
    | none=>rw[el] at h;cases h
    | some li=>
     rw[el] at h;cases em:numOf m with
     | none=>rw[em] at h;cases h
     | some mi=>
      rw[em] at h;exact⟨kp,g,l,wk,m,nm,gi,li,mi,k,rfl,c1,c3,ck,eg,el,em,(Option.some.inj h).symm⟩
  .rw [if_neg c] at h;cases h
theorem nN{ws:List Str}{s:Sh}(h:rowOf ws=some s)(h1:ws.head? ≠some ("leaf":Str)):
  ∃(kp wy m sp nm:Str) (mi si:Int) (k:Nat),ws=(["minder",kp,wy,m,sp,nm]:List Str)/\bw kp/\dA nm/\(wy="one"/\k=3\/wy="all"/\k=4\/wy="rest"/\k=5)/\numOf m=some mi/\numOf sp=some si/\si≠0/\s=⟨k,kp,0,mi,si,nm⟩:=by
 rcases qK h with⟨a,kp,wy,m,sp,nm,rfl⟩ | ⟨a,kp,g,l,wk,m,nm,rfl⟩
 .have na:a≠"leaf":=λz=>h1 (congrArg some z);rw[Br,if_neg (λz=>na z.1)] at h;by_cases c:(a="minder"/\bw kp/\dA nm)
  .rw [if_pos c] at h;obtain⟨rfl,c1,c3⟩:=c
   have wk:∃k,zG wy=some k/\(wy="one"/\k=3\/wy="all"/\k=4\/wy="rest"/\k=5):=by
    unfold zG;by_cases w1:wy="one"
    .exact ⟨3,by rw[if_pos w1],.inl ⟨w1,rfl⟩⟩
    .by_cases w2:wy="all"
     .exact ⟨4,by rw[if_neg w1,if_pos w2],.inr (.inl ⟨w2,rfl⟩)⟩
     .by_cases w3:wy="rest"
      .exact ⟨5,by rw[if_neg w1,if_neg w2,if_pos w3],.inr (.inr ⟨w3,rfl⟩)⟩
      .unfold zG at h;rw[if_neg w1,if_neg w2,if_neg w3] at h;cases h
   obtain⟨k,ek,ck⟩:=wk;rw[ek] at h;cases em:numOf m with
   | none=>rw[em] at h;cases h
   | some mi=>
    rw[em] at h;cases es:numOf sp with
    | none=>rw[es] at h;cases h
    | some si=>
     rw[es] at h;have h:(if si=0 then none else some (⟨k,kp,0,mi,si,nm⟩:Sh))=some s:=h;by_cases e0:si=0
     .rw [if_pos e0] at h;cases h
     .rw [if_neg e0] at h;exact⟨kp,wy,m,sp,nm,mi,si,k,rfl,c1,c3,ck,em,es,e0,(Option.some.inj h).symm⟩
  .rw [if_neg c] at h;cases h
 .have na:a≠"leaf":=λz=>h1 (congrArg some z);rw[AZ,if_neg (λz=>na z.1)] at h;cases h
theorem BV{ws:List Str}{s:Sh}(h:rowOf ws=some s):OkR s:=by
 by_cases z:ws.head? =some ("leaf":Str)
 .rcases ue h z with⟨kp,g,l,nm,gi,li,_,c1,c2,eg,el,rfl⟩ | ⟨kp,g,l,wk,m,nm,gi,li,mi,kd,_,c1,c2,ck,eg,el,em,rfl⟩
  .obtain ⟨_,_,_,g0,g1⟩:=dq eg;obtain⟨_,_,_,l0,l1⟩:=dq el;exact⟨Nat.zero_le _,c1,Int.le_refl _,by show(0:Int)<=1000000;decide,λ_=>rfl,g0,g1,l0,l1,λz=>absurd (show 3<=0 from z) (by decide),c2⟩
  .obtain ⟨_,_,_,g0,g1⟩:=dq eg;obtain⟨_,_,_,l0,l1⟩:=dq el;obtain⟨_,_,_,m0,m1⟩:=dq em;have hk:kd=1\/kd=2:=ck.elim (λz=> .inl z.2) (λz=> .inr z.2);exact⟨by show kd<=5;lia,c1,m0,m1,λz=>absurd hk z,g0,g1,l0,l1,λz=>absurd (show 3<=kd from z) (by lia),c2⟩
 .obtain ⟨kp,wy,m,sp,nm,mi,si,k,_,c1,c2,ck,em,es,e0,rfl⟩:=nN h z;obtain⟨_,_,_,m0,m1⟩:=dq em;obtain⟨_,_,_,s0,s1⟩:=dq es
  have hk:k=3\/k=4\/k=5:=by
   rcases ck with z | z | z
   .exact .inl z.2
   .exact .inr (.inl z.2)
   .exact .inr (.inr z.2)
  exact⟨by show k<=5;lia,c1,Int.le_refl _,by show(0:Int)<=1000000;decide,λ_=>rfl,m0,m1,s0,s1,λ_=>by show 1<=si;lia,c2⟩
theorem Cu(rows:List Row):∀(k:Nat),(∀i,i < k->(rows.getD i default).dep<=(aC rows i).length)->∀(d j:Nat) (b:Bool),(aC rows k)[d]? =some (j,b)→
  j < k/\(rows.getD j default).dep=d/\(rows.getD j default).isM=b/\∀i,j < i->i < k->d < (rows.getD i default).dep
 | 0,_,d,j,b,h=>by cases h
 | k + 1,wf,d,j,b,h=>by
  have wk:=wf k (Nat.lt_succ_self k);have h:((aC rows k).take (rows.getD k default).dep++[(k,(rows.getD k default).isM)])[d]? =some (j,b):=h;have tl:((aC rows k).take (rows.getD k default).dep).length=(rows.getD k default).dep:=by rw[List.length_take];lia
  by_cases hd:d < (rows.getD k default).dep
  .rw [List.getElem?_append_left (by lia),List.getElem?_take_of_lt hd] at h;obtain⟨h1,h2,h3,h4⟩:=Cu rows k (λi hi=>wf i (by lia)) d j b h;refine⟨by lia,h2,h3,λi a1 a2=> ?_⟩;by_cases hi:i=k
   .rw [hi];exact hd
   .exact h4 i a1 (by lia)
  .rw [List.getElem?_append_right (by lia),tl] at h
   have e0:d - (rows.getD k default).dep=0:=by
    have:=(List.getElem?_eq_some_iff.mp h).1;have:d - (rows.getD k default).dep < 1:=this
    lia
   rw[e0] at h;have h:=Option.some.inj h;have hj:k=j:=congrArg Prod.fst h;have hb:(rows.getD k default).isM=b:=congrArg Prod.snd h;subst hj;exact⟨Nat.lt_succ_self _,by lia,hb,λi a1 a2=>absurd a1 (by lia)⟩
theorem tV{p:Path}{k:Nat}{r:Row}(h:fits p k r):r.dep<=p.length:=by
 unfold fits at h
 split at h
 .lia
 .obtain ⟨h1,_,j,hj⟩:=h;have:=(List.getElem?_eq_some_iff.mp hj).1
  lia
def OkP(rows:List Row):Prop:=∀i,i < rows.length->fits (aC rows i) i (rows.getD i default)
theorem OkP.snoc{rows:List Row}{r:Row}(h:OkP rows)(hf:fits (aC rows rows.length) rows.length r):OkP (rows++[r]):=by
 intro i hi;rw[List.length_append] at hi;by_cases e:i < rows.length
 .rw [bC rows [r] i (by lia),hX _ _ _ e];exact h i e
 .have e:i=rows.length:=by have:i < rows.length + 1:=hi;lia
  subst e;rw[bC rows [r] _ (Nat.le_refl _),dN rows r [] default];exact hf
theorem B6{rows:List Row}{r:Row}(h:OkP rows)(h0:rows≠[])(hf:fits (aC rows rows.length) rows.length r):
  ∃j,j < rows.length/\(rows.getD j default).dep + 1=r.dep/\(rows.getD j default).isM=true/\(∀i,j < i->i < rows.length->r.dep<=(rows.getD i default).dep)/\r.dep<=8/\b6 (rows++[r]) rows.length=(j:Int):=by
 have hf':=hf;unfold fits at hf;have hl:rows.length≠0:=λz=>h0 (List.length_eq_zero_iff.mp z);rw[if_neg hl] at hf;obtain⟨h1,h8,j,hj⟩:=hf;obtain⟨p1,p2,p3,p4⟩:=Cu rows rows.length (λi hi=>tV (h i hi)) _ j true hj;refine⟨j,p1,by lia,p3,λi a1 a2=>by have:=p4 i a1 a2;lia,h8,?_⟩;unfold b6;rw[bC rows [r] _ (Nat.le_refl _),dN rows r [] default,hj];show(if rows.length=0 then (-1:Int) else (j:Int))=j;rw[if_neg hl]
theorem xr{rows out:List Row}{n:Nat}{l:List Nat}{ls:List (List Nat)}(h:scan rows n (l::ls)=.ok out):(bG l=true/\scan rows (n + 1) ls=.ok out)∨
  (bG l=false/\∃r,bA l=some r/\fits (aC rows rows.length) rows.length r/\r.sh.name∉rows.map (·.sh.name)/\rows.length≠64/\scan (rows++[r]) (n + 1) ls=.ok out):=by
 rw[fw] at h;by_cases hp:bG l=true
 .rw [if_pos hp] at h;exact .inl ⟨hp,h⟩
 .right
  rw[if_neg hp] at h;refine⟨by cases z:bG l with | false=>rfl | true=>exact absurd z hp,?_⟩;cases hl:bA l with
  | none=>rw[hl] at h;cases h
  | some r=>
   rw[hl] at h;have h:(if fits (aC rows rows.length) rows.length r/\r.sh.name∉rows.map (·.sh.name) then (if rows.length=64 then Res.many else scan (rows++[r]) (n + 1) ls) else .bad (n + 1))=.ok out:=h;by_cases hf:fits (aC rows rows.length) rows.length r/\r.sh.name∉rows.map (·.sh.name)
   .rw [if_pos hf] at h;by_cases h64:rows.length=64
    .rw [if_pos h64] at h;cases h
    .rw [if_neg h64] at h;exact⟨r,rfl,hf.1,hf.2,h64,h⟩
   .rw [if_neg hf] at h;cases h
theorem oW{l:List Nat}{r:Row}(h:bA l=some r):lead l=2 * r.dep/\rowOf ((bu l).map ofC)=some r.sh:=by
 unfold bA at h;by_cases e:lead l % 2=0
 .rw [if_pos e] at h;cases hr:rowOf ((bu l).map ofC) with
  | none=>rw[hr] at h;cases h
  | some s=>
   rw[hr] at h;have h:=Option.some.inj h;subst h;exact⟨by show lead l=2 * (lead l / 2);lia,rfl⟩
 .rw [if_neg e] at h;cases h
theorem Ah{rows out:List Row}{n:Nat}(h:scan rows n []=.ok out):rows≠[]/\out=rows:=by
 have h:(if rows=[] then Res.i8 else .ok rows)=.ok out:=h;by_cases e:rows=[]
 .rw [if_pos e] at h;cases h
 .rw [if_neg e] at h;injection h with h;exact⟨e,h.symm⟩
end Tr
namespace L2
open PySem PySem.Spec PyProof.Rows
section
variable{prog:Program}{w:World}{A:Around}{E:Value->Shared->Prop}{s:Shared}
theorem Eu{T nu:String}{x:Value}{vs:List Value}{kw:List (Str × Value)}(hl:typeLookup (.type T) "__init__"=pure (some (.builtin "object.__init__")))
  (hm:Bind.madeBy (.type T)=pure (some nu)) (hne:(some nu != some "object.__new__")=true):
  Meets (Builtin.«object.__init__» ⟨x::vs,kw⟩) (λ_ R z=>z.TypeIs x T/\R (.ok (.ret .none)) z):=by
 refine Meets.of_wp λprog w A R z hz=> ?_;obtain⟨hT,hq⟩:=hz;cases vs with
 | nil=>
  cases kw with
  | nil=>exact wpAny_pure ⟨_,rfl,hq⟩
  | cons k r=>
   repeat (any_goals (first | assumption | wp_step))
   exact⟨_,rfl,hq⟩
 | cons a r=>
  repeat (any_goals (first | assumption | wp_step))
  exact⟨_,rfl,hq⟩
theorem F5{T nu:String}{Bn:Builtin}{vs:List Value}{kw:List (Str × Value)}{S:PySem.Spec}{Q:Value->Shared->Prop}(ft:TypeCalled T nu "object.__init__")
  (ne:(some nu != some "object.__new__")=true) (c1:checkTypeCall T ⟨vs,kw⟩=pure ()) (c2:checkBuiltinCall nu ⟨.type T::vs,kw⟩=pure ())
  (ok:∀ob,argsOk "object.__init__" ⟨ob::vs,kw⟩) (en:entryFor table nu=some Bn) (g:Meets (Bn ⟨.type T::vs,kw⟩) S)
  (h:S A.in1 (wants (λob z=>z.TypeIs ob T/\Q ob z) E) s):wpAny (model prog w) A (call (.type T) vs kw) Q E s:=by
 obtain⟨c,tl,hmro⟩:=ft.mro;have hmade:=ft.made;have hsub:=ft.sub;have h1:=ft.notType;have h2:=ft.canCreate;refine wpAny_call (codeAny_of_tree ?_);show wpAny _ _ (callAny (.type T) _) _ _ _;refine wpAny_pure ⟨Code.quiet_builtin _ (by decide +kernel),codeAny_builtin F.entry_type_call ?_⟩;rw[Around.under_plain (weight_type_call_type T vs kw) (units_type_call_type T vs kw)]
 repeat (any_goals (first | assumption | wp_step))
 refine codeAny_mono (codeAny_call_builtin ft.plain en (wpAny_of_eq c2 (g prog w A.in1 _ s h))) λr z hr=> ?_;cases r with
 | error e=>exact hr
 | ok fl=>
  cases fl with
  | ret ob=>
   obtain⟨hT,hq⟩:=hr;have hli:=ft.init.lookup;have hbi:=ft.init.bind ob
   repeat (any_goals (first | assumption | wp_step))
   have gi:=Eu (x:=ob) (vs:=vs) (kw:=kw) ft.init.lookup ft.made ne;refine codeAny_mono (codeAny_call_builtin ft.init.plain F.entry_object_init (ft.init.check _ _ _ _ _ _ _ _ hT (ok ob) (gi prog w A.in1 (wants (λr z2=>r=.none/\Q ob z2) E) z ⟨hT,rfl,hq⟩))) λr2 z2 hr2=> ?_;cases r2 with
   | error e=>exact hr2
   | ok f2=>
    cases f2 with
    | ret r=>
     obtain⟨rfl,hq⟩:=hr2
     repeat (any_goals (first | assumption | wp_step))
    | _=>exact hr2.elim
  | _=>exact hr.elim
end
theorem GS(k:Int)(t:Tok)(l:Addr):checkTypeCall "enumerate" ⟨[.ref l],[("start",.int k t)]⟩=pure ()/\checkBuiltinCall "enumerate.__new__" ⟨[.type "enumerate",.ref l],[("start",.int k t)]⟩=pure ():=⟨by kernel_rfl,by kernel_rfl⟩
theorem EX(k:Int)(t:Tok)(l:Addr)(ob:Value):argsOk "object.__init__" ⟨[ob,.ref l],[("start",.int k t)]⟩:=by
 unfold argsOk;rw[signature?_of (id:="object.__init__") (n:=['_','_','t','i','n','i','_','_']) (o:=['t','c','e','j','b','o']) (by kernel_rfl) F.owner_object];kernel_rfl
theorem I0(l:Addr)(items:Array Value)(n:Nat)(dct:Option Addr)(sl:Array (Option Value))(t:Tok):
  Meets (Builtin.«enumerate.__new__» ⟨[.type "enumerate",.ref l],[("start",.int 1 t)]⟩) (λ_ R z=>z.heap.get? l=some { cls:= .type "list",dict:=dct,data:= .seq items n,slots:=sl}∧
   R (.ok (.ret (.ref (z.heap.push { cls:= .type "list_iterator",data:= .fields #[.ref l,.int 0 0]}).objs.size)))
    { z with heap:=(z.heap.push { cls:= .type "list_iterator",data:= .fields #[.ref l,.int 0 0]}).push { cls:= .type "enumerate",data:= .fields #[.none,.bool false,.ref z.heap.objs.size,rawInt 1,.none,.none]}}):=
 .of_wp λprog w A R z h=>by
  obtain⟨hp,g,d,tk,os⟩:=z;obtain⟨hl,h⟩:=h;have hsub:=sub_enumerate;have hL:Heap.IsList (Shared.heap ⟨hp,g,d,tk,os⟩) l items:=⟨_,hl,rfl,n,rfl⟩
  wp_walk using AutoSeq1.wpAny_loadPart' hl
  refine wpAny_stack_any λst=>wpAny_pure ?_
  split
  .rename_i c _ _ _ _ _
   cases (c == Value.type "enumerate")
   .wp_walk using AutoSeq1.wpAny_loadPart' hl,wpAny_pyIter_list hL
    exact⟨_,rfl,h⟩
   .wp_walk using AutoSeq1.wpAny_loadPart' hl,wpAny_pyIter_list hL
    exact⟨_,rfl,h⟩
  .wp_walk using AutoSeq1.wpAny_loadPart' hl,wpAny_pyIter_list hL
   exact⟨_,rfl,h⟩
section
variable{prog:Program}{w:World}{A:Around}{E:Value->Shared->Prop}{s:Shared}
theorem AV{l:Addr}{items:Array Value}{t:Tok}{Q:Value->Shared->Prop}(hL:s.heap.IsList l items)
  (h:∀g,IsEnum g (s.heap.objs.size + 1) s.heap.objs.size 1 .none->g.IsListIter s.heap.objs.size l 0->g.objs.size=s.heap.objs.size + 2→
   (∀b o,s.heap.get? b=some o->g.get? b=some o)->Q (.ref (s.heap.objs.size + 1)) { s with heap:=g}):
  wpAny (model prog w) A (call (.type "enumerate") [.ref l] [("start",.int 1 t)]) Q E s:=by
 obtain⟨⟨c,dct,dt,sl⟩,hl,hc,n,hd⟩:=hL
 replace hc:c=.type "list":=hc
 replace hd:dt=.seq items n:=hd
 subst hc hd;refine F5 F.called_enumerate (by decide) (GS 1 t l).1 (GS 1 t l).2 (EX 1 t l) F.entry_enumerate_new (I0 l items n dct sl t) ⟨hl,?_⟩;have hz:(s.heap.push { cls:= .type "list_iterator",data:= .fields #[.ref l,.int 0 0]}).objs.size=s.heap.objs.size + 1:=Heap.size_push ..;show _/\_;rw[hz]
 have he:IsEnum ((s.heap.push { cls:= .type "list_iterator",data:= .fields #[.ref l,.int 0 0]}).push
   { cls:= .type "enumerate",data:= .fields #[.none,.bool false,.ref s.heap.objs.size,rawInt 1,.none,.none]}) (s.heap.objs.size + 1) s.heap.objs.size 1 .none:=by
  have:=Heap.get?_push_size (s.heap.push { cls:= .type "list_iterator",data:= .fields #[.ref l,.int 0 0]})
   (o:={ cls:= .type "enumerate",data:= .fields #[.none,.bool false,.ref s.heap.objs.size,rawInt 1,.none,.none]}) rfl
  rw[hz] at this;exact this
 exact⟨⟨_,he,rfl⟩,h _ he ⟨_,Heap.get?_push_of_some _ (Heap.get?_push_size _ rfl),rfl,rfl⟩ (by rw[Heap.size_push,hz]) λb o x=>Heap.get?_push_of_some _ (Heap.get?_push_of_some _ x)⟩
theorem AK{it l:Addr}{items:Array Value}(k:Nat)(hh:A.handled=none)(hne:l≠it):
  Draws prog w A it [it,l] (k + items.size) (λi v=>items[i - k]? =some v) (λi h=>k<=i/\h.IsListIter it l (i - k)/\h.IsList l items):=by
 have D:=Draws.list (prog:=prog) (w:=w) hh it l hne items;refine⟨λi h st=>D.live _ h st.2,λi h h' st hk=>⟨st.1,D.frame _ h h' st.2 hk⟩,λi z Q E hi st hQ=> ?_,λz Q E st hE=>D.done z Q E (by have:=st.2;rwa [Nat.add_sub_cancel_left] at this) hE⟩;refine D.item (i - k) z Q E (by have:=st.1;lia) st.2 λx h' tk hP hst hs=>hQ x h' tk hP ⟨by have:=st.1;lia,?_⟩ hs;rw[show i + 1 - k=i - k + 1 by have:=st.1;lia];exact hst
end
section
variable{X:Cx}{pins:List (Addr × Obj)}{σ:St}{H:Hp}{s:Shared}{h':Heap}
theorem Inv.Ja{t':Nat}{a b:Addr}(I:Inv X pins σ H s)(k:∀c o,c≠a->c≠b->s.heap.get? c=some o->h'.get? c=some o)(fa:cS X pins H a)(fb:cS X pins H b):Inv X pins σ H { s with heap:=h',toks:=t'}:=by
 have nit:∀c u,H c=some u->c≠a/\c≠b:=λc u e=>⟨λz=>(by rw[z,fa.1] at e;cases e),λz=>(by rw[z,fb.1] at e;cases e)⟩;have nch:∀c,c∉[a,b]->c≠a/\c≠b:=λc hc=>⟨λz=>hc (by simp [z]),λz=>hc (by simp [z])⟩
 refine I.step (g':=s.gens) (d':=s.drawn) (ch:=[a,b]) (λc hc=> ?_) (λc o _ _ hc e _=>k c o (nch c hc).1 (nch c hc).2 e) (λc o _ _ hc e _=>⟨o.slots,k c o (nch c hc).1 (nch c hc).2 e⟩) (λ_ _ _ _ n=>n)
  (λc o hc e=>⟨o,k c o (nch c hc).1 (nch c hc).2 e⟩) (λ_ _ e=>e) (λ_ _ _ e=>e) (λc ps e=>⟨#[],by rw[e];simp⟩) (λm hm=> ?_) (λc u e=> ?_) I.bare
 .obtain ⟨_,a1,_,a3,a4,a5⟩:=fa;obtain⟨_,b1,_,b3,b4,b5⟩:=fb;rcases List.mem_cons.mp hc with rfl | hc
  .exact ⟨a3,a1,a4,a5⟩
  .rw [List.mem_singleton.mp hc];exact⟨b3,b1,b4,b5⟩
 .obtain ⟨o,es,ep,ho,r⟩:=hm;exact⟨o,es,ep,k _ o (Ne.symm fa.2.1) (Ne.symm fb.2.1) ho,r⟩
 .have n:=nit;refine(I.hok c u e).u5 (λd v hc q=> ?_) (λ_ q=>q) λ_ _ q=>q;rcases hc with z | z
  .rw [z];rw[z] at q;exact k c v (n c u e).1 (n c u e).2 q
  .exact k d v (n d _ z).1 (n d _ z).2 q
end
def Itn(K:PySem.W.Frag)(a:Addr)(k:Nat):It:=
 ⟨λi H=>∃xs x,SqL K H a xs/\xs[i]? =some x,λi H x H'=>∃q y,H q=none/\x=.ref q/\(∀xs,SqL K H a xs->xs[i]? =some y)/\H'=upd H q (.tup [.int ((k + i:Nat):Int),y]),λi H=>∃xs,SqL K H a xs/\xs.length<=i⟩
theorem DT{P:Program}{w:World}{K:PySem.W.Frag}{elts:List Expr}{c}{tp:Pos}(a e it:Addr)(k:Nat)(hei:e≠it):
  Turn P w K (.Tuple elts c tp) (Itn K a k) [e,it] e (λi h=>(∃old,IsEnum h e it ((k + i:Nat):Int) old)/\h.IsListIter it a i) where
 mem:=by simp
 obj:=λi h st b hb=>by
  rcases List.mem_cons.mp hb with rfl | hb
  .obtain ⟨old,q⟩:=st.1;exact⟨_,q,λv z=>by cases z⟩
  .rw [List.mem_singleton.mp hb];obtain⟨o,q,_,d⟩:=st.2;exact⟨o,q,λv z=>by rw[d] at z;cases z⟩
 keep:=λi h h' st kk=>⟨st.1.imp λold q=>kk e (by simp) _ q,st.2.at λo q=>kk it (by simp) o q⟩
 item:=by
  intro X hP hw hK hc i pins s σ H E I hf st hg;subst hP hw hK;obtain⟨xs,x,hq,hx⟩:=hg;obtain⟨its,rv,p,hz⟩:=I.list hq;obtain⟨u,hu,ru⟩:=rv.get hx;obtain⟨⟨old,he⟩,hit⟩:=st;have fe:=hf e (by simp);have fi:=hf it (by simp);have hlt:i < its.length:=(List.getElem?_eq_some_iff.mp hu).1
  have hai:a≠it:=λz=>by
   obtain⟨o,q,c1,_⟩:=hit;obtain⟨o2,q2,c2,_⟩:=p.isList;rw[z,q] at q2;cases q2;rw[c1] at c2;exact absurd (Value.type.inj c2) (by decide)
  have hae:e≠a:=λz=>by
   obtain⟨o2,q2,c2,_⟩:=p.isList;rw[<- z] at q2;have:=Option.some.inj (he.symm.trans q2);rw[<- this] at c2;exact absurd (Value.type.inj c2) (by decide)
  have D:=AK (prog:=X.prog) (w:=X.w) (A:=X.A.in1) (it:=it) (l:=a) (items:=its.toArray) k (I.ok.hd hc) hai;refine wpAny_pyNext_enum_itemD D he ⟨by lia,by rw[Nat.add_sub_cancel_left];exact hit,p.isList⟩ (by show k + i < k + its.toArray.size;simp;lia) hei (by simp;exact⟨hei,hae⟩) λy g tk hP ho hs hT hsz kk=> ?_
  have ey:y=u:=by
   have hP:its.toArray[k + i - k]? =some y:=hP;rw[Nat.add_sub_cancel_left] at hP;have hu':its.toArray[i]? =some u:=by simpa using hu
   rw[hu'] at hP;exact(Option.some.inj hP).symm
  subst ey;refine⟨_,rfl,wpAny_letOwnedTupleGo_enum ho λg2 he2 hs2=> ?_⟩;have hsz2:s.heap.objs.size≠e:=Nat.ne_of_gt (Heap.lt_size he);have hszi:s.heap.objs.size≠it:=by obtain⟨_,q,_⟩:=hit;exact Nat.ne_of_gt (Heap.lt_size q)
  have f0:H s.heap.objs.size=none:=I.fresh
  have I1:Inv X pins σ (upd H s.heap.objs.size (.tup [.int ((k + i:Nat):Int),x])) { s with heap:=s.heap.push { cls:= .type "tuple",data:= .seq #[.int ((k + i:Nat):Int) tk,y]},toks:=tk + 1}:=
   I.laid (λb o q=>Heap.get?_push_of_some _ q) (Nat.le_refl _) ⟨Nat.le_of_lt (aI (show 2<=1000 by decide)),[_,_],.cons ⟨_,rfl⟩ (.cons ru .nil),⟨_,Heap.get?_push_size _ rfl,rfl,_,rfl⟩⟩
  have fok:∀b,cS X pins H b->b≠s.heap.objs.size->cS X pins (upd H s.heap.objs.size (.tup [.int ((k + i:Nat):Int),x])) b:=λb fb hb=>⟨by rw[aq hb];exact fb.1,fb.2⟩
  have I2:=Inv.Ja (h':=g2) (t':=tk + 1) I1 (a:=e) (b:=it) (λb o h1 h2 q=>by
   by_cases hb:b=s.heap.objs.size
   .subst hb;have q':=Heap.get?_push_size s.heap (o:={ cls:= .type "tuple",data:= .seq #[.int ((k + i:Nat):Int) tk,y]}) rfl;rw[q'] at q;cases q;exact(hs2.2 _ h1).trans hT
   .refine (hs2.2 _ h1).trans (kk b o h1 h2 ?_);exact(Heap.get?_push_ne _ _ _ hb).symm.trans q) (fok e fe (Ne.symm hsz2)) (fok it fi (Ne.symm hszi))
  refine⟨.ref s.heap.objs.size,_,I2,rfl,⟨_,x,f0,rfl,λys hy=>by rw[I.je hy hq];exact hx,rfl⟩,⟨⟨_,by simpa [Int.add_assoc] using he2⟩,?_⟩,λb hb=> ?_⟩
  .have:=hs.2.1;rw[show k + i + 1 - k=i + 1 by lia] at this;exact this.at λo q=>(hs2.2 it (Ne.symm hei)).trans q
  .rcases List.mem_cons.mp hb with rfl | hb
   .exact (fok _ fe (Ne.symm hsz2)).1
   .rw [List.mem_singleton.mp hb];exact(fok _ fi (Ne.symm hszi)).1
 done:=by
  intro X hP hw hK hc i pins s σ H E I hf st hg;subst hP hw hK;obtain⟨xs,hq,hx⟩:=hg;obtain⟨its,rv,p,hz⟩:=I.list hq;obtain⟨⟨old,he⟩,hit⟩:=st;obtain⟨f0,f1,f2,f3,f4,f5⟩:=hf it (by simp);have hl:=rv.length
  have hai:a≠it:=λz=>by
   obtain⟨o,q,c1,_⟩:=hit;obtain⟨o2,q2,c2,_⟩:=p.isList;rw[z,q] at q2;cases q2;rw[c1] at c2;exact absurd (Value.type.inj c2) (by decide)
  have hT:s.TypeIs (.ref e) "enumerate":=⟨_,he,rfl⟩;unfold pyNext
  refine wpAny_bind (wpAny_attempt (wpAny_callSpecial?_slot (name:=Str.ofString "__next__") hT F.slot_enumerate_next
   (wpAny_call_entry F.slot_enumerate_next hT F.entry_enumerate_next ?_ (F.args_enumerate_next_1 _))))
  show wpAny _ _ (field (.ref e) 2 >>= _) _ _ _;refine wpAny_bind (wpAny_field he rfl (x:= .ref it) rfl ?_);refine wpAny_bind (wpAny_nextOf_list_end (I.ok.hd hc) hit p.isList (Array.getElem?_eq_none (by simp;lia)) λg x he' hx'=> ?_);obtain⟨o,ho,hc'⟩:=hx';refine wpAny_bind (wpAny_isInstance (T:="StopIteration") (b:=true) ⟨o,ho,hc'⟩ isSubtype_stop ?_);exact wpAny_pure ⟨rfl,I.turned (t':=s.toks) (λb o hb q=>he' b o hb q) f0 f1 f3 f4 f5⟩
 self:=λ_ _ _ _ _ st h=>by
  obtain⟨⟨old,he⟩,_⟩:=st;exact wpAny_pyIter_enum he h
section
variable{X:Cx}{elts:List Expr}{c}{tp:Pos}
theorem Iw{pins:List (Addr × Obj)}{σ:St}{H:Hp}{s:Shared}{R:It->Hp->Prop}{E:Value->Shared->Prop}{a:Addr}{g:Heap}{k:Nat}(I:Inv X pins σ H s)(he:IsEnum g (s.heap.objs.size + 1) s.heap.objs.size (k:Int) .none)(hi:g.IsListIter s.heap.objs.size a 0)
  (kk:∀b o,s.heap.get? b=some o->g.get? b=some o) (q:R (Itn X.K a k) H):wpAny (model X.prog X.w) X.A (pyIter (.ref (s.heap.objs.size + 1))) (PIE X pins σ (.Tuple elts c tp) R) E { s with heap:=g}:=by
 refine wpAny_pyIter_enum he ?_;refine⟨s.heap.objs.size + 1,[s.heap.objs.size + 1,s.heap.objs.size],_,_,H,rfl,I.kept (t':=s.toks) kk,DT a _ _ k (Nat.succ_ne_self _),⟨⟨_,he⟩,hi⟩,λb hb=> ?_,q⟩;rcases List.mem_cons.mp hb with rfl | hb
 .exact I.vV (Nat.le_succ _) (I.hok.fresh (Nat.le_succ _))
 .rw [List.mem_singleton.mp hb];exact I.vV (Nat.le_refl _) (I.hok.fresh (Nat.le_refl _))
def Lj(K:PySem.W.Frag)(k:Nat)(ta:TA):TI:=λσ H R=>ta σ H λvs H1=>∃a,vs=[.ref a]/\(∃xs,SqL K H1 a xs)/\R (Itn K a k) H1
theorem Gg{M:Model}{A:Around}{E:Value->Shared->Prop}{s:Shared}{pos:Pos}{T:String}{vs:List (Bool × Sem Value)}{kws:List (Option Str × Sem Value)}{Q:Value->Shared->Prop}(h1:vs.any (·.1)=false)(h2:kws.any (·.1.isNone)=false)
  (h:wpAny M A (evalArgs (.type T) true vs kws) (λa z=>wpAny M A (call (.type T) a.pos a.kw) Q E z) E s):wpAny M A (callWith pos (.type T) [] vs kws) Q E s:=by
 unfold callWith;refine wpAny_bind (wpAny_holding (wpAny_mono h (λa z hz=>wpAny_bind (wpAny_standAt ?_)) λ_ _ x=>x));simp only [h1,h2,Bool.or_false];refine wpAny_bind (wpAny_pure (wpAny_bind (wpAny_mono hz (λr z2 hr=> ?_) λ_ _ x=>x)));exact wpAny_bind (wpAny_holding (wpAny_point (wpAny_pure hr)))
theorem zr{l:Expr}{ta:TA}{p pos kp cp:Pos}{ck}(hg:Gl X "enumerate")(hm:X.mg "enumerate"=none)(ha:PA X [l] ta)(hs:starEach [l] X.env=[(false,eval l X.env)]:=by rfl):
  PI X (.Tuple elts c tp) (.Call (.Name "enumerate" p) [l] [⟨some "start",.Constant (.int 1) ck cp,kp⟩] pos) (Lj X.K 1 ta):=by
 intro pins s σ H R I h;show wpAny _ _ (do callWith pos (<- eval (.Name "enumerate" p) X.env) [] (backTo pos (starEach [l] X.env)) (backToKw pos (keywordEach [⟨some "start",.Constant (.int 1) ck cp,kp⟩] X.env))) _ _ _;refine wpAny_bind (mF I hg hm boot_enumerate (Gg (by rw[hs];rfl) rfl ?_));rw[show backTo pos (starEach [l] X.env)=(false,eval l X.env)::backTo pos [] by rw[hs];rfl];refine evalArgs_kwB rfl ?_;have hx:=ha pos pins s σ H _ I h;rw[show backTo pos (starEach [l] X.env)=(false,eval l X.env)::backTo pos [] by rw[hs];rfl] at hx;refine thn hx λus s1 ⟨vs,H1,I1,r1,q1⟩=>kws_cons ?_;obtain⟨a,e,⟨xs,hq⟩,q⟩:=q1;subst e;cases r1 with
 | cons r rr=>
  cases rr;cases r;refine wpAny_Constant_int (kws_nil ?_);obtain⟨its,rv,pl,hz⟩:=(I1.tok (s1.toks + 1)).list hq;exact AV (s:={ s1 with toks:=s1.toks + 1}) pl.isList λg he hi hsz kk=>Iw (I1.tok (s1.toks + 1)) (k:=1) he hi kk q
def Itd(n:Nat):It:=⟨λi _=>i < n,λi H x H'=>H'=H/\x=.int ((n:Int) - 1 - i),λi _=>n<=i⟩
theorem C5{P:Program}{w:World}{K:PySem.W.Frag}{tg:Expr}(it:Addr)(n:Nat):Turn P w K tg (Itd n) [it] it (λi h=>IsRangeIter h it (((n:Int) - 1) + (i:Nat) * (-1)) ((n:Int) - (i:Nat)) (-1)) where
 mem:=by simp
 obj:=λi h st b hb=>by
  rw[List.mem_singleton.mp hb]
  exact⟨_,st,λv z=>by
   have z2:Data.fields _=Data.cell v:=z;cases z2⟩
 keep:=λi h h' st k=>k it (by simp) _ st
 item:=by
  intro X hP hw hK hc i pins s σ H E I hf st hg;subst hP hw hK;obtain⟨f0,f1,f2,f3,f4,f5⟩:=hf it (by simp);have W:=Walks.range (prog:=X.prog) (w:=X.w) (I.ok.hd hc) it ((n:Int) - 1) (-1) n;refine W.item i s _ _ hg st λv g tk hv st' kk=> ?_;obtain⟨t,rfl⟩:=hv;have I1:Inv X pins σ H { s with heap:=g,toks:=tk}:=I.turned (λb o hb e=>kk b o (by simpa using hb) e) f0 f1 f3 f4 f5;refine⟨_,rfl,Gv (s:={ s with heap:=g,toks:=tk}) (n:="range_iterator") st' rfl rfl (by decide) ⟨.int ((n:Int) - 1 - i),H,I1,⟨t,?_⟩,⟨rfl,rfl⟩,st',λb hb=>(hf b hb).1⟩⟩;rw[show (n:Int) - 1 + (i:Int) * -1=(n:Int) - 1 - i by lia]
 done:=by
  intro X hP hw hK hc i pins s σ H E I hf st hg;subst hP hw hK;obtain⟨f0,f1,f2,f3,f4,f5⟩:=hf it (by simp);exact wpAny_pyNext_range_end (I.ok.hd hc) st (by have:n<=i:=hg;lia) λg eb=>⟨rfl,I.turned (t':=s.toks) (λb o hb e=>eb b o hb e) f0 f1 f3 f4 f5⟩
 self:=λ_ _ _ _ _ st h=>wpAny_pyIter_rangeiter st h
def Lv(ta:TA):TI:=λσ H R=>ta σ H λvs H1=>∃n:Nat,vs=[.int ((n:Int) - 1),.int (-1),.int (-1)]/\n<=1000000/\R (Itd n) H1
theorem Cv{tg a b c:Expr}{ta:TA}{p pos:Pos}(hg:Gl X "range")(hm:X.mg "range"=none)(ha:PA X [a,b,c] ta)(hs:starEach [a,b,c] X.env=[(false,eval a X.env),(false,eval b X.env),(false,eval c X.env)]:=by rfl)(hs2:starEach [b,c] X.env=[(false,eval b X.env),(false,eval c X.env)]:=by rfl):
  PI X tg (.Call (.Name "range" p) [a,b,c] [] pos) (Lv ta):=by
 intro pins s σ H R I h;refine Call_ (mF I hg hm boot_range (PyProof.Rows.callWith_type1 (ha.th I h λus s1 vs H1 I1 r1 q1=> ?_) (by rw[hs,hs2]) (by rw[hs2];rfl)));obtain⟨n,e,hn,q⟩:=q1;subst e;cases r1 with
 | cons r1 rr=>
  cases rr with
  | cons r2 rr=>
   cases rr with
   | cons r3 rr=>
    cases rr;obtain⟨t1,rfl⟩:=r1;obtain⟨t2,rfl⟩:=r2;obtain⟨t3,rfl⟩:=r3
    have sz:Builtin.Range.rangeSize ((n:Int) - 1) (-1) (-1)=n:=by
     unfold Builtin.Range.rangeSize;rw[if_neg (by decide)];by_cases h0:n=0
     .subst h0
      rfl
     .rw [if_pos (by lia)];show((n:Int) - 1 - -1 - 1) / 1 + 1=n;rw[Int.ediv_one]
      lia
    refine call_range_3 (by decide) ?_ (.inl (PyProof.noPylong_small (by lia)))
    have sm:Builtin.Range.small ((n:Int) - 1) (-1) (-1)=true:=by
     unfold Builtin.Range.small;rw[sz,if_neg (show ¬(-1:Int) > 0 by decide)];simp only [Builtin.Range.rangeFitsLong,Bool.and_eq_true,Bool.or_eq_true,decide_eq_true_eq,beq_iff_eq]
     lia
    refine wpAny_pyIter_range (IsRange.new ..) sm ?_;have I2:Inv X pins σ H1 { s1 with heap:=s1.heap.push { cls:= .type "range",data:= .fields #[.int ((n:Int) - 1) t1,.int (-1) t2,.int (-1) t3]},toks:=s1.toks}:=I1.kept λb o e=>Heap.get?_push_of_some _ e;refine⟨_,[(s1.heap.push { cls:= .type "range",data:= .fields #[.int ((n:Int) - 1) t1,.int (-1) t2,.int (-1) t3]}).objs.size],_,_,H1,rfl,I2.kept (t':=s1.toks) λb o e=>Heap.get?_push_of_some _ e,C5 _ n,?_,λb hb=> ?_,q⟩
    .show IsRangeIter _ _ ((n:Int) - 1 + ((0:Nat):Int) * -1) ((n:Int) - ((0:Nat):Int)) (-1);rw[show (n:Int) - 1 + ((0:Nat):Int) * -1=(n:Int) - 1 by lia,show(n:Int) - ((0:Nat):Int)=n by lia];have:=Heap.get?_push_size (s1.heap.push { cls:= .type "range",data:= .fields #[.int ((n:Int) - 1) t1,.int (-1) t2,.int (-1) t3]}) (o:={ cls:= .type "range_iterator",data:= .fields #[rawInt ((n:Int) - 1),rawInt (Builtin.Range.rangeSize ((n:Int) - 1) (-1) (-1)),rawInt (-1)]}) rfl;rw[sz] at this;rw[sz];exact this
    .rw [List.mem_singleton.mp hb];exact I2.vV (Nat.le_refl _) (I2.hok.fresh (Nat.le_refl _))
end
section
variable{X:Cx}{k:Nat}{cm:Bool}{C:Addr}{sp:Sp}{dvs:List V}{E:St->XK}{x:Str}{p pos:Pos}
theorem CG(c:Mak X.prog X.w X.K X.mg X.base cm k x C sp dvs)(hr:bJ cm (k + 1) X.A)(hg:Gl X x)(hx:Passes (CXE X.prog X.w) X E)(hdb:(x == ("__debug__":Str))=false:=by decide):
  PE X (.Call (.Name x p) [] [] pos) (C2 C sp dvs E AX):=by
 obtain⟨f,fd,ps,ds,M,F,hm,hb,hd⟩:=c;exact Gk M F hr hg hm hb hd hx hdb
end
theorem HD{X:Cx}{K0:PySem.W.Frag}{e:Expr}{f:Str}{pos:Pos}{ta:TE}(hK:X.K=K0)(he:PE X e ta)(hb:attributeBase e f X.env (eval e X.env)=eval e X.env):PE X (.Attribute e f pos) (LC K0 ta f):=by
 subst hK;exact a8 he hb
theorem vC{J:It}{n:Nat}{g:TG}{tb:TS}{D:Ends}{σ:St}{H:Hp}(Pv:Nat->St->Hp->Prop)(h0:Pv 0 σ H)(go:∀i σ H,i < n->Pv i σ H->J.go i H)
  (hs:∀i σ H x H',i < n->Pv i σ H->J.yld i H x H'->g x σ H' λσ2 H2=>tb { D with nx:=Pv (i + 1),ct:=Pv (i + 1),bk:=D.nx} σ2 H2) (hd:∀σ H,Pv n σ H->J.stop n H/\D.nx σ H):
  ∃W:Nat->Nat->St->Hp->Prop,(∃m,W 0 m σ H)/\∀i m σ H,W i m σ H→
   (J.stop i H/\D.nx σ H)\/(J.go i H/\∃N:St->Hp->Prop,(∀σ' H',N σ' H'->∃m',m' < m/\W (i + 1) m' σ' H')/\∀x H',J.yld i H x H'->g x σ H' λσ2 H2=>tb { D with nx:=N,ct:=N,bk:=D.nx} σ2 H2):=by
 refine⟨λi m σ H=>m=n - i/\i<=n/\Pv i σ H,⟨n,rfl,Nat.zero_le _,h0⟩,?_⟩;rintro i m σ H ⟨rfl,hi,p⟩;by_cases hlt:i < n
 .exact .inr ⟨go i σ H hlt p,Pv (i + 1),λσ' H' p'=>⟨n - (i + 1),by lia,rfl,hlt,p'⟩,λx H' y=>hs i σ H x H' hlt p y⟩
 .obtain rfl:i=n:=by lia
  exact .inl (hd σ H p)
section
variable{X:Cx}{k:Nat}{cm:Bool}{sp:Sp}{dvs:List V}{x m:Str}{p pos apos:Pos}{e o a b i:Expr}{es:List Expr}{t:TA}{ta tb te td ty:TE}{C:Addr}{CX:CXT}
theorem bD(c:Cal X.nox.prog X.nox.w X.nox.K X.nox.mg X.nox.base cm k x sp dvs)(ha:PA X.nox (e::es) t)(hr:bJ cm k X.nox.A:=by exact bJ.mono (by assumption) (by lia))(hg:Gl X.nox x:=by rfl)
  (hdb:(x == ("__debug__":Str))=false:=by decide) (he:starEach (e::es) X.nox.env=(false,eval e X.nox.env)::starEach es X.nox.env:=by rfl) (hpl:(backTo pos (starEach es X.nox.env)).any (·.1)=false:=by rfl):
  PE X.nox (.Call (.Name x p) (e::es) [] pos) (um sp dvs XNo t):=bO c hr hg bM ha hdb he hpl
theorem zmD{Dt:Addr->Sp->List V->Prop}{pl:Sem Bool}(he:PE X.nox o ta)(hD:∀C sp dvs,Dt C sp dvs->MethAt X.nox.prog X.nox.w X.nox.K X.nox.mg X.nox.base (CXE X.nox.prog X.nox.w) cm k m C sp dvs)(ha:PA X.nox (e::es) t)(hr:bJ cm k X.nox.A:=by exact bJ.mono (by assumption) (by lia))
  (hst:starEach (e::es) X.nox.env=(false,eval e X.nox.env)::starEach es X.nox.env:=by rfl) (hpl:(backTo pos (starEach es X.nox.env)).any (·.1)=false:=by rfl)
  (ht:eval (.Call (.Attribute o m apos) (e::es) [] pos) X.nox.env=(do
   let ov<-eval o X.nox.env
   standAt apos.atName
   let (f,first)<-holding [ov] (getMethod ov m pl)
   callWith pos f first (backTo pos (starEach (e::es) X.nox.env)) (backToKw pos (keywordEach [] X.nox.env))):=by rfl):
  PE X.nox (.Call (.Attribute o m apos) (e::es) [] pos) (xW Dt m XNo ta t):=ui he hD hr bM ha hst hpl ht
theorem uz{Dt:Addr->Sp->List V->Prop}{pl:Sem Bool}(he:PE X.nox o ta)(hD:∀C sp dvs,Dt C sp dvs->MethAt X.nox.prog X.nox.w X.nox.K X.nox.mg X.nox.base (CXE X.nox.prog X.nox.w) cm k m C sp dvs)(hr:bJ cm k X.nox.A:=by exact bJ.mono (by assumption) (by lia))
  (ht:eval (.Call (.Attribute o m apos) [] [] pos) X.nox.env=(do
   let ov<-eval o X.nox.env
   standAt apos.atName
   let (f,first)<-holding [ov] (getMethod ov m pl)
   callWith pos f first (backTo pos (starEach [] X.nox.env)) (backToKw pos (keywordEach [] X.nox.env))):=by rfl):
  PE X.nox (.Call (.Attribute o m apos) [] [] pos) (xW Dt m XNo ta AX):=qF he hD hr bM ht
theorem aL{i:Nat}{pos':Pos}(hN:X.N.Nodup)(he:PE X e te)(hi:X.N[i]? =some x:=by rfl)(hx:Loc X.env.scope x:=by first | exact Or.inl rfl | exact Or.inr rfl)(hs:swapsWith e (some (.Name x pos')) pos.line X.env=pure false:=by rfl)(hf:X.fn x=true\/X.env.scope.names.lookup x=some .local:=by first | exact .inl rfl | exact .inr rfl | assumption):
  PS X (.Assign [.Name x pos'] e pos) (GJ te (j0 i)):=JM hN hi hx he hs hf
theorem zix{r:R2}(hr:IxR X r)(ha:PE X a ta)(hb:PE X b tb)(hs:Cj b:=by exact λ_ _=>rfl):PE X (.Subscript a b pos) (tOp r ta tb):=KU hr ha hb hs
theorem zce{op:CmpOp}{r:R2}(ho:OpR X (compareOp op) r)(ha:PE X a ta)(hb:PE X b tb)(hm:behindInMarks op b=false:=by first | exact Bj _ | with_unfolding_all rfl):PE X (.Compare a [op] [b] pos) (tOp r ta tb):=Cd ho ha hb hm
theorem zct{op:CmpOp}{r:R2}(ho:OpR X (compareOp op) r)(ha:PE X a ta)(hb:PE X b tb)(hm:behindInMarks op b=false:=by first | exact Bj _ | with_unfolding_all rfl):PT X (.Compare a [op] [b] pos) (Jq (tOp r ta tb)):=Ce ho ha hb hm
end
section
variable{s1 s2 s3 rest t u:TS}{c:TT}{D:Ends}{σ:St}{H:Hp}
theorem Gh(M:St->Hp->Prop)(h1:∀N:St->Hp->Prop,(∀σ' H',M σ' H'->N σ' H')->s1 { D with nx:=λσ H=>s2 { D with nx:=λσ H=>s3 { D with nx:=N} σ H} σ H} σ H)(h2:∀σ' H',M σ' H'->rest D σ' H'):Ef s1 (Ef s2 (Ef s3 rest)) D σ H:=h1 _ h2
theorem JT(b:Bool)(h1:∀N:Bool->Hp->Prop,N b H->c σ H N)(h2:if b=true then t D σ H else u D σ H):LI c t u D σ H:=h1 _ h2
end
section
variable(K:PySem.W.Frag)
def Nos:List String->Prop
 | []=>True
 | x::r=>PySem.W.nsIn K mainGlobals (Str.ofString x)=some none/\Nos r
def Gls:List (String × Addr)->Prop
 | []=>True
 | (x,a)::r=>PySem.W.nsIn K mainGlobals (Str.ofString x)=some (some (.ref a))/\Gls r
def Mts(C:Addr):List (String × Addr)->Prop
 | []=>True
 | (m,f)::r=>PySem.W.findIn K (.ref C) (Str.ofString m)=some (some (.ref f))/\Mts C r
def NoX(C:Addr):List String->Prop
 | []=>True
 | f::r=>PySem.W.findIn K (.ref C) (Str.ofString f)=some none/\NoX C r
def yv(C:Addr):Prop:=PySem.W.plainGet K C Str.empty=true/\PySem.W.hasDictIn K C=true/\PySem.W.plainOver K C=true/\PySem.W.findIn K (.ref C) "__setattr__"=some (some (.builtin "object.__setattr__"))
def MkV(C:Addr):Prop:=PySem.W.makesIn K C=true/\PySem.W.keepIn K (.ref C)=true
def ByV(C:Addr)(m:Str)(f:Addr):Prop:=PySem.W.specialIn K (.ref C) "__getattribute__"=some (some (.builtin "type.__getattribute__"))/\PySem.W.readsIn K C (.type "type")=true/\PySem.W.findCls K (.ref C) (.type "type") m=some (.val (.ref f))
def Ky(a:Addr)(x qual:Str)(st:Stmt)(dv vo:Value)(od:Option Addr)(vk vg vp:Value)(oa:Option Addr)(vv vu:Value)(sl:Array (Option Value)):Prop:=
 K.lookup a=some ⟨vo,od,.func (PySem.W.fnOf x qual (gJ st) (aY st) (aj st) dv vk vg vp oa vv vu),sl⟩/\PySem.W.codeIn K vv qual=true/\PySem.W.keepIn K (.ref a)=true/\PySem.W.isFn K (.ref a)=true
end
section
variable{K:PySem.W.Frag}{a C:Addr}{x qual m:Str}{st:Stmt}{dv vo vk vg vp vv vu:Value}{od oa:Option Addr}{sl:Array (Option Value)}
theorem Ky.d(h:Ky K a x qual st dv vo od vk vg vp oa vv vu sl):aM K x qual st dv a (PySem.W.fnOf x qual (gJ st) (aY st) (aj st) dv vk vg vp oa vv vu):=Hn h.1 h.2.1 h.2.2.1
def bf(K:PySem.W.Frag)(a:Addr)(x qual:Str)(st:Stmt)(dv:Value):Prop:=∃vo od vk vg vp oa vv vu sl,Ky K a x qual st dv vo od vk vg vp oa vv vu sl
theorem bf.d(h:bf K a x qual st dv):∃fd,aM K x qual st dv a fd:=let ⟨_,_,_,_,_,_,_,_,_,h⟩:=h;⟨_,h.d⟩
theorem bf.mt(h:bf K a x qual st dv)(f:PySem.W.findIn K (.ref C) m=some (some (.ref a))):Meth K C m a:=let ⟨_,_,_,_,_,_,_,_,_,h⟩:=h;⟨f,h.2.2.2,h.2.2.1⟩
theorem bf.mk(h:bf K a x qual st dv)(f:PySem.W.findIn K (.ref C) "__init__"=some (some (.ref a)))(k:MkV K C):Mk K C a:=let ⟨_,_,_,_,_,_,_,_,_,h⟩:=h;⟨k.1,f,h.2.2.2,k.2⟩
theorem bf.bc(h:bf K a x qual st dv)(b:ByV K C m a):Gw K C m a:=let ⟨_,_,_,_,_,_,_,_,_,h⟩:=h;⟨b.1,b.2.1,b.2.2,h.2.2.1⟩
def FR(K:PySem.W.Frag)(C:Addr):Prop:=PySem.W.findIn K (.ref C) "__getattribute__"=some (some (.builtin "BaseException.__getattribute__"))/\PySem.W.findIn K (.ref C) "__getattr__"=some none/\PySem.W.findIn K (.ref C) "__class__"=some (some (.builtin "object.__class__"))/\PySem.W.mroIn K C (.type "BaseException")=some true/\PySem.W.mroIn K C (.type "object")=some true
theorem FR.xi(h:FR K C):XIn K C:=⟨h.1,h.2.1,h.2.2.1,h.2.2.2.1,h.2.2.2.2⟩
theorem aM.bl{fd:FuncData}{p:FuncData->Prop}(F:aM K x qual st dv a fd)(h:∀kV doc pm an cdv ct,p (PySem.W.fnOf x qual (gJ st) (aY st) (aj st) dv kV doc pm an cdv ct)):p fd:=by
 obtain⟨_,_,kV,doc,pm,an,cdv,ct,_,rfl,_⟩:=F.ex;exact h ..
theorem yv.d(h:yv K C):Cls K C:=⟨h.1,h.2.1,h.2.2.1,h.2.2.2⟩
variable{P:Program}{w:World}{mg:Str->Option Value}{base:Heap}{cm:Bool}{k:Nat}{f:Addr}{fd:FuncData}{ps:List Str}{sp:Sp}{spC:Addr->Sp}
def Wd(_:Program)(_:World)(_:PySem.W.Frag)(_:Str->Option Value)(_:Heap):Prop:=True
theorem mkH(_:Wd P w K mg base)(c:Cls K C)(h:Meth K C m f)(b:Binds K fd ps [])(ok:aB P w K mg base (CXE P w) true k f fd ps (spC C)):Shp.gL P w K mg base k m spC λC'=>C'=C:=λC' e=>by subst e;exact⟨f,fd,ps,[],c,h,ok,b,.nil⟩
theorem mkM{y:Str}(_:Wd P w K mg base)(q:mg y=some (.ref C))(M:Mk K C f)(b:Binds K fd ps [])(ok:aB P w K mg base (CXE P w) cm k f fd ps sp):Mak P w K mg base cm k y C sp []:=⟨f,fd,ps,[],M,ok,q,b,.nil⟩
theorem KP{h:Heap}{y:Str}(X:K.In h)(G:h.Ns mainGlobals mg)(_:Wd P w K mg base)(q:PySem.W.nsIn K mainGlobals y=some (some (.ref f)))(v:bf K f x qual st dv)(ok:∀fd,aM K x qual st dv f fd->aB P w K mg base (CXE P w) cm k f fd ps sp)(b:∀fd,aM K x qual st dv f fd->Binds K fd ps []):Cal P w K mg base cm k y sp []:=by
 obtain⟨fd,F⟩:=v.d;exact⟨f,fd,ps,[],ok fd F,PySem.W.mg_of X G q,F.kp,b fd F,.nil⟩
theorem Lf(e:Wd P w K mg base)(c:Cls K C)(fi:PySem.W.findIn K (.ref C) m=some (some (.ref f)))(v:bf K f x qual st dv)(ok:∀fd,aM K x qual st dv f fd->aB P w K mg base (CXE P w) true k f fd ps (spC C))(b:∀fd,aM K x qual st dv f fd->Binds K fd ps []):Shp.gL P w K mg base k m spC λC'=>C'=C:=by
 obtain⟨fd,F⟩:=v.d;exact mkH e c (v.mt fi) (b fd F) (ok fd F)
end
section
variable{α:Type}{p:List α->Prop}
theorem ln0(z:p []):∀us:List α,us.length=0->p us
 | [],_=>z
theorem ln1(z:∀a,p [a]):∀us:List α,us.length=1->p us
 | [a],_=>z a
theorem ln2(z:∀a b,p [a,b]):∀us:List α,us.length=2->p us
 | [a,b],_=>z a b
theorem ln3(z:∀a b c,p [a,b,c]):∀us:List α,us.length=3->p us
 | [a,b,c],_=>z a b c
theorem ln4(z:∀a b c d,p [a,b,c,d]):∀us:List α,us.length=4->p us
 | [a,b,c,d],_=>z a b c d
theorem ln5(z:∀a b c d e,p [a,b,c,d,e]):∀us:List α,us.length=5->p us
 | [a,b,c,d,e],_=>z a b c d e
theorem ln6(z:∀a b c d e f,p [a,b,c,d,e,f]):∀us:List α,us.length=6->p us
 | [a,b,c,d,e,f],_=>z a b c d e f
theorem lnD{ds:List α}{k n:Nat}(e:n + ds.length=k)(h:∀us:List α,us.length=n->p us)(us:List α)(q:(us++ds).length=k):p us:=h us (by rw[List.length_append] at q;lia)
end
section
variable{P:Program}{w:World}{K:PySem.W.Frag}{mg:Str->Option Value}{base:Heap}{cm:Bool}{k:Nat}{f a C:Addr}{fd:FuncData}{ps:List Str}{sp:Sp}{spC:Addr->Sp}{x qual m:Str}{st:Stmt}{dv:Value}
theorem dS{h:Heap}{y:Str}(X:K.In h)(G:h.Ns mainGlobals mg)(e:Wd P w K mg base)(q:PySem.W.nsIn K mainGlobals y=some (some (.ref f)))(v:bf K f x qual st dv)(ok:∀fd,aM K x qual st dv f fd->aB P w K mg base (CXE P w) cm k f fd ps sp)
  (b:∀fd,aM K x qual st dv f fd->Binds K fd ps []:=by intro _ F;first | exact F.binds λ_ _ _ _ _ _=>ln1 λ_=>rfl | exact F.binds λ_ _ _ _ _ _=>ln2 λ_ _=>rfl | exact F.binds λ_ _ _ _ _ _=>ln3 λ_ _ _=>rfl | exact F.binds λ_ _ _ _ _ _=>ln0 rfl | exact F.binds λ_ _ _ _ _ _=>ln4 λ_ _ _ _=>rfl | exact F.binds λ_ _ _ _ _ _=>ln5 λ_ _ _ _ _=>rfl | exact F.binds λ_ _ _ _ _ _=>ln6 λ_ _ _ _ _ _=>rfl | exact F.binds λ_ _ _ _ _ _=>ln7 λ_ _ _ _ _ _ _=>rfl | exact F.binds λ_ _ _ _ _ _=>ln8 λ_ _ _ _ _ _ _ _=>rfl):Cal P w K mg base cm k y sp []:=KP X G e q v ok b
theorem Ht(e:Wd P w K mg base)(c:Cls K C)(fi:PySem.W.findIn K (.ref C) m=some (some (.ref f)))(v:bf K f x qual st dv)(ok:∀fd,aM K x qual st dv f fd->aB P w K mg base (CXE P w) true k f fd ps (spC C))
  (b:∀fd,aM K x qual st dv f fd->Binds K fd ps []:=by intro _ F;first | exact F.binds λ_ _ _ _ _ _=>ln1 λ_=>rfl | exact F.binds λ_ _ _ _ _ _=>ln2 λ_ _=>rfl | exact F.binds λ_ _ _ _ _ _=>ln3 λ_ _ _=>rfl | exact F.binds λ_ _ _ _ _ _=>ln0 rfl | exact F.binds λ_ _ _ _ _ _=>ln4 λ_ _ _ _=>rfl | exact F.binds λ_ _ _ _ _ _=>ln5 λ_ _ _ _ _=>rfl | exact F.binds λ_ _ _ _ _ _=>ln6 λ_ _ _ _ _ _=>rfl | exact F.binds λ_ _ _ _ _ _=>ln7 λ_ _ _ _ _ _ _=>rfl | exact F.binds λ_ _ _ _ _ _=>ln8 λ_ _ _ _ _ _ _ _=>rfl):Shp.gL P w K mg base k m spC λC'=>C'=C:=Lf e c fi v ok b
end
structure mL(X:Cx)(scope:Scope)(xs:List Str)(cl:List (Str × Addr)):Prop where
 kind:scope.kind=.function
 Je:closureFor scope X.env=pure cl
 sD:∀y∈scope.names,y.2≠ .cell
 names:∀y∈scope.names,y.2=.local->scope.names.lookup y.1=some .local
 own:vX (λx:Str=>scope.names.lookup x=some .local) xs
 nd:xs.Nodup
 cells:vX (λp:Str × Addr=>X.env.cells.lookup p.1=some p.2) cl
 has:vX (λy:Str × NameKind=>y.2=.free->∃c,cl.lookup y.1=some c) scope.names
theorem mL.cell{X:Cx}{scope:Scope}{xs:List Str}{cl:List (Str × Addr)}(S:mL X scope xs cl){y:Str}{c:Addr}(e:cl.lookup y=some c):X.env.cells.lookup y=some c:=
 S.cells.mem _ (PySem.mem_of_lookup e)
section
variable{X:Cx}{pins:List (Addr × Obj)}{σ:St}{H2:Hp}{s2:Shared}{scope:Scope}{xs:List Str}{cl:List (Str × Addr)}{C:Addr}{fp:List Addr}
theorem zT(S:mL X scope xs cl)(I:Inv X pins σ H2 s2)(hC:s2.heap.objs.size<=C)(hf:∀b∈fp,cS X pins H2 b)(hfo:∀b∈fp,b < s2.heap.objs.size):
  (X.comp xs scope cl C fp s2 H2).Ok where
 mod:=I.mod
 kind:=S.kind
 glob:=I.ok.glob
 blt:=I.ok.blt
 above:=hC
 inj:=λy z c h1 h2=>I.ok.inj y z c (S.cell h1) (S.cell h2)
 has:=λy hy=>by
  have hy:(relabel scope X.env).names.lookup y=some .cell\/(relabel scope X.env).names.lookup y=some .free:=hy
  have key:∀k,(relabel scope X.env).names.lookup y=some k->(k=.cell\/k=.free)->∃c,cl.lookup y=some c:=λk hk hkk=>by
   obtain⟨k0,e1,e2⟩:=jq (scope:=scope) hk;have hm:=PySem.mem_of_lookup e1
   have hfr:k0=.free:=by
    rcases e2 with e2 | e2
    .subst e2;rcases hkk with z | z
     .exact absurd z (S.sD _ hm)
     .exact z
    .exact e2.1
   exact S.has.mem _ hm hfr
  rcases hy with z | z
  .exact key _ z (.inl rfl)
  .exact key _ z (.inr rfl)
 cab:=λy c h _=>absurd (show(false:Bool)=true from h) (by decide)
 hd:=I.ok.hd
 frames:=I.ok.frames
 stk:= .inl rfl
 exf:=λb hb=>⟨Nat.ne_of_lt (Nat.lt_of_lt_of_le (hfo b hb) hC),λy c e=>(hf b hb).2.2.2.2.1 y c (S.cell e)⟩
 bs:=I.bs
 bsz:=Nat.le_trans I.ok.bsz I.sz
 uo:=λb o e hb=>by
  rcases(hf b hb).2.2.2.1 with z | z
  .exact I.ok.uo b o e z
  .have q:=(I.ok.bs b o e).1;rw[z] at q;cases q
 sC:=λb hb hm=>by
  rcases List.mem_cons.mp (I.yB b hm) with z | z
  .exact (hf b hb).2.1 z
  .exact (hf b hb).2.2.1 z
 ke:=I.stack
 frf:=I.rZ
theorem Dh{h1:Heap}{t1:Nat}(S:mL X scope xs cl)(I:Inv X pins σ H2 s2)(hC:s2.heap.objs.size<=C)(hf:∀b∈fp,cS X pins H2 b)(hfo:∀b∈fp,b < s2.heap.objs.size)
  (old:∀b o,s2.heap.get? b=some o->h1.get? b=some o) (hn:h1.Ns C λ_=>none) {D:Addr} {oD:Obj} (hD:h1.get? D=some oD) (hDn:s2.heap.objs.size<=D) (hDC:D≠C) (hDc:∀v,oD.data≠ .cell v):
  Inv (X.comp xs scope cl C fp s2 H2) [(D,oD)] (List.replicate xs.length none) H2 { s2 with heap:=h1,toks:=t1} where
 ok:=zT S I hC hf hfo
 os:=rfl
 bare:=I.bare
 base:=Un.kept old
 loc:=by
  refine⟨_,hn,λi y v e1 e2 e3=> ?_⟩;rw[List.getElem?_replicate] at e2
  split at e2 <;> cases e2
 cell:=λy c e=>by
  obtain⟨v,o,ho,hd⟩:=I.cell y c (S.cell e);exact⟨v,o,old _ _ ho,hd⟩
 free:=I.hok.fresh hC
 ed:=λy c e=>I.ed y c (S.cell e)
 pin:=λp hp=>by
  have hp:p=(D,oD):=by simpa [Cx.comp] using hp
  subst hp;refine⟨hD,I.hok.fresh hDn,hDC,λhm=> ?_,hDc⟩;obtain⟨_,o,ho,_⟩:=I.stack.mem (show D∈X.stack.filterMap (·.frame) from hm);exact absurd (Nat.lt_of_lt_of_le (Heap.lt_size ho) hDn) (Nat.lt_irrefl _)
 hok:=I.hok.kept old
 len:=by simp [Cx.comp]
end
def A9(J:It)(n:Nat)(g:TG)(tf:TT)(te:TE)(H1:Hp)(Q:VK):Prop:=∃W:Nat->Nat->List V->Hp->Prop,(∃m,W 0 m [] H1)/\∀i m ys H',W i m ys H'→
 (J.stop i H'/\ys.length<=sizeLine/\∀p,H' p=none->Q (.ref p) (upd H' p (.lst ys)))∨
 (J.go i H'/\∃N:List V->Hp->Prop,(∀zs H5,N zs H5->∃m',m' < m/\W (i + 1) m' zs H5)/\∀v H2,J.yld i H' v H2->∀σ0:St,σ0.length=n->g v σ0 H2 λσ6 H6=>tf σ6 H6 λok H3=>
  if ok=true then te σ6 H3 λy H4=>ys.length < sizeLine/\N (ys++[y]) H4 else N ys H3)
def JJ(wi:TI)(n:Nat)(g:TG)(tf:TT)(te:TE):TE:=λσ H Q=>wi σ H λJ H1=>A9 J n g tf te H1 Q
section
variable{X:Cx}{scope:Scope}{xs:List Str}{cl:List (Str × Addr)}{tg:Expr}{g:TG}{pos:Pos}{iter elt:Expr}{ifs:List Expr}{wi:TI}{tf:TT}{te:TE}
theorem D9(S:mL X scope xs cl)(hc:X.calm=true)(hg:∀C fp s2 H2,PG (X.comp xs scope cl C fp s2 H2) tg g)
  (hf:∀C fp s2 H2,PF (X.comp xs scope cl C fp s2 H2) ifs tf) (he:∀C fp s2 H2,PE (X.comp xs scope cl C fp s2 H2) elt te)
  {pins:List (Addr × Obj)} {σ:St} {s2:Shared} {H2:Hp} {it:Addr} {fp:List Addr} {tn:Nat->Heap->Prop} {J:It} {Q:V->Hp->Prop} {E:Value->Shared->Prop} {RR:Value->Addr->Result->Shared->Prop}
  (I:Inv X pins σ H2 s2) (T:Turn X.prog X.w X.K tg J fp it tn) (st:tn 0 s2.heap) (fo:∀b∈fp,cS X pins H2 b)
  (h:A9 J xs.length g tf te H2 Q)
  (fin:∀D C m s' H',Inv X pins σ H' s'->s'.heap.Ns C m->cS X pins H' C->Q (.ref D) H'->RR (.ref D) C (.ok .next) s'):
  wpAny (model X.prog X.w) X.A (newList []) (λacc s₃=>wpAny (model X.prog X.w) X.A (newFunctionEnv scope X.env.globals cl [] X.env.qual none .none (some X.env)) (λcenv s₄=>
   codeAny (model X.prog X.w) X.A (.compStart (.ListComp elt [⟨tg,iter,ifs,0⟩] scope pos) 0 (.ref it) acc { cenv with scope:=relabel scope X.env}) (RR acc cenv.locals) s₄) E s₃) E s2:=by
 obtain⟨W,⟨m0,w0⟩,turn⟩:=h;refine wpAny_newObj_type (wpAny_newFunctionEnv S.sD (by intro y hy;simp at hy) (λh₁ hns₁ hsb₁=> ?_) S.kind);dsimp only at hns₁ hsb₁ ⊢;generalize hH2:s2.heap.push { cls:= .type "list",dict:=none,data:= .seq ([]:List Value).toArray}=G2 at hns₁ hsb₁ ⊢;have hC:G2.objs.size=s2.heap.objs.size + 1:=by rw[<- hH2,Heap.size_push]
 have hDC:s2.heap.objs.size≠G2.objs.size:=by rw[hC];exact Nat.ne_of_lt (Nat.lt_succ_self _)
 have hCle:s2.heap.objs.size<=G2.objs.size:=by rw[hC];exact Nat.le_succ _
 have below:∀b,b < s2.heap.objs.size->b≠G2.objs.size:=λb hb=>by rw[hC];exact Nat.ne_of_lt (Nat.lt_succ_of_lt hb)
 have old:∀b o,s2.heap.get? b=some o->h₁.get? b=some o:=λb o e=>hsb₁.extBut b o (below b (Heap.lt_size e)) (Heap.get?_push_of_some _ (hH2 ▸ Heap.get?_push_of_some _ e));have hacc:h₁.get? s2.heap.objs.size=some (kf [] 0):=hsb₁.extBut _ _ hDC (Heap.get?_push_of_some _ (hH2 ▸ Heap.get?_push_size _ rfl))
 have fob:∀b∈fp,b < s2.heap.objs.size:=λb hb=>by
  obtain⟨o,e,_⟩:=T.obj _ _ st b hb;exact Heap.lt_size e
 generalize hDD:s2.heap.objs.size=D at *;generalize hCC:G2.objs.size=C at *;have nsE:(λy:Str=>([]:List (Str × Value)).reverse.lookup y)=λ_=>none:=rfl;have hns₁:h₁.Ns C λ_=>none:=hns₁;have IY:=Dh (t1:=s2.toks + ([]:List (Str × Value)).length) S I (C:=C) (by rw[hDD];exact hCle) fo (λb hb=>by rw[hDD];exact fob b hb) old hns₁ hacc (by rw[hDD];exact Nat.le_refl _) hDC (λv z=>by cases z);have st₁:tn 0 h₁:=T.keep _ _ _ st λb hb o e=>old b o e
 let Y:Cx:=X.comp xs scope cl C fp s2 H2
 have fpY:∀{H':Hp} {oD:Obj},(∀b∈fp,H' b=none)->∀b∈fp,cS Y [(D,oD)] H' b:=λ{H' oD} hn b hb=>
  ⟨hn b hb,below b (fob b hb),λhm=>(zT S I (C:=C) (by rw[hDD];exact hCle) fo (λb hb=>by rw[hDD];exact fob b hb)).sC b hb hm,.inl hb,λy c e=>(fo b hb).2.2.2.2.1 y c (S.cell e),λp hp=>by
   have hp:p=(D,oD):=by simpa [Y,Cx.comp] using hp
   subst hp;exact Nat.ne_of_gt (fob b hb)⟩
 have loop:∀s3:Shared,s3={ s2 with heap:=h₁,toks:=s2.toks + ([]:List (Str × Value)).length}→
   codeAny (model X.prog X.w) X.A (.compLoop (.ListComp elt [⟨tg,iter,ifs,0⟩] scope pos) 0 (.ref it) (.ref D) (compEnvC scope cl C X.env)) (RR (.ref D) C) s3:=by
  rintro s3 rfl;refine pk (λn s'=>∃i v H' ys its k,Inv Y [(D,kf its k)] v H' s'/\tn i s'.heap/\(∀b∈fp,H' b=none)/\Vals ys its/\W i n ys H') ?_ m0 ⟨0,_,H2,[],[],0,IY,st₁,λb hb=>(fo b hb).1,.nil,w0⟩;rintro n s3 ⟨i,v0,H3,ys,its,k,I3,st3,fr3,vs3,w3⟩;rcases turn i n ys H3 w3 with⟨stop,hz,qn⟩ | ⟨go,N,hN,step⟩
  .refine thn (T.done Y rfl rfl rfl hc i _ s3 _ H3 _ I3 (fpY fr3) st3 stop) λr s4 zz=> ?_;obtain⟨hr,I4⟩:=zz;subst hr;have pD:=I4.pin (D,kf its k) (List.mem_append_right _ (List.mem_singleton.mpr rfl));obtain⟨mC,hmC,_⟩:=I4.loc;have nC:H3 C=none:=I4.free;have IX:Inv X pins σ H3 s4:=I.Ga I4.os I4.base I4.hok I4.bare λb hb=>⟨(fo b hb).2.2.2.1,(fo b hb).2.1,(fo b hb).2.2.2.2.1,(fo b hb).2.2.2.2.2⟩;have lt2:∀{b:Addr},b < D->b < s2.heap.objs.size:=λh=>by rw[hDD];exact h
   have nL:∀a,D<=a->a≠X.env.locals/\(∀y c,X.env.cells.lookup y=some c->c≠a)/\(∀p∈X.pn++pins,p.1≠a)/\a∉X.fs:=λa ha=>by
    have ha':s2.heap.objs.size<=a:=by rw[hDD];exact ha
    have z:=I.vV (H':=H2) ha' (I.hok.fresh ha');exact⟨z.2.1,z.2.2.2.2.1,z.2.2.2.2.2,z.2.2.1⟩
   have sz:∀a,D<=a->X.s₀.heap.get? a=none:=λa ha=>Heap.get?_none_of_le (Nat.le_trans I.sz (by rw[hDD];exact ha));obtain⟨d1,d2,d3,d4⟩:=nL D (Nat.le_refl _);have IT:=IX.zW (a:=D) (o:= .lst ys) pD.2.1 (sz D (Nat.le_refl _)) d1 d2 d3 ⟨hz,its,k,vs3,pD.1⟩;obtain⟨c1,c2,c3,c4⟩:=nL C hCle;exact fin D C mC s4 _ IT hmC ⟨by rw[aq (Ne.symm hDC)];exact nC,c1,c4,.inr (sz C hCle),c2,c3⟩ (qn D pD.2.1)
  .refine thn (T.item Y rfl rfl rfl hc i _ s3 _ H3 _ I3 (fpY fr3) st3 go) λr s4 zz=> ?_;obtain⟨u,hr,h4⟩:=zz;subst hr;refine thn h4 λ_ s5 zz=> ?_;obtain⟨v,H5,I5,r5,y5,st5,fr5⟩:=zz;have I5':=I5.pinned (fpY fr5) (T.obj _ _ st5);refine thn (hg C fp s2 H2 _ s5 _ H5 v u _ I5' r5 (step v _ y5 _ I5'.len)) λ_ s6 zz=> ?_;obtain⟨σ6,H6,I6,q6⟩:=zz;refine thn (hf C fp s2 H2 _ s6 _ _ _ I6 q6) λok s7 zz=> ?_;obtain⟨H7,I7,q7⟩:=zz
   have back:∀{vv:St} {H':Hp} {s':Shared} {its':List Value} {k':Nat},Inv Y ([(D,kf its' k')]++eF fp s5.heap) vv H' s'->Inv Y [(D,kf its' k')] vv H' s'/\tn (i + 1) s'.heap/\∀b∈fp,H' b=none:=λ{vv H' s' its' k'} J'=>by
    refine⟨J'.kh,T.keep _ _ _ st5 λb hb o e=>(J'.pin (b,o) (List.mem_append_right _ (List.mem_append_right _ (eV hb e)))).1,λb hb=> ?_⟩;obtain⟨o,e,d⟩:=T.obj _ _ st5 b hb;exact(J'.pin (b,o) (List.mem_append_right _ (List.mem_append_right _ (eV hb e)))).2.1
   cases ok with
   | false=>
    obtain⟨m',hm,w7⟩:=hN _ _ q7;obtain⟨J1,J2,J3⟩:=back I7;exact⟨m',hm,i + 1,σ6,H7,ys,its,k,J1,J2,J3,vs3,w7⟩
   | true=>
    refine thn (he C fp s2 H2 _ s7 _ _ _ I7 q7) λuy s8 zz=> ?_;obtain⟨y,H8,I8,r8,q8⟩:=zz;obtain⟨hz,q8⟩:=q8;obtain⟨m',hm,w8⟩:=hN _ _ q8;have pD:=I8.pin (D,kf its k) (List.mem_append_right _ (List.mem_append_left _ (List.mem_singleton.mpr rfl)));have hlen:=vs3.length;refine call_meets F.slot_list_append ⟨_,pD.1,rfl⟩ F.entry_list_append (F.args_list_append_2 _ _) (PySem.list_append D its.toArray k uy (by rw[List.size_toArray];lia)) ⟨pD.1,?_⟩;have q:=PySem.IsL.update pD.1 (·.push uy);have eq1:its.toArray.push uy=(its++[uy]).toArray:=by simp
    rw[eq1] at q;obtain⟨k',q⟩:∃k',(s8.heap.update D (Obj.mapSeq (·.push uy))).get? D=some (kf (its++[uy]) k'):=⟨_,q⟩;have oth:∀b o,b≠D->s8.heap.get? b=some o->(s8.heap.update D (Obj.mapSeq (·.push uy))).get? b=some o:=λb o hb e=>(Heap.get?_update_other s8.heap _ (Ne.symm hb)).trans e;have I8':Inv Y (eF fp s5.heap) σ6 H8 s8:=I8.lA λp hp=>I8.pin p (List.mem_append_right _ (List.mem_append_right _ hp))
    have nDp:∀p∈Y.pn++eF fp s5.heap,p.1≠D:=λp hp=>by
     have hp:p∈eF fp s5.heap:=by simpa [Y,Cx.comp] using hp
     exact Nat.ne_of_lt (fob _ (qD hp).1)
    have nDc:∀y c,Y.env.cells.lookup y=some c->c≠D:=λy c e z=>by
     obtain⟨vv,o,ho,hd⟩:=I8.cell y c e;rw[z,pD.1] at ho;cases ho;cases hd
    have I9:=I8'.turned (t':=s8.toks) (it:=D) oth pD.2.1 hDC (.inr (by show s2.heap.get? D=none;exact Heap.get?_none_of_le (by rw[hDD];exact Nat.le_refl _))) nDc nDp
    have I10:Inv Y ([(D,kf (its++[uy]) k')]++eF fp s5.heap) σ6 H8 { s8 with heap:=s8.heap.update D (Obj.mapSeq (·.push uy)),toks:=s8.toks}:=I9.lA λp hp=>by
     rcases List.mem_append.mp hp with z | z
     .have z:p=(D,kf (its++[uy]) k'):=List.mem_singleton.mp z;subst z;exact⟨q,pD.2.1,hDC,pD.2.2.2.1,λvv z=>by cases z⟩
     .exact I9.pin p (List.mem_append_right _ z)
    obtain⟨J1,J2,J3⟩:=back I10;exact⟨m',hm,i + 1,σ6,H8,ys++[y],its++[uy],k',J1,J2,J3,vs3.append (.cons r8 .nil),w8⟩
 exact codeAny_compStart_list (loop _ rfl) (T.self _ 0 _ _ _ st₁ (loop _ rfl))
theorem Ap{y:Str}{py spos:Pos}{j:Nat}(hN:X.N.Nodup)(hj:X.N[j]? =some y)(hy:Loc X.env.scope y)(S:mL X scope xs cl)(hc:X.calm=true)(hg:∀C fp s2 H2,PG (X.comp xs scope cl C fp s2 H2) tg g)(hi:PI X tg iter wi)
  (hf:∀C fp s2 H2,PF (X.comp xs scope cl C fp s2 H2) ifs tf) (he:∀C fp s2 H2,PE (X.comp xs scope cl C fp s2 H2) elt te)
  (hsw:swapsWith (.ListComp elt [⟨tg,iter,ifs,0⟩] scope pos) (some (.Name y py)) spos.line X.env=pure true:=by rfl)
  (hfn:X.fn y=true\/X.env.scope.names.lookup y=some .local:=by first | exact .inl rfl | exact .inr rfl | assumption)
  (hs:∀v,foldedSetIterable iter X.env v=pure v:=by intro _;rfl):PS X (.Assign [.Name y py] (.ListComp elt [⟨tg,iter,ifs,0⟩] scope pos) spos) (GJ (JJ wi xs.length g tf te) (j0 j)):=by
 intro pins s σ H D I h;rw[exec_Assign_Name_used _ _ _ _ hsw];refine wpAny_bind (wpAny_standAt (wpAny_bind ?_));show wpAny _ X.A (do let _<-comprehension (.ListComp elt [⟨tg,iter,ifs,0⟩] scope pos) scope X.env _ (newList []) false (eval iter X.env) (some (assign (.Name y py) X.env))) _ _ s
 refine wpAny_bind (wpAny_mono (wpAny_comprehension_free (use:=some (assign (.Name y py) X.env)) (Q:=λ_ s'=>SP X pins D .next s') rfl hs S.Je S.kind S.names
  (thn (hi pins s σ H _ I h) λv s1 h1=>thn h1 λitv s2 h2=> ?_)) (λ_ s' hq=>wpAny_pure (wpAny_pure hq)) λ_ _ e=>e)
 obtain⟨it,fp,tn,J,H2,e,I2,T,st2,f2,h2⟩:=h2;subst e;refine D9 (Q:=λv H'=>j0 j v σ H' D.nx) (RR:=λacc C=>compPost (model X.prog X.w) X.A X.xe (some (assign (.Name y py) X.env)) (λ_ s'=>SP X pins D .next s') acc C) S hc hg hf he I2 T st2 f2 h2 ?_;intro D' C m s' H' I' hm fC q;show wpAny _ X.A (assign (.Name y py) X.env (.ref D')) _ _ _;refine wpAny_assign_Name (pB I' hN hj hy (show RelV (.ref D') (.ref D') from rfl) (λs3 I3 zz=> ?_) hfn);obtain⟨a,sb,ha⟩:=zz
 have nCa:C≠a:=by
  rcases ha with z | z
  .rw [z];exact fC.2.1
  .exact λw=>fC.2.2.2.2.1 y a z w.symm
 refine⟨m,hm.sameBut sb nCa,λh' sb'=> ?_⟩;exact⟨_,H',I3.turned (t':=s3.toks) (λb o hb e=>(sb'.2 b hb).trans e) fC.1 fC.2.1 fC.2.2.2.1 fC.2.2.2.2.1 fC.2.2.2.2.2,q⟩
theorem Kf{x y:Str}{px py pt:Pos}{k:Nat}(hc:X.calm=true)(S:mL X scope [x,y] cl)(C:Addr)(fp:List Addr)(s2:Shared)(H2:Hp):PG (X.comp [x,y] scope cl C fp s2 H2) (.Tuple [.Name x px,.Name y py] k pt) (KO X.K 2 (Fc (j0 0) (Fc (j0 1) Lm))):=by
 have nd:(X.comp [x,y] scope cl C fp s2 H2).N.Nodup:=S.nd;exact xN (show(X.comp [x,y] scope cl C fp s2 H2).calm=true from hc) (dO (cz (i:=0) nd rfl (.inl (lookup_relabel_local S.own.1)) (.inr (lookup_relabel_local S.own.1))) (dO (cz (i:=1) nd rfl (.inl (lookup_relabel_local S.own.2.1)) (.inr (lookup_relabel_local S.own.2.1))) se))
end
section
variable{X:Cx}{pins:List (Addr × Obj)}{σ:St}{H:Hp}{s:Shared}{h':Heap}
theorem Inv.Cm{t':Nat}{ch:List Addr}(I:Inv X pins σ H s)(k:∀c o,c∉ch->s.heap.get? c=some o->h'.get? c=some o)(f:∀c∈ch,cS X pins H c):Inv X pins σ H { s with heap:=h',toks:=t'}:=by
 have nit:∀c u,H c=some u->c∉ch:=λc u e z=>by rw[(f c z).1] at e;cases e
 refine I.step (g':=s.gens) (d':=s.drawn) (ch:=ch) (λc hc=> ?_) (λc o _ _ hc e _=>k c o hc e) (λc o _ _ hc e _=>⟨o.slots,k c o hc e⟩) (λ_ _ _ _ n=>n)
  (λc o hc e=>⟨o,k c o hc e⟩) (λ_ _ e=>e) (λ_ _ _ e=>e) (λc ps e=>⟨#[],by rw[e];simp⟩) (λm hm=> ?_) (λc u e=> ?_) I.bare
 .obtain ⟨_,a1,_,a3,a4,a5⟩:=f c hc;exact⟨a3,a1,a4,a5⟩
 .obtain ⟨o,es,ep,ho,r⟩:=hm;exact⟨o,es,ep,k _ o (λz=>(f _ z).2.1 rfl) ho,r⟩
 .refine (I.hok c u e).u5 (λd v hc q=> ?_) (λ_ q=>q) λ_ _ q=>q;rcases hc with z | z
  .rw [z];rw[z] at q;exact k c v (nit c u e) q
  .exact k d v (nit d _ z) q
end
def Itz(K:PySem.W.Frag)(a b:Addr):It:=
 ⟨λi H=>∃xs ys x y,SqL K H a xs/\SqL K H b ys/\xs[i]? =some x/\ys[i]? =some y,
  λi H v H'=>∃q x y,H q=none/\v=.ref q/\(∀xs,SqL K H a xs->xs[i]? =some x)/\(∀ys,SqL K H b ys->ys[i]? =some y)/\H'=upd H q (.tup [x,y]),λi H=>∃xs ys,SqL K H a xs/\SqL K H b ys/\xs.length<=i⟩
theorem EV{P:Program}{w:World}{K:PySem.W.Frag}{elts:List Expr}{c}{tp:Pos}(a b z TI TO i1 i2:Addr)(D:ZipApart z TI TO i1 i2 a b):
  Turn P w K (.Tuple elts c tp) (Itz K a b) [z,TI,TO,i1,i2] z (λi h=>IsZip h z TI TO .none/\IsPair h TI (.ref i1) (.ref i2)/\(∃x y,IsPair h TO x y)/\h.IsListIter i1 a i/\h.IsListIter i2 b i) where
 mem:=by simp
 obj:=λi h st d hd=>by
  obtain⟨h1,h2,⟨x,y,h3⟩,⟨o4,h4,_,e4⟩,⟨o5,h5,_,e5⟩⟩:=st;simp at hd;rcases hd with rfl | rfl | rfl | rfl | rfl
  .exact ⟨_,h1,λv q=>by cases q⟩
  .exact ⟨_,h2,λv q=>by cases q⟩
  .exact ⟨_,h3,λv q=>by cases q⟩
  .exact ⟨_,h4,λv q=>by rw[e4] at q;cases q⟩
  .exact ⟨_,h5,λv q=>by rw[e5] at q;cases q⟩
 keep:=λi h h' st kk=>by
  obtain⟨h1,h2,⟨x,y,h3⟩,h4,h5⟩:=st;exact⟨kk z (by simp) _ h1,kk TI (by simp) _ h2,⟨x,y,kk TO (by simp) _ h3⟩,h4.at λo q=>kk i1 (by simp) o q,h5.at λo q=>kk i2 (by simp) o q⟩
 item:=by
  intro X hP hw hK hc i pins s σ H E I hf st hg;subst hP hw hK;obtain⟨xs,ys,x,y,hq,hq',hx,hy⟩:=hg;obtain⟨its,rv,p,hz⟩:=I.list hq;obtain⟨its',rv',p',hz'⟩:=I.list hq';obtain⟨u,hu,ru⟩:=rv.get hx;obtain⟨u',hu',ru'⟩:=rv'.get hy;obtain⟨h1,h2,⟨x0,y0,h3⟩,h4,h5⟩:=st;refine wpAny_pyNext_zip_item D h1 h2 h3 h4 h5 p.isList p'.isList (x:=u) (y:=u') (by simpa using hu) (by simpa using hu') λg a1 a2 a3 a4 a5 a6 hk=> ?_;refine⟨_,rfl,wpAny_letOwnedTupleGo_zip a1 λg2 z2 s2=> ?_⟩;have f0:H s.heap.objs.size=none:=I.fresh
  have lt:∀d,d∈[z,TI,TO,i1,i2]->d≠s.heap.objs.size:=λd hd q=>by
   simp at hd;obtain⟨o4,e4,_⟩:=h4;obtain⟨o5,e5,_⟩:=h5;rcases hd with rfl | rfl | rfl | rfl | rfl
   .exact Nat.ne_of_lt (Heap.lt_size h1) q
   .exact Nat.ne_of_lt (Heap.lt_size h2) q
   .exact Nat.ne_of_lt (Heap.lt_size h3) q
   .exact Nat.ne_of_lt (Heap.lt_size e4) q
   .exact Nat.ne_of_lt (Heap.lt_size e5) q
  have I1:Inv X pins σ (upd H s.heap.objs.size (.tup [x,y])) { s with heap:=s.heap.push { cls:= .type "tuple",data:= .seq #[u,u']}}:=
   I.laid (t':=s.toks) (λb o q=>Heap.get?_push_of_some _ q) (Nat.le_refl _) ⟨Nat.le_of_lt (aI (show 2<=1000 by decide)),[_,_],.cons ru (.cons ru' .nil),⟨_,Heap.get?_push_size _ rfl,rfl,_,rfl⟩⟩
  have fok:∀d∈[z,TI,TO,i1,i2],cS X pins (upd H s.heap.objs.size (.tup [x,y])) d:=λd hd=>⟨by rw[aq (lt d hd)];exact(hf d hd).1,(hf d hd).2⟩
  have I2:=Inv.Cm (h':=g2) (t':=s.toks) (ch:=[z,TI,TO,i1,i2]) I1 (λd o hd q=>by
   simp only [List.mem_cons,List.not_mem_nil,or_false,not_or] at hd;by_cases hb:d=s.heap.objs.size
   .subst hb;have q':=Heap.get?_push_size s.heap (o:={ cls:= .type "tuple",data:= .seq #[u,u']}) rfl;rw[q'] at q;cases q;exact s2.extBut _ _ hd.1 a5
   .exact s2.extBut _ _ hd.1 (hk d o hd.1 hd.2.2.1 hd.2.2.2.1 hd.2.2.2.2 ((Heap.get?_push_ne _ _ _ hb).symm.trans q))) fok
  refine⟨.ref s.heap.objs.size,_,I2,rfl,⟨_,x,y,f0,rfl,λzs hzs=>by rw[I.je hzs hq];exact hx,λzs hzs=>by rw[I.je hzs hq'];exact hy,rfl⟩,⟨z2,s2.extBut _ _ D.TIz (hk _ _ D.TIz D.TITO D.TIi1 D.TIi2 h2),⟨u,u',s2.extBut _ _ D.TOz a2⟩,a3.extBut s2.extBut D.i1z,a4.extBut s2.extBut D.i2z⟩,λd hd=>(fok d hd).1⟩
 done:=by
  intro X hP hw hK hc i pins s σ H E I hf st hg;subst hP hw hK;obtain⟨xs,ys,hq,hq',hx⟩:=hg;obtain⟨its,rv,p,hz⟩:=I.list hq;obtain⟨h1,h2,⟨x0,y0,h3⟩,h4,h5⟩:=st;have hl:=rv.length
  exact Jd (.inl (I.ok.hd hc)) D.i1z D.l1z h1 h2 h4 p.isList (by simp;lia) λg k=>⟨rfl,I.Cm (t':=s.toks) (ch:=[z,TI,TO,i1,i2]) (λd o hd q=>by
   simp only [List.mem_cons,List.not_mem_nil,or_false,not_or] at hd;exact k d o hd.1 hd.2.2.2.1 q) hf⟩
 self:=λ_ _ _ _ _ st h=>wpAny_pyIter_zip st.1 h
theorem boot_zip:bootBuiltins "zip"=some (.type "zip"):=by decide +kernel
section
variable{X:Cx}{elts:List Expr}{c}{tp:Pos}
def Mg(K:PySem.W.Frag)(ta:TA):TI:=λσ H R=>ta σ H λvs H1=>∃a b,vs=[.ref a,.ref b]/\(∃xs,SqL K H1 a xs)/\(∃ys,SqL K H1 b ys)/\R (Itz K a b) H1
theorem Ku{l l':Expr}{ta:TA}{p pos:Pos}(hg:Gl X "zip")(hm:X.mg "zip"=none)(ha:PA X [l,l'] ta)(hs:starEach [l,l'] X.env=[(false,eval l X.env),(false,eval l' X.env)]:=by rfl)(hs2:starEach [l'] X.env=[(false,eval l' X.env)]:=by rfl):
  PI X (.Tuple elts c tp) (.Call (.Name "zip" p) [l,l'] [] pos) (Mg X.K ta):=by
 intro pins s σ H R I h;refine Call_ (mF I hg hm boot_zip (PyProof.Rows.callWith_type1 (ha.th I h λus s1 vs H1 I1 r1 q1=> ?_) (by rw[hs,hs2]) (by rw[hs2];rfl)));obtain⟨a,b,e,⟨xs,hq⟩,⟨ys,hq'⟩,q⟩:=q1;subst e;cases r1 with
 | cons r rr=>
  cases rr with
  | cons r' rr=>
  cases rr;cases r;cases r';obtain⟨its,rv,pl,hz⟩:=I1.list hq;obtain⟨its',rv',pl',hz'⟩:=I1.list hq';have la:a < s1.heap.objs.size:=by obtain⟨_,e,_⟩:=pl.isList;exact Heap.lt_size e
  have lb:b < s1.heap.objs.size:=by obtain⟨_,e,_⟩:=pl'.isList;exact Heap.lt_size e
  refine call_zip_2 pl.isList pl'.isList λg z1 z2 z3 z4 z5 z6 kk=>wpAny_pyIter_zip z1 ?_;have fo:∀d,s1.heap.objs.size<=d->cS X pins H1 d:=λd hd=>I1.vV hd (I1.hok.fresh hd)
  refine⟨s1.heap.objs.size + 4,[s1.heap.objs.size + 4,s1.heap.objs.size + 2,s1.heap.objs.size + 3,s1.heap.objs.size,s1.heap.objs.size + 1],_,_,H1,rfl,I1.kept (t':=s1.toks) kk,
   EV a b _ _ _ _ _ ⟨by lia,by lia,by lia,by lia,by lia,by lia,by lia,by lia,by lia,by lia,by lia,by lia,by lia,by lia,by lia,by lia,by lia,by lia⟩,⟨z1,z2,⟨_,_,z3⟩,z4,z5⟩,λd hd=> ?_,q⟩
  simp at hd;rcases hd with rfl | rfl | rfl | rfl | rfl
  .exact fo _ (Nat.le_add_right ..)
  .exact fo _ (Nat.le_add_right ..)
  .exact fo _ (Nat.le_add_right ..)
  .exact fo _ (Nat.le_refl _)
  .exact fo _ (Nat.le_add_right ..)
end
theorem z9{J:It}{n m:Nat}{g:TG}{tf:TT}{te:TE}{H1:Hp}{Q:VK}(B:Nat->List V->Hp->Prop)(h0:B 0 [] H1)(go:∀i ys H',i < m->B i ys H'->J.go i H')(stop:∀ys H',B m ys H'->J.stop m H')
  (step:∀i ys H' v H2,i < m->B i ys H'->J.yld i H' v H2->∀σ0:St,σ0.length=n->g v σ0 H2 λσ6 H6=>tf σ6 H6 λok H3=>if ok=true then te σ6 H3 λy H4=>ys.length < PySem.sizeLine/\B (i + 1) (ys++[y]) H4 else B (i + 1) ys H3)
  (fin:∀ys H',B m ys H'->ys.length<=PySem.sizeLine/\∀p,H' p=none->Q (.ref p) (upd H' p (.lst ys))):A9 J n g tf te H1 Q:=by
 refine⟨λi k ys H'=>i<=m/\k=m - i/\B i ys H',⟨m,Nat.zero_le _,rfl,h0⟩,?_⟩;rintro i k ys H' ⟨hi,rfl,h⟩;by_cases e:i=m
 .subst e;exact .inl ⟨stop ys H' h,fin ys H' h⟩
 .exact .inr ⟨go i ys H' (by lia) h,λzs H5=>B (i + 1) zs H5,λzs H5 h5=>⟨m - (i + 1),by lia,by lia,rfl,h5⟩,λv H2 hy σ0 hl=>step i ys H' v H2 (by lia) h hy σ0 hl⟩
end L2
namespace Tr
open PySem L2 Shp Nm PySem.NumText
theorem vE:∀(ls:List (List Nat)) (pre:List Row) (n:Nat) (out:List Row),OkP pre->(∀r∈pre,OkR r.sh)->(pre.map (·.sh.name)).Nodup->pre.length<=64->scan pre n ls=.ok out->OkT out
 | [],pre,n,out,h1,h2,h3,h4,h=>by
  obtain⟨hne,rfl⟩:=Ah h;exact⟨hne,h4,h1,h2,h3⟩
 | l::ls,pre,n,out,h1,h2,h3,h4,h=>by
  rcases xr h with⟨_,sc⟩ | ⟨_,r,hli,hf,hnm,h64,sc⟩
  .exact vE ls pre (n + 1) out h1 h2 h3 h4 sc
  .refine vE ls (pre++[r]) (n + 1) out (h1.snoc hf) (λx hx=> ?_) ?_ (by rw[List.length_append];show pre.length + 1<=64;lia) sc
   .rcases List.mem_append.mp hx with z | z
    .exact h2 x z
    .rw [List.mem_singleton.mp z];exact BV (oW hli).2
   .rw [List.map_append,List.nodup_append];refine⟨h3,by simp,λa ha b hb e=> ?_⟩;have hb:b=r.sh.name:=List.mem_singleton.mp hb;rw[hb] at e;rw[e] at ha;exact hnm ha
theorem C4{x:List Nat}{rows:List Row}(h:parse x=.ok rows):OkT rows:=
 vE _ [] 0 rows (λi hi=>absurd hi (Nat.not_lt_zero _)) (λr hr=>by cases hr) List.nodup_nil (Nat.zero_le _) h
def sE(nm:Str):List Str:=["leaf always 0 0 idle","leaf often 0 0 idle zzz","leaf always 0 0 steady zzz","leaf always 01 0 idle zzz","leaf always 0 1000001 idle zzz","leaf always 0 0 rest 1 zzz","minder always one 1 0 zzz","minder always two 1 1 zzz","minder always one 1 zzz","twig always 0 0 idle zzz","leaf always 0 0 idle z_","leaf always 0 0 idle abcdefghijklm",
 Str.ofString "leaf always 0 0 idle "++nm,"leaf always 0 0 falls 1 2 zzz"]
def vh:List Str:=["leaf always 0 0\tidle zzz","leaf always 0 0 idle zzz\t","\t","leaf always 0 0 idle zzz # one","leaf always 0 0 steady 01 zzz","leaf always 0 0 falls +1 zzz","minder always one 1_0 1 zzz","minder always one 1 01 zzz","minder always one 1000001 1 zzz","leaf always - 0 idle zzz","leaf always 0 0 idle Zzz"]
def nO(n:Nat):Str:=⟨(List.replicate n ("  ":Str).cps).foldl (·++·) #[]⟩
def vL(way:Nat)(nm:Str)(deep:Nat):Str:=if 17 < way then Str.ofString "  "++vh.getD (way - 18) "" else if way=14 then "leaf always 0 0 idle zzz" else if way=15 then "   leaf always 0 0 idle zzz" else if way=16 then nO deep++Str.ofString "leaf always 0 0 idle zzz" else if way=17 then "minder always one 1 1 zzz" else Str.ofString "  "++(sE nm).getD way ""
def Ca(x:Str):Bool:= !bG (cds x) && (bA (cds x)).isNone && (cds x).all (λc=>c != 10) && decide (x.length<=60)
structure xp(pre:List Row)(x:Str):Prop where
 bad:CO pre (cds x)
 nl:10∉cds x
 len:x.length<=100
theorem lh{pre:List Row}{x:Str}(h:Ca x=true):xp pre x:=by
 unfold Ca at h;rw[Bool.and_eq_true,Bool.and_eq_true,Bool.and_eq_true,Bool.not_eq_true',decide_eq_true_iff,Option.isNone_iff_eq_none,List.all_eq_true] at h;exact⟨Gf h.1.1.1 h.1.1.2,λz=>absurd (h.1.2 10 z) (by decide),by have:=h.2;lia⟩
theorem DO:∀j,j < 11->Ca (Str.ofString "  "++vh.getD j "")=true:=by decide +kernel
theorem Ae:∀j,j < 14->j≠12->Ca (Str.ofString "  "++(sE "").getD j "")=true:=by decide +kernel
theorem sF(nm:Str):∀j,j < 14->j≠12->(sE nm).getD j ""=(sE "").getD j "":=by
 intro j h1 h2;have:j=0\/j=1\/j=2\/j=3\/j=4\/j=5\/j=6\/j=7\/j=8\/j=9\/j=10\/j=11\/j=13:=by lia
 rcases this with rfl | rfl | rfl | rfl | rfl | rfl | rfl | rfl | rfl | rfl | rfl | rfl | rfl <;> rfl
def zv(nm:Str):Sh:=⟨0,"always",0,0,0,nm⟩
theorem ir{nm:Str}(h:dA nm):OkR (zv nm):=⟨Nat.zero_le _,.inl rfl,Int.le_refl _,(by show(0:Int)<=1000000;decide),λ_=>rfl,Int.le_refl _,(by show(0:Int)<=1000000;decide),Int.le_refl _,(by show(0:Int)<=1000000;decide),λz=>absurd (show 3<=0 from z) (by decide),h⟩
theorem tD(d:Nat)(nm:Str):hV d 0 0 (zv nm)=List.replicate (2 * d) 32++(cds "leaf always 0 0 idle "++cds nm):=by
 unfold hV
 congr 1
 rw[List.replicate_zero,List.append_nil];have e:cds "leaf always 0 0 idle "=cds "leaf"++[32]++(cds "always"++[32]++(cds (bE 0)++[32]++(cds (bE 0)++[32]++(cds "idle"++[32])))):=by decide +kernel
 rw[e];show cds "leaf"++[32]++(cds "always"++[32]++(cds (bE 0)++[32]++(cds (bE 0)++[32]++(cds "idle"++[32]++cds nm))))=_;simp only [List.append_assoc]
theorem yQ(d:Nat):cds (nO d)=List.replicate (2 * d) 32:=by
 unfold nO;rw[fv];exact sS d 32
theorem AR:dA "zzz":=by decide +kernel
theorem tH{x:Str}{r:Row}{d:Nat}(e:(bA (cds x)).map (·.dep)=some d)(h:bA (cds x)=some r):r.dep=d:=by
 rw[h] at e;exact Option.some.inj e
theorem BZ{pre:List Row}{way deep:Nat}{nm:Str}(hw:way < 29)(h0:pre≠[])(hn:dA nm)(hnm:nm∈pre.map (·.sh.name))(hd:1<=deep/\deep<=12/\∀j,(aC pre pre.length)[deep - 1]? ≠some (j,true)):xp pre (vL way nm deep):=by
 have hl:pre.length≠0:=λz=>h0 (List.length_eq_zero_iff.mp z)
 have nf:∀r:Row,r.dep=0->¬fits (aC pre pre.length) pre.length r:=λr e z=>by
  unfold fits at z;rw[if_neg hl,e] at z;exact absurd z.1 (by decide)
 unfold vL;by_cases c1:17 < way
 .rw [if_pos c1];exact lh (DO _ (by lia))
 rw[if_neg c1];by_cases c2:way=14
 .rw [if_pos c2];refine⟨⟨by decide +kernel,λr hr z=>nf r (tH (d:=0) (by decide +kernel) hr) z.1⟩,by decide +kernel,by decide +kernel⟩
 rw[if_neg c2];by_cases c3:way=15
 .rw [if_pos c3];exact lh (by decide +kernel)
 rw[if_neg c3];by_cases c4:way=16
 .rw [if_pos c4]
  have e:cds (nO deep++Str.ofString "leaf always 0 0 idle zzz")=hV deep 0 0 (zv "zzz"):=by
   rw[bo,yQ,tD];have:cds "leaf always 0 0 idle "++cds "zzz"=cds "leaf always 0 0 idle zzz":=by decide +kernel
   rw[this]
  have z3:=AR;refine⟨⟨by rw[e];exact jB _ _ _ _,λr hr z=> ?_⟩,by rw[e];exact yK _ _ _ (ir z3),?_⟩
  .rw [e,oN _ _ _ (ir z3)] at hr;obtain rfl:=Option.some.inj hr;have z:=z.1;unfold fits at z;rw[if_neg hl] at z;obtain⟨_,_,j,hj⟩:=z;exact hd.2.2 j hj
  .have:=lK (ir z3) deep;rw[<- e,aA] at this
   lia
 rw[if_neg c4];by_cases c5:way=17
 .rw [if_pos c5];refine⟨⟨by decide +kernel,λr hr z=>nf r (tH (d:=0) (by decide +kernel) hr) z.1⟩,by decide +kernel,by decide +kernel⟩
 rw[if_neg c5];by_cases c6:way=12
 .subst c6
  have e:cds (Str.ofString "  "++(sE nm).getD 12 "")=hV 1 0 0 (zv nm):=by
   show cds (Str.ofString "  "++(Str.ofString "leaf always 0 0 idle "++nm))=_;rw[bo,bo,tD]
   rfl
  refine⟨⟨by rw[e];exact jB _ _ _ _,λr hr z=> ?_⟩,by rw[e];exact yK _ _ _ (ir hn),?_⟩
  .rw [e,oN _ _ _ (ir hn)] at hr;obtain rfl:=Option.some.inj hr;exact z.2 hnm
  .have:=lK (ir hn) 1;rw[<- e,aA] at this
   lia
 .rw [sF nm way (by lia) c6];exact lh (Ae way (by lia) c6)
theorem DR{way:Nat}(hw:way < 15):xp [] (vL way "zzz" 1):=by
 have f0:∀r:Row,r.dep≠0\/r.isM=false->¬fits (aC [] 0) 0 r:=λr e z=>by
  unfold fits at z;rw[if_pos rfl] at z;rcases e with e | e
  .exact e z.1
  .rw [e] at z;exact absurd z.2 (by decide)
 unfold vL;rw[if_neg (by lia)];by_cases c2:way=14
 .rw [if_pos c2];refine⟨⟨by decide +kernel,λr hr z=>f0 r (.inr ?_) z.1⟩,by decide +kernel,by decide +kernel⟩;have e:(bA (cds "leaf always 0 0 idle zzz")).map (·.isM)=some false:=by decide +kernel
  have hr:bA (cds "leaf always 0 0 idle zzz")=some r:=hr;rw[hr] at e;exact Option.some.inj e
 rw[if_neg c2,if_neg (by lia),if_neg (by lia),if_neg (by lia)];by_cases c6:way=12
 .subst c6;refine⟨⟨by decide +kernel,λr hr z=>f0 r (.inl ?_) z.1⟩,by decide +kernel,by decide +kernel⟩;rw[tH (d:=1) (by decide +kernel) hr]
  decide
 .rw [sF _ way (by lia) c6];exact lh (Ae way (by lia) c6)
theorem Co{R:List Row}(h:OkT R){k deep:Nat}(h1:1<=k)(hk:k<=R.length)(hd:deep=(R.getD (k - 1) default).dep + 2\/deep=(R.getD (k - 1) default).dep + 1/\(R.getD (k - 1) default).isM=false):1<=deep/\deep<=12/\∀j,(aC (R.take k) (R.take k).length)[deep - 1]? ≠some (j,true):=by
 have hf:=h.fit (k - 1) (by lia)
 have d8:(R.getD (k - 1) default).dep<=8:=by
  unfold fits at hf
  split at hf
  .lia
  .exact hf.2.1
 have hl:=tV hf;refine⟨by lia,by lia,λj e=> ?_⟩;have lt:(R.take k).length=k:=by rw[List.length_take];lia
 have pe:aC (R.take k) k=aC R k:=by
  have:=bC (R.take k) (R.drop k) k (by lia);rw[List.take_append_drop] at this;exact this.symm
 rw[lt,pe] at e;obtain⟨m,rfl⟩:∃m,k=m + 1:=⟨k - 1,by lia⟩;rw[Nat.add_sub_cancel] at hd hl;have e:((aC R m).take (R.getD m default).dep++[(m,(R.getD m default).isM)])[deep - 1]? =some (j,true):=e;have tl:((aC R m).take (R.getD m default).dep).length=(R.getD m default).dep:=by rw[List.length_take];lia
 rcases hd with rfl | ⟨rfl,hm⟩
 .rw [List.getElem?_eq_none (by rw[List.length_append,tl];show _ + 1<=_;lia)] at e;cases e
 .rw [List.getElem?_append_right (by lia),tl,hm] at e;have e:[(m,false)][(R.getD m default).dep + 1 - 1 - (R.getD m default).dep]? =some (j,true):=e;rw[show (R.getD m default).dep + 1 - 1 - (R.getD m default).dep=0 by lia] at e;cases e
theorem sP:∀{C:List (List Nat)},(∀l∈C,bG l=true)->fM C []
 | [],_=> .nil
 | l::C,h=> .skip (h l List.mem_cons_self) (sP λx hx=>h x (List.mem_cons_of_mem _ hx))
theorem uY{R:List Row}(h:OkT R)(k:Nat){C:List (List Nat)}(hC:∀l∈C,bG l=true):fM (bz (R.take k)++C) (R.take k):=by
 have:=(dZ (rows:=R.take k) λr hr=>h.sh r (List.mem_of_mem_take hr)).app (sP hC);rwa [List.append_nil] at this
theorem Gi{R:List Row}(h:OkT R)(k:Nat){C:List (List Nat)}(hC:∀l∈C,bG l=true/\10∉l):parse (de [10] (bz (R.take k)++C++bz (R.drop k)))=.ok R:=by
 have L:=(uY h k λl hl=>(hC l hl).1).app (dZ (rows:=R.drop k) λr hr=>h.sh r (List.mem_of_mem_drop hr));rw[List.take_append_drop] at L;unfold parse;rw[k9]
 .exact CD L h
 .intro e;rw[e] at L;have:R=[]:=by cases L;rfl
  exact h.ne this
 .intro l hl;rcases List.mem_append.mp hl with hl | hl
  .rcases List.mem_append.mp hl with hl | hl
   .exact i7 (λr hr=>h.sh r (List.mem_of_mem_take hr)) l hl
   .exact (hC l hl).2
  .exact i7 (λr hr=>h.sh r (List.mem_of_mem_drop hr)) l hl
theorem DW{R:List Row}(h:OkT R){k:Nat}(hk:k<=R.length){C D:List (List Nat)}{x:Str}(hC:∀l∈C,bG l=true/\10∉l)(hD:∀l∈D,10∉l)(hx:xp (R.take k) x):parse (de [10] (bz (R.take k)++C++cds x::(bz (R.drop k)++D)))=.bad (k + C.length + 1):=by
 unfold parse;rw[k9]
 .have:=Aq (more:=bz (R.drop k)++D) (rest:=R.drop k) (uY h k λl hl=>(hC l hl).1) (by rw[List.take_append_drop];exact h) hx.bad;rw[this,List.length_append,Tr.plain_len,List.length_take,Nat.min_eq_left hk]
 .exact λe=>by simp at e
 .intro l hl;rcases List.mem_append.mp hl with hl | hl
  .rcases List.mem_append.mp hl with hl | hl
   .exact i7 (λr hr=>h.sh r (List.mem_of_mem_take hr)) l hl
   .exact (hC l hl).2
  .rcases List.mem_cons.mp hl with rfl | hl
   .exact hx.nl
   .rcases List.mem_append.mp hl with hl | hl
    .exact i7 (λr hr=>h.sh r (List.mem_of_mem_drop hr)) l hl
    .exact hD l hl
theorem Av{x:Str}(hx:xp [] x)(good:List Nat):parse ([35]++10::(cds x++10::good))=.bad 2:=by
 unfold parse;rw[lL,lL,jt 10 _ (by decide),jt 10 _ hx.nl];exact D6 (ls:=[[35]]) (more:=spl 10 good) (.skip (by decide) .nil) hx.bad
theorem zR{R:List Row}(h:OkT R){l:List Nat}(hl:10∉l):spl 10 (written R++10::l)=bz R++[l]:=by
 unfold written;rw[lL,k9 10 (bz R) (λe=>h.ne (List.map_eq_nil_iff.mp e)) (i7 h.sh),jt 10 _ hl]
theorem E4{R:List Row}(h:OkT R):∃j,(aC R R.length)[0]? =some (j,true):=by
 have h0:=h.fit 0 (by have:=h.ne;cases R with | nil=>exact absurd rfl this | cons a b=>exact Nat.succ_pos _);unfold fits at h0;rw[if_pos rfl] at h0
 have:∀k,1<=k->k<=R.length->(aC R k)[0]? =some (0,true):=by
  intro k
  induction k with
  | zero=>intro z;exact absurd z (by decide)
  | succ k ih=>
   intro _ hk;show((aC R k).take (R.getD k default).dep++[(k,(R.getD k default).isM)])[0]? =_;rcases Nat.eq_zero_or_pos k with z | z
   .subst z;rw[h0.1,h0.2]
    rfl
   .have hf:=h.fit k (by lia);unfold fits at hf;rw[if_neg (by lia)] at hf;have i:=ih z (by lia)
    have l:0 < ((aC R k).take (R.getD k default).dep).length:=by
     rw[List.length_take];have:=(List.getElem?_eq_some_iff.mp i).1
     lia
    rw[List.getElem?_append_left l,List.getElem?_take_of_lt (by lia),i]
 exact⟨0,this _ (by have:=h.ne;cases R with | nil=>exact absurd rfl this | cons a b=>exact Nat.succ_pos _) (Nat.le_refl _)⟩
theorem Bm{R:List Row}(h:OkT R)(h64:R.length=64)(hz:(Str.ofString "zzz")∉R.map (·.sh.name)):parse (written R++10::cds "  leaf always 0 0 idle zzz")=.many:=by
 have e:cds "  leaf always 0 0 idle zzz"=hV 1 0 0 (zv "zzz"):=by
  rw[tD]
  decide +kernel
 unfold parse;rw[e,zR h (yK _ _ _ (ir AR))];refine C8 (dZ h.sh) h h64 (jB _ _ _ _) (oN _ _ _ (ir AR)) ?_ hz;unfold fits;rw[if_neg (by lia)];exact⟨Nat.le_refl _,by show 1<=8;decide,E4 h⟩
theorem AM{R:List Row}(h:OkT R):parse (written R++10::cds "  leaf always 0 0 idle z_")=.bad (R.length + 1):=by
 unfold parse;rw[zR h (by decide +kernel)];have:=Aq (more:=[]) (rest:=[]) (l:=cds "  leaf always 0 0 idle z_") (dZ h.sh) (by rw[List.append_nil];exact h) (lh (x:="  leaf always 0 0 idle z_") (by decide +kernel)).bad;rw[this,Tr.plain_len]
def odd(l:List Nat):Nat:=(l.filter λc=>c != 113).length
theorem CQ(a b:List Nat):odd (a++b)=odd a + odd b:=by
 unfold odd;rw[List.filter_append,List.length_append]
theorem B0(n:Nat):odd (List.replicate n 113)=0:=by
 unfold odd;rw[List.length_eq_zero_iff,List.filter_eq_nil_iff];intro x hx;rw[(List.mem_replicate.mp hx).2]
 decide
theorem Gy(l:List Nat):odd l<=l.length:=List.length_filter_le _ _
theorem Gm(k:Nat)(mark:Int):odd (h7 k mark)<=2:=by
 unfold h7
 split
 .exact Nat.le_trans (Gy _) (show 1<=2 by decide)
 .rw [CQ,CQ,B0,B0];have:=Gy [sgn (k % 36),sgn ((((k / 36:Nat):Int) + mark) % 36).toNat];have e:[sgn (k % 36),sgn ((((k / 36:Nat):Int) + mark) % 36).toNat].length=2:=rfl
  lia
theorem Km(k:Nat)(mark:Int):Str.ofString "zzz"≠nameOf k mark:=λz=>by
 have z:cds "zzz"=h7 k mark:=congrArg cds z;have h:=Gm k mark;rw[<- z,show odd (cds "zzz")=3 by decide +kernel] at h
 lia
def zS(n:Nat):Str:=⟨(List.replicate n ("z":Str).cps).foldl (·++·) #[]⟩
def jJ:List Str:=(List.range 9).map λk=>nO k++Str.ofString "minder always one 1 1 "++zS (k + 3)
def qi:Str:=Txt.join "\n" jJ
def isBad(r:Res)(n:Nat):Bool:=match r with
 | .bad m=>m == n
 | _=>false
def isOk(r:Res):Bool:=match r with
 | .ok _=>true
 | _=>false
theorem Gb:isOk (parse (cds qi))=true:=by decide +kernel
theorem Ey:isBad (parse (cds (qi++Str.ofString "\n"++nO 9++Str.ofString "leaf always 0 0 idle zz"))) 10=true:=by decide +kernel
theorem Ed:qi.length<=1000:=by decide +kernel
end Tr
namespace K06
local macro_rules | `(tactic| lk) => `(tactic| repeat (first | refine L2.exP rfl ?_ | refine ⟨rfl, ?_⟩ | refine ⟨_, _, rfl, rfl, ?_⟩ | refine ⟨_, _, rfl, ?_⟩ | (refine ⟨?_, ?_⟩; focus ((with_reducible show (0 : Int) < _); decide)) | (refine ⟨L2.K8 ?_, ?_⟩; focus (exact rfl)) | (refine ⟨L2.cpowB ?_, ?_⟩; focus (exact rfl))))
local macro_rules | `(tactic| kt_ors) => `(tactic| exact ⟨rfl, rfl, rfl, by decide +kernel, rfl, by decide +kernel, by decide +kernel⟩)
local macro_rules | `(tactic| fin2) => `(tactic| try dsimp only [L2.fO, L2.Cx.nox])
local macro_rules | `(tactic| rcases $s:ident, $t:term with ⟨$ps,*⟩) => do let i := Lean.mkIdent; `(tactic| (refine $(i `F.pf) $s fun $(i `vs) $(i `H) $(i `Q) $(i `E) y => ?_; rcases y with ⟨$ps,*⟩; refine ⟨rfl, fun cdv Ar outer $(i `s) $(i `hr) => ⟨_, $t, ?_⟩⟩; fin2))
local macro_rules | `(tactic| kd_p) => `(tactic| exact ⟨rfl, rfl, by decide +kernel, by decide +kernel, rfl, by decide +kernel, (by repeat (first | exact True.intro | refine ⟨rfl, ?_⟩)), by repeat (first | exact True.intro | refine ⟨(by first | exact fun _ => ⟨_, rfl⟩ | (intro z; cases z)), ?_⟩), (by repeat (first | exact True.intro | refine ⟨⟨rfl, .inl rfl, rfl, rfl⟩, ?_⟩))⟩)
local macro_rules | `(tactic| k_ne) => `(tactic| first | exact Or.inl rfl | exact Or.inr rfl)
local macro_rules | `({$xs:term,*}) => do return (<- xs.getElems.foldrM (fun x (r : Lean.Term) => `(L2.Me $x $r)) (<- `(L2.eT))).raw
open PySem L2 Shp Nm Tr PySem.NumText
seal L2.PE L2.PA L2.PT L2.PW L2.PS L2.PSs L2.PG L2.PGs L2.PI L2.PF L2.PJ L2.PH L2.PO L2.PC L2.HJ L2.PIp
def top(i:Nat):Stmt:=PySem.Challenge.pw_minders_k06_the_first_row_misread.main.body.getD i (.Pass ⟨0,0,0,0⟩)
abbrev eO:Stmt:=eB (top 4) 0
abbrev pQ:Stmt:=top 14
abbrev gX:Stmt:=top 15
abbrev ip:Stmt:=top 16
abbrev pP:Stmt:=top 20
abbrev fj:Stmt:=eB (top 22) 0
abbrev fW:Stmt:=eB (top 23) 0
abbrev kQ:Stmt:=eB (top 23) 1
abbrev jO:Stmt:=eB (top 23) 2
abbrev eJ:Stmt:=eB (top 23) 3
abbrev eK:Stmt:=eB (top 24) 0
abbrev dB:Stmt:=eB (top 25) 0
abbrev dF:Stmt:=eB (top 26) 0
abbrev eG:Stmt:=eB (top 27) 0
abbrev iX:Stmt:=eB (top 27) 1
abbrev ie:Stmt:=eB (top 27) 2
abbrev jH:Stmt:=eB (top 27) 3
abbrev fU:Stmt:=eB (top 28) 0
abbrev eX:Stmt:=eB (top 29) 0
abbrev lF:Stmt:=top 33
abbrev iz:Stmt:=top 34
abbrev dR:Stmt:=top 35
abbrev jF:Stmt:=top 36
abbrev fZ:Stmt:=eB (top 40) 0
abbrev jK:Stmt:=eB (top 40) 1
abbrev kG:Stmt:=eB (top 40) 3
abbrev b9:Stmt:=eB (top 40) 4
abbrev iU:Stmt:=top 41
abbrev mH:Stmt:=top 42
abbrev g9:Stmt:=top 43
abbrev fG:Stmt:=top 44
abbrev cZ:Stmt:=top 45
abbrev yr:Stmt:=top 46
abbrev iT:Stmt:=top 47
abbrev pI:Stmt:=top 48
abbrev qM:Stmt:=top 50
abbrev tj:Stmt:=top 51
abbrev g8:Stmt:=top 52
abbrev eu:Stmt:=top 53
abbrev nj:Stmt:=top 54
abbrev y7:Stmt:=top 55
abbrev FJ:Stmt:=top 56
abbrev qB:Stmt:=top 57
abbrev yS:Stmt:=top 58
abbrev qq:Stmt:=top 59
abbrev ib:Stmt:=top 60
abbrev kr:Stmt:=top 61
structure Txt(mg:Str->Option Value):Prop where
 b_ValueError:mg "ValueError"=none
 LD:mg "all"=none
 rg:mg "enumerate"=none
 B8:mg "int"=none
 cy:mg "isinstance"=none
 d0:mg "len"=none
 Jk:mg "min"=none
 jr:mg "range"=none
 jn:mg "str"=none
 Lz:mg "zip"=none
abbrev Dw:List Str:=["_law_script","_law_k"]
abbrev xC:List Str:=["_law_script","_law_k"]
theorem A2:aw Dw xC (aj qM):=by kt_ors
abbrev Fm:List Str:=["_law_k","_law_mark","_law_signs","_law_two"]
abbrev E5:List Str:=["_law_k","_law_mark"]
theorem yj:aw Fm E5 (aj tj):=by kt_ors
abbrev uq:List Str:=["_law_cell","_law_other","_law_keep","_law_way","_law_most"]
abbrev kC:List Str:=["_law_cell","_law_other"]
theorem dP:aw uq kC (aj g8):=by kt_ors
abbrev pq:List Str:=["_law_cell","_law_other","_law_keep","_law_work","_law_numbers","_law_words"]
abbrev nT:List Str:=["_law_cell","_law_other"]
theorem cI:aw pq nT (aj eu):=by kt_ors
abbrev AG:List Str:=["_law_script","_law_first","_law_count","_law_mark","_law_depths","_law_elders","_law_words","_law_path","_law_k","_law_cell","_law_other","_law_names"]
abbrev EU:List Str:=["_law_script","_law_first","_law_count","_law_mark"]
theorem eo:aw AG EU (aj nj):=by kt_ors
abbrev HP:List Str:=["_law_error","_law_kinds_here"]
abbrev B1:List Str:=["_law_error"]
theorem zX:aw HP B1 (aj y7):=by kt_ors
abbrev Ls:List Str:=["_law_way","_law_name_here","_law_deep","_law_rows","_law_more"]
abbrev Jo:List Str:=["_law_way","_law_name_here","_law_deep"]
theorem iO:aw Ls Jo (aj FJ):=by kt_ors
abbrev D2:List Str:=["_law_text","_law_error"]
abbrev xy:List Str:=["_law_text"]
theorem mD:aw D2 xy (aj qB):=by kt_ors
abbrev G8:List Str:=["_law_rows"]
abbrev yF:List Str:=[]
theorem zJ:aw G8 yF (aj yS):=by kt_ors
abbrev Dm:List Str:=["_law_way","_law_good","_law_count","_law_other","_law_steep_here","_law_first","_law_many"]
abbrev wZ:List Str:=["_law_way","_law_good","_law_count","_law_other"]
theorem jQ:aw Dm wZ (aj qq):=by kt_ors
abbrev tU:List Str:=["_law_rows","_law_odd_here","_law_at","_law_other","_law_bad"]
abbrev Az:List Str:=["_law_rows","_law_odd_here","_law_at","_law_other"]
theorem jf:aw tU Az (aj ib):=by kt_ors
abbrev zm:List Str:=["_law_script","_law_count","_law_depths","_law_elders","_law_words","_law_names","_law_rows","_law_good","_law_many","_law_k","_law_cell","_law_other","_law_at","_law_deep","_law_odd_here","_law_way"]
abbrev Jg:List Str:=["_law_script"]
theorem cx:aw zm Jg (aj kr):=by kt_ors
theorem ah{H:Hp}{q:Addr}{o:HO}(h:H q=none):ay H (upd H q o):=λb u e=>by rw[aq (au e h)];exact e
theorem yu{a b:Int}(h:decide (V.int a=V.int b)=true):a=b:=V.int.inj (of_decide_eq_true h)
theorem BI{a b:Int}(h:¬decide (V.int a=V.int b)=true):a≠b:=λz=>h (decide_eq_true (congrArg V.int z))
theorem aH{n:Nat}(h:n<=1000):n<=sizeLine:=Nat.le_of_lt (aI h)
theorem bK{i:Int}(h0:0<=i)(h1:i<=1000001):i.natAbs.log2 < 1920:=by
 have h:i.natAbs < 2 ^ 20:=by lia
 by_cases z:i.natAbs=0
 .rw [z];decide
 .have:=(Nat.log2_lt z).mpr h
  lia
section
variable{P:Program}{w:World}{K:PySem.W.Frag}{mg:Str->Option Value}{base:Heap}{f:Addr}{fd:FuncData}{dV:Value}
def BR(K:PySem.W.Frag):Sp:=λvs H Q _=>∃(a:Addr) (k:Int) (ns:List Int),vs=[.ref a,.int k]/\SqL K H a (ns.map V.int)/\0<=k/\Q (.int (ns.getD k.toNat 0)) H
theorem Jb{cm:Bool}(F:aM K "_law_cell_at" "_law_cell_at" qM dV f fd)(T:Txt mg):aB P w K mg base (CXE P w) cm 1 f fd xC (BR K):=by
 rcases A2,(aa (aD (zct jg (pv 1) (aE aF (by rfl) T.d0 cn {pv 0})) (ag (ao (zix av (pv 0) (pv 1)))) ar)
   (ag (ao af))) with⟨a,k,ns,rfl,hS,h0,q⟩
 obtain⟨j,rfl⟩:=Int.eq_ofNat_of_zero_le h0;lk;refine ex2 a _ (an3 rfl (.inl hS) ?_);lk;refine aV (λe=> ?_) (λe=> ?_)
 .have e:(j:Int) < ((ns.map V.int).length:Int):=of_decide_eq_true e;rw[List.length_map] at e;have hj:j < ns.length:=by lia
  lk;refine ex4 a _ _ (V.int (ns.getD j 0)) (an5 rfl rfl hS (aO ?_) q);rw[List.getElem?_map,List.getElem?_eq_getElem hj,List.getD_eq_getElem?_getD,List.getElem?_eq_getElem hj]
  rfl
 .have e:¬(j:Int) < ((ns.map V.int).length:Int):=λz=>e (decide_eq_true z);rw[List.length_map] at e;have z:ns.getD j 0=0:=by rw[List.getD_eq_getElem?_getD,List.getElem?_eq_none (by lia)];rfl
  have q:Q (.int (ns.getD j 0)) H:=q;rw[z] at q;exact q
def FO:Sp:=λvs H Q _=>∃(k:Nat) (mark:Int),vs=[.int (k:Int),.int mark]/\k < 64/\Q (.str (nameOf k mark)) H
theorem Ha(F:aM K "_law_name" "_law_name" tj dV f fd)(T:Txt mg):aB P w K mg base (CXE P w) true 1 f fd E5 FO:=by
 refine F.pf yj λvs H Q E y0=> ?_;obtain⟨k,mark,rfl,hk,q⟩:=y0;refine⟨rfl,λcdv A outer s hr=> ?_⟩
 have tl:∃t,PSs (fO true (CXE P w) P w K mg base Fm "_law_name" (aj tj) f cdv A outer s H E).nox ((aY tj).drop 2) t/\(¬(mark % 11=5/\k < 36)->t { nx:=λ_ H'=>Q .non H',rt:=Q} [some (.int (k:Int)),some (.int mark),some (.str "abcdefghijklmnopqrstuvwxyz0123456789"),none] H):=by
  refine⟨_,(aa (aL (i:=3) yj.nd (ak aG (iq (pv 2) (ak aS (pv 0) af) (λ_ _=>rfl)) (iq (pv 2) (ak aS (ak cb (ak b8 (pv 0) af) (pv 1)) af) (λ_ _=>rfl))))
   (ag (ao (ak aG (ak aG (ak cW ai (ak aS (pv 1) af)) (pv 3)) (ak cW ai (ak aS (ak b8 (pv 1) af) af)))))),?_⟩
  fin2
  intro hn;lk;have k1:((k:Int) % 36)=((k % 36:Nat):Int):=by lia
  refine ex3 _ _ (sgn (k % 36)) (an7 rfl (congrArg V.int k1) (by lia) (by show((k % 36:Nat):Int) < 9223372036854775808;lia) (by show((k % 36:Nat):Int) < 36;lia) (By (show k % 36 < 36 by lia)) ?_);have b:=bp (((k / 36:Nat):Int) + mark) (n:=36) (by decide);obtain⟨j,hj⟩:=Int.eq_ofNat_of_zero_le b.1;have k2:((k:Int) / 36 + mark) % 36=(j:Int):=by rw[<- hj];rfl
  lk;refine ex3 _ _ (sgn j) (an7 rfl (congrArg V.int k2) (by lia) (by show(j:Int) < 9223372036854775808;lia) (by show(j:Int) < 36;lia) (By (show j < 36 by lia)) ?_);lk;refine⟨(by show 1 + 1<=_;exact aH (by decide)),?_⟩;lk;have a1:=bp mark (n:=7) (by decide);have a2:=bp (mark / 7) (n:=5) (by decide);obtain⟨n1,hn1⟩:=Int.eq_ofNat_of_zero_le a1.1;obtain⟨n2,hn2⟩:=Int.eq_ofNat_of_zero_le a2.1;have c1:cds ⟨(List.replicate n1 ("q":Str).cps).foldl (·++·) #[]⟩=List.replicate n1 113:=by rw[fv];exact ou n1 113
  have c2:cds ⟨(List.replicate n2 ("q":Str).cps).foldl (·++·) #[]⟩=List.replicate n2 113:=by rw[fv];exact ou n2 113
  have q1:(⟨(List.replicate n1 ("q":Str).cps).foldl (·++·) #[]⟩:Str).length=n1:=by rw[<- aA,c1,List.length_replicate]
  have q2:(⟨(List.replicate n2 ("q":Str).cps).foldl (·++·) #[]⟩:Str).length=n2:=by rw[<- aA,c2,List.length_replicate]
  refine ex2 ("q") n1 (an6 rfl (congrArg V.int hn1) (by show 1 * n1<=_;lia) (by lia) (by show 1<=_;decide) ?_);lk;refine⟨(by rw[q1];show _ + 2<=_;exact aH (by lia)),?_⟩;lk;refine ex2 ("q") n2 (an6 rfl (congrArg V.int hn2) (by show 1 * n2<=_;lia) (by lia) (by show 1<=_;decide) ?_);refine ex2 _ _ (an4 rfl rfl (by rw[yH,q1,q2];show _ + 2 + _<=_;exact aH (by lia)) ?_)
  have en:nameOf k mark=(⟨(List.replicate n1 ("q":Str).cps).foldl (·++·) #[]⟩:Str)++((⟨#[sgn (k % 36)]⟩:Str)++(⟨#[sgn j]⟩:Str))++(⟨(List.replicate n2 ("q":Str).cps).foldl (·++·) #[]⟩:Str):=by
   refine iw ?_;rw[bo,bo,bo,c1,c2];unfold nameOf h7;rw[if_neg hn,fF,hj,hn1,hn2]
   rfl
  rw[en] at q;exact q
 obtain⟨tt,ht,hn⟩:=tl
 refine⟨_,(aa (aL (i:=2) yj.nd ai)
   (aa (aD (PW.pt (AW (zct a0 (ak aS (pv 1) af) af) (yt (zct jg (pv 0) af)))) (ag (ao (iq (pv 2) (pv 0) (λ_ _=>rfl)))) ar)
   ht)),?_⟩
 fin2
 lk;refine aV (λe=> ?_) (λe=> ?_)
 .have e:mark % 11=5:=yu e;lk;refine aV (λe2=> ?_) (λe2=> ?_)
  .have e2:(k:Int) < 36:=of_decide_eq_true e2;lk;refine ex3 _ _ (sgn k) (an7 rfl rfl (by lia) (by show(k:Int) < 9223372036854775808;lia) (by show(k:Int) < 36;lia) (By (show k < 36 by lia)) ?_)
   have en:nameOf k mark=⟨#[sgn k]⟩:=by
    unfold nameOf h7;rw[if_pos ⟨e,by lia⟩]
    rfl
   rw[en] at q;exact q
  .have e2:¬(k:Int) < 36:=λz=>e2 (decide_eq_true z);exact hn λz=>by lia
 .have e:=BI e;exact hn λz=>e z.1
def Ak:Sp:=λvs H Q _=>∃(cell other:Int),vs=[.int cell,.int other]/\∀(q:Addr) (H':Hp),ay H H'->H q=none->H' q=some (.lst ((words (aQ cell other "")).map V.str))->Q (.ref q) H'
def Ay:Sp:=λvs H Q _=>∃(cell other:Int),vs=[.int cell,.int other]/\∀(q:Addr) (H':Hp),ay H H'->H q=none->H' q=some (.lst ((words (leafOf cell other "")).map V.str))->Q (.ref q) H'
theorem kz(cell other:Int)(nm:Str):words (aQ cell other nm)=[("minder":Str),hZ (cell / 5 % 4),FW (cell / 20 % 3),bE (aQ cell other nm).cg,bE (aQ cell other nm).eC]:=by
 have h3:=bp (cell / 20) (n:=3) (by decide);have:cell / 20 % 3=0\/cell / 20 % 3=1\/cell / 20 % 3=2:=by lia
 unfold words aQ;rcases this with z | z | z <;> rw[z] <;> rfl
theorem xG(cell other:Int)(nm:Str):words (leafOf cell other nm)=[("leaf":Str),hZ (cell / 5 % 4),bE (leafOf cell other nm).cg,bE (leafOf cell other nm).eC,w9 (cell / 20 % 4)]++(if cell / 20 % 4=1 then [] else [bE (leafOf cell other nm).many]):=by
 have h3:=bp (cell / 20) (n:=4) (by decide);have:cell / 20 % 4=0\/cell / 20 % 4=1\/cell / 20 % 4=2\/cell / 20 % 4=3:=by lia
 unfold words Tr.leafOf;rcases this with z | z | z | z <;> rw[z] <;> rfl
theorem Dv(F:aM K "_law_minder_words" "_law_minder_words" g8 dV f fd)(T:Txt mg):aB P w K mg base (CXE P w) true 1 f fd kC Ak:=by
 rcases dP,(aa (aL (i:=2) dP.nd (zix av (az {(ai),(ai),(ai),(ai)}) (ak aS (ak b8 (pv 0) af) af)))
   (aa (aL (i:=3) dP.nd (zix av (az {(ai),(ai),(ai)}) (ak aS (ak b8 (pv 0) af) af)))
   (aa (aD (zct a0 (ak aS (pv 1) af) af) (ag (ao (az {(ai),pv 2,pv 3,a9 aU (by rfl) T.jn eR {ak aS (pv 1) af},a9 aU (by rfl) T.jn eR {ak cb af (ak aS (ak b8 (pv 1) af) af)}}))) ar)
   (aa (aL (i:=4) dP.nd (zix av (az (wI rfl)) (ak aS (pv 1) af)))
   (ag (ao (az {(ai),pv 2,pv 3,a9 aU (by rfl) T.jn eR {pv 4},a9 aU (by rfl) T.jn eR {ak cb af (ak aS (ak b8 (pv 1) af) af)}}))))))) with⟨cell,other,rfl,k⟩
 have h4:=bp (cell / 5) (n:=4) (by decide);have h3:=bp (cell / 20) (n:=3) (by decide);have h8:=bp other (n:=8) (by decide);have a1:=bp other (n:=1000001) (by decide);have a2:=bp (other / 3) (n:=1000000) (by decide);have a3:=bp (other / 8) (n:=5) (by decide);rw[kz] at k
 have e4:atI [V.str "always",V.str "fallen",V.str "always",V.str "never"] (cell / 5 % 4)=some (V.str (hZ (cell / 5 % 4))):=by
  have:cell / 5 % 4=0\/cell / 5 % 4=1\/cell / 5 % 4=2\/cell / 5 % 4=3:=by lia
  rcases this with z | z | z | z <;> rw[z] <;> rfl
 have e3:atI [V.str "one",V.str "all",V.str "rest"] (cell / 20 % 3)=some (V.str (FW (cell / 20 % 3))):=by
  have:cell / 20 % 3=0\/cell / 20 % 3=1\/cell / 20 % 3=2:=by lia
  rcases this with z | z | z <;> rw[z] <;> rfl
 have e8:atI [V.int 9,V.int 2,V.int 30,V.int 1,V.int 3,V.int 0,V.int 9,V.int 2] (other % 8)=some (V.int (oS (other % 8))):=by
  have:other % 8=0\/other % 8=1\/other % 8=2\/other % 8=3\/other % 8=4\/other % 8=5\/other % 8=6\/other % 8=7:=by lia
  rcases this with z | z | z | z | z | z | z | z <;> rw[z] <;> rfl
 have m8:0<=oS (other % 8)/\oS (other % 8)<=30:=by unfold oS;(repeat' split) <;> decide
 lk;refine⟨aH (by show 4<=1000;decide),λp1 hp1=> ?_⟩;lk;refine ex4 p1 _ _ _ (an5 rfl rfl (SqL.of ae) e4 ?_);lk;refine⟨aH (by show 3<=1000;decide),λp2 hp2=> ?_⟩;lk;refine ex4 p2 _ _ _ (an5 rfl rfl (SqL.of ae) e3 ?_);have s2:=(ah (o:= .lst [V.str "always",V.str "fallen",V.str "always",V.str "never"]) hp1).trans (ah (o:= .lst [V.str "one",V.str "all",V.str "rest"]) hp2);lk;refine aV (λe=> ?_) (λe=> ?_)
 .have e:other % 29=7:=yu e;have eg:(aQ cell other "").cg=other % 1000001:=if_pos e;have es:(aQ cell other "").eC=1 + other / 3 % 1000000:=if_pos e;rw[eg,es] at k;lk;refine⟨bK (by lia) (by lia),?_⟩;lk;refine⟨bK (by lia) (by lia),?_⟩;lk;refine⟨aH (by show 5<=1000;decide),λq hq=> ?_⟩;exact k q _ (s2.trans (ah hq)) (s2.free hq) ae
 .have e:=BI e;have eg:(aQ cell other "").cg=oS (other % 8):=if_neg e;have es:(aQ cell other "").eC=1 + other / 8 % 5:=if_neg e;rw[eg,es] at k;lk;refine⟨aH (by show 8<=1000;decide),λp3 hp3=> ?_⟩;lk;refine ex4 p3 _ _ _ (an5 rfl rfl (SqL.of ae) e8 ?_);have s3:=s2.trans (ah (o:= .lst [V.int 9,V.int 2,V.int 30,V.int 1,V.int 3,V.int 0,V.int 9,V.int 2]) hp3);lk;refine⟨bK (by lia) (by lia),?_⟩;lk;refine⟨bK (by lia) (by lia),?_⟩;lk;refine⟨aH (by show 5<=1000;decide),λq hq=> ?_⟩;exact k q _ (s3.trans (ah hq)) (s3.free hq) ae
theorem DK(F:aM K "_law_leaf_words" "_law_leaf_words" eu dV f fd)(T:Txt mg):aB P w K mg base (CXE P w) true 1 f fd nT Ay:=by
 refine F.pf cI λvs H Q E y0=> ?_;obtain⟨cell,other,rfl,k⟩:=y0;refine⟨rfl,λcdv A outer s hr=> ?_⟩;have h4:=bp (cell / 5) (n:=4) (by decide);have h3:=bp (cell / 20) (n:=4) (by decide);rw[xG] at k
 have e4:atI [V.str "always",V.str "fallen",V.str "always",V.str "never"] (cell / 5 % 4)=some (V.str (hZ (cell / 5 % 4))):=by
  have:cell / 5 % 4=0\/cell / 5 % 4=1\/cell / 5 % 4=2\/cell / 5 % 4=3:=by lia
  rcases this with z | z | z | z <;> rw[z] <;> rfl
 have e3:atI [V.str "falls",V.str "idle",V.str "steady",V.str "falls"] (cell / 20 % 4)=some (V.str (w9 (cell / 20 % 4))):=by
  have:cell / 20 % 4=0\/cell / 20 % 4=1\/cell / 20 % 4=2\/cell / 20 % 4=3:=by lia
  rcases this with z | z | z | z <;> rw[z] <;> rfl
 have wi:w9 (cell / 20 % 4)="idle"↔cell / 20 % 4=1:=by
  have:cell / 20 % 4=0\/cell / 20 % 4=1\/cell / 20 % 4=2\/cell / 20 % 4=3:=by lia
  rcases this with z | z | z | z <;> rw[z] <;> decide
 have tl:∃t,PSs (fO true (CXE P w) P w K mg base pq "_law_leaf_words" (aj eu) f cdv A outer s H E).nox ((aY eu).drop 4) t/\(∀(H1:Hp) (p:Addr) (x y z:Int),ay H H1->H1 p=some (.lst [V.int x,.int y,.int z])->x=(leafOf cell other "").cg->y=(leafOf cell other "").eC->(cell / 20 % 4≠1->z=(leafOf cell other "").many)->
   t { nx:=λ_ H'=>Q .non H',rt:=Q} [some (.int cell),some (.int other),some (.str (hZ (cell / 5 % 4))),some (.str (w9 (cell / 20 % 4))),some (.ref p),none] H1):=by
  refine⟨_,(aa (aL (i:=5) cI.nd (az {(ai),pv 2,a9 aU (by rfl) T.jn eR {zix av (pv 4) af},a9 aU (by rfl) T.jn eR {zix av (pv 4) af},pv 3}))
   (aa (aD (zct sO (pv 3) ai) (ag (br (cv PySem.F.plainAttrs_list PySem.F.slot_list_append PySem.F.type_list_append bI (pv 5) {a9 aU (by rfl) T.jn eR {zix av (pv 4) af}}))) ar)
   (ag (ao (pv 5))))),?_⟩
  fin2
  intro H1 p x y z s1 hp ex ey ez;have ok:=Cc (cell:=cell) (other:=other) (nm:="qa") (by decide +kernel);have g0:0<=x:=by rw[ex];exact ok.g0
  have g1:x<=1000000:=by rw[ex];exact ok.g1
  have g2:0<=y:=by rw[ey];exact ok.s0
  have g3:y<=1000000:=by rw[ey];exact ok.s1
  rw[<- ex,<-ey] at k;lk;refine ex4 p _ 0 _ (an5 rfl rfl (SqL.of hp) rfl ?_);lk;refine⟨bK g0 (by lia),?_⟩;lk;refine ex4 p _ 1 _ (an5 rfl rfl (SqL.of hp) rfl ?_);lk;refine⟨bK g2 (by lia),?_⟩;lk;refine⟨aH (by show 5<=1000;decide),λq hq=> ?_⟩;lk;refine aV (λe=> ?_) (λe=> ?_)
  .have e:cell / 20 % 4≠1:=λz=>by
    rw[decide_eq_true (congrArg V.str (wi.mpr z))] at e;exact absurd e (by decide)
   have z0:0<=z:=by rw[ez e];exact ok.m0
   have z1:z<=1000000:=by rw[ez e];exact ok.m1
   rw[if_neg e,<-ez e] at k;have hp2:=(ah (o:= .lst [V.str "leaf",.str (hZ (cell / 5 % 4)),.str (bE x),.str (bE y),.str (w9 (cell / 20 % 4))]) hq) _ _ hp;lk;refine⟨.inl ⟨rfl,_,SqL.of ae⟩,?_⟩;lk;refine ex4 p _ 2 _ (an5 rfl rfl (SqL.of hp2) rfl ?_);lk;refine⟨bK z0 (by lia),?_⟩;lk;refine ex3 q _ _ (an5 rfl rfl ae (aI (by show 5<=1000;decide)) ?_);rw[jG];lk;exact k q _ (s1.trans (ah hq)) (s1.free hq) ae
  .have e:cell / 20 % 4=1:=wi.mp (by
    have e:=e;cases z:decide (V.str (w9 (cell / 20 % 4))=V.str "idle") with
    | true=>exact V.str.inj (of_decide_eq_true z)
    | false=>rw[z] at e;exact absurd rfl e)
   rw[if_pos e] at k;lk;exact k q _ (s1.trans (ah hq)) (s1.free hq) ae
 obtain⟨tt,ht,hn⟩:=tl
 refine⟨_,(aa (aL (i:=2) cI.nd (zix av (az {(ai),(ai),(ai),(ai)}) (ak aS (ak b8 (pv 0) af) af)))
   (aa (aL (i:=3) cI.nd (zix av (az {(ai),(ai),(ai),(ai)}) (ak aS (ak b8 (pv 0) af) af)))
   (aa (aL (i:=4) cI.nd (az {ak aS (pv 1) af,ak aS (ak b8 (pv 1) af) af,ak aS (ak b8 (pv 1) af) af}))
   (aa (aD (zct a0 (ak aS (pv 1) af) af) (ag (aL (i:=4) cI.nd (az {ak aS (pv 1) af,ak aS (ak b8 (pv 1) af) af,ak aS (ak b8 (pv 1) af) af}))) ar)
   ht)))),?_⟩
 fin2
 lk;refine⟨aH (by show 4<=1000;decide),λp1 hp1=> ?_⟩;lk;refine ex4 p1 _ _ _ (an5 rfl rfl (SqL.of ae) e4 ?_);lk;refine⟨aH (by show 4<=1000;decide),λp2 hp2=> ?_⟩;lk;refine ex4 p2 _ _ _ (an5 rfl rfl (SqL.of ae) e3 ?_);have s2:=(ah (o:= .lst [V.str "always",V.str "fallen",V.str "always",V.str "never"]) hp1).trans (ah (o:= .lst [V.str "falls",V.str "idle",V.str "steady",V.str "falls"]) hp2);lk;refine⟨aH (by show 3<=1000;decide),λp3 hp3=> ?_⟩;lk;refine aV (λe=> ?_) (λe=> ?_)
 .have e:other % 29=7:=yu e;lk;refine⟨aH (by show 3<=1000;decide),λp4 hp4=> ?_⟩;refine hn _ p4 _ _ _ ((s2.trans (ah hp3)).trans (ah hp4)) ae ?_ ?_ ?_
  .exact (if_pos e).symm
  .exact (if_pos e).symm
  .intro z;show _=ite _ _ _;rw[if_neg z,if_pos e]
 .have e:=BI e;refine hn _ p3 _ _ _ (s2.trans (ah hp3)) ae ?_ ?_ ?_
  .exact (if_neg e).symm
  .exact (if_neg e).symm
  .intro z;show _=ite _ _ _;rw[if_neg z,if_neg e]
open PySem L2 Shp Nm Tr PySem.NumText
def Gd(K:PySem.W.Frag):Sp:=λvs H Q _=>∃(a:Addr) (ns:List Int) (fi mark:Int) (ct:Nat),vs=[.ref a,.int fi,.int (ct:Int),.int mark]/\SqL K H a (ns.map V.int)/\0<=fi/\1<=ct/\ct<=64∧
 ∀(q dp ep wp np:Addr) (H':Hp) (rows:List Row),ay H H'->H' q=some (.tup [.ref dp,.ref ep,.ref wp,.ref np])->tO H' dp ep wp np rows->dD rows mark->rows.length=ct->Q (.ref q) H'
theorem HF(F:aM K "_law_tree" "_law_tree" nj dV f fd)(T:Txt mg)(bj:Cal P w K mg base true 1 "_law_cell_at" (BR K) [])(Bg:Cal P w K mg base true 1 "_law_name" FO [])
  (eA:Cal P w K mg base true 1 "_law_minder_words" Ak []) (jI:Cal P w K mg base true 1 "_law_leaf_words" Ay []):aB P w K mg base (CXE P w) true 3 f fd EU (Gd K):=by
 refine F.pf eo λvs H Q E y0=> ?_;obtain⟨a,ns,fi,mark,ct,rfl,hS,hf,h1,h64,k⟩:=y0;refine⟨rfl,λcdv A outer s hr=> ?_⟩
 have t6:∃t,PSs (fO true (CXE P w) P w K mg base AG "_law_tree" (aj nj) f cdv A outer s H E).nox ((aY nj).drop 6) t/\(∀(H1:Hp) (dp ep wp:Addr) (rows:List Row) (v1 v2 v3 v4:Option V),ay H H1->H dp=none->H ep=none->H wp=none→
   H1 dp=some (.lst (rows.map λr=>V.int (r.dep:Int)))->H1 ep=some (.lst ((List.range rows.length).map λk=>V.int (b6 rows k)))->LLs H1 wp (rows.map λr=>words r.sh)->dD rows mark->rows.length=ct→
   t { nx:=λ_ H'=>Q .non H',rt:=Q} [some (.ref a),some (.int fi),some (.int (ct:Int)),some (.int mark),some (.ref dp),some (.ref ep),some (.ref wp),v1,v2,v3,v4,none] H1):=by
  refine⟨_,(aa (m9 (j:=11) eo.nd rfl (by k_ne) (x:="_law_k") (fr:=[("_law_mark",3)]) (by kd_p) rfl (lI (by rfl) T.jr {pv 2}) (λ_ _ _ _=>pw) (λ_ _ _ _=>(bO Bg (hr.mono (by omega)) (by rfl) wL {pv 0,pv 1})))
   (ag (ao (fq {pv 4,pv 5,pv 6,pv 11})))),?_⟩
  fin2
  intro H1 dp ep wp rows v1 v2 v3 v4 s1 hd he hw h4 h5 h6 hR hl;lk;refine⟨by lia,by lia,ff (n:=ct) (λi ys H'=>H'=H1/\ys=(List.range i).map λk=>V.str (nameOf k mark)) ⟨rfl,rfl⟩ (λi ys H' hi _=>hi) (λys H' _=>Nat.le_refl _) ?_ ?_⟩
  .rintro i ys H' v H2 hi ⟨rfl,rfl⟩ ⟨rfl,rfl⟩;lk;refine⟨(by rw[Nat.zero_add];lia),by rw[List.length_map,List.length_range];exact aI (by lia),rfl,?_⟩;rw[List.range_succ,List.map_append,Nat.zero_add]
   rfl
  .rintro ys H' ⟨rfl,rfl⟩;refine⟨by rw[List.length_map,List.length_range];exact aH (by lia),λnp hnp=> ?_⟩;lk;refine⟨aH (by show 4<=1000;decide),λq hq=> ?_⟩;have s2:ay H' (upd (upd H' np (.lst ((List.range ct).map λk=>V.str (nameOf k mark)))) q (.tup [.ref dp,.ref ep,.ref wp,.ref np])):=(ah hnp).trans (ah hq);refine k q dp ep wp np _ rows (s1.trans s2) ae ⟨s2 _ _ h4,s2 _ _ h5,h6.mono s2,?_⟩ hR hl;rw[hR.names,hl];exact ah hq _ _ ae
 obtain⟨tt,ht,hn⟩:=t6
 have t4:∃t,PSs (fO true (CXE P w) P w K mg base AG "_law_tree" (aj nj) f cdv A outer s H E).nox ((aY nj).drop 4) t/\(∀(H1:Hp) (dp ep wp:Addr) (rows:List Row),ay H H1->H dp=none->H ep=none->H wp=none->dp≠ep->dp≠wp->ep≠wp→
   H1 dp=some (.lst (rows.map λr=>V.int (r.dep:Int)))->H1 ep=some (.lst ((List.range rows.length).map λk=>V.int (b6 rows k)))->LLs H1 wp (rows.map λr=>words r.sh)->dD rows mark->rows.length=1→
   t { nx:=λ_ H'=>Q .non H',rt:=Q} [some (.ref a),some (.int fi),some (.int (ct:Int)),some (.int mark),some (.ref dp),some (.ref ep),some (.ref wp),none,none,none,none,none] H1):=by
  refine⟨_,(aa (aL (i:=7) eo.nd (az {(af)}))
   (aa (pU PassesOwn.never rfl (Di (by rfl) T.jr {(af),pv 2}) (cz (i:=8) eo.nd rfl (by k_ne)) (aa (aL (i:=9) eo.nd (ak cb (bD bj {pv 0,ak cb (pv 1) (pv 8)}) (ak Fw af (pv 8))))
   (aa (aL (i:=10) eo.nd (ak cb (bD bj {pv 0,ak cb (ak cb (pv 1) (pv 8)) af}) (pv 8)))
   (aa (aD (zct jg (ak aS (pv 3) af) af) (ag (aL (i:=7) eo.nd (gW jw (pv 7) ox (gC (ak cb af (ak aS (ak b8 (pv 9) af) (aE aF (by rfl) T.d0 cn {pv 7}))))))) ar)
   (aa (br (cv PySem.F.plainAttrs_list PySem.F.slot_list_append PySem.F.type_list_append bI (pv 4) {aE aF (by rfl) T.d0 cn {pv 7}}))
   (aa (br (cv PySem.F.plainAttrs_list PySem.F.slot_list_append PySem.F.type_list_append bI (pv 5) {zix av (pv 7) (iA eL af)}))
   (ag (aD (PW.pt (g7 (zct jg (ak aS (pv 9) af) af) (gg (PW.pt (AW (zct a0 (ak aS (pv 3) af) af) (yt (zct jg (aE aF (by rfl) T.d0 cn {pv 7}) af))))))) (aa (br (cv PySem.F.plainAttrs_list PySem.F.slot_list_append PySem.F.type_list_append bI (pv 6) {bD eA {pv 9,pv 10}}))
   (ag (aD (zct jg (aE aF (by rfl) T.d0 cn {pv 7}) af) (ag (aL (i:=7) eo.nd (ak dG (pv 7) (az {pv 8})))) ar))) (ag (br (cv PySem.F.plainAttrs_list PySem.F.slot_list_append PySem.F.type_list_append bI (pv 6) {bD jI {pv 9,pv 10}})))))))))))
   ht)),?_⟩
  fin2
  intro H1 dp ep wp rows s1 hd he hw n1 n2 n3 h4 h5 h6 hR hl;refine⟨aH (by show 1<=1000;decide),λpp hpp=> ?_⟩;have sn:=ah (o:= .lst [V.int 0]) hpp
  have hPI:cj rows [0]:=by
   obtain⟨r,rfl⟩:∃r,rows=[r]:=by
    match rows,hl with
    | [r],_=>exact⟨r,rfl⟩
   refine cj.first ?_;have:=hR.fit 0 Nat.zero_lt_one;unfold Tr.fits at this;rw[if_pos rfl] at this;exact this.2
  lk;refine⟨⟨by decide,by lia,by lia,by lia⟩,?_⟩;have ert:((ct:Int) - 1).toNat=ct - 1:=by lia
  refine wM (lo:=1) (n:=((ct:Int) - 1).toNat) (λi σ H2=>∃(rows:List Row) (pp:Addr) (lp:List Nat) (v1 v2 v3:Option V),σ=[some (.ref a),some (.int fi),some (.int (ct:Int)),some (.int mark),some (.ref dp),some (.ref ep),some (.ref wp),some (.ref pp),v1,v2,v3,none]/\ay H H2∧
    H2 dp=some (.lst (rows.map λr=>V.int (r.dep:Int)))/\H2 ep=some (.lst ((List.range rows.length).map λk=>V.int (b6 rows k)))/\LLs H2 wp (rows.map λr=>words r.sh)/\dD rows mark/\rows.length=1 + i/\H2 pp=some (.lst (lp.map λj:Nat=>V.int (j:Int)))/\cj rows lp/\pp≠dp/\pp≠ep)
   ⟨rows,pp,[0],none,none,none,rfl,s1.trans sn,sn _ _ h4,sn _ _ h5,h6.mono sn,hR,by lia,ae,hPI,(au h4 hpp).symm,(au h5 hpp).symm⟩ ?_ ?_
  .rintro i σ H2 hi ⟨rows,pp,lp,v1,v2,v3,rfl,s2,g4,g5,g6,hR,hl,gp,hP,m1,m2⟩;rw[ert] at hi;have r1:=hR.ne;have wn:=Ju r1;refine Gh (M:=λσ' H'=>∃(pp3:Addr) (lp3:List Nat) (cl ot:Int),σ'=[some (.ref a),some (.int fi),some (.int (ct:Int)),some (.int mark),some (.ref dp),some (.ref ep),some (.ref wp),some (.ref pp3),some (.int (1 + (i:Int))),some (.int cl),some (.int ot),none]/\ay H2 H'/\H' pp3=some (.lst (lp3.map λj:Nat=>V.int (j:Int)))/\cj rows lp3/\pp3≠dp/\pp3≠ep) (λN hN=> ?_) ?_
   .lk;refine ex3 a _ ns (an4 rfl (s2.seq hS) (by lia) ?_);lk;refine⟨.inl ⟨by decide,by decide⟩,?_⟩;lk;refine ex3 a _ ns (an4 rfl (s2.seq hS) (by lia) ?_);lk;have lpl:(lp.map λj:Nat=>V.int (j:Int)).length=lp.length:=List.length_map _;have b1:=hP.l1;refine aV (λe=> ?_) (λe=> ?_)
    .lk;refine ex2 pp _ (an3 rfl (.inl (SqL.of gp)) ?_);lk;refine⟨(by show(0:Int) < _;rw[lpl];lia),?_⟩;lk;refine ex2 pp _ (an3 rfl (SqL.of gp) (λp2 hp2=> ?_));obtain⟨m,em⟩:=Int.eq_ofNat_of_zero_le (bp ((ns.getD (fi + (1 + (i:Int))).toNat 0 + 3 * (1 + (i:Int))) / 80) (n:=(lp.length:Int)) (by lia)).1;have em2:=(bp ((ns.getD (fi + (1 + (i:Int))).toNat 0 + 3 * (1 + (i:Int))) / 80) (n:=(lp.length:Int)) (by lia)).2;refine hN _ _ ⟨p2,lp.take (1 + m),_,_,rfl,ah hp2,?_,hP.take (by lia) (by lia),(au g4 hp2).symm,(au g5 hp2).symm⟩;rw[ae,lpl,em,show(1 + (m:Int))=((1 + m:Nat):Int) from rfl,yz,List.map_take]
    .lk;exact hN _ _ ⟨pp,lp,_,_,rfl,λ_ _ z=>z,gp,hP,m1,m2⟩
   .rintro σ3 H3 ⟨pp3,lp3,cl,ot,rfl,sn2,kp,hP3,q1,q2⟩;have s3:=s2.trans sn2;have k4:=sn2 _ _ g4;have k5:=sn2 _ _ g5;have k6:=g6.mono sn2;have c1:=hP3.l1;have c8:=hP3.l8;have lp3l:(lp3.map λj:Nat=>V.int (j:Int)).length=lp3.length:=List.length_map _;have rl:rows.length < 64:=by lia
    lk;refine⟨.inl ⟨rfl,_,SqL.of k4⟩,?_⟩;lk;refine ex2 pp3 _ (an3 rfl (.inl (SqL.of kp)) ?_);rw[lp3l];lk;refine ex3 dp _ _ (an5 rfl rfl k4 (by rw[List.length_map];exact aI (by lia)) ?_);have kp1:(upd H3 dp (.lst ((rows.map λr=>V.int (r.dep:Int))++[V.int (lp3.length:Int)]))) pp3=some (.lst (lp3.map λj:Nat=>V.int (j:Int))):=(aq q1).trans kp;have k51:(upd H3 dp (.lst ((rows.map λr=>V.int (r.dep:Int))++[V.int (lp3.length:Int)]))) ep=some (.lst ((List.range rows.length).map λk=>V.int (b6 rows k))):=(aq n1.symm).trans k5;lk;refine⟨.inl ⟨rfl,_,SqL.of k51⟩,?_⟩;lk
    have lst1:atI (lp3.map λj:Nat=>V.int (j:Int)) (-1)=some (V.int ((lp3[lp3.length - 1]'(by lia):Nat):Int)):=by
     rw[E3 (by lia),lp3l,List.getElem?_map,List.getElem?_eq_getElem (by lia)]
     rfl
    refine ex4 pp3 _ _ _ (an5 rfl rfl (SqL.of kp1) lst1 ?_);lk;refine ex3 ep _ _ (an5 rfl rfl k51 (by rw[List.length_map,List.length_range];exact aI (by lia)) ?_);obtain⟨H4,eH4⟩:∃H4,H4=upd (upd H3 dp (.lst ((rows.map λr=>V.int (r.dep:Int))++[V.int (lp3.length:Int)]))) ep (.lst (((List.range rows.length).map λk=>V.int (b6 rows k))++[V.int ((lp3[lp3.length - 1]'(by lia):Nat):Int)])):=⟨_,rfl⟩;rw[<- eH4];have s4:ay H H4:=by rw[eH4];exact jb (jb s3 hd) he
    have j4:H4 dp=some (.lst ((rows.map λr=>V.int (r.dep:Int))++[V.int (lp3.length:Int)])):=by rw[eH4,aq n1];exact ae
    have j5:H4 ep=some (.lst (((List.range rows.length).map λk=>V.int (b6 rows k))++[V.int ((lp3[lp3.length - 1]'(by lia):Nat):Int)])):=by rw[eH4];exact ae
    have jp:H4 pp3=some (.lst (lp3.map λj:Nat=>V.int (j:Int))):=by rw[eH4,aq q2];exact kp1
    have j6:LLs H4 wp (rows.map λr=>words r.sh):=by
     obtain⟨x1,y1,z1⟩:=wH r1 (λr=>(r.dep:Int));obtain⟨x2,y2,z2⟩:=u9 r1 (λk=>b6 rows k);rw[eH4];refine LLs.upd (i:=x2) (xs:=y2) (LLs.upd (i:=x1) (xs:=y1) k6 ?_ wn (xD rows)) ?_ wn (xD rows)
     .rw [k4,z1]
     .rw [k51,z2]
    have hfit:∀sh:Sh,fits (aC rows rows.length) rows.length ⟨lp3.length,sh⟩:=λsh=>hP3.fits (r:=⟨lp3.length,sh⟩) (by lia) c1 (Nat.le_refl _);have hel:∀sh:Sh,b6 (rows++[⟨lp3.length,sh⟩]) rows.length=((lp3[lp3.length - 1]'(by lia):Nat):Int):=λsh=>hP3.b6 (r:=⟨lp3.length,sh⟩) (by lia) c1 (Nat.le_refl _)
    have hnx:∀sh:Sh,cj (rows++[⟨lp3.length,sh⟩]) lp3:=λsh=>by
     have:=hP3.next (r:=⟨lp3.length,sh⟩) c1 (Nat.le_refl _);rwa [List.take_length] at this
    clear eH4 kp1 k51 lst1
    have nwd:wp≠dp:=by
     obtain⟨x1,y1,z1⟩:=wH r1 (λr=>(r.dep:Int));exact j6.ne (i:=x1) (xs:=y1++[V.int (lp3.length:Int)]) (by rw[j4,z1];rfl) wn
    have nwe:wp≠ep:=by
     obtain⟨x1,y1,z1⟩:=u9 r1 (λk=>b6 rows k);exact j6.ne (i:=x1) (xs:=y1++[V.int ((lp3[lp3.length - 1]'(by lia):Nat):Int)]) (by rw[j5,z1];rfl) wn
    have nwp:wp≠pp3:=by
     obtain⟨x,y,z⟩:∃x y,lp3=x::y:=by
      match lp3,c1 with
      | x::y,_=>exact⟨x,y,rfl⟩
     exact j6.ne (i:=(x:Int)) (xs:=y.map λj:Nat=>V.int (j:Int)) (by rw[jp,z];rfl) wn
    obtain⟨as0,w1,_⟩:=id j6;dsimp only;refine JT (decide (cl % 5 < 2) || (decide (mark % 5=4) && decide ((lp3.length:Int) < 8))) (λN hN=> ?_) ?_
    .lk;refine aV (λe1=> ?_) (λe1=> ?_)
     .rw [show decide (cl % 5 < 2)=true from e1,Bool.true_or] at hN;exact hN
     .rw [show decide (cl % 5 < 2)=false from decide_eq_false λz=>e1 (decide_eq_true z),Bool.false_or] at hN;lk;refine aV (λe2=> ?_) (λe2=> ?_)
      .rw [decide_eq_true (show mark % 5=4 from V.int.inj (of_decide_eq_true e2)),Bool.true_and] at hN;lk;refine ex2 pp3 _ (an3 rfl (.inl (SqL.of jp)) ?_);rw[lp3l];lk;exact hN
      .rw [decide_eq_false (show ¬mark % 5=4 from λz=>e2 (decide_eq_true (congrArg V.int z))),Bool.false_and] at hN;exact hN
    .refine aV (λ_=> ?_) (λ_=> ?_)
     .lk;refine⟨.inl ⟨rfl,_,SqL.of w1⟩,?_⟩;lk;refine λq H5 s5 hq1 hq2=> ?_;obtain⟨as1,w2,wl,j7⟩:=(j6.mono s5).push hq2 wn (xD rows) (qg _);lk;refine ex3 wp _ _ (an5 rfl rfl w2 (by rw[List.length_map,wl,List.length_map];exact aI (by lia)) ?_);obtain⟨H6,eH6⟩:∃H6,H6=upd H5 wp (.lst (as1.map V.ref++[.ref q])):=⟨_,rfl⟩;rw[<- eH6] at j7 ⊢;have s6:ay H H6:=by rw[eH6];exact jb (s4.trans s5) hw
      have t4':H6 dp=some (.lst ((rows.map λr=>V.int (r.dep:Int))++[V.int (lp3.length:Int)])):=by rw[eH6,aq nwd.symm];exact s5 _ _ j4
      have t5':H6 ep=some (.lst (((List.range rows.length).map λk=>V.int (b6 rows k))++[V.int ((lp3[lp3.length - 1]'(by lia):Nat):Int)])):=by rw[eH6,aq nwe.symm];exact s5 _ _ j5
      have tp':H6 pp3=some (.lst (lp3.map λj:Nat=>V.int (j:Int))):=by rw[eH6,aq nwp.symm];exact s5 _ _ jp
      have ln:∀r:Row,(rows++[r]).length=1 + (i + 1):=λr=>by rw[List.length_append];show rows.length + 1=_;lia
      lk;refine ex2 pp3 _ (an3 rfl (.inl (SqL.of tp')) ?_);rw[lp3l];lk;refine aV (λe4=> ?_) (λe4=> ?_)
      .have e4:(lp3.length:Int) < 8:=of_decide_eq_true e4;lk;refine⟨aH (by show 1<=1000;decide),λu hu=> ?_⟩;refine ex4 pp3 u _ _ (an6 rfl rfl ((ah hu) _ _ tp') ae (by rw[lp3l];show _ + 1<=_;exact aH (by lia)) (λz hz=> ?_));have sz:=(ah (o:= .lst [V.int (1 + (i:Int))]) hu).trans (ah (o:= .lst ((lp3.map λj:Nat=>V.int (j:Int))++[V.int (1 + (i:Int))])) hz);refine⟨rows++[⟨lp3.length,aQ cl ot (nameOf rows.length mark)⟩],z,lp3++[rows.length],_,_,_,rfl,s6.trans sz,?_,?_,?_,hR.next rl (hfit _) (qG (sk rl)) rfl,ln _,?_,?_,?_,?_⟩
       .rw [List.map_append];exact sz _ _ t4'
       .rw [lj (hel _)];exact sz _ _ t5'
       .rw [List.map_append];exact j7.mono sz
       .rw [ae,List.map_append,hl]
        rfl
       .have:=hP3.more (r:=⟨lp3.length,aQ cl ot (nameOf rows.length mark)⟩) c1 (Nat.le_refl _) (by show lp3.length < 8;lia) (decide_eq_true (Nat.le_add_right _ _));rw[List.take_length] at this;exact this
       .exact (au ((ah hu) _ _ t4') hz).symm
       .exact (au ((ah hu) _ _ t5') hz).symm
      .refine ⟨rows++[⟨lp3.length,aQ cl ot (nameOf rows.length mark)⟩],pp3,lp3,_,_,_,rfl,s6,?_,?_,?_,hR.next rl (hfit _) (qG (sk rl)) rfl,ln _,tp',hnx _,q1,q2⟩
       .rw [List.map_append];exact t4'
       .rw [lj (hel _)];exact t5'
       .rw [List.map_append];exact j7
     .lk;refine⟨.inl ⟨rfl,_,SqL.of w1⟩,?_⟩;lk;refine λq H5 s5 hq1 hq2=> ?_;obtain⟨as1,w2,wl,j7⟩:=(j6.mono s5).push hq2 wn (xD rows) (qg _);lk;refine ex3 wp _ _ (an5 rfl rfl w2 (by rw[List.length_map,wl,List.length_map];exact aI (by lia)) ?_);obtain⟨H6,eH6⟩:∃H6,H6=upd H5 wp (.lst (as1.map V.ref++[.ref q])):=⟨_,rfl⟩;rw[<- eH6] at j7 ⊢;have s6:ay H H6:=by rw[eH6];exact jb (s4.trans s5) hw
      have t4':H6 dp=some (.lst ((rows.map λr=>V.int (r.dep:Int))++[V.int (lp3.length:Int)])):=by rw[eH6,aq nwd.symm];exact s5 _ _ j4
      have t5':H6 ep=some (.lst (((List.range rows.length).map λk=>V.int (b6 rows k))++[V.int ((lp3[lp3.length - 1]'(by lia):Nat):Int)])):=by rw[eH6,aq nwe.symm];exact s5 _ _ j5
      have tp':H6 pp3=some (.lst (lp3.map λj:Nat=>V.int (j:Int))):=by rw[eH6,aq nwp.symm];exact s5 _ _ jp
      have ln:∀r:Row,(rows++[r]).length=1 + (i + 1):=λr=>by rw[List.length_append];show rows.length + 1=_;lia
      refine⟨rows++[⟨lp3.length,Tr.leafOf cl ot (nameOf rows.length mark)⟩],pp3,lp3,_,_,_,rfl,s6,?_,?_,?_,hR.next rl (hfit _) (Cc (sk rl)) rfl,ln _,tp',hnx _,q1,q2⟩
      .rw [List.map_append];exact t4'
      .rw [lj (hel _)];exact t5'
      .rw [List.map_append];exact j7
  .rintro σ H2 ⟨rows,pp,lp,v1,v2,v3,rfl,s2,g4,g5,g6,hR,hl,gp,hP,m1,m2⟩;exact hn H2 dp ep wp rows _ _ _ _ s2 hd he hw g4 g5 g6 hR (by lia)
 obtain⟨tt,ht,hn⟩:=t4
 refine⟨_,(aa (aL (i:=4) eo.nd (az {(af)}))
   (aa (aL (i:=5) eo.nd (az {iA eL af}))
   (aa (aL (i:=6) eo.nd (az {bD eA {bD bj {pv 0,pv 1},bD bj {pv 0,ak cb (pv 1) af}}}))
   (aa (aD (zct jg (ak aS (ak b8 (pv 3) af) af) af) (ag (F9 ai (Ks (zix av (pv 6) af) af set_list))) ar)
   ht)))),?_⟩
 fin2
 refine⟨aH (by show 1<=1000;decide),λdp hdp=> ?_⟩;lk;refine⟨aH (by show 1<=1000;decide),λep hep=> ?_⟩;have sA:=(ah (o:= .lst [V.int 0]) hdp).trans (ah (o:= .lst [V.int (-1)]) hep);lk;refine ex3 a _ ns (an4 rfl (sA.seq hS) (by lia) ?_);lk;refine ex3 a _ ns (an4 rfl (sA.seq hS) (by lia) ?_);lk;refine λq H1 s1 hq1 hq2=> ?_;obtain⟨cl,ot,hq2⟩:∃cl ot,H1 q=some (.lst ((words (aQ cl ot "")).map V.str)):=⟨_,_,hq2⟩;refine⟨aH (by show 1<=1000;decide),λwp hwp=> ?_⟩;have s2:=s1.trans (ah (o:= .lst [V.ref q]) hwp);have sB:=sA.trans s2;have hd1:(upd H1 wp (.lst [V.ref q])) dp=some (.lst [V.int 0]):=s2 _ _ ((ah hep) _ _ ae);have he1:(upd H1 wp (.lst [V.ref q])) ep=some (.lst [V.int (-1)]):=s2 _ _ ae;have hq3:(upd H1 wp (.lst [V.ref q])) q=some (.lst ((words (aQ cl ot "")).map V.str)):=(ah hwp) _ _ hq2;have hw3:(upd H1 wp (.lst [V.ref q])) wp=some (.lst [V.ref q]):=ae;have hep0:H ep=none:=(ah (o:= .lst [V.int 0]) hdp).free hep;have hwp0:H wp=none:=(sA.trans s1).free hwp;have n1:dp≠ep:=λz=>by rw[z] at hep;rw[ae] at hep;cases hep
 have n2:dp≠wp:=au (s1 _ _ ((ah (o:= .lst [V.int (-1)]) hep) _ _ (ae (H:=H) (a:=dp)))) hwp;have n3:ep≠wp:=au (s1 _ _ (ae (a:=ep))) hwp
 have one:∀sh:Sh,OkR sh->3<=sh.kind->sh.name=nameOf 0 mark->dD [⟨0,sh⟩] mark:=λsh hs hk hnm=>by
  refine⟨Nat.le_refl _,by show 1<=64;decide,?_,?_,?_⟩
  .intro j hj;obtain rfl:j=0:=by have:j < 1:=hj;lia
   unfold Tr.fits;rw[if_pos rfl];exact⟨rfl,decide_eq_true hk⟩
  .intro r hr;obtain rfl:r=⟨0,sh⟩:=by simpa using hr
   exact hs
  .intro j hj;obtain rfl:j=0:=by have:j < 1:=hj;lia
   exact hnm
 have ok0:=qG (cell:=cl) (other:=ot) (sk (k:=0) (mark:=mark) (by decide));lk;refine aV (λe=> ?_) (λe=> ?_)
 .lk;refine ex4 wp _ 0 _ (an5 rfl rfl (SqL.of hw3) rfl ?_);lk;have ew:(words (aQ cl ot "")).map V.str=[V.str "minder",V.str (hZ (cl / 5 % 4)),V.str (FW (cl / 20 % 3)),V.str (bE (aQ cl ot "").cg),V.str (bE (aQ cl ot "").eC)]:=by rw[kz];rfl
  rw[ew] at hq3;refine ex4 q _ 3 3 (an5 rfl rfl hq3 rfl ?_);obtain⟨H2,eH2⟩:∃H2,H2=upd (upd H1 wp (.lst [V.ref q])) q (.lst [V.str "minder",V.str (hZ (cl / 5 % 4)),V.str (FW (cl / 20 % 3)),V.str "100",V.str (bE (aQ cl ot "").eC)]):=⟨_,rfl⟩;have hq0:H q=none:=sA.free hq1;obtain⟨sh,esh⟩:∃sh:Sh,sh={ aQ cl ot (nameOf 0 mark) with cg:=100}:=⟨_,rfl⟩;have nqd:dp≠q:=λz=>by rw[z] at hd1;rw[hd1] at hq3;cases hq3
  have nqe:ep≠q:=λz=>by rw[z] at he1;rw[he1] at hq3;cases hq3
  have nqw:wp≠q:=(au hq2 hwp).symm
  have wsh:(words sh).map V.str=[V.str "minder",V.str (hZ (cl / 5 % 4)),V.str (FW (cl / 20 % 3)),V.str "100",V.str (bE (aQ cl ot "").eC)]:=by
   have h3:=bp (cl / 20) (n:=3) (by decide);have:cl / 20 % 3=0\/cl / 20 % 3=1\/cl / 20 % 3=2:=by lia
   rw[esh];unfold words aQ;rcases this with z | z | z <;> rw[z] <;> rfl
  have hok:OkR sh:=by
   rw[esh];exact⟨ok0.kd,ok0.kp,ok0.m0,ok0.m1,ok0.m2,by show(0:Int)<=100;decide,by show(100:Int)<=1000000;decide,ok0.s0,ok0.s1,ok0.s2,ok0.nm⟩
  have z:=hn H2 dp ep wp [⟨0,sh⟩] (by rw[eH2];exact jb sB hq0) hdp hep0 hwp0 n1 n2 n3 (by rw[eH2,aq nqd];exact hd1) (by rw[eH2,aq nqe];exact he1)
   ⟨[q],by rw[eH2,aq nqw];exact hw3,rfl,λj x ws g1 g2=> ?_⟩ (one sh hok (by rw[esh];exact Nat.le_add_right _ _) (by rw[esh];rfl)) rfl
  .rw [eH2] at z;exact z
  .have hj:j=0:=by have:=(List.getElem?_eq_some_iff.mp g1).1;have:j < 1:=this;lia
   subst hj;obtain rfl:q=x:=Option.some.inj g1;obtain rfl:words sh=ws:=Option.some.inj g2;rw[eH2,ae,wsh]
 .refine hn _ dp ep wp [⟨0,aQ cl ot (nameOf 0 mark)⟩] sB hdp hep0 hwp0 n1 n2 n3 hd1 he1 ⟨[q],hw3,rfl,λj x ws g1 g2=> ?_⟩ (one _ ok0 (Nat.le_add_right _ _) rfl) rfl;have hj:j=0:=by have:=(List.getElem?_eq_some_iff.mp g1).1;have:j < 1:=this;lia
  subst hj;obtain rfl:q=x:=Option.some.inj g1;obtain rfl:words (aQ cl ot (nameOf 0 mark))=ws:=Option.some.inj g2;exact hq3
end
open PySem L2 Shp
abbrev qc:List Str:=["self","name","keep"]
abbrev fu:List Str:=["self","name","keep"]
theorem nR:aw qc fu (aj fj):=by kt_ors
abbrev rB:List Str:=["self","name","keep","grace","slow"]
abbrev cC:List Str:=["self","name","keep","grace","slow"]
theorem pE:aw rB cC (aj fW):=by kt_ors
abbrev oh:List Str:=["self","name","keep","many","grace","slow"]
abbrev bg:List Str:=["self","name","keep","many","grace","slow"]
theorem ny:aw oh bg (aj eK):=by kt_ors
abbrev o7:List Str:=["self","name","keep","most","span"]
abbrev bS:List Str:=["self","name","keep","most","span"]
theorem mE:aw o7 bS (aj eG):=by kt_ors
abbrev zj:List Str:=["self"]
abbrev kn:List Str:=["self"]
theorem yy:aw zj kn (aj kQ):=by kt_ors
abbrev wj:List Str:=["self"]
abbrev iW:List Str:=["self"]
theorem tI:aw wj iW (aj iX):=by kt_ors
abbrev oz:List Str:=["self"]
abbrev er:List Str:=["self"]
theorem nB:aw oz er (aj eJ):=by kt_ors
abbrev lQ:List Str:=["self"]
abbrev dH:List Str:=["self"]
theorem kW:aw lQ dH (aj dB):=by kt_ors
abbrev lM:List Str:=["self"]
abbrev dI:List Str:=["self"]
theorem kX:aw lM dI (aj dF):=by kt_ors
abbrev yk:List Str:=["self"]
abbrev jv:List Str:=["self"]
theorem vY:aw yk jv (aj jO):=by kt_ors
abbrev zb:List Str:=["self"]
abbrev jR:List Str:=["self"]
theorem wg:aw zb jR (aj jH):=by kt_ors
abbrev vz:List Str:=["self"]
abbrev hW:List Str:=["self"]
theorem rD:aw vz hW (aj ie):=by kt_ors
abbrev rP:List Str:=["self"]
abbrev gh:List Str:=["self"]
theorem p0:aw rP gh (aj fU):=by kt_ors
abbrev pS:List Str:=["self"]
abbrev eS:List Str:=["self"]
theorem oF:aw pS eS (aj eX):=by kt_ors
structure CF(K:PySem.W.Frag)(C:Addr):Prop where
 cl:Cls K C
 n1:bX K C "name"
 n2:bX K C "keep"
 n3:bX K C "grace"
 n4:bX K C "slow"
 n5:bX K C "many"
 n6:bX K C "most"
 n7:bX K C "span"
def lX(s:Sh):List (Str × V):=match s.kind with
 | 0=>[("name",.str s.name),("keep",.str s.keep),("grace",.int s.cg),("slow",.int s.eC)]
 | 1=>[("name",.str s.name),("keep",.str s.keep),("grace",.int s.cg),("slow",.int s.eC),("many",.int s.many)]
 | 2=>[("name",.str s.name),("keep",.str s.keep),("grace",.int s.cg),("slow",.int s.eC),("many",.int s.many)]
 | _=>[("name",.str s.name),("keep",.str s.keep),("most",.int s.cg),("span",.int s.eC)]
structure Pl where
 c:Nat->Addr
 pr:Nat->Prop
 inj:∀i j,pr i->pr j->c i=c j->i=j
def Pl.rep(p:Pl):Rep:=λH a s=>OkS s/\p.pr s.kind/\∃dx:Addr,H a=some (.ins (p.c s.kind) dx (lX s))
def Pl.cl(p:Pl)(j:Nat)(C:Addr):Prop:=p.pr j/\C=p.c j
theorem Pl.mono{p:Pl}{H H':Hp}{a:Addr}{s:Sh}(e:ay H H')(h:p.rep H a s):p.rep H' a s:=by
 obtain⟨h1,h2,dx,h3⟩:=h;exact⟨h1,h2,dx,e _ _ h3⟩
theorem mh{p:Pl}{H:Hp}{a dx:Addr}{fs:List (Str × V)}{s:Sh}{j:Nat}(hj:p.pr j)(hR:p.rep H a s)(hi:H a=some (.ins (p.c j) dx fs)):s.kind=j/\fs=lX s/\OkS s:=by
 obtain⟨ok,pr,dx',e⟩:=hR;rw[hi] at e;have e:=HO.ins.inj (Option.some.inj e);exact⟨p.inj _ _ pr hj e.1.symm,e.2.2,ok⟩
theorem Ck(s:Sh):(lX s).lookup ("keep":Str)=some (.str s.keep):=by
 unfold lX
 split <;> rfl
theorem oP(s:Sh):(lX s).lookup ("name":Str)=some (.str s.name):=by
 unfold lX
 split <;> rfl
theorem Ft{s:Sh}(h:s.kind < 3):(lX s).lookup ("grace":Str)=some (.int s.cg):=by
 unfold lX;have:s.kind=0\/s.kind=1\/s.kind=2:=by lia
 rcases this with z | z | z <;> rw[z] <;> rfl
theorem Hj{s:Sh}(h:s.kind < 3):(lX s).lookup ("slow":Str)=some (.int s.eC):=by
 unfold lX;have:s.kind=0\/s.kind=1\/s.kind=2:=by lia
 rcases this with z | z | z <;> rw[z] <;> rfl
theorem CU{s:Sh}(h:s.kind=1\/s.kind=2):(lX s).lookup ("many":Str)=some (.int s.many):=by
 unfold lX;rcases h with z | z <;> rw[z] <;> rfl
theorem xm{s:Sh}(h:3<=s.kind)(ok:OkS s):lX s=([("name",V.str s.name),("keep",V.str s.keep),("most",V.int s.cg),("span",V.int s.eC)]:List (Str × V)):=by
 unfold lX;have:s.kind=3\/s.kind=4\/s.kind=5:=by have:=ok.kd;lia
 rcases this with z | z | z <;> rw[z] <;> rfl
section
variable{P:Program}{w:World}{K:PySem.W.Frag}{mg:Str->Option Value}{base:Heap}{f:Addr}{fd:FuncData}{dV:Value}{p:Pl}
theorem l8{n:Nat}(h:n<=100):n<=sizeLine:=Nat.le_of_lt (aI (by lia))
def sg(K:PySem.W.Frag):Sp:=λvs H Q _=>∃(x C dx:Addr) (nm kp:V),vs=[.ref x,nm,kp]/\CF K C/\H x=some (.ins C dx [])/\Q .non (upd H x (.ins C dx [("name",nm),("keep",kp)]))
theorem E0(F:aM K "__init__" "Child.__init__" fj dV f fd):aB P w K mg base (CXE P w) true 1 f fd fu (sg K):=by
 rcases nR,(aa (ia (pv 0) (pv 1) rfl)
   (ag (ia (pv 0) (pv 2) rfl))) with⟨x,C,dx,nm,kp,rfl,hc,hx,k⟩
 lk;refine sY hx hc.cl hc.n1 (by decide) ?_;lk;refine sY ae hc.cl hc.n2 (by show 1 < 1000;decide) ?_;rw[jG];exact k
theorem made{x dx C:Addr}{H0 H:Hp}{fs:List (Str × V)}(h0:H0 x=none)(h1:H0 dx=none)(e:H=upd (upd H0 dx (.own x)) x (.ins C dx [])):ay H0 (upd H x (.ins C dx fs)):=λb o z=>by
 rw[aq (au z h0),e,aq (au z h0),aq (au z h1)];exact z
def sr(K:PySem.W.Frag):Sp:=λvs H Q _=>∃(x C dx:Addr) (nm kp:V) (g l:V),vs=[.ref x,nm,kp,g,l]/\CF K C/\H x=some (.ins C dx [])/\Q .non (upd H x (.ins C dx [("name",nm),("keep",kp),("grace",g),("slow",l)]))
theorem zl(F:aM K "__init__" "Leaf.__init__" fW dV f fd)(k_Child___init__:Cmt P w K mg base true 1 "Child" "__init__" (sg K) []):aB P w K mg base (CXE P w) true 2 f fd cC (sr K):=by
 rcases pE,(aa (br (A7 k_Child___init__ (hr.mono (by omega)) (by rfl) bM {pv 0,pv 1,pv 2}))
   (aa (ia (pv 0) (pv 3) rfl)
   (ag (ia (pv 0) (pv 4) rfl)))) with⟨x,C,dx,nm,kp,g,l,rfl,hc,hx,k⟩
 lk;refine ex5 x C dx nm kp (an4 rfl hc hx ?_);lk;refine sY ae hc.cl hc.n3 (by show 2 < 1000;decide) ?_;lk;refine sY ae hc.cl hc.n4 (by show 3 < 1000;decide) ?_;rw[jG,jG];exact k
theorem II(hc:CF K (p.c 0))(h0:p.pr 0)(F:aB P w K mg base (CXE P w) true 2 f fd cC (sr K)):aB P w K mg base (CXE P w) true 2 f fd cC (wx p.rep (p.c 0) EJ):=by
 refine F.imp λvs H Q E h=> ?_;obtain⟨x,dx,H0,us,s,rfl,⟨nm,kp,g,l,rfl,rfl,ok⟩,h1,h2,ne,e,k⟩:=h;refine ex7 x (p.c 0) dx _ _ _ _ (an4 rfl hc (by rw[e];exact ae) (k _ (made h1 h2 e) ⟨ok,h0,dx,?_⟩));rw[ae]
 rfl
def ya(K:PySem.W.Frag):Sp:=λvs H Q _=>∃(x C dx:Addr) (nm kp:V) (m g l:V),vs=[.ref x,nm,kp,m,g,l]/\CF K C/\H x=some (.ins C dx [])/\Q .non (upd H x (.ins C dx [("name",nm),("keep",kp),("grace",g),("slow",l),("many",m)]))
theorem zt(F:aM K "__init__" "Worker.__init__" eK dV f fd)(k_Leaf___init__:Cmt P w K mg base true 2 "Leaf" "__init__" (sr K) []):aB P w K mg base (CXE P w) true 3 f fd bg (ya K):=by
 rcases ny,(aa (br (A7 k_Leaf___init__ (hr.mono (by omega)) (by rfl) bM {pv 0,pv 1,pv 2,pv 4,pv 5}))
   (ag (ia (pv 0) (pv 3) rfl))) with⟨x,C,dx,nm,kp,m,g,l,rfl,hc,hx,k⟩
 lk;refine ex7 x C dx nm kp g l (an4 rfl hc hx ?_);lk;refine sY ae hc.cl hc.n5 (by show 4 < 1000;decide) ?_;rw[jG];exact k
theorem Dl(hc:CF K (p.c 1))(h0:p.pr 1)(F:aB P w K mg base (CXE P w) true 3 f fd bg (ya K)):aB P w K mg base (CXE P w) true 3 f fd bg (wx p.rep (p.c 1) zq):=by
 refine F.imp λvs H Q E h=> ?_;obtain⟨x,dx,H0,us,s,rfl,⟨nm,kp,m,g,l,rfl,rfl,ok⟩,h1,h2,ne,e,k⟩:=h;refine ex8 x (p.c 1) dx _ _ _ _ _ (an4 rfl hc (by rw[e];exact ae) (k _ (made h1 h2 e) ⟨ok,h0,dx,?_⟩));rw[ae]
 rfl
theorem DU(hc:CF K (p.c 2))(h0:p.pr 2)(F:aB P w K mg base (CXE P w) true 3 f fd bg (ya K)):aB P w K mg base (CXE P w) true 3 f fd bg (wx p.rep (p.c 2) Ag):=by
 refine F.imp λvs H Q E h=> ?_;obtain⟨x,dx,H0,us,s,rfl,⟨nm,kp,m,g,l,rfl,rfl,ok⟩,h1,h2,ne,e,k⟩:=h;refine ex8 x (p.c 2) dx _ _ _ _ _ (an4 rfl hc (by rw[e];exact ae) (k _ (made h1 h2 e) ⟨ok,h0,dx,?_⟩));rw[ae]
 rfl
def CK(K:PySem.W.Frag):Sp:=λvs H Q _=>∃(x C dx:Addr) (nm kp:V) (g l:V),vs=[.ref x,nm,kp,g,l]/\CF K C/\H x=some (.ins C dx [])/\Q .non (upd H x (.ins C dx [("name",nm),("keep",kp),("most",g),("span",l)]))
theorem uK(F:aM K "__init__" "Minder.__init__" eG dV f fd)(k_Child___init__:Cmt P w K mg base true 1 "Child" "__init__" (sg K) []):aB P w K mg base (CXE P w) true 2 f fd bS (CK K):=by
 rcases mE,(aa (br (A7 k_Child___init__ (hr.mono (by omega)) (by rfl) bM {pv 0,pv 1,pv 2}))
   (aa (ia (pv 0) (pv 3) rfl)
   (ag (ia (pv 0) (pv 4) rfl)))) with⟨x,C,dx,nm,kp,g,l,rfl,hc,hx,k⟩
 lk;refine ex5 x C dx nm kp (an4 rfl hc hx ?_);lk;refine sY ae hc.cl hc.n6 (by show 2 < 1000;decide) ?_;lk;refine sY ae hc.cl hc.n7 (by show 3 < 1000;decide) ?_;rw[jG,jG];exact k
theorem qv{j:Nat}(h3:3<=j)(hc:CF K (p.c j))(h0:p.pr j)(F:aB P w K mg base (CXE P w) true 2 f fd bS (CK K)):aB P w K mg base (CXE P w) true 2 f fd bS (wx p.rep (p.c j) (nW j)):=by
 refine F.imp λvs H Q E h=> ?_;obtain⟨x,dx,H0,us,s,rfl,⟨nm,kp,g,l,rfl,rfl,ok⟩,h1,h2,ne,e,k⟩:=h;refine ex7 x (p.c j) dx _ _ _ _ (an4 rfl hc (by rw[e];exact ae) (k _ (made h1 h2 e) ⟨ok,h0,dx,?_⟩));rw[ae,xm h3 ok]
theorem uG{j:Nat}(F:aM K "leaf" "Leaf.leaf" kQ dV f fd)(hj:p.pr j)(h3:j < 3):aB P w K mg base (CXE P w) true 1 f fd kn (nD p.rep (p.c j)):=by
 refine F.okN yy (λvs H Q E h=> ?_) (λcdv A outer s H vs Q E hr h=> ?_)
 .obtain ⟨a,dx,fs,s,rfl,_⟩:=h
  rfl
 .obtain ⟨a,dx,fs,s,rfl,hR,hi,k⟩:=h;obtain⟨e,rfl,ok⟩:=mh hj hR hi;refine⟨_,(ag (ao vD)),?_⟩
  fin2
  have k:=k _ (ay.refl _);rw[decide_eq_true (by lia)] at k;exact k
theorem tT{j:Nat}(F:aM K "leaf" "Minder.leaf" iX dV f fd)(hj:p.pr j)(h3:3<=j):aB P w K mg base (CXE P w) true 1 f fd iW (nD p.rep (p.c j)):=by
 refine F.okN tI (λvs H Q E h=> ?_) (λcdv A outer s H vs Q E hr h=> ?_)
 .obtain ⟨a,dx,fs,s,rfl,_⟩:=h
  rfl
 .obtain ⟨a,dx,fs,s,rfl,hR,hi,k⟩:=h;obtain⟨e,rfl,ok⟩:=mh hj hR hi;refine⟨_,(ag (ao vD)),?_⟩
  fin2
  have k:=k _ (ay.refl _);rw[decide_eq_false (by lia)] at k;exact k
def ra(s:Sh):List Str:=match s.kind with
 | 0=>["idle"]
 | 1=>["steady",bE s.many]
 | _=>["falls",bE s.many]
def mX(R:Rep)(C:Addr):Sp:=λvs H Q _=>∃(a dx:Addr) (fs:List (Str × V)) (s:Sh),vs=[.ref a]/\R H a s/\H a=some (.ins C dx fs)/\s.kind < 3∧
 ∀(q:Addr) (H':Hp),ay H H'->H q=none->H' q=some (.lst ((ra s).map V.str))->Q (.ref q) H'
theorem Fy(F:aM K "work_words" "Leaf.work_words" eJ dV f fd)(hj:p.pr 0):aB P w K mg base (CXE P w) true 1 f fd er (mX p.rep (p.c 0)):=by
 refine F.okN nB (λvs H Q E h=> ?_) (λcdv A outer s H vs Q E hr h=> ?_)
 .obtain ⟨a,dx,fs,s,rfl,_⟩:=h
  rfl
 .obtain ⟨a,dx,fs,s,rfl,hR,hi,h3,k⟩:=h;obtain⟨e,rfl,ok⟩:=mh hj hR hi;refine⟨_,(ag (ao (az {(ai)}))),?_⟩
  fin2
  refine⟨l8 (show 1<=100 by decide),λq hq=>k q _ (ah hq) hq ?_⟩;rw[ae];unfold ra;rw[e]
  rfl
theorem ES(F:aM K "work_words" "Steady.work_words" dB dV f fd)(T:Txt mg)(hj:p.pr 1)(hc:CF K (p.c 1)):aB P w K mg base (CXE P w) true 1 f fd dH (mX p.rep (p.c 1)):=by
 refine F.okN kW (λvs H Q E h=> ?_) (λcdv A outer s H vs Q E hr h=> ?_)
 .obtain ⟨a,dx,fs,s,rfl,_⟩:=h
  rfl
 .obtain ⟨a,dx,fs,s,rfl,hR,hi,h3,k⟩:=h;obtain⟨e,rfl,ok⟩:=mh hj hR hi;refine⟨_,(ag (ao (az {(ai),a9 aU (by rfl) T.jn eR {a8 (pv 0) rfl}}))),?_⟩
  fin2
  refine⟨_,rfl,a,p.c 1,dx,_,_,rfl,hi,hc.cl,hc.n5,CU (.inl e),_,rfl,bK ok.m0 ok.m1,l8 (show 2<=100 by decide),λq hq=>k q _ (ah hq) hq ?_⟩;rw[ae];unfold ra;rw[e]
  rfl
theorem F6(F:aM K "work_words" "Faller.work_words" dF dV f fd)(T:Txt mg)(hj:p.pr 2)(hc:CF K (p.c 2)):aB P w K mg base (CXE P w) true 1 f fd dI (mX p.rep (p.c 2)):=by
 refine F.okN kX (λvs H Q E h=> ?_) (λcdv A outer s H vs Q E hr h=> ?_)
 .obtain ⟨a,dx,fs,s,rfl,_⟩:=h
  rfl
 .obtain ⟨a,dx,fs,s,rfl,hR,hi,h3,k⟩:=h;obtain⟨e,rfl,ok⟩:=mh hj hR hi;refine⟨_,(ag (ao (az {(ai),a9 aU (by rfl) T.jn eR {a8 (pv 0) rfl}}))),?_⟩
  fin2
  refine⟨_,rfl,a,p.c 2,dx,_,_,rfl,hi,hc.cl,hc.n5,CU (.inr e),_,rfl,bK ok.m0 ok.m1,l8 (show 2<=100 by decide),λq hq=>k q _ (ah hq) hq ?_⟩;rw[ae];unfold ra;rw[e]
  rfl
theorem Bk{s:Sh}(h:s.kind < 3):words s=[("leaf":Str),s.keep,bE s.cg,bE s.eC]++ra s:=by
 unfold words ra;have:s.kind=0\/s.kind=1\/s.kind=2:=by lia
 rcases this with z | z | z <;> rw[z] <;> rfl
theorem EZ(s:Sh):(ra s).length<=2:=by
 unfold ra
 split <;> simp
theorem qh{j:Nat}(F:aM K "words" "Leaf.words" jO dV f fd)(T:Txt mg)(hj:p.pr j)(h3:j < 3)(hc:CF K (p.c j))(hs:gL P w K mg base 1 "work_words" (mX p.rep) λC=>C=p.c j):
  aB P w K mg base (CXE P w) true 2 f fd jv (sj p.rep (p.c j)):=by
 refine F.okN vY (λvs H Q E h=> ?_) (λcdv A outer s H vs Q E hr h=> ?_)
 .obtain ⟨a,dx,fs,s,rfl,_⟩:=h
  rfl
 .obtain ⟨a,dx,fs,s,rfl,hR,hi,k⟩:=h;have d_work_words:=hs.d;obtain⟨e,rfl,ok⟩:=mh hj hR hi;have h3:s.kind < 3:=by lia
  refine⟨_,(ag (ao (ak dG (az {(ai),a8 (pv 0) rfl,a9 aU (by rfl) T.jn eR {a8 (pv 0) rfl},a9 aU (by rfl) T.jn eR {a8 (pv 0) rfl}}) (uz (pv 0) d_work_words)))),?_⟩
  fin2
  refine⟨_,rfl,a,p.c j,dx,_,_,rfl,hi,hc.cl,hc.n2,Ck _,_,rfl,a,p.c j,dx,_,_,rfl,hi,hc.cl,hc.n3,Ft h3,_,rfl,bK ok.g0 ok.g1,_,rfl,a,p.c j,dx,_,_,rfl,hi,hc.cl,hc.n4,Hj h3,_,rfl,bK ok.s0 ok.s1,
   l8 (show 4<=100 by decide),λu hu=> ?_⟩
  have s0:ay H (upd H u (.lst [V.str "leaf",.str s.keep,.str (bE s.cg),.str (bE s.eC)])):=ah hu;refine⟨_,rfl,a,p.c j,dx,_,_,_,rfl,s0 _ _ hi,⟨rfl,rfl,rfl⟩,(by unfold lX;split <;> rfl),a,dx,_,s,rfl,Pl.mono s0 hR,s0 _ _ hi,h3,λq H1 s1 hq1 hq2=> ?_⟩
  have hu1:=s1 _ _ (ae (H:=H) (a:=u));refine ex4 u q _ _ (an6 rfl rfl hu1 hq2 ?_ (λy hy=> ?_))
  .rw [List.length_map];have:=EZ s;exact l8 (by show 4 + _<=100;lia)
  .refine k y _ ((s0.trans s1).trans (ah hy)) ((s0.trans s1).free hy) ?_;rw[ae,Bk h3,List.map_append]
   rfl
def FN:Nat->Str
 | 3=>"one"
 | 4=>"all"
 | _=>"rest"
def tu(R:Rep)(C:Addr):Sp:=λvs H Q _=>∃(a dx:Addr) (fs:List (Str × V)) (s:Sh),vs=[.ref a]/\R H a s/\H a=some (.ins C dx fs)/\Q (.str (FN s.kind)) H
theorem HI(F:aM K "way" "Minder.way" jH dV f fd)(hj:p.pr 3):aB P w K mg base (CXE P w) true 1 f fd jR (tu p.rep (p.c 3)):=by
 refine F.okN wg (λvs H Q E h=> ?_) (λcdv A outer s H vs Q E hr h=> ?_)
 .obtain ⟨a,dx,fs,s,rfl,_⟩:=h
  rfl
 .obtain ⟨a,dx,fs,s,rfl,hR,hi,k⟩:=h;obtain⟨e,rfl,ok⟩:=mh hj hR hi;refine⟨_,(ag (ao ai)),?_⟩
  fin2
  rw[e] at k;exact k
theorem Hv(F:aM K "way" "AllMinder.way" fU dV f fd)(hj:p.pr 4):aB P w K mg base (CXE P w) true 1 f fd gh (tu p.rep (p.c 4)):=by
 refine F.okN p0 (λvs H Q E h=> ?_) (λcdv A outer s H vs Q E hr h=> ?_)
 .obtain ⟨a,dx,fs,s,rfl,_⟩:=h
  rfl
 .obtain ⟨a,dx,fs,s,rfl,hR,hi,k⟩:=h;obtain⟨e,rfl,ok⟩:=mh hj hR hi;refine⟨_,(ag (ao ai)),?_⟩
  fin2
  rw[e] at k;exact k
theorem Il(F:aM K "way" "RestMinder.way" eX dV f fd)(hj:p.pr 5):aB P w K mg base (CXE P w) true 1 f fd eS (tu p.rep (p.c 5)):=by
 refine F.okN oF (λvs H Q E h=> ?_) (λcdv A outer s H vs Q E hr h=> ?_)
 .obtain ⟨a,dx,fs,s,rfl,_⟩:=h
  rfl
 .obtain ⟨a,dx,fs,s,rfl,hR,hi,k⟩:=h;obtain⟨e,rfl,ok⟩:=mh hj hR hi;refine⟨_,(ag (ao ai)),?_⟩
  fin2
  rw[e] at k;exact k
theorem yD{s:Sh}(h:3<=s.kind)(ok:OkS s):words s=[("minder":Str),s.keep,FN s.kind,bE s.cg,bE s.eC]:=by
 unfold words FN;have:s.kind=3\/s.kind=4\/s.kind=5:=by have:=ok.kd;lia
 rcases this with z | z | z <;> rw[z] <;> rfl
theorem pZ{j:Nat}(F:aM K "words" "Minder.words" ie dV f fd)(T:Txt mg)(hj:p.pr j)(h3:3<=j)(hc:CF K (p.c j))(hs:gL P w K mg base 1 "way" (tu p.rep) λC=>C=p.c j):
  aB P w K mg base (CXE P w) true 2 f fd hW (sj p.rep (p.c j)):=by
 refine F.okN rD (λvs H Q E h=> ?_) (λcdv A outer s H vs Q E hr h=> ?_)
 .obtain ⟨a,dx,fs,s,rfl,_⟩:=h
  rfl
 .obtain ⟨a,dx,fs,s,rfl,hR,hi,k⟩:=h;have d_way:=hs.d;obtain⟨e,rfl,ok⟩:=mh hj hR hi;have h3:3<=s.kind:=by lia
  have fm:=xm h3 ok;refine⟨_,(ag (ao (az {(ai),a8 (pv 0) rfl,uz (pv 0) d_way,a9 aU (by rfl) T.jn eR {a8 (pv 0) rfl},a9 aU (by rfl) T.jn eR {a8 (pv 0) rfl}}))),?_⟩
  fin2
  refine⟨_,rfl,a,p.c j,dx,_,_,rfl,hi,hc.cl,hc.n2,Ck _,_,rfl,a,p.c j,dx,_,_,_,rfl,hi,⟨rfl,rfl,rfl⟩,(by rw[fm];rfl),a,dx,_,s,rfl,hR,hi,_,rfl,a,p.c j,dx,_,.int s.cg,rfl,hi,hc.cl,hc.n6,(by rw[fm];rfl),_,rfl,bK ok.g0 ok.g1,
   _,rfl,a,p.c j,dx,_,.int s.eC,rfl,hi,hc.cl,hc.n7,(by rw[fm];rfl),_,rfl,bK ok.s0 ok.s1,l8 (show 5<=100 by decide),λq hq=>k q _ (ah hq) hq ?_⟩
  rw[ae,yD h3 ok]
  rfl
open PySem L2 Shp Nm Tr Hs PySem.NumText
abbrev ED:List Str:=["text","signs"]
abbrev wO:List Str:=["text","signs"]
theorem AN:aw ED wO (aj pQ):=by kt_ors
abbrev uf:List Str:=["text"]
abbrev ki:List Str:=["text"]
theorem rF:aw uf ki (aj gX):=by kt_ors
abbrev Ab:List Str:=["text","most","bound"]
abbrev iG:List Str:=["text","most"]
theorem gF:aw Ab iG (aj ip):=by kt_ors
abbrev Dn:List Str:=["text"]
abbrev xB:List Str:=["text"]
theorem A6:aw Dn xB (aj pP):=by kt_ors
abbrev Ex:List Str:=["words","name","keep","grace","slow","work","many"]
abbrev qt:List Str:=["words"]
theorem bh:aw Ex qt (aj lF):=by kt_ors
abbrev zu:List Str:=["words","name","keep","way","most","span"]
abbrev kx:List Str:=["words"]
theorem aZ:aw zu kx (aj iz):=by kt_ors
abbrev rT:List Str:=["words"]
abbrev gj:List Str:=["words"]
theorem jj:aw rT gj (aj dR):=by kt_ors
abbrev BW:List Str:=["words"]
abbrev nH:List Str:=["words"]
theorem rj:aw BW nH (aj jF):=by kt_ors
abbrev oQ:List Str:=["self","row"]
abbrev bW:List Str:=["self","row"]
theorem nz:aw oQ bW (aj eO):=by kt_ors
abbrev rE:List Str:=["self"]
abbrev fV:List Str:=["self"]
theorem qA:aw rE fV (aj fZ):=by kt_ors
abbrev xU:List Str:=["self"]
abbrev oJ:List Str:=["self"]
theorem wo:aw xU oJ (aj jK):=by kt_ors
abbrev zi:List Str:=["self","child","blanks","above"]
abbrev qZ:List Str:=["self","child","blanks","above"]
theorem x4:aw zi qZ (aj kG):=by kt_ors
abbrev lS:List Str:=["self","blanks","place","fits"]
abbrev dE:List Str:=["self","blanks"]
theorem bb:aw lS dE (aj b9):=by kt_ors
abbrev wu:List Str:=["row","rest"]
abbrev mj:List Str:=["row"]
theorem kg:aw wu mj (aj iU):=by kt_ors
abbrev Bb:List Str:=["row"]
abbrev sR:List Str:=["row"]
theorem zg:aw Bb sR (aj mH):=by kt_ors
abbrev vx:List Str:=["row"]
abbrev ky:List Str:=["row"]
theorem rz:aw vx ky (aj g9):=by kt_ors
abbrev wd:List Str:=["tree","child","blanks","above"]
abbrev iQ:List Str:=["tree","child","blanks","above"]
theorem kY:aw wd iQ (aj fG):=by kt_ors
abbrev mz:List Str:=["tree","row","number","child","blanks","above"]
abbrev m7:List Str:=["tree","row","number"]
theorem cu:aw mz m7 (aj cZ):=by kt_ors
abbrev KI:List Str:=["text","tree","number","row"]
abbrev Bh:List Str:=["text"]
theorem il:aw KI Bh (aj yr):=by kt_ors
abbrev wz:List Str:=["child","blanks"]
abbrev mx:List Str:=["child","blanks"]
theorem uC:aw wz mx (aj iT):=by kt_ors
abbrev DB:List Str:=["tree","rows"]
abbrev xh:List Str:=["tree"]
theorem u6:aw DB xh (aj pI):=by kt_ors
theorem da{n:Nat}(h:n<=100010):n<=sizeLine:=by rw[sizeLine_eq];lia
def uc:Sp:=λvs H Q _=>∃x y:Str,vs=[.str x,.str y]/\x.length<=100000/\∀H',ay H H'->Q (.bl ((cds x).all λc=>(cds y).contains c)) H'
theorem Du(F:aM K "made_of" "made_of" pQ dV f fd)(T:Txt mg):aB P w K mg base (CXE P w) true 1 f fd wO uc:=by
 rcases AN,(ag (ao (aE (FC rfl) (by rfl) T.LD JB {y4 (x:="sign") (fr:=[("signs",1)]) (by kd_p) rfl (Jw (pv 0)) (λ_ _ _ _=>pw) (λ_ _ _ _=>(Cd Ec (pv 0) (pv 1) (by with_unfolding_all rfl)))}))) with⟨x,y,rfl,hx,k⟩;have hz:=aA x;lk;refine ff (J:=Its x) (n:=x.length) (λi ys H'=>H'=H/\ys=((cds x).take i).map λc=>V.bl ((cds y).contains c)) ⟨rfl,rfl⟩ (λi ys H' hi _=>hi) (λys H' _=>rfl) ?_ ?_
 .rintro i ys H' v H2 hi ⟨rfl,rfl⟩ ⟨rfl,c,hc,rfl⟩;have hc:(cds x)[i]? =some c:=by rw[<- hc];exact Array.getElem?_toList
  lk;rw[JC];refine⟨?_,rfl,?_⟩
  .rw [List.length_map,List.length_take,sizeLine_eq]
   lia
  .rw [List.take_add_one,hc,List.map_append]
   rfl
 .rintro ys H' ⟨rfl,rfl⟩;rw[show x.length=(cds x).length from hz.symm,List.take_length];refine⟨da (by rw[List.length_map];lia),λq hq=> ?_⟩;refine⟨q,(cds x).map λc=>(cds y).contains c,rfl,?_,?_⟩
  .rw [List.map_map];exact SqL.of ae
  .rw [List.all_map];exact k _ (ah hq)
def nmB(x:Str):Bool:=decide (1<=x.length) && decide (x.length<=12) && (cds x).all zc
def vt:Sp:=λvs H Q _=>∃x:Str,vs=[.str x]/\x.length<=100000/\∀H',ay H H'->Q (.bl (nmB x)) H'
theorem JG:("abcdefghijklmnopqrstuvwxyz":Str)++("0123456789":Str)="abcdefghijklmnopqrstuvwxyz0123456789":=by decide +kernel
theorem DX{tL tN tF:Tok}(F:aM K "is_name" "is_name" pP dV f fd)(T:Txt mg)(ql:mg "LETTERS"=some (.str "abcdefghijklmnopqrstuvwxyz" tL))(pN:mg "LONGEST"=some (.int 12 tN))(gP:mg "FIGURES"=some (.str "0123456789" tF))
  (gM:Cal P w K mg base true 1 "made_of" uc []):aB P w K mg base (CXE P w) true 2 f fd xB vt:=by
 refine F.pf A6 λvs H Q E h=> ?_;obtain⟨x,rfl,hx,k⟩:=h;refine⟨rfl,λcdv A outer s hr=>⟨_,(ag (ao (fh (Gz jg GD af (aE gD (by rfl) T.d0 cn {pv 0}) (dj (by rfl) pN)) (fX (bD gM {pv 0,ak aG (xP (by rfl) ql) (xP (by rfl) gP)}))))),?_⟩⟩
 fin2
 have fl:Q (.bl (nmB x)) H:=k _ (ay.refl _);lk;refine⟨da (by lia),?_⟩;lk;refine aV (λe1=> ?_) (λe1=> ?_)
 .have e1:(0:Int) < (x.length:Int):=of_decide_eq_true e1;lk;refine aV (λe2=> ?_) (λe2=> ?_)
  .have e2:(x.length:Int)<=12:=of_decide_eq_true e2;lk;refine⟨by decide +kernel,?_⟩;lk;refine⟨hx,λH1 s1=> ?_⟩;rw[JG]
   have:nmB x=(cds x).all λc=>(cds "abcdefghijklmnopqrstuvwxyz0123456789").contains c:=by
    unfold nmB;rw[decide_eq_true (show 1<=x.length by lia),decide_eq_true (show x.length<=12 by lia),Bool.true_and,Bool.true_and]
    congr 1
    funext c
    exact(JI c).symm
   rw[<- this];exact k _ s1
  .have e2:¬(x.length:Int)<=12:=λz=>e2 (decide_eq_true z)
   have:nmB x=false:=by
    unfold nmB;rw[decide_eq_false (show ¬x.length<=12 by lia),Bool.and_false,Bool.false_and]
   rw[this] at fl;lk;exact fl
 .have e1:¬(0:Int) < (x.length:Int):=λz=>e1 (decide_eq_true z)
  have:nmB x=false:=by
   unfold nmB;rw[decide_eq_false (show ¬1<=x.length by lia),Bool.false_and,Bool.false_and]
  rw[this] at fl;lk;exact fl
def AU:Sp:=λvs H Q _=>∃x:Str,vs=[.str x]/\x.length<=100000/\∀H',ay H H'->Q (.bl (hG x)) H'
theorem IS{tM tF:Tok}(F:aM K "told_plainly" "told_plainly" gX dV f fd)(T:Txt mg)(gU:mg "MOST_FIGURES"=some (.int 7 tM))(gP:mg "FIGURES"=some (.str "0123456789" tF))
  (gM:Cal P w K mg base true 1 "made_of" uc []):aB P w K mg base (CXE P w) true 2 f fd ki AU:=by
 refine F.pf rF λvs H Q E h=> ?_;obtain⟨x,rfl,hx,k⟩:=h
 refine⟨rfl,λcdv A outer s hr=>⟨_,(aa (aD (PW.pt (g7 (zct a0 (pv 0) ai) (gg (zct CS (aE gD (by rfl) T.d0 cn {pv 0}) (dj (by rfl) gU))))) (ag (ao vD)) ar)
   (aa (aD (PW.pt (AW (zct a0 (iq (pv 0) af (λ_ _=>rfl)) ai) (yt (zct sO (pv 0) ai)))) (ag (ao vD)) ar)
   (ag (ao (bD gM {pv 0,xP (by rfl) gP}))))),?_⟩⟩
 fin2
 have no:hG x=false->Q (.bl false) H:=λz=>by
  have:=k H (ay.refl _);rw[z] at this;exact this
 lk;refine aV (λe=> ?_) (λe=> ?_)
 .have e:x="":=V.str.inj (of_decide_eq_true e);refine no ?_;subst e
  rfl
 have e:x≠"":=λz=>e (decide_eq_true (congrArg V.str z));have ne:cds x≠[]:=λz=>e (iw z);lk;refine⟨da (by lia),?_⟩;lk;refine aV (λe2=> ?_) (λe2=> ?_)
 .have e2:(7:Int) < (x.length:Int):=of_decide_eq_true e2;refine no ?_;unfold hG;rw[decide_eq_false (show ¬x.length<=7 by lia),Bool.and_false,Bool.false_and,Bool.false_and]
 have e2:¬(7:Int) < (x.length:Int):=λz=>e2 (decide_eq_true z)
 obtain⟨c,r,hc⟩:∃c r,cds x=c::r:=by
  cases z:cds x with
  | nil=>exact absurd z ne
  | cons c r=>exact⟨c,r,rfl⟩
 have h0:x.cps[0]? =some c:=by rw[<- Array.getElem?_toList];show(cds x)[0]? =_;rw[hc];rfl
 have lp:0 < x.length:=by rw[<- aA,hc];exact Nat.succ_pos _
 lk;refine ex3 _ _ c (an7 rfl rfl (by lia) (by lia) (by show(0:Int) < (x.length:Int);lia) h0 ?_)
 have fin:((cds x).head? =some 48->cds x=[48])->∀H',ay H H'->Q (.bl ((cds x).all λc=>(cds "0123456789").contains c)) H':=λz H' s'=>by
  have:=k H' s';unfold hG at this;rw[decide_eq_true ne,decide_eq_true (show x.length<=7 by lia),decide_eq_true z,Bool.true_and,Bool.true_and,Bool.true_and] at this;have e:(λc=>(cds "0123456789").contains c)=kl:=funext IG;rw[e];exact this
 lk;refine aV (λe3=> ?_) (λe3=> ?_)
 .have e3:c=48:=by
   have z:=V.str.inj (of_decide_eq_true e3);have z:=congrArg cds z;exact List.head_eq_of_cons_eq z
  subst e3;lk;refine aV (λe4=> ?_) (λe4=> ?_)
  .refine no ?_
   have e4:x≠"0":=λz=>by
    rw[z] at e4;exact absurd e4 (by decide)
   have n48:¬((cds x).head? =some 48->cds x=[48]):=λz=>e4 (iw (z (by rw[hc];rfl)));unfold hG;rw[decide_eq_false n48,Bool.and_false,Bool.false_and]
  .have e4:x="0":=by
    by_cases z:x="0"
    .exact z
    .exact absurd (by simpa using z) e4
   lk;exact⟨hx,λH1 s1=>fin (λ_=>by rw[e4];rfl) H1 s1⟩
 .have e3:c≠48:=λz=>e3 (by subst z;exact decide_eq_true rfl);lk;exact⟨hx,λH1 s1=>fin (λz=>by rw[hc] at z;exact absurd (Option.some.inj z) e3) H1 s1⟩
def Cg:Sp:=λvs H Q _=>∃(x:Str) (v:Int),vs=[.str x,.int 1000000]/\numOf x=some v/\∀H',ay H H'->Q (.int v) H'
theorem Kn{tG:Tok}(F:aM K "number_in" "number_in" ip dV f fd)(T:Txt mg)(eZ:mg "GREATEST"=some (.int 1000000 tG))
  (cq:Cal P w K mg base true 2 "told_plainly" AU []):aB P w K mg base (CXE P w) true 3 f fd iG Cg:=by
 rcases gF,(aa (aL (i:=2) gF.nd (aE (wG rfl) (by rfl) T.Jk GC {pv 1,dj (by rfl) eZ}))
   (aa (aD (PW.pt (g7 (hJ (cc (bD cq {pv 0}))) (gg (zct CS (a9 fz (by rfl) T.B8 yV {pv 0}) (pv 2))))) (ag nQ) ar)
   (ag (ao (a9 fz (by rfl) T.B8 yV {pv 0}))))) with⟨x,v,rfl,hn,k⟩
 obtain⟨hp,hi,hl,h0,h1⟩:=dq hn;lk;refine⟨by lia,λH1 s1=> ?_⟩;rw[hp];lk;refine ex2 x v (an4 rfl hi (by lia) ?_);lk;refine aV (λe=> ?_) (λe=> ?_)
 .exact absurd (of_decide_eq_true e) (by lia)
 .lk;exact⟨x,v,rfl,hi,by lia,k _ s1⟩
theorem DH{x:Str}(h:hG x=true):∃v:Int,PySem.intText? x=some v/\x.length<=7/\0<=v/\(v<=1000000->numOf x=some v)/\(1000000 < v->numOf x=none):=by
 unfold hG at h;simp only [Bool.and_eq_true,decide_eq_true_iff] at h;obtain⟨⟨⟨h1,h2⟩,h3⟩,h4⟩:=h;refine⟨_,Ci h1 h4 (by lia),h2,Int.natCast_nonneg _,λz=> ?_,λz=> ?_⟩
 .unfold numOf;rw[if_pos ⟨h1,h4,h3,by lia⟩]
 .unfold numOf;rw[if_neg (λy=>by have:=y.2.2.2;lia)]
theorem EH{x:Str}(h:hG x=false):numOf x=none:=by
 cases z:numOf x with
 | none=>rfl
 | some v=>rw[(dq z).1] at h;cases h
def yd(cN:Addr):Sp:=λvs H Q E=>∃x:Str,vs=[.str x,.int 1000000]/\x.length<=100000/\(∀v,numOf x=some v->∀H',ay H H'->Q (.int v) H')/\(numOf x=none->∀H',ay H H'->E (.ref cN) none H')
theorem IL{tG:Tok}{cN:Addr}(F:aM K "number_in" "number_in" ip dV f fd)(T:Txt mg)(eZ:mg "GREATEST"=some (.int 1000000 tG))(bL:mg "NoNumber"=some (.ref cN))(bY:qd K cN)
  (cq:Cal P w K mg base true 2 "told_plainly" AU []):aB P w K mg base (CXE P w) true 3 f fd iG (yd cN):=by
 refine F.ok1 gF λvs H Q E y0=> ?_;obtain⟨x,rfl,hx,k1,k2⟩:=y0
 refine⟨rfl,λcdv A outer s hr=>⟨_,(aa (aL (i:=2) gF.nd (aE (wG rfl) (by rfl) T.Jk GC {pv 1,dj (by rfl) eZ}))
   (aa (aD (PW.pt (g7 (hJ (cc (bO cq (hr.mono (by omega)) (by rfl) (passes ax) {pv 0}))) (gg (zct CS (a9 fz (by rfl) T.B8 yV {pv 0}) (pv 2))))) (ag (sv rfl ax bY (by rfl) bL {yM (iD ai (iD (Fq (pv 2)) A3))})) ar)
   (ag (ao (a9 fz (by rfl) T.B8 yV {pv 0}))))),?_⟩⟩
 fin2
 have ml:(Str.empty++Str.ofString "not a number of at most "++Str.ofString (toString (1000000:Int))).length<=sizeLine:=aH (by decide +kernel);lk;refine⟨hx,λH1 s1=> ?_⟩;cases hp:hG x with
 | false=>
  have k2:=k2 (EH hp) H1 s1;lk;refine⟨aH (by decide +kernel),?_⟩;lk;exact .inl ⟨1000000,rfl,by decide,_,rfl,ml,ml,aH (by show 1<=1000;decide),k2⟩
 | true=>
  obtain⟨v,hi,hl,h0,a1,a2⟩:=DH hp;lk;refine ex2 x v (an4 rfl hi (by lia) ?_);lk;refine aV (λe=> ?_) (λe=> ?_)
  .have k2:=k2 (a2 (of_decide_eq_true e)) H1 s1;lk;refine⟨aH (by decide +kernel),?_⟩;lk;exact .inl ⟨1000000,rfl,by decide,_,rfl,ml,ml,aH (by show 1<=1000;decide),k2⟩
  .have e:¬(1000000:Int) < v:=λz=>e (decide_eq_true z);lk;exact⟨x,v,rfl,hi,by lia,k1 v (a1 (by lia)) H1 s1⟩
open PySem L2 Shp Nm Tr Hs PySem.NumText
structure MkT(P:Program)(w:World)(K:PySem.W.Frag)(mg:Str->Option Value)(base:Heap)(p:Pl)(k:Nat):Prop where
 leaf:Mak P w K mg base true k "Leaf" (p.c 0) (wx p.rep (p.c 0) EJ) []
 FK:Mak P w K mg base true k "Steady" (p.c 1) (wx p.rep (p.c 1) zq) []
 EN:Mak P w K mg base true k "Faller" (p.c 2) (wx p.rep (p.c 2) Ag) []
 one:Mak P w K mg base true k "Minder" (p.c 3) (wx p.rep (p.c 3) (nW 3)) []
 all:Mak P w K mg base true k "AllMinder" (p.c 4) (wx p.rep (p.c 4) (nW 4)) []
 rest:Mak P w K mg base true k "RestMinder" (p.c 5) (wx p.rep (p.c 5) (nW 5)) []
def oC(K:PySem.W.Frag)(p:Pl)(b:Option Bool):Sp:=λvs H Q _=>∃(q:Addr) (ws:List Str) (s:Sh),vs=[.ref q]/\SqL K H q (ws.map V.str)/\rowOf ws=some s/\(b=some true->ws.head? =some ("leaf":Str))/\(b=some false->ws.head? ≠some ("leaf":Str))/\(∀x∈ws,x.length<=100000)/\∀a H',ay H H'->H a=none->p.rep H' a s->Q (.ref a) H'
theorem cV{H H':Hp}{a:Addr}(e:ay H H')(h:H' a=none):H a=none:=by
 cases z:H a with
 | none=>rfl
 | some o=>rw[e _ _ z] at h;cases h
theorem lu(ws:List Str):(ws.map V.str).all dY=true:=List.all_eq_true.mpr λx hx=>by
 obtain⟨y,_,rfl⟩:=List.mem_map.mp hx
 rfl
theorem Dg(F:aM K "leaf_in" "leaf_in" lF dV f fd)(T:Txt mg)(M:MkT P w K mg base p 3)(c_number_in_1:Cal P w K mg base true 3 "number_in" Cg [.int 1000000]):aB P w K mg base (CXE P w) true 5 f fd qt (oC K p (some true)):=by
 refine F.okN bh (λvs H Q E h=> ?_) (λcdv A outer s0 H vs Q E hr h=> ?_)
 .obtain ⟨q,ws,s,rfl,_⟩:=h
  rfl
 .obtain ⟨q,ws,s,rfl,hS,hw,hd,_,hz,k⟩:=h;have m_Leaf_4:=M.leaf;have m_Steady_5:=M.FK;have m_Faller_5:=M.EN;have ok:=(BV hw).okS
  refine⟨_,(aa (aL (i:=1) bh.nd (zix av (pv 0) (iA eL af)))
   (aa (aL (i:=2) bh.nd (zix av (pv 0) af))
   (aa (aL (i:=3) bh.nd (bD c_number_in_1 {zix av (pv 0) af}))
   (aa (aL (i:=4) bh.nd (bD c_number_in_1 {zix av (pv 0) af}))
   (aa (aL (i:=5) bh.nd (gW jw (pv 0) (gC af) (gC (iA eL af))))
   (aa (aD (zct (pK (pA hr)) (pv 5) (az {(ai)})) (ag (ao (fY m_Leaf_4 (hr.mono (by omega)) (by rfl) bM {pv 1,pv 2,pv 3,pv 4}))) ar)
   (aa (aD (zct sO (aE aF (by rfl) T.d0 cn {pv 5}) af) (ag (ao bP)) ar)
   (aa (aL (i:=6) bh.nd (bD c_number_in_1 {zix av (pv 5) af}))
   (aa (aD (zct a0 (zix av (pv 5) af) ai) (ag (ao (fY m_Steady_5 (hr.mono (by omega)) (by rfl) bM {pv 1,pv 2,pv 6,pv 3,pv 4}))) ar)
   (aa (aD (zct a0 (zix av (pv 5) af) ai) (ag (ao (fY m_Faller_5 (hr.mono (by omega)) (by rfl) bM {pv 1,pv 2,pv 6,pv 3,pv 4}))) ar)
   (ag (ao bP)))))))))))),?_⟩
  fin2
  rcases ue hw (hd rfl) with⟨kp,g,l,nm,gi,li,rfl,c1,c2,eg,el,rfl⟩ | ⟨kp,g,l,wk,m,nm,gi,li,mi,kd,rfl,c1,c2,ck,eg,el,em,rfl⟩
  .lk;refine ex4 q _ _ (V.str nm) (an5 rfl rfl hS rfl ?_);lk;refine ex4 q _ _ (V.str kp) (an5 rfl rfl hS rfl ?_);lk;refine ex4 q _ _ (V.str g) (an5 rfl rfl hS rfl ?_);refine ex2 g gi (an3 rfl eg (λH1 s1=> ?_));lk;refine ex4 q _ _ (V.str l) (an5 rfl rfl (hS.same s1) rfl ?_);refine ex2 l li (an3 rfl el (λH2 s2=> ?_));lk;refine ex2 q _ (an3 rfl ((hS.same s1).same s2) (λp1 hp1=> ?_));lk;refine⟨l8 (by decide),λp2 hp2=> ?_⟩;lk;refine ex4 p1 p2 ([V.str "idle"]) ([V.str "idle"]) (an7 rfl rfl (SqL.of (ah hp2 _ _ ae)) (SqL.of ae) rfl rfl ?_);lk;intro x dx n1 n2 n3;have sH:ay H (upd (upd H2 p1 (.lst [V.str "idle"])) p2 (.lst [V.str "idle"])):=λb o e=>ah hp2 _ _ (ah hp1 _ _ (s2 _ _ (s1 _ _ e)));exact⟨x,dx,_,_,_,rfl,⟨nm,kp,gi,li,rfl,rfl,ok⟩,n1,n2,n3,rfl,λH' s' r=>⟨rfl,k x H' (λb o e=>s' _ _ (sH _ _ e)) (cV sH n1) r⟩⟩
  .lk;refine ex4 q _ _ (V.str nm) (an5 rfl rfl hS rfl ?_);lk;refine ex4 q _ _ (V.str kp) (an5 rfl rfl hS rfl ?_);lk;refine ex4 q _ _ (V.str g) (an5 rfl rfl hS rfl ?_);refine ex2 g gi (an3 rfl eg (λH1 s1=> ?_));lk;refine ex4 q _ _ (V.str l) (an5 rfl rfl (hS.same s1) rfl ?_);refine ex2 l li (an3 rfl el (λH2 s2=> ?_));lk;refine ex2 q _ (an3 rfl ((hS.same s1).same s2) (λp1 hp1=> ?_));have w1:∀{Hx:Hp},ay (upd H2 p1 (.lst [V.str wk,V.str m])) Hx->Hx p1=some (.lst [V.str wk,V.str m]):=λz=>z _ _ ae;lk;refine⟨l8 (by decide),λp2 hp2=> ?_⟩;lk;refine ex4 p1 p2 ([V.str wk,V.str m]) ([V.str "idle"]) (an7 rfl rfl (SqL.of (ah hp2 _ _ ae)) (SqL.of ae) rfl rfl ?_)
   have ef:oj [V.str wk,V.str m] [V.str "idle"]=false:=by
    show(_ && false)=false;exact Bool.and_false _
   refine⟨_,rfl,?_⟩;refine aV (λe=> ?_) (λe=> ?_)
   .have e:oj [V.str wk,V.str m] [V.str "idle"]=true:=e;rw[ef] at e;cases e
   lk;have sH:ay H (upd (upd H2 p1 (.lst [V.str wk,V.str m])) p2 (.lst [V.str "idle"])):=λb o e=>ah hp2 _ _ (ah hp1 _ _ (s2 _ _ (s1 _ _ e)));refine ex2 p1 _ (an3 rfl (.inl (SqL.of (w1 (ah hp2)))) ?_);lk;refine ex4 p1 _ _ (V.str m) (an5 rfl rfl (SqL.of (w1 (ah hp2))) rfl ?_);refine ex2 m mi (an3 rfl em (λH3 s3=> ?_));have w3:=w1 (λb o e=>s3 _ _ (ah hp2 _ _ e));lk;refine ex4 p1 _ _ (V.str wk) (an5 rfl rfl (SqL.of w3) rfl ?_);rcases ck with⟨rfl,rfl⟩ | ⟨rfl,rfl⟩
   .lk;intro x dx n1 n2 n3;exact⟨x,dx,_,_,_,rfl,⟨nm,kp,mi,gi,li,rfl,rfl,ok⟩,n1,n2,n3,rfl,λH' s' r=>⟨rfl,k x H' (λb o e=>s' _ _ (s3 _ _ (sH _ _ e))) (cV (λb o e=>s3 _ _ (sH _ _ e)) n1) r⟩⟩
   .lk;refine ex4 p1 _ _ (V.str "falls") (an5 rfl rfl (SqL.of w3) rfl ?_);lk;intro x dx n1 n2 n3;exact⟨x,dx,_,_,_,rfl,⟨nm,kp,mi,gi,li,rfl,rfl,ok⟩,n1,n2,n3,rfl,λH' s' r=>⟨rfl,k x H' (λb o e=>s' _ _ (s3 _ _ (sH _ _ e))) (cV (λb o e=>s3 _ _ (sH _ _ e)) n1) r⟩⟩
theorem Es{tW:Tok}(F:aM K "minder_in" "minder_in" iz dV f fd)(T:Txt mg)(aJ:mg "FEWEST_WORDS"=some (.int 6 tW))(M:MkT P w K mg base p 3)(c_number_in_1:Cal P w K mg base true 3 "number_in" Cg [.int 1000000]):aB P w K mg base (CXE P w) true 5 f fd kx (oC K p (some false)):=by
 refine F.okN aZ (λvs H Q E h=> ?_) (λcdv A outer s0 H vs Q E hr h=> ?_)
 .obtain ⟨q,ws,s,rfl,_⟩:=h
  rfl
 .obtain ⟨q,ws,s,rfl,hS,hw,_,hd,hz,k⟩:=h;have m_Minder_4:=M.one;have m_AllMinder_4:=M.all;have m_RestMinder_4:=M.rest;have ok:=(BV hw).okS
  refine⟨_,(aa (aL (i:=1) aZ.nd (zix av (pv 0) (iA eL af)))
   (aa (aL (i:=2) aZ.nd (zix av (pv 0) af))
   (aa (aL (i:=3) aZ.nd (zix av (pv 0) af))
   (aa (aL (i:=4) aZ.nd (bD c_number_in_1 {zix av (pv 0) af}))
   (aa (aL (i:=5) aZ.nd (bD c_number_in_1 {zix av (pv 0) af}))
   (aa (aD (PW.pt (g7 (zct sO (aE aF (by rfl) T.d0 cn {pv 0}) (dj (by rfl) aJ)) (gg (zct a0 (pv 5) af)))) (ag (ao bP)) ar)
   (aa (aD (zct a0 (pv 3) ai) (ag (ao (fY m_Minder_4 (hr.mono (by omega)) (by rfl) bM {pv 1,pv 2,pv 4,pv 5}))) ar)
   (aa (aD (zct a0 (pv 3) ai) (ag (ao (fY m_AllMinder_4 (hr.mono (by omega)) (by rfl) bM {pv 1,pv 2,pv 4,pv 5}))) ar)
   (aa (aD (zct a0 (pv 3) ai) (ag (ao (fY m_RestMinder_4 (hr.mono (by omega)) (by rfl) bM {pv 1,pv 2,pv 4,pv 5}))) ar)
   (ag (ao bP))))))))))),?_⟩
  fin2
  obtain⟨kp,wy,m,sp,nm,mi,si,kd,rfl,c1,c2,ck,em,es,e0,rfl⟩:=nN hw (hd rfl);lk;refine ex4 q _ _ (V.str nm) (an5 rfl rfl hS rfl ?_);lk;refine ex4 q _ _ (V.str kp) (an5 rfl rfl hS rfl ?_);lk;refine ex4 q _ _ (V.str wy) (an5 rfl rfl hS rfl ?_);lk;refine ex4 q _ _ (V.str m) (an5 rfl rfl hS rfl ?_);refine ex2 m mi (an3 rfl em (λH1 s1=> ?_));lk;refine ex4 q _ _ (V.str sp) (an5 rfl rfl (hS.same s1) rfl ?_);refine ex2 sp si (an3 rfl es (λH2 s2=> ?_));lk;refine ex2 q _ (an3 rfl (.inl ((hS.same s1).same s2)) ?_);lk;refine aV (λe=> ?_) (λe=> ?_)
  .exact absurd (V.int.inj (of_decide_eq_true e)) e0
  have sH:ay H H2:=λb o e=>s2 _ _ (s1 _ _ e);rcases ck with⟨rfl,rfl⟩ | ⟨rfl,rfl⟩ | ⟨rfl,rfl⟩
  .lk;intro x dx n1 n2 n3;exact⟨x,dx,_,_,_,rfl,⟨nm,kp,mi,si,rfl,rfl,ok⟩,n1,n2,n3,rfl,λH' s' r=>⟨rfl,k x H' (λb o e=>s' _ _ (sH _ _ e)) (cV sH n1) r⟩⟩
  .lk;intro x dx n1 n2 n3;exact⟨x,dx,_,_,_,rfl,⟨nm,kp,mi,si,rfl,rfl,ok⟩,n1,n2,n3,rfl,λH' s' r=>⟨rfl,k x H' (λb o e=>s' _ _ (sH _ _ e)) (cV sH n1) r⟩⟩
  .lk;intro x dx n1 n2 n3;exact⟨x,dx,_,_,_,rfl,⟨nm,kp,mi,si,rfl,rfl,ok⟩,n1,n2,n3,rfl,λH' s' r=>⟨rfl,k x H' (λb o e=>s' _ _ (sH _ _ e)) (cV sH n1) r⟩⟩
theorem Bq(F:aM K "by_first_word" "by_first_word" dR dV f fd)(T:Txt mg)(c_leaf_in:Cal P w K mg base true 5 "leaf_in" (oC K p (some true)) [])(c_minder_in:Cal P w K mg base true 5 "minder_in" (oC K p (some false)) []):aB P w K mg base (CXE P w) true 6 f fd gj (oC K p none):=by
 refine F.okN jj (λvs H Q E h=> ?_) (λcdv A outer s0 H vs Q E hr h=> ?_)
 .obtain ⟨q,ws,s,rfl,_⟩:=h
  rfl
 .obtain ⟨q,ws,s,rfl,hS,hw,_,_,hz,k⟩:=h
  refine⟨_,(aa (aD (zct a0 (zix av (pv 0) af) ai) (ag (ao (bD c_leaf_in {pv 0}))) ar)
   (aa (aD (zct a0 (zix av (pv 0) af) ai) (ag (ao (bD c_minder_in {pv 0}))) ar)
   (ag (ao bP)))),?_⟩
  fin2
  obtain⟨a,r,rfl⟩:∃a r,ws=a::r:=by
   cases ws with
   | nil=>cases hw
   | cons a r=>exact⟨a,r,rfl⟩
  lk;refine ex4 q _ _ (V.str a) (an5 rfl rfl hS (aO (j:=0) rfl) ?_);lk;refine aV (λe=> ?_) (λe=> ?_)
  .have e:a="leaf":=V.str.inj (of_decide_eq_true e);lk;exact⟨q,_,s,rfl,hS,hw,λ_=>congrArg some e,λz=>(by cases z),hz,k⟩
  .have e:a≠"leaf":=λz=>e (decide_eq_true (congrArg V.str z))
   have em:a="minder":=by
    obtain⟨_,_,_,_,_,_,_,_,e1,_⟩:=nN hw (λz=>e (Option.some.inj z));exact(List.cons.inj e1).1
   lk;refine ex4 q _ _ (V.str a) (an5 rfl rfl hS (aO (j:=0) rfl) ?_);subst em;lk;exact⟨q,_,s,rfl,hS,hw,λz=>(by cases z),λ_ z=>e (Option.some.inj z),hz,k⟩
theorem LF{x:Str}(h:dA x):nmB x=true:=by
 unfold nmB;rw[decide_eq_true h.1,decide_eq_true h.2.1,h.2.2]
 rfl
theorem HE{x:Str}(h:bw x):inV (.str x) [V.str "always",V.str "fallen",V.str "never"]=true:=by
 rcases h with rfl | rfl | rfl <;> rfl
theorem sU{tW:Tok}{aK:Addr}(F:aM K "child_in" "child_in" jF dV f fd)(T:Txt mg)(aJ:mg "FEWEST_WORDS"=some (.int 6 tW))(jC:mg "KEEPS"=some (.ref aK))(jx:∀H:Hp,SqT K H aK [V.str "always",V.str "fallen",V.str "never"])
  {aN:Addr} (bL:mg "NoNumber"=some (.ref aN)) (bY:qd K aN) (fk:Cal P w K mg base true 2 "is_name" vt []) (c_by_first_word:Cal P w K mg base true 6 "by_first_word" (oC K p none) []):aB P w K mg base (CXE P w) true 7 f fd nH (oC K p none):=by
 refine F.okN rj (λvs H Q E h=> ?_) (λcdv A outer s0 H vs Q E hr h=> ?_)
 .obtain ⟨q,ws,s,rfl,_⟩:=h
  rfl
 .obtain ⟨q,ws,s,rfl,hS,hw,_,_,hz,k⟩:=h
  refine⟨_,(aa (aD (PW.pt (g7 (zct jg (aE aF (by rfl) T.d0 cn {pv 0}) (dj (by rfl) aJ)) (g7 (zct pd (zix av (pv 0) af) (gK (by rfl) jC)) (gg (hJ (cc (bD fk {zix av (pv 0) (iA eL af)}))))))) (ag (ao bP)) ar)
   (ag (Ba ⟨rfl,rfl,rfl⟩ (λD pn' E' hT hP=>(ag (ao (bO c_by_first_word (hr.mono (by omega)) (by rfl) (passes hT) {pv 0}))))
    ar
    (Fl ⟨rfl,rfl,rfl⟩ (by rfl) bL bY (λe=>(ag (ao bP)))
    xR)))),?_⟩
  fin2
  have l6:6<=ws.length:=by
   rcases qK hw with⟨a,b,c,d,e,g,rfl⟩ | ⟨a,b,c,d,e,g,i,rfl⟩
   .exact Nat.le_refl _
   .show 6<=7
    decide
  obtain⟨a,kp,r,nm,e1,e2,okk,okn⟩:∃(a kp:Str) (r:List Str) (nm:Str),ws=a::kp::r/\atI (ws.map V.str) (-1)=some (V.str nm)/\bw kp/\nm∈ws/\dA nm:=by
   by_cases z:ws.head? =some ("leaf":Str)
   .rcases ue hw z with⟨kp,g,l,nm,gi,li,rfl,c1,c2,_⟩ | ⟨kp,g,l,wk,m,nm,gi,li,mi,kd,rfl,c1,c2,_⟩
    .exact ⟨_,kp,_,nm,rfl,rfl,c1,by simp,c2⟩
    .exact ⟨_,kp,_,nm,rfl,rfl,c1,by simp,c2⟩
   .obtain ⟨kp,wy,m,sp,nm,mi,si,kd,rfl,c1,c2,_⟩:=nN hw z;exact⟨_,kp,_,nm,rfl,rfl,c1,by simp,c2⟩
  have dk:inV (.str kp) [V.str "always",V.str "fallen",V.str "never"]=true:=HE okk;lk;refine ex2 q _ (an3 rfl (.inl hS) ?_);lk;refine aV (λe=> ?_) (λe=> ?_)
  .have e:=of_decide_eq_true e;rw[List.length_map] at e;exact absurd e (by lia)
  lk;refine ex4 q _ _ (V.str kp) (an5 rfl rfl hS (aO (j:=1) (by rw[e1];rfl)) ?_);lk;refine ex2 aK _ (an5 rfl (.inr (jx _)) rfl rfl ?_);refine⟨_,rfl,?_⟩;refine aV (λe=> ?_) (λe=> ?_)
  .have e:(!inV (.str kp) [V.str "always",V.str "fallen",V.str "never"])=true:=e;rw[dk] at e;cases e
  lk;refine ex4 q _ _ (V.str nm) (an5 rfl rfl hS e2 ?_);lk;refine⟨hz nm okn.1,λH1 s1=> ?_⟩;rw[LF okn.2];lk;exact⟨q,ws,s,rfl,hS.same s1,hw,λz=>(by cases z),λz=>(by cases z),hz,λa H' s' n r=>k a H' (λb o e=>s' _ _ (s1 _ _ e)) (cV s1 n) r⟩
theorem aB.or{P:Program}{w:World}{K:PySem.W.Frag}{mg:Str->Option Value}{base:Heap}{CX:CXT}{cm:Bool}{k:Nat}{f:Addr}{fd:FuncData}{ps:List Str}{sp sp':Sp}(F:aB P w K mg base CX cm k f fd ps sp)(F':aB P w K mg base CX cm k f fd ps sp'):
  aB P w K mg base CX cm k f fd ps (λvs H Q E=>sp vs H Q E\/sp' vs H Q E):=
 ⟨λvs H Q E h=>h.elim (F.len _ _ _ _) (F'.len _ _ _ _),λA outer s H args us vs Q E hr he hb hv h=>h.elim (F.run A outer s H args us vs Q E hr he hb hv) (F'.run A outer s H args us vs Q E hr he hb hv)⟩
def pO(K:PySem.W.Frag)(b:Option Bool)(cN:Addr):Sp:=λvs H Q E=>∃(q:Addr) (a kp g s u:Str) (r:List Str) (nm:Str),vs=[.ref q]/\SqL K H q ((a::kp::g::s::(u::r++[nm])).map V.str)/\bw kp/\dA nm/\rowOf (a::kp::g::s::(u::r++[nm]))=none/\(b=some true->a="leaf")/\(b=some false->a="minder")∧
 (∀x∈a::kp::g::s::(u::r++[nm]),x.length<=100000)/\(∀H',ay H H'->Q .non H')/\∀H',ay H H'->E (.ref cN) none H'
theorem sT(a kp g s u:Str)(r:List Str)(nm:Str):atI ((a::kp::g::s::(u::r++[nm])).map V.str) (-1)=some (V.str nm):=by
 have:(a::kp::g::s::(u::r++[nm])).map V.str=(a::kp::g::s::u::r).map V.str++[V.str nm]:=by rw[<- List.map_singleton,<-List.map_append];rfl
 rw[this,FV]
theorem Gn(a kp g s u:Str)(r:List Str)(nm:Str):qx ((a::kp::g::s::(u::r++[nm])).map V.str) (some 4) (some (-1))=(u::r).map V.str:=by
 have e:(a::kp::g::s::(u::r++[nm])).map V.str=[V.str a,V.str kp,V.str g,V.str s]++((u::r).map V.str++[V.str nm]):=by
  show V.str a::V.str kp::V.str g::V.str s::(u::r++[nm]).map V.str=_;rw[List.map_append]
  rfl
 rw[e];have l:([V.str a,V.str kp,V.str g,V.str s]++((u::r).map V.str++[V.str nm])).length=4 + (u::r).length + 1:=by rw[List.length_append,List.length_append,List.length_map];rfl
 unfold qx;rw[l,show(some 4:Option Int)=some ((4:Nat):Int) from rfl,HT.Ii,show min 4 (4 + (u::r).length + 1)=4 by lia]
 have e2:HT.sIx (4 + (u::r).length + 1) (4 + (u::r).length + 1) (some (-1))=4 + (u::r).length:=by
  unfold HT.sIx;dsimp only;rw[if_pos (by decide)]
  lia
 rw[e2,show 4 + (u::r).length - 4=((u::r).map V.str).length by rw[List.length_map];lia];show List.take _ ((u::r).map V.str++[V.str nm])=_;rw[List.take_left]
theorem FX{a b:Int}(e:¬(!decide (V.int a=V.int b))=true):a=b:=by
 by_cases z:V.int a=V.int b
 .exact V.int.inj z
 .exact absurd (by rw[decide_eq_false z];rfl) e
theorem HY{us:List Str}(h:oj (us.map V.str) [V.str "idle"]=true):us=(["idle"]:List Str):=by
 match us,h with
 | [],h=>cases h
 | [x],h=>
  have h:(x == ("idle":Str) && true)=true:=h;rw[Bool.and_true,beq_iff_eq] at h;rw[h]
 | x::y::z,h=>
  have h:(x == ("idle":Str) && false)=true:=h;rw[Bool.and_false] at h;cases h
theorem A1{kp g s nm:Str}{gi si:Int}(h1:bw kp)(h2:dA nm)(hg:numOf g=some gi)(hs:numOf s=some si):rowOf (["leaf",kp,g,s,"idle",nm]:List Str)≠none:=by
 rw[Br,if_pos ⟨rfl,h1,rfl,h2⟩,hg,Option.bind_some,hs,Option.bind_some];exact λz=>by cases z
theorem uI{kp g s wk m nm:Str}{gi si mi:Int}(h1:bw kp)(h2:dA nm)(hw:wk="steady"\/wk="falls")(hg:numOf g=some gi)(hs:numOf s=some si)(hm:numOf m=some mi):rowOf ["leaf",kp,g,s,wk,m,nm]≠none:=by
 rw[AZ,if_pos ⟨rfl,h1,h2⟩];rcases hw with rfl | rfl
 .rw [if_pos rfl,Option.bind_some,hg,Option.bind_some,hs,Option.bind_some,hm,Option.bind_some];exact λz=>by cases z
 .rw [if_neg (by decide),if_pos rfl,Option.bind_some,hg,Option.bind_some,hs,Option.bind_some,hm,Option.bind_some];exact λz=>by cases z
theorem qC{kp wy m sp nm:Str}{mi si:Int}(h1:bw kp)(h2:dA nm)(hw:wy="one"\/wy="all"\/wy="rest")(hm:numOf m=some mi)(hs:numOf sp=some si)(h0:si≠0):rowOf ["minder",kp,wy,m,sp,nm]≠none:=by
 rw[uH _ _ _ _ _ h1 h2];obtain⟨k,hk⟩:∃k,zG wy=some k:=by rcases hw with rfl | rfl | rfl <;> exact⟨_,rfl⟩
 rw[hk,Option.bind_some,hm,Option.bind_some,hs,Option.bind_some,if_neg h0];exact λz=>by cases z
theorem Bp{cN:Addr}(F:aM K "leaf_in" "leaf_in" lF dV f fd)(T:Txt mg)(M:MkT P w K mg base p 3)(c_number_in_1:Cal P w K mg base true 3 "number_in" (yd cN) [.int 1000000]):aB P w K mg base (CXE P w) true 5 f fd qt (pO K (some true) cN):=by
 refine F.ok1 bh λvs H Q E y0=> ?_;obtain⟨q,a,kp,g,s,u,r,nm,rfl,hS,ckp,cnm,hw,hd,_,hz,k1,k2⟩:=y0;refine⟨rfl,λcdv A outer s0 hr=> ?_⟩;have m_Leaf_4:=M.leaf;have m_Steady_5:=M.FK;have m_Faller_5:=M.EN;obtain rfl:=hd rfl
 refine⟨_,(aa (aL (i:=1) bh.nd (zix av (pv 0) (iA eL af)))
   (aa (aL (i:=2) bh.nd (zix av (pv 0) af))
   (aa (aL (i:=3) bh.nd (bO c_number_in_1 (hr.mono (by omega)) (by rfl) (passes ax) {zix av (pv 0) af}))
   (aa (aL (i:=4) bh.nd (bO c_number_in_1 (hr.mono (by omega)) (by rfl) (passes ax) {zix av (pv 0) af}))
   (aa (aL (i:=5) bh.nd (gW jw (pv 0) (gC af) (gC (iA eL af))))
   (aa (aD (zct (pK (pA hr)) (pv 5) (az {(ai)})) (ag (ao (fY m_Leaf_4 (hr.mono (by omega)) (by rfl) (passes ax) {pv 1,pv 2,pv 3,pv 4}))) ar)
   (aa (aD (zct sO (aE aF (by rfl) T.d0 cn {pv 5}) af) (ag (ao bP)) ar)
   (aa (aL (i:=6) bh.nd (bO c_number_in_1 (hr.mono (by omega)) (by rfl) (passes ax) {zix av (pv 5) af}))
   (aa (aD (zct a0 (zix av (pv 5) af) ai) (ag (ao (fY m_Steady_5 (hr.mono (by omega)) (by rfl) (passes ax) {pv 1,pv 2,pv 6,pv 3,pv 4}))) ar)
   (aa (aD (zct a0 (zix av (pv 5) af) ai) (ag (ao (fY m_Faller_5 (hr.mono (by omega)) (by rfl) (passes ax) {pv 1,pv 2,pv 6,pv 3,pv 4}))) ar)
   (ag (ao bP)))))))))))),?_⟩
 fin2
 lk;refine ex4 q _ _ (V.str nm) (an5 rfl rfl hS (sT ..) ?_);lk;refine ex4 q _ _ (V.str kp) (an5 rfl rfl hS (aO (j:=1) rfl) ?_);lk;refine ex4 q _ _ (V.str g) (an5 rfl rfl hS (aO (j:=2) rfl) ?_);refine⟨g,rfl,hz g (by simp),λgi eg H1 s1=> ?_,λ_ H1 s1=>k2 H1 s1⟩;lk;refine ex4 q _ _ (V.str s) (an5 rfl rfl (hS.same s1) (aO (j:=3) rfl) ?_);refine⟨s,rfl,hz s (by simp),λsi es H2 s2=> ?_,λ_ H2 s2=>k2 H2 (s1.trans s2)⟩;lk;refine ex2 q _ (an3 rfl ((hS.same s1).same s2) (λp1 hp1=> ?_));have w1:∀{Hx:Hp},ay (upd H2 p1 (.lst ((u::r).map V.str))) Hx->Hx p1=some (.lst ((u::r).map V.str)):=λz=>z _ _ ae;have sH1:=(s1.trans s2).trans (ah (o:= .lst ((u::r).map V.str)) hp1);show j0 _ _ _ (upd H2 p1 (.lst (qx _ (some 4) (some (-1))))) _;rw[Gn];generalize upd H2 p1 (.lst ((u::r).map V.str))=H3 at w1 sH1;lk;refine⟨l8 (by decide),λp2 hp2=> ?_⟩;lk;have s4:=ah (o:= .lst [V.str "idle"]) hp2;refine ex4 p1 p2 ((u::r).map V.str) ([V.str "idle"]) (an7 rfl rfl (SqL.of (w1 s4)) (SqL.of ae) (lu _) rfl ?_);generalize upd H3 p2 (.lst [V.str "idle"])=H4 at s4;have w4:=w1 s4;refine⟨_,rfl,?_⟩;refine aV (λe=> ?_) (λe=> ?_)
 .have e:=HY e;rw[e] at hw;exact absurd hw (A1 ckp cnm eg es)
 lk;refine ex2 p1 _ (an3 rfl (.inl (SqL.of w4)) ?_);lk;refine aV (λe=> ?_) (λe=> ?_)
 .lk;exact k1 _ (sH1.trans s4)
 have l2:(u::r).length=2:=by
  have:=FX e;rw[List.length_map] at this
  lia
 obtain⟨m,rfl⟩:∃m,r=[m]:=by
  match r,l2 with
  | [m],_=>exact⟨m,rfl⟩
 lk;refine ex4 p1 _ _ (V.str m) (an5 rfl rfl (SqL.of w4) rfl ?_);refine⟨m,rfl,hz m (by simp),λmi em H5 s5=> ?_,λ_ H5 s5=>k2 H5 ((sH1.trans s4).trans s5)⟩;lk;refine ex4 p1 _ _ (V.str u) (an5 rfl rfl (SqL.of (s5 _ _ w4)) rfl ?_);lk;refine aV (λe=> ?_) (λe=> ?_)
 .exact absurd hw (uI ckp cnm (.inl (V.str.inj (of_decide_eq_true e))) eg es em)
 lk;refine ex4 p1 _ _ (V.str u) (an5 rfl rfl (SqL.of (s5 _ _ w4)) rfl ?_);lk;refine aV (λe=> ?_) (λe=> ?_)
 .exact absurd hw (uI ckp cnm (.inr (V.str.inj (of_decide_eq_true e))) eg es em)
 lk;exact k1 _ ((sH1.trans s4).trans s5)
theorem AO{cN:Addr}{tW:Tok}(F:aM K "minder_in" "minder_in" iz dV f fd)(T:Txt mg)(aJ:mg "FEWEST_WORDS"=some (.int 6 tW))(M:MkT P w K mg base p 3)(c_number_in_1:Cal P w K mg base true 3 "number_in" (yd cN) [.int 1000000]):aB P w K mg base (CXE P w) true 5 f fd kx (pO K (some false) cN):=by
 refine F.ok1 aZ λvs H Q E y0=> ?_;obtain⟨q,a,kp,g,s,u,r,nm,rfl,hS,ckp,cnm,hw,_,hd,hz,k1,k2⟩:=y0;refine⟨rfl,λcdv A outer s0 hr=> ?_⟩;have m_Minder_4:=M.one;have m_AllMinder_4:=M.all;have m_RestMinder_4:=M.rest;obtain rfl:=hd rfl
 refine⟨_,(aa (aL (i:=1) aZ.nd (zix av (pv 0) (iA eL af)))
   (aa (aL (i:=2) aZ.nd (zix av (pv 0) af))
   (aa (aL (i:=3) aZ.nd (zix av (pv 0) af))
   (aa (aL (i:=4) aZ.nd (bO c_number_in_1 (hr.mono (by omega)) (by rfl) (passes ax) {zix av (pv 0) af}))
   (aa (aL (i:=5) aZ.nd (bO c_number_in_1 (hr.mono (by omega)) (by rfl) (passes ax) {zix av (pv 0) af}))
   (aa (aD (PW.pt (g7 (zct sO (aE aF (by rfl) T.d0 cn {pv 0}) (dj (by rfl) aJ)) (gg (zct a0 (pv 5) af)))) (ag (ao bP)) ar)
   (aa (aD (zct a0 (pv 3) ai) (ag (ao (fY m_Minder_4 (hr.mono (by omega)) (by rfl) (passes ax) {pv 1,pv 2,pv 4,pv 5}))) ar)
   (aa (aD (zct a0 (pv 3) ai) (ag (ao (fY m_AllMinder_4 (hr.mono (by omega)) (by rfl) (passes ax) {pv 1,pv 2,pv 4,pv 5}))) ar)
   (aa (aD (zct a0 (pv 3) ai) (ag (ao (fY m_RestMinder_4 (hr.mono (by omega)) (by rfl) (passes ax) {pv 1,pv 2,pv 4,pv 5}))) ar)
   (ag (ao bP))))))))))),?_⟩
 fin2
 lk;refine ex4 q _ _ (V.str nm) (an5 rfl rfl hS (sT ..) ?_);lk;refine ex4 q _ _ (V.str kp) (an5 rfl rfl hS (aO (j:=1) rfl) ?_);lk;refine ex4 q _ _ (V.str g) (an5 rfl rfl hS (aO (j:=2) rfl) ?_);lk;refine ex4 q _ _ (V.str s) (an5 rfl rfl hS (aO (j:=3) rfl) ?_);refine⟨s,rfl,hz s (by simp),λmi em H1 s1=> ?_,λ_ H1 s1=>k2 H1 s1⟩;lk;refine ex4 q _ _ (V.str u) (an5 rfl rfl (hS.same s1) (aO (j:=4) rfl) ?_);refine⟨u,rfl,hz u (by simp),λsi es H2 s2=> ?_,λ_ H2 s2=>k2 H2 (s1.trans s2)⟩;lk;refine ex2 q _ (an3 rfl (.inl ((hS.same s1).same s2)) ?_);lk;refine aV (λe=> ?_) (λe=> ?_)
 .lk;exact k1 _ (s1.trans s2)
 have l6:r=[]:=by
  cases r with
  | nil=>rfl
  | cons x y=>
   have z:=FX e;rw[List.length_map] at z;simp only [List.length_cons,List.length_append] at z
   lia
 subst l6;lk;refine aV (λe=> ?_) (λe=> ?_)
 .lk;exact k1 _ (s1.trans s2)
 have e0:si≠0:=λz=>e (by subst z;exact decide_eq_true rfl);lk;refine aV (λe=> ?_) (λe1=> ?_)
 .exact absurd hw (qC ckp cnm (.inl (V.str.inj (of_decide_eq_true e))) em es e0)
 lk;refine aV (λe=> ?_) (λe2=> ?_)
 .exact absurd hw (qC ckp cnm (.inr (.inl (V.str.inj (of_decide_eq_true e)))) em es e0)
 lk;refine aV (λe=> ?_) (λe3=> ?_)
 .exact absurd hw (qC ckp cnm (.inr (.inr (V.str.inj (of_decide_eq_true e)))) em es e0)
 lk;exact k1 _ (s1.trans s2)
theorem zB{cN:Addr}(F:aM K "by_first_word" "by_first_word" dR dV f fd)(T:Txt mg)(c_leaf_in:Cal P w K mg base true 5 "leaf_in" (pO K (some true) cN) [])(c_minder_in:Cal P w K mg base true 5 "minder_in" (pO K (some false) cN) []):aB P w K mg base (CXE P w) true 6 f fd gj (pO K none cN):=by
 refine F.ok1 jj λvs H Q E y0=> ?_;obtain⟨q,a,kp,g,s,u,r,nm,rfl,hS,ckp,cnm,hw,_,_,hz,k1,k2⟩:=y0;refine⟨rfl,λcdv A outer s0 hr=> ?_⟩
 refine⟨_,(aa (aD (zct a0 (zix av (pv 0) af) ai) (ag (ao (bO c_leaf_in (hr.mono (by omega)) (by rfl) (passes ax) {pv 0}))) ar)
   (aa (aD (zct a0 (zix av (pv 0) af) ai) (ag (ao (bO c_minder_in (hr.mono (by omega)) (by rfl) (passes ax) {pv 0}))) ar)
   (ag (ao bP)))),?_⟩
 fin2
 lk;refine ex4 q _ _ (V.str a) (an5 rfl rfl hS (aO (j:=0) rfl) ?_);lk;refine aV (λe=> ?_) (λe=> ?_)
 .have e:=V.str.inj (of_decide_eq_true e);lk;exact⟨q,a,kp,g,s,u,r,nm,rfl,hS,ckp,cnm,hw,λ_=>e,λz=>(by cases z),hz,k1,k2⟩
 lk;refine ex4 q _ _ (V.str a) (an5 rfl rfl hS (aO (j:=0) rfl) ?_);lk;refine aV (λe=> ?_) (λe=> ?_)
 .have e:=V.str.inj (of_decide_eq_true e);lk;exact⟨q,a,kp,g,s,u,r,nm,rfl,hS,ckp,cnm,hw,λz=>(by cases z),λ_=>e,hz,k1,k2⟩
 lk;exact k1 _ (ay.refl _)
def C0(K:PySem.W.Frag):Sp:=λvs H Q _=>∃(q:Addr) (ws:List Str),vs=[.ref q]/\SqL K H q (ws.map V.str)/\rowOf ws=none/\(∀x∈ws,x.length<=100000)/\∀H',ay H H'->Q .non H'
theorem IA{x:Str}(h:inV (.str x) [V.str "always",V.str "fallen",V.str "never"]=true):bw x:=by
 have h:((("always":Str) == x) || ((("fallen":Str) == x) || ((("never":Str) == x) || false)))=true:=h;rw[Bool.or_false,Bool.or_eq_true,Bool.or_eq_true,beq_iff_eq,beq_iff_eq,beq_iff_eq] at h;rcases h with h | h | h
 .exact .inl h.symm
 .exact .inr (.inl h.symm)
 .exact .inr (.inr h.symm)
theorem LM{x:Str}(h:nmB x=true):dA x:=by
 unfold nmB at h;rw[Bool.and_eq_true,Bool.and_eq_true,decide_eq_true_iff,decide_eq_true_iff] at h;exact⟨h.1.1,h.1.2,h.2⟩
theorem KC{ws:List Str}(h:6<=ws.length):∃(a kp g s u:Str) (r:List Str) (nm:Str),ws=a::kp::g::s::(u::r++[nm]):=by
 match ws,h with
 | a::kp::g::s::u::v::t,_=>
  exact⟨a,kp,g,s,u,(v::t).dropLast,(v::t).getLast (List.cons_ne_nil _ _),by rw[List.cons_append,List.dropLast_concat_getLast]⟩
theorem zM{cN:Addr}{tW:Tok}{aK:Addr}(F:aM K "child_in" "child_in" jF dV f fd)(T:Txt mg)(aJ:mg "FEWEST_WORDS"=some (.int 6 tW))(jC:mg "KEEPS"=some (.ref aK))(jx:∀H:Hp,SqT K H aK [V.str "always",V.str "fallen",V.str "never"])
  (bL:mg "NoNumber"=some (.ref cN)) (bY:qd K cN) (mr:PySem.W.mroIn K cN (.ref cN)=some true) (fk:Cal P w K mg base true 2 "is_name" vt []) (c_by_first_word:Cal P w K mg base true 6 "by_first_word" (pO K none cN) []):aB P w K mg base (CXE P w) true 7 f fd nH (C0 K):=by
 refine F.pf rj λvs H Q E y0=> ?_;obtain⟨q,ws,rfl,hS,hw,hz,k⟩:=y0;refine⟨rfl,λcdv A outer s0 hr=> ?_⟩
 refine⟨_,(aa (aD (PW.pt (g7 (zct jg (aE aF (by rfl) T.d0 cn {pv 0}) (dj (by rfl) aJ)) (g7 (zct pd (zix av (pv 0) af) (gK (by rfl) jC)) (gg (hJ (cc (bD fk {zix av (pv 0) (iA eL af)}))))))) (ag (ao bP)) ar)
   (ag (Ba ⟨rfl,rfl,rfl⟩ (λD pn' E' hT hP=>(ag (ao (bO c_by_first_word (hr.mono (by omega)) (by rfl) (passes hT) {pv 0}))))
    ar
    (Fl ⟨rfl,rfl,rfl⟩ (by rfl) bL bY (λe=>(ag (ao bP)))
    xR)))),?_⟩
 fin2
 lk;refine ex2 q _ (an3 rfl (.inl hS) ?_);lk;refine aV (λe=> ?_) (λe=> ?_)
 .lk;exact k _ (ay.refl _)
 obtain⟨a,kp,g,s,u,r,nm,rfl⟩:=KC (ws:=ws) (by
  rcases Nat.lt_or_ge ws.length 6 with z | z
  .refine absurd (decide_eq_true ?_) e;rw[List.length_map]
   lia
  .exact z)
 lk;refine ex4 q _ _ (V.str kp) (an5 rfl rfl hS (aO (j:=1) rfl) ?_);lk;refine ex2 aK _ (an5 rfl (.inr (jx _)) rfl rfl ?_);refine⟨_,rfl,?_⟩;refine aV (λe=> ?_) (λe=> ?_)
 .lk;exact k _ (ay.refl _)
 have ckp:bw kp:=by
  refine IA ?_;cases z:inV (.str kp) [V.str "always",V.str "fallen",V.str "never"] with
  | true=>rfl
  | false=>exact absurd (show(!inV (.str kp) [V.str "always",V.str "fallen",V.str "never"])=true by rw[z];rfl) e
 lk;refine ex4 q _ _ (V.str nm) (an5 rfl rfl hS (sT ..) ?_);lk;refine⟨hz nm (by simp),λH1 s1=> ?_⟩;cases hn:nmB nm with
 | false=>
  lk;exact k _ s1
 | true=>
  lk;refine⟨q,a,kp,g,s,u,r,nm,rfl,hS.same s1,ckp,LM hn,hw,λz=>(by cases z),λz=>(by cases z),hz,λH2 s2=>k H2 (s1.trans s2),λH2 s2=>⟨cN,true,rfl,mr,?_⟩⟩;rw[if_pos rfl];exact λe he=>k _ ((s1.trans s2).trans (ah he))
open PySem L2 Shp Nm Tr Hs PySem.NumText
def fS(rows:List Row):List V:=(List.range rows.length).map λi=>if i=0 then V.non else V.int (b6 rows i)
def bx(rows:List Row):List (Key × V):=(List.range rows.length).map λi=>(.inr (rows.getD i default).sh.name,V.int (i:Int))
def bq(rows:List Row):List V:=rows.map λr=>V.int ((2 * r.dep:Nat):Int)
def fsT(c b a d:Addr):List (Str × V):=[("children",.ref c),("blanks",.ref b),("above",.ref a),("places",.ref d)]
structure kb(cT:Addr)(p:Pl)(H:Hp)(t:Addr)(rows:List Row)(c b a d:Addr)(as:List Addr):Prop where
 ob:∃dx,H t=some (.ins cT dx (fsT c b a d))
 ch:H c=some (.lst (as.map V.ref))
 ln:as.length=rows.length
 rp:∀(i:Nat) (x:Addr),as[i]? =some x->p.rep H x (rows.getD i default).sh
 bl:H b=some (.lst (bq rows))
 ab:H a=some (.lst (fS rows))
 pl:H d=some (.dK (bx rows))
 n1:c≠b
 n2:c≠a
 n3:b≠a
theorem kb.same{cT:Addr}{H H':Hp}{t:Addr}{rows:List Row}{c b a d:Addr}{as:List Addr}(h:kb cT p H t rows c b a d as)(e:ay H H'):kb cT p H' t rows c b a d as:=
 ⟨h.ob.imp λ_ z=>e _ _ z,e _ _ h.ch,h.ln,λi x z=>Pl.mono e (h.rp i x z),e _ _ h.bl,e _ _ h.ab,e _ _ h.pl,h.n1,h.n2,h.n3⟩
theorem getD_snoc(rows:List Row)(r:Row)(i:Nat):(rows++[r]).getD i default=if i < rows.length then rows.getD i default else if i=rows.length then r else default:=by
 by_cases h:i < rows.length
 .rw [if_pos h,hX _ _ _ h]
 .rw [if_neg h];by_cases e:i=rows.length
  .rw [if_pos e,e,dN rows r [] default]
  .rw [if_neg e,List.getD_eq_getElem?_getD,List.getElem?_eq_none (by rw[List.length_append];show rows.length + 1<=i;lia)]
   rfl
theorem sJ{α:Type}(n:Nat)(g:Nat->α):(List.range (n + 1)).map g=(List.range n).map g++[g n]:=by
 rw[List.range_succ,List.map_append]
 rfl
theorem Al(rows:List Row)(r:Row):fS (rows++[r])=fS rows++[if rows.length=0 then V.non else V.int (b6 (rows++[r]) rows.length)]:=by
 unfold fS;rw[List.length_append];show(List.range (rows.length + 1)).map _=_;rw[sJ]
 congr 1
 refine List.map_congr_left λi hi=> ?_;rw[xn rows [r] (List.mem_range.mp hi)]
theorem za(rows:List Row)(r:Row):bx (rows++[r])=bx rows++[(.inr r.sh.name,V.int (rows.length:Int))]:=by
 unfold bx;rw[List.length_append];show(List.range (rows.length + 1)).map _=_;rw[sJ,dN rows r [] default]
 congr 1
 refine List.map_congr_left λi hi=> ?_;rw[hX _ _ _ (List.mem_range.mp hi)]
theorem yT(rows:List Row)(r:Row):bq (rows++[r])=bq rows++[V.int ((2 * r.dep:Nat):Int)]:=List.map_append
theorem wU{rows:List Row}{x:Str}(h:x∈rows.map (·.sh.name)):∃i,i < rows.length/\(rows.getD i default).sh.name=x:=by
 obtain⟨r,hr,rfl⟩:=List.mem_map.mp h;obtain⟨i,hi,e⟩:=List.mem_iff_getElem.mp hr;exact⟨i,hi,by rw[List.getD_eq_getElem?_getD,List.getElem?_eq_getElem hi,e];rfl⟩
theorem qP{rows:List Row}{x:Str}(h:x∉rows.map (·.sh.name)):lU (bx rows) (.inr x)=none:=by
 unfold lU;rw[List.find?_eq_none.mpr]
 .rfl
 .intro kv hk z;obtain⟨i,hi,rfl⟩:=List.mem_map.mp hk;have z:=Sum.inr.inj (of_decide_eq_true z);have hi:=List.mem_range.mp hi;refine h (List.mem_map.mpr ⟨rows[i],List.getElem_mem hi,?_⟩);rw[<- z,List.getD_eq_getElem?_getD,List.getElem?_eq_getElem hi]
  rfl
theorem BN{rows:List Row}{r:Row}(h:r.sh.name∉rows.map (·.sh.name)):putK (bx rows) (.inr r.sh.name) (V.int (rows.length:Int))=bx (rows++[r]):=by
 unfold putK;rw[if_neg,za];intro z;obtain⟨kv,hk,z⟩:=List.any_eq_true.mp z;have n:=qP h;unfold lU at n;cases f:(bx rows).find? λkv=>decide (kv.1=(.inr r.sh.name:Key)) with
 | none=>exact List.find?_eq_none.mp f kv hk z
 | some w=>rw[f] at n;cases n
theorem sd{H:Hp}{x q C dx:Addr}{o:HO}{fs gs:List (Str × V)}(hx:H x=some (.ins C dx fs))(hq:H q=none):(upd (upd H q o) x (.ins C dx gs)) x=some (.ins C dx gs)/\(upd (upd H q o) x (.ins C dx gs)) q=some o/\(∀b u,b≠x->H b=some u->(upd (upd H q o) x (.ins C dx gs)) b=some u)∧
  (∀b,b≠x->(upd (upd H q o) x (.ins C dx gs)) b=none->H b=none/\b≠q)/\q≠x/\(upd H q o) x=some (.ins C dx fs):=by
 have nx:q≠x:=λz=>by rw[z,hx] at hq;cases hq
 refine⟨ae,by rw[aq nx];exact ae,λb u hb e=> ?_,λb hb e=> ?_,nx,by rw[aq (Ne.symm nx)];exact hx⟩
 .rw [aq hb,aq (au e hq)];exact e
 .rw [aq hb] at e;by_cases z:b=q
  .rw [z,ae] at e;cases e
  .rw [aq z] at e;exact⟨e,z⟩
structure CT(K:PySem.W.Frag)(C:Addr):Prop where
 cl:Cls K C
 n1:bX K C "children"
 n2:bX K C "blanks"
 n3:bX K C "above"
 n4:bX K C "places"
def nA(cT:Addr)(p:Pl):Sp:=λvs H Q _=>∃(x dx:Addr) (H0:Hp),vs=[.ref x]/\H0 x=none/\H0 dx=none/\dx≠x/\H=upd (upd H0 dx (.own x)) x (.ins cT dx [])∧
 ∀(H':Hp) (c b a d:Addr),ay H0 H'->H0 c=none->H0 b=none->H0 a=none->H0 d=none->kb cT p H' x [] c b a d []->Q .non H'
theorem Ad{cT:Addr}(F:aM K "__init__" "Tree.__init__" fZ dV f fd)(hc:CT K cT):aB P w K mg base (CXE P w) true 1 f fd fV (nA cT p):=by
 rcases qA,(aa (ia (pv 0) (az eT) rfl)
   (aa (ia (pv 0) (az eT) rfl)
   (aa (ia (pv 0) (az eT) rfl)
   (ag (ia (pv 0) EK rfl))))) with⟨x,dx,H0,rfl,h0,h1,h2,eH,k⟩
 have hx:H x=some (.ins cT dx []):=by rw[eH];exact ae
 have s0:∀b u,H0 b=some u->H b=some u/\b≠x:=λb u e=>⟨by rw[eH,aq (au e h0),aq (au e h1)];exact e,au e h0⟩
 have f0:∀b,b≠x->H b=none->H0 b=none:=λb hb e=>by
  rw[eH,aq hb] at e;by_cases z:b=dx
  .rw [z];exact h1
  .rw [aq z] at e;exact e
 refine⟨l8 (by decide),λc hc0=> ?_⟩;obtain⟨p1,p2,p3,p4,p5,p6⟩:=sd (o:= .lst []) (gs:=[("children",.ref c)]) hx hc0;refine exP rfl (sY p6 hc.cl hc.n1 (by decide) ?_)
 change Ef _ _ _ _ (upd (upd H c (.lst [])) x (.ins cT dx [("children",.ref c)]))
 generalize upd (upd H c (.lst [])) x (.ins cT dx [("children",.ref c)])=H1 at p1 p2 p3 p4;refine⟨l8 (by decide),λb hb0=> ?_⟩;obtain⟨q1,q2,q3,q4,q5,q6⟩:=sd (o:= .lst []) (gs:=[("children",.ref c),("blanks",.ref b)]) p1 hb0;refine exP rfl (sY q6 hc.cl hc.n2 (by show 1 < 1000;decide) ?_)
 change Ef _ _ _ _ (upd (upd H1 b (.lst [])) x (.ins cT dx [("children",.ref c),("blanks",.ref b)]))
 generalize upd (upd H1 b (.lst [])) x (.ins cT dx [("children",.ref c),("blanks",.ref b)])=H2 at q1 q2 q3 q4;refine⟨l8 (by decide),λa ha0=> ?_⟩;obtain⟨r1,r2,r3,r4,r5,r6⟩:=sd (o:= .lst []) (gs:=[("children",.ref c),("blanks",.ref b),("above",.ref a)]) q1 ha0;refine exP rfl (sY r6 hc.cl hc.n3 (by show 2 < 1000;decide) ?_);dsimp only
 change Lh _ _ _ _ _ _ (upd (upd H2 a (.lst [])) x (.ins cT dx [("children",.ref c),("blanks",.ref b),("above",.ref a)]))
 generalize upd (upd H2 a (.lst [])) x (.ins cT dx [("children",.ref c),("blanks",.ref b),("above",.ref a)])=H3 at r1 r2 r3 r4;intro d hd0;obtain⟨t1,t2,t3,t4,t5,t6⟩:=sd (o:= .dK []) (gs:=fsT c b a d) r1 hd0;refine exP rfl (sY t6 hc.cl hc.n4 (by show 3 < 1000;decide) ?_)
 change Q .non (upd (upd H3 d (.dK [])) x (.ins cT dx (fsT c b a d)))
 generalize upd (upd H3 d (.dK [])) x (.ins cT dx (fsT c b a d))=H4 at t1 t2 t3 t4;have ncb:c≠b:=Ne.symm (p4 b q5 hb0).2;have z2:=q4 a r5 ha0;have z1:=p4 a r5 z2.1;have y3:=r4 d t5 hd0;have y2:=q4 d t5 y3.1;have y1:=p4 d t5 y2.1;have gc:H4 c=some (.lst []):=t3 c _ p5 (r3 c _ p5 (q3 c _ p5 p2));have gb:H4 b=some (.lst []):=t3 b _ q5 (r3 b _ q5 q2);refine k H4 c b a d (λe u z=> ?_) (f0 c p5 hc0) (f0 b q5 (p4 b q5 hb0).1) (f0 a r5 z1.1) (f0 d t5 y1.1) ⟨⟨dx,t1⟩,gc,rfl,λi x e=>(by cases e),gb,t3 a _ r5 r2,t2,ncb,Ne.symm z1.2,Ne.symm z2.2⟩;obtain⟨e1,e2⟩:=s0 e u z;exact t3 e u e2 (r3 e u e2 (q3 e u e2 (p3 e u e2 e1)))
theorem Bl{rows:List Row}{i:Nat}(h:i < rows.length):rows[i]? =some (rows.getD i default):=by
 rw[List.getD_eq_getElem?_getD,List.getElem?_eq_getElem h]
 rfl
def namesOf(rows:List Row):List Str:=rows.map (·.sh.name)
def jy(p:Pl)(C:Addr):Sp:=λvs H Q _=>∃(t:Addr) (rows:List Row) (c b a d:Addr) (as:List Addr),vs=[.ref t]/\kb C p H t rows c b a d as/\rows.length<=1000∧
 ∀(q:Addr) (H':Hp),ay H H'->H q=none->H' q=some (.lst ((namesOf rows).map V.str))->Q (.ref q) H'
theorem Fe{cT:Addr}(F:aM K "names" "Tree.names" jK dV f fd)(hc:CT K cT)(hcf:∀j,p.pr j->CF K (p.c j)):aB P w K mg base (CXE P w) true 1 f fd oJ (jy p cT):=by
 rcases wo,(ag (ao (y4 (x:="child") (fr:=[]) (by kd_p) rfl (Cz (a8 (pv 0) rfl)) (λ_ _ _ _=>pw) (λ_ _ _ _=>(HD (K0:=K) rfl (pv 0) (by rfl)))))) with⟨t,rows,c,b,a,d,as,rfl,hT,hl,k⟩;obtain⟨dx,hob⟩:=hT.ob;lk;refine jk hob hc.cl hc.n1 rfl ?_;lk;refine⟨⟨_,SqL.of hT.ch⟩,ff (J:=Itl K c) (n:=rows.length) (λi ys H'=>H'=H/\ys=((namesOf rows).take i).map V.str) ⟨rfl,rfl⟩ ?_ ?_ ?_ ?_⟩
 .rintro i ys H' hi ⟨rfl,rfl⟩;exact⟨_,V.ref (as[i]'(by rw[hT.ln];exact hi)),SqL.of hT.ch,by rw[List.getElem?_map,List.getElem?_eq_getElem (by rw[hT.ln];exact hi)];rfl⟩
 .rintro ys H' ⟨rfl,rfl⟩;exact⟨_,SqL.of hT.ch,by rw[List.length_map,hT.ln];exact Nat.le_refl _⟩
 .rintro i ys H' v H2 hi ⟨rfl,rfl⟩ ⟨rfl,hv⟩;have hia:i < as.length:=by rw[hT.ln];exact hi
  have hv:=hv _ (SqL.of hT.ch);rw[List.getElem?_map,List.getElem?_eq_getElem hia] at hv;obtain rfl:V.ref as[i]=v:=Option.some.inj hv;obtain⟨r1,r2,dx',r3⟩:=hT.rp i _ (List.getElem?_eq_getElem hia);have cf:=hcf _ r2;lk;refine jk r3 cf.cl cf.n1 (oP _) ?_;refine⟨?_,rfl,?_⟩
  .rw [List.length_map,List.length_take];exact aI (by lia)
  .have:(namesOf rows)[i]? =some (rows.getD i default).sh.name:=by
    unfold namesOf;rw[List.getElem?_map,Bl hi]
    rfl
   rw[List.take_add_one,this,List.map_append]
   rfl
 .rintro ys H' ⟨rfl,rfl⟩;have:(namesOf rows).length=rows.length:=List.length_map _;rw[<- this,List.take_length];refine⟨?_,λq hq=>k q _ (ah hq) hq ae⟩;rw[List.length_map,this];exact Nat.le_of_lt (aI hl)
theorem kN{H:Hp}{x y:Addr}{o u:HO}(hx:H x=some o)(hy:H y=some u)(h:o≠u):x≠y:=λz=>h (Option.some.inj (hx.symm.trans (by rw[z];exact hy)))
def AL(p:Pl)(C:Addr):Sp:=λvs H Q _=>∃(t x:Addr) (rows:List Row) (r:Row) (c b a d:Addr) (as:List Addr) (ab:V),vs=[.ref t,.ref x,.int ((2 * r.dep:Nat):Int),ab]/\kb C p H t rows c b a d as/\p.rep H x r.sh/\rows.length<=1000/\r.sh.name∉rows.map (·.sh.name)∧
 ab=(if rows.length=0 then V.non else V.int (b6 (rows++[r]) rows.length))/\∀H',(∀e u,e≠c->e≠b->e≠a->e≠d->H e=some u->H' e=some u)->kb C p H' t (rows++[r]) c b a d (as++[x])->Q .non H'
theorem HH{cT:Addr}(F:aM K "take" "Tree.take" kG dV f fd)(T:Txt mg)(hc:CT K cT)(hcf:∀j,p.pr j->CF K (p.c j)):aB P w K mg base (CXE P w) true 1 f fd qZ (AL p cT):=by
 rcases x4,(aa (IJ (B3 hr) (a8 (pv 0) rfl) (a8 (pv 1) rfl) (aE aF (by rfl) T.d0 cn {a8 (pv 0) rfl}) rfl)
   (aa (br (cv PySem.F.plainAttrs_list PySem.F.slot_list_append PySem.F.type_list_append bI (a8 (pv 0) rfl) {pv 1}))
   (aa (br (cv PySem.F.plainAttrs_list PySem.F.slot_list_append PySem.F.type_list_append bI (a8 (pv 0) rfl) {pv 2}))
   (ag (br (cv PySem.F.plainAttrs_list PySem.F.slot_list_append PySem.F.type_list_append bI (a8 (pv 0) rfl) {pv 3})))))) with⟨t,x,rows,r,c,b,a,d,as,ab,rfl,hT,hR,hl,hn,hab,k⟩
 obtain⟨dx,hob⟩:=hT.ob;obtain⟨r1,r2,dx',r3⟩:=id hR;have cf:=hcf _ r2;lk;refine jk hob hc.cl hc.n1 rfl ?_;lk;refine ex2 c _ (an3 rfl (.inl (SqL.of hT.ch)) ?_);lk;refine jk hob hc.cl hc.n4 rfl ?_;refine exP rfl (jk r3 cf.cl cf.n1 (oP _) ?_);have ln:((as.map V.ref).length:Int)=(rows.length:Int):=by rw[List.length_map,hT.ln]
 rw[ln];refine ex2 d _ (an3 rfl (Gp.k (k:= .inr r.sh.name) hT.pl (by unfold bx;rw[List.length_map,List.length_range];exact aI hl)) ?_);rw[BN hn];have ntd:t≠d:=kN hob hT.pl (λz=>by cases z);have ncd:c≠d:=kN hT.ch hT.pl (λz=>by cases z);have nbd:b≠d:=kN hT.bl hT.pl (λz=>by cases z);have nad:a≠d:=kN hT.ab hT.pl (λz=>by cases z);have ntc:t≠c:=kN hob hT.ch (λz=>by cases z);have ntb:t≠b:=kN hob hT.bl (λz=>by cases z);have nta:t≠a:=kN hob hT.ab (λz=>by cases z);have e1:(upd H d (.dK (bx (rows++[r])))) t=some (.ins cT dx (fsT c b a d)):=by rw[aq ntd];exact hob
 have e2:(upd H d (.dK (bx (rows++[r])))) c=some (.lst (as.map V.ref)):=by rw[aq ncd];exact hT.ch
 have e3:(upd H d (.dK (bx (rows++[r])))) b=some (.lst (bq rows)):=by rw[aq nbd];exact hT.bl
 have e4:(upd H d (.dK (bx (rows++[r])))) a=some (.lst (fS rows)):=by rw[aq nad];exact hT.ab
 have e5:(upd H d (.dK (bx (rows++[r])))) d=some (.dK (bx (rows++[r]))):=ae;have e6:∀e u,e≠d->H e=some u->(upd H d (.dK (bx (rows++[r])))) e=some u:=λe u n z=>by rw[aq n];exact z
 generalize upd H d (.dK (bx (rows++[r])))=H1 at e1 e2 e3 e4 e5 e6;refine exP rfl (ex5 t cT dx _ _ (an7 rfl e1 hc.cl hc.n1 rfl (.inl ⟨rfl,_,SqL.of e2⟩) ?_));lk;refine ex3 c _ _ (an5 rfl rfl e2 (by rw[List.length_map,hT.ln];exact aI hl) ?_);have f1:(upd H1 c (.lst (as.map V.ref++[V.ref x]))) t=some (.ins cT dx (fsT c b a d)):=by rw[aq ntc];exact e1
 have f3:(upd H1 c (.lst (as.map V.ref++[V.ref x]))) b=some (.lst (bq rows)):=by rw[aq (Ne.symm hT.n1)];exact e3
 have f4:(upd H1 c (.lst (as.map V.ref++[V.ref x]))) a=some (.lst (fS rows)):=by rw[aq (Ne.symm hT.n2)];exact e4
 have f2:(upd H1 c (.lst (as.map V.ref++[V.ref x]))) c=some (.lst (as.map V.ref++[V.ref x])):=ae;have f5:(upd H1 c (.lst (as.map V.ref++[V.ref x]))) d=some (.dK (bx (rows++[r]))):=by rw[aq (Ne.symm ncd)];exact e5
 have f6:∀e u,e≠d->e≠c->H e=some u->(upd H1 c (.lst (as.map V.ref++[V.ref x]))) e=some u:=λe u n n2 z=>by rw[aq n2];exact e6 e u n z
 generalize upd H1 c (.lst (as.map V.ref++[V.ref x]))=H2 at f1 f2 f3 f4 f5 f6;refine exP rfl (ex5 t cT dx _ _ (an7 rfl f1 hc.cl hc.n2 rfl (.inl ⟨rfl,_,SqL.of f3⟩) ?_));lk;refine ex3 b _ _ (an5 rfl rfl f3 (by unfold bq;rw[List.length_map];exact aI hl) ?_);have bs:bq rows++[V.int ((2 * r.dep:Nat):Int)]=bq (rows++[r]):=(yT rows r).symm;rw[bs];have g1:(upd H2 b (.lst (bq (rows++[r])))) t=some (.ins cT dx (fsT c b a d)):=by rw[aq ntb];exact f1
 have g2:(upd H2 b (.lst (bq (rows++[r])))) c=some (.lst (as.map V.ref++[V.ref x])):=by rw[aq hT.n1];exact f2
 have g3:(upd H2 b (.lst (bq (rows++[r])))) b=some (.lst (bq (rows++[r]))):=ae;have g4:(upd H2 b (.lst (bq (rows++[r])))) a=some (.lst (fS rows)):=by rw[aq (Ne.symm hT.n3)];exact f4
 have g5:(upd H2 b (.lst (bq (rows++[r])))) d=some (.dK (bx (rows++[r]))):=by rw[aq (Ne.symm nbd)];exact f5
 have g6:∀e u,e≠d->e≠c->e≠b->H e=some u->(upd H2 b (.lst (bq (rows++[r])))) e=some u:=λe u n n2 n3 z=>by rw[aq n3];exact f6 e u n n2 z
 generalize upd H2 b (.lst (bq (rows++[r])))=H3 at g1 g2 g3 g4 g5 g6;refine exP rfl (ex5 t cT dx _ _ (an7 rfl g1 hc.cl hc.n3 rfl (.inl ⟨rfl,_,SqL.of g4⟩) ?_));lk;refine ex3 a _ _ (an5 rfl rfl g4 (by unfold fS;rw[List.length_map,List.length_range];exact aI hl) ?_);have as':fS rows++[ab]=fS (rows++[r]):=by rw[hab];exact(Al rows r).symm
 rw[as'];have keep:∀e u,e≠c->e≠b->e≠a->e≠d->H e=some u->(upd H3 a (.lst (fS (rows++[r])))) e=some u:=λe u n1 n2 n3 n4 z=>by rw[aq n3];exact g6 e u n4 n1 n2 z
 have rk:∀(y:Addr) (s':Sh),p.rep H y s'->p.rep (upd H3 a (.lst (fS (rows++[r])))) y s':=λy s' z=>by
  obtain⟨z1,z2,dz,z3⟩:=z;exact⟨z1,z2,dz,keep _ _ (kN z3 hT.ch (λz=>by cases z)) (kN z3 hT.bl (λz=>by cases z)) (kN z3 hT.ab (λz=>by cases z)) (kN z3 hT.pl (λz=>by cases z)) z3⟩
 refine k _ keep ⟨⟨dx,by rw[aq nta];exact g1⟩,by rw[aq hT.n2,g2,List.map_append];rfl,by rw[List.length_append,List.length_append,hT.ln];rfl,λi y e=> ?_,by rw[aq hT.n3];exact g3,ae,by rw[aq (Ne.symm nad)];exact g5,hT.n1,hT.n2,hT.n3⟩;rw[getD_snoc];by_cases hi:i < as.length
 .rw [List.getElem?_append_left hi] at e;rw[if_pos (by rw[<- hT.ln];exact hi)];exact rk _ _ (hT.rp i y e)
 .rw [List.getElem?_append_right (by lia)] at e
  have hi0:i - as.length=0:=by
   have:=(List.getElem?_eq_some_iff.mp e).1;have:i - as.length < 1:=this
   lia
  rw[hi0] at e;have e:x=y:=Option.some.inj e;subst e;have:i=rows.length:=by have:=hT.ln;lia
  rw[if_neg (by lia),if_pos this];exact rk _ _ hR
def CY(p:Pl)(C:Addr):Sp:=λvs H Q _=>∃(t:Addr) (rows:List Row) (c b a d:Addr) (as:List Addr) (dp:Nat),vs=[.ref t,.int ((2 * dp:Nat):Int)]/\kb C p H t rows c b a d as/\rows.length<=1000∧
 ((rows=[]/\Q .non H)\/∃j,j < rows.length/\(rows.getD j default).dep + 1=dp/\(rows.getD j default).isM=true/\(∀i,j < i->i < rows.length->dp<=(rows.getD i default).dep)/\∀H',ay H H'->Q (.int (j:Int)) H')
theorem Gj{cT:Addr}(F:aM K "minder_above" "Tree.minder_above" b9 dV f fd)(T:Txt mg)(hc:CT K cT)(I:If P w K mg base 3 p.rep p.cl):aB P w K mg base (CXE P w) true 4 f fd dE (CY p cT):=by
 have d_leaf:∀C s dvs,Dt (nD p.rep) (λC=>∃j,p.cl j C) C s dvs->MethAt P w K mg base (CXE P w) true 3 "leaf" C s dvs:=by
  rintro C s dvs ⟨⟨j,z⟩,rfl,rfl⟩;exact I.leaf z
 rcases bb,(aa (pU PassesOwn.never rfl (Cv (by rfl) T.jr {ak jo (aE aF (by rfl) T.d0 cn {a8 (pv 0) rfl}) af,iA eL af,iA eL af}) (cz (i:=2) bb.nd rfl (by k_ne)) (ag (aD (zct jg (zix av (a8 (pv 0) rfl) (pv 2)) (pv 1)) (aa (aL (i:=3) bb.nd (fh (zce a0 (zix av (a8 (pv 0) rfl) (pv 2)) (ak jo (pv 1) af)) (fX (xE (uz (zix av (a8 (pv 0) rfl) (pv 2)) d_leaf)))))
   (ag (ao (Am (cc (pv 3)) (pv 2) bP)))) ar)))
   (ag (ao bP))) with⟨t,rows,c,b,a,d,as,dp,rfl,hT,hl,k⟩
 obtain⟨dx,hob⟩:=hT.ob;lk;refine jk hob hc.cl hc.n1 rfl ?_;lk;refine ex2 c _ (an3 rfl (.inl (SqL.of hT.ch)) ?_);lk;have an:(as.map V.ref).length=rows.length:=by rw[List.length_map,hT.ln]
 rw[an];refine⟨by lia,?_⟩
 have bat:∀i,i < rows.length->(bq rows)[i]? =some (V.int ((2 * (rows.getD i default).dep:Nat):Int)):=λi hi=>by
  unfold bq;rw[List.getElem?_map,Bl hi]
  rfl
 rcases k with⟨e0,k⟩ | ⟨j,hj,hd,hm,hb,k⟩
 .have n0:rows.length=0:=by rw[e0];rfl
  rw[n0];refine vC (n:=0) (λ_ σ H'=>H'=H) rfl (λi σ H' hi=>absurd hi (Nat.not_lt_zero _)) (λi σ H' x H2 hi=>absurd hi (Nat.not_lt_zero _)) (λσ H' e=>⟨Nat.le_refl _,?_⟩);subst e;exact k
 .refine vC (n:=rows.length) (λi σ H'=>H'=H/\j + i < rows.length/\∃v2 v3,σ=[some (.ref t),some (.int ((2 * dp:Nat):Int)),v2,v3]) ⟨rfl,hj,none,none,rfl⟩ (λi σ H' hi _=>hi) ?_ (λσ H' z=>absurd z.2.1 (by lia));rintro i σ H' x H2 hi ⟨rfl,hji,v2,v3,rfl⟩ ⟨rfl,rfl⟩;have pe:(rows.length:Int) - 1 - (i:Int)=((rows.length - 1 - i:Nat):Int):=by lia
  rw[pe];have hp:rows.length - 1 - i < rows.length:=by lia
  generalize hq:rows.length - 1 - i=q at hp;lk;refine jk hob hc.cl hc.n2 rfl ?_;lk;refine ex4 b _ _ _ (an5 rfl rfl (SqL.of hT.bl) (aO (bat q hp)) ?_);lk;refine aV (λe=> ?_) (λe=> ?_)
  .have e:(((2 * (rows.getD q default).dep:Nat)):Int) < ((2 * dp:Nat):Int):=of_decide_eq_true e
   have qj:q=j:=by
    by_cases z:j < q
    .have:=hb q z hp
     lia
    .lia
   subst qj;have hqa:q < as.length:=by rw[hT.ln];exact hp
   have hR:=hT.rp q as[q] (List.getElem?_eq_getElem hqa);obtain⟨r1,r2,dx',r3⟩:=id hR;lk;refine jk hob hc.cl hc.n2 rfl ?_;lk;refine ex4 b _ _ _ (an5 rfl rfl (SqL.of hT.bl) (aO (bat q hp)) ?_);lk;have eb:V.int ((2 * (rows.getD q default).dep:Nat):Int)=V.int (((2 * dp:Nat):Int) - 2):=by congr 1;lia
   refine aV (λe2=> ?_) (λe2=> ?_)
   .lk;refine jk hob hc.cl hc.n1 rfl ?_;lk;refine ex4 c _ _ (V.ref as[q]) (an5 rfl rfl (SqL.of hT.ch) (aO (by rw[List.getElem?_map,List.getElem?_eq_getElem hqa];rfl)) ?_);lk;obtain⟨C',dy,fs',i1,i2,i3,i4,_⟩:=I.inst hR;refine nc i1 ⟨⟨_,i2⟩,rfl,rfl⟩ i4 ?_;refine ex4 (as[q]) dy fs' _ (an4 rfl hR i1 (λH3 s3=> ?_))
    have nl:decide ((rows.getD q default).sh.kind < 3)=false:=by
     have:=of_decide_eq_true hm;exact decide_eq_false (by lia)
    rw[nl];lk;exact k _ s3
   .exact absurd (decide_eq_true eb) e2
  .have e:¬(((2 * (rows.getD q default).dep:Nat)):Int) < ((2 * dp:Nat):Int):=λz=>e (decide_eq_true z);refine⟨rfl,?_,_,_,rfl⟩;have:q≠j:=λz=>e (by rw[z];lia)
   lia
def Bs(rows:List Row)(n j:Nat):Prop:=j < rows.length/\2 * (rows.getD j default).dep + 2=n/\(rows.getD j default).isM=true/\∀i,j < i->i < rows.length->n<=2 * (rows.getD i default).dep
def sQ(p:Pl)(C:Addr):Sp:=λvs H Q _=>∃(t:Addr) (rows:List Row) (c b a d:Addr) (as:List Addr) (n:Nat),vs=[.ref t,.int (n:Int)]/\kb C p H t rows c b a d as/\rows.length<=1000∧
 (∀j:Nat,Bs rows n j->∀H',ay H H'->Q (.int (j:Int)) H')/\((∀j,¬Bs rows n j)->∀H',ay H H'->Q .non H')
theorem Dj{cT:Addr}(F:aM K "minder_above" "Tree.minder_above" b9 dV f fd)(T:Txt mg)(hc:CT K cT)(I:If P w K mg base 3 p.rep p.cl):aB P w K mg base (CXE P w) true 4 f fd dE (sQ p cT):=by
 have d_leaf:∀C s dvs,Dt (nD p.rep) (λC=>∃j,p.cl j C) C s dvs->MethAt P w K mg base (CXE P w) true 3 "leaf" C s dvs:=by
  rintro C s dvs ⟨⟨j,z⟩,rfl,rfl⟩;exact I.leaf z
 rcases bb,(aa (pU PassesOwn.never rfl (Cv (by rfl) T.jr {ak jo (aE aF (by rfl) T.d0 cn {a8 (pv 0) rfl}) af,iA eL af,iA eL af}) (cz (i:=2) bb.nd rfl (by k_ne)) (ag (aD (zct jg (zix av (a8 (pv 0) rfl) (pv 2)) (pv 1)) (aa (aL (i:=3) bb.nd (fh (zce a0 (zix av (a8 (pv 0) rfl) (pv 2)) (ak jo (pv 1) af)) (fX (xE (uz (zix av (a8 (pv 0) rfl) (pv 2)) d_leaf)))))
   (ag (ao (Am (cc (pv 3)) (pv 2) bP)))) ar)))
   (ag (ao bP))) with⟨t,rows,c,b,a,d,as,n,rfl,hT,hl,k1,k2⟩
 obtain⟨dx,hob⟩:=hT.ob;lk;refine jk hob hc.cl hc.n1 rfl ?_;lk;refine ex2 c _ (an3 rfl (.inl (SqL.of hT.ch)) ?_);lk;have an:(as.map V.ref).length=rows.length:=by rw[List.length_map,hT.ln]
 rw[an];refine⟨by lia,?_⟩
 have bat:∀i,i < rows.length->(bq rows)[i]? =some (V.int ((2 * (rows.getD i default).dep:Nat):Int)):=λi hi=>by
  unfold bq;rw[List.getElem?_map,Bl hi]
  rfl
 refine vC (n:=rows.length) (λi σ H'=>H'=H/\(∀m,rows.length<=m + i->m < rows.length->n<=2 * (rows.getD m default).dep)/\∃v2 v3,σ=[some (.ref t),some (.int (n:Int)),v2,v3]) ⟨rfl,λm h1 h2=>absurd h1 (by lia),none,none,rfl⟩ (λi σ H' hi _=>hi) ?_ ?_
 .rintro i σ H' x H2 hi ⟨rfl,hge,v2,v3,rfl⟩ ⟨rfl,rfl⟩;have pe:(rows.length:Int) - 1 - (i:Int)=((rows.length - 1 - i:Nat):Int):=by lia
  rw[pe];have hp:rows.length - 1 - i < rows.length:=by lia
  generalize hq:rows.length - 1 - i=q at hp;lk;refine jk hob hc.cl hc.n2 rfl ?_;lk;refine ex4 b _ _ _ (an5 rfl rfl (SqL.of hT.bl) (aO (bat q hp)) ?_);lk;refine aV (λe=> ?_) (λe=> ?_)
  .have e:(((2 * (rows.getD q default).dep:Nat)):Int) < (n:Int):=of_decide_eq_true e
   have un:∀j,Bs rows n j->j=q:=λj ⟨h1,h2,h3,h4⟩=>by
    rcases Nat.lt_trichotomy j q with z | z | z
    .have:=h4 q z hp
     lia
    .exact z
    .have:=hge j (by lia) h1
     lia
   have hqa:q < as.length:=by rw[hT.ln];exact hp
   have hR:=hT.rp q as[q] (List.getElem?_eq_getElem hqa);obtain⟨r1,r2,dx',r3⟩:=id hR;lk;refine jk hob hc.cl hc.n2 rfl ?_;lk;refine ex4 b _ _ _ (an5 rfl rfl (SqL.of hT.bl) (aO (bat q hp)) ?_);lk;refine aV (λe2=> ?_) (λe2=> ?_)
   .have e2:=V.int.inj (of_decide_eq_true e2);lk;refine jk hob hc.cl hc.n1 rfl ?_;lk;refine ex4 c _ _ (V.ref as[q]) (an5 rfl rfl (SqL.of hT.ch) (aO (by rw[List.getElem?_map,List.getElem?_eq_getElem hqa];rfl)) ?_);lk;obtain⟨C',dy,fs',i1,i2,i3,i4,_⟩:=I.inst hR;refine nc i1 ⟨⟨_,i2⟩,rfl,rfl⟩ i4 ?_;refine ex4 (as[q]) dy fs' _ (an4 rfl hR i1 (λH3 s3=> ?_));by_cases hm:(rows.getD q default).sh.kind < 3
    .rw [decide_eq_true hm];lk;refine k2 (λj hj=> ?_) _ s3;have:=of_decide_eq_true hj.2.2.1;rw[un j hj] at this
     lia
    .rw [decide_eq_false hm];lk;exact k1 q ⟨hp,by lia,decide_eq_true (by lia),λm h1 h2=>hge m (by lia) h2⟩ _ s3
   .have e2:¬2 * (rows.getD q default).dep + 2=n:=λz=>e2 (decide_eq_true (congrArg V.int (by lia)));lk;refine k2 (λj hj=> ?_) _ (ay.refl _);have:=hj.2.1;rw[un j hj] at this;exact e2 this
  .have e:¬(((2 * (rows.getD q default).dep:Nat)):Int) < (n:Int):=λz=>e (decide_eq_true z);refine⟨rfl,λm h1 h2=> ?_,_,_,rfl⟩;rcases Nat.decEq m q with z | z
   .exact hge m (by lia) h2
   .rw [z]
    lia
 .rintro σ H' ⟨rfl,hge,v2,v3,rfl⟩;refine⟨Nat.le_refl _,?_⟩;lk;refine k2 (λj hj=> ?_) _ (ay.refl _);have:=hge j (by lia) hj.1;have:=hj.2.1
  lia
def qb(cB:Addr):Sp:=λvs H Q _=>∃(e:Addr) (n:Nat),vs=[.ref e,.int (n:Int)]/\H e=some (XOn e cB none)/\n<=200000/\∀dx,H dx=none->Q .non (upd (upd H e (XOn e cB (some dx))) dx (.xd [("row",.int (n:Int))]))
theorem KG{i:Int}(h0:0<=i)(h1:i<=200000):(bE i).length<=7:=by
 rw[<- aA,show cds (bE i)=dg i.toNat from lJ h0];exact(GA _).mpr (by lia)
theorem Ds{n:Nat}(h:n<=200000):(n:Int).natAbs.log2 < 1920:=by
 rw[Int.natAbs_natCast];rcases Nat.eq_zero_or_pos n with z | z
 .rw [z];decide
 .exact (Nat.log2_lt (by lia)).mpr (Nat.lt_of_lt_of_le (show n < 2 ^ 18 by lia) (Nat.pow_le_pow_right (by decide) (by decide)))
theorem A5{cB cM:Addr}(F:aM K "__init__" "BadRow.__init__" eO dV f fd)(cD:mg "MinderError"=some (.ref cM))(iP:Gx K cM "__init__" "ValueError.__init__")(xs1:XSt K cB "row"):aB P w K mg base (CXE P w) true 1 f fd bW (qb cB):=by
 rcases nz,(aa (br (Fx (by rfl) cD iP {pv 0,yM (iD ai (iD (Fq (pv 1)) (iD ai A3)))}))
   (ag (JN (pv 0) (pv 1) rfl))) with⟨e,n,rfl,he,hn,k⟩
 have nl:=KG (i:=(n:Int)) (by lia) (by lia);have l0:(Str.empty++Str.ofString "row ").length<=10:=by decide +kernel
 have l1:(Str.empty++Str.ofString "row "++bE (n:Int)).length<=20:=by rw[PySem.Str.length_append];lia
 have l2:(Str.empty++Str.ofString "row "++bE (n:Int)++Str.ofString " is no child's row, or stands under no minder").length<=100:=by
  rw[PySem.Str.length_append];have:(Str.ofString " is no child's row, or stands under no minder").length<=60:=by decide +kernel
  lia
 lk;refine⟨aH (by lia),?_⟩;lk;refine .inl ⟨(n:Int),rfl,Ds hn,bE (n:Int),rfl,aH (by lia),_,rfl,aH (by lia),aH (by lia),?_⟩;refine⟨e,cB,_,"row",rfl,he,xs1,?_⟩;lk;exact⟨e,cB,rfl,he,xs1,k⟩
open PySem L2 Shp Nm Tr Hs PySem.NumText
abbrev TRT:=Hp->Addr->List Row->FS->Prop
def L9(x:Str):Prop:=x.length<=100000/\True
def AS(TR:TRT):Sp:=λvs H Q _=>∃(x:Str) (rows:List Row),vs=[.str x]/\L9 x/\parse (cds x)=.ok rows/\OkT rows/\∀(t:Addr) (H':Hp) (FT:FS),ay H H'->(∀b,FT b->H b=none)->TR H' t rows FT->Q (.ref t) H'
theorem s32:Str.ofString " "=⟨#[32]⟩:=by decide +kernel
theorem s35:Str.ofString "#"=⟨#[35]⟩:=by decide +kernel
theorem s10:Str.ofString "\n"=⟨#[10]⟩:=by decide +kernel
def vn:Sp:=λvs H Q _=>∃x:Str,vs=[.str x]/\x.length<=100000/\Q (.bl (bG (cds x))) H
theorem Et(F:aM K "passed_over" "passed_over" iU dV f fd)(T:Txt mg):aB P w K mg base (CXE P w) true 1 f fd mj vn:=by
 refine F.pf kg λvs H Q E h=> ?_;obtain⟨x,rfl,hx,k⟩:=h
 refine⟨rfl,λcdv A outer s hr=>⟨_,(aa (aL (i:=1) kg.nd (cv PySem.F.plainAttrs_str PySem.F.slot_str_lstrip PySem.F.type_str_lstrip kq (pv 0) {(ai)}))
   (ag (ao (K9 (zce a0 (pv 1) ai) (fX (cv PySem.F.plainAttrs_str PySem.F.slot_str_startswith PySem.F.type_str_startswith oZ (pv 1) {(ai)})))))),?_⟩⟩
 fin2
 have lc:=oo x 32;lk;refine⟨da (by lia),?_⟩;rw[s32];unfold bG at k;rw[<- lc] at k;generalize Txt.lstripChars x ⟨#[32]⟩=y at k;lk;refine aV (λe=> ?_) (λe=> ?_)
 .have e:y="":=V.str.inj (of_decide_eq_true e);subst e;exact k
 .have e:y≠"":=λz=>e (decide_eq_true (congrArg V.str z));lk;rw[s35,yb];cases hy:cds y with
  | nil=>exact absurd (iw hy) e
  | cons c r=>
   rw[hy] at k
   have ec:decide ((c::r).head? =some 35)=(c == 35):=by
    show decide (some c=some 35)=_;rw[Bool.eq_iff_iff,decide_eq_true_iff,beq_iff_eq,Option.some.injEq]
   rw[ec];exact k
theorem Au(x:Str):(bu (cds x)).map ofC=(Txt.split x ⟨#[32]⟩).filter λy:Str=>decide (y≠""):=by
 unfold bu;rw[<- ei x (by decide),List.filter_map,List.map_map];have:(ofC∘cds)=id:=funext λy=>xY y;rw[this,List.map_id]
 congr 1
 funext y
 show(!(cds y).isEmpty)=_;rw[Bool.eq_iff_iff,decide_eq_true_iff,Bool.not_eq_true',List.isEmpty_eq_false_iff];exact⟨λz e=>z (by rw[e];rfl),λz e=>z (iw e)⟩
def p9:Sp:=λvs H Q _=>∃x:Str,vs=[.str x]/\x.length<=100000/\∀(q:Addr) (H':Hp),ay H H'->H q=none->H' q=some (.lst (((bu (cds x)).map ofC).map V.str))->Q (.ref q) H'
theorem AH(F:aM K "words_in" "words_in" mH dV f fd)(T:Txt mg):aB P w K mg base (CXE P w) true 1 f fd sR p9:=by
 refine F.pf zg λvs H Q E h=> ?_;obtain⟨x,rfl,hx,k⟩:=h;refine⟨rfl,λcdv A outer s hr=>⟨_,(ag (ao (y4 (x:="word") (fr:=[]) (by kd_p) rfl (Cz (cv PySem.F.plainAttrs_str PySem.F.slot_str_split PySem.F.type_str_split iV (pv 0) {(ai)})) (λ_ _ _ _=>(JD (Ce sO (pv 0) ai (Bj _)))) (λ_ _ _ _=>(pv 0))))),?_⟩⟩
 fin2
 rw[Au] at k;have sl:=split_len x (c:=32) (by decide);have bl:=kS x 32;rw[s32];lk;generalize hys:Txt.split x ⟨#[32]⟩=ys at k sl;refine⟨da (by lia),rfl,da (Nat.le_trans bl (by lia)),da (by lia),λq hq=> ?_⟩;refine⟨q,rfl,⟨_,SqL.of ae⟩,?_⟩;have hS:SqL K (upd H q (.lst (ys.map V.str))) q (ys.map V.str):=SqL.of ae;have sq:ay H (upd H q (.lst (ys.map V.str))):=ah hq;generalize upd H q (.lst (ys.map V.str))=H1 at hS sq;refine ff (J:=Itl K q) (n:=ys.length) (λi zs H'=>H'=H1/\zs=((ys.take i).filter λy:Str=>decide (y≠"")).map V.str) ⟨rfl,rfl⟩ ?_ ?_ ?_ ?_
 .rintro i zs H' hi ⟨rfl,rfl⟩;exact⟨_,V.str ys[i],hS,by rw[List.getElem?_map,List.getElem?_eq_getElem hi];rfl⟩
 .rintro zs H' ⟨rfl,rfl⟩;exact⟨_,hS,by rw[List.length_map];exact Nat.le_refl _⟩
 .rintro i zs H' v H2 hi ⟨rfl,rfl⟩ ⟨rfl,hv⟩;have hv:=hv _ hS;rw[List.getElem?_map,List.getElem?_eq_getElem hi] at hv;obtain rfl:V.str ys[i]=v:=Option.some.inj hv;have fl:((ys.take i).filter λy:Str=>decide (y≠"")).length<=ys.length:=Nat.le_trans (List.length_filter_le _ _) (by rw[List.length_take];lia);lk;refine aV (λe=> ?_) (λe=> ?_)
  .have e:ys[i]≠"":=λz=>by rw[z] at e;exact absurd e (by decide)
   lk;refine⟨by rw[List.length_map,sizeLine_eq];lia,rfl,?_⟩;rw[List.take_add_one,List.getElem?_eq_getElem hi,List.filter_append,List.map_append];show _=_++(List.filter _ [ys[i]]).map V.str;rw[List.filter_cons,if_pos (decide_eq_true e)]
   rfl
  .have e:ys[i]="":=by
    by_cases z:ys[i]=""
    .exact z
    .exact absurd (by simpa using z) e
   refine⟨rfl,?_⟩;rw[List.take_add_one,List.getElem?_eq_getElem hi,List.filter_append,List.map_append];show _=_++(List.filter _ [ys[i]]).map V.str;rw[List.filter_cons,if_neg (λz:decide (ys[i]≠"")=true=>(of_decide_eq_true z) e)];exact(List.append_nil _).symm
 .rintro zs H' ⟨rfl,rfl⟩;rw[List.take_length];have fl:(ys.filter λy:Str=>decide (y≠"")).length<=ys.length:=List.length_filter_le _ _;refine⟨da (by rw[List.length_map];lia),λq2 hq2=>k q2 _ (λb o z=>ah hq2 _ _ (sq _ _ z)) ?_ ae⟩;cases z:H q2 with
  | none=>rfl
  | some o=>rw[sq _ _ z] at hq2;cases hq2
def uM:Sp:=λvs H Q _=>∃x:Str,vs=[.str x]/\x.length<=100000/\Q (.int ((lead (cds x):Nat):Int)) H
theorem DL(F:aM K "blanks_ahead" "blanks_ahead" g9 dV f fd)(T:Txt mg):aB P w K mg base (CXE P w) true 1 f fd ky uM:=by
 refine F.pf rz λvs H Q E h=> ?_;obtain⟨x,rfl,hx,k⟩:=h;refine⟨rfl,λcdv A outer s hr=>⟨_,(ag (ao (ak jo (aE gD (by rfl) T.d0 cn {pv 0}) (aE gD (by rfl) T.d0 cn {cv PySem.F.plainAttrs_str PySem.F.slot_str_lstrip PySem.F.type_str_lstrip kq (pv 0) {(ai)}})))),?_⟩⟩
 fin2
 have lc:=oo x 32;have ll:=AJ x ⟨#[32]⟩
 have e:(x.length:Int) - ((Txt.lstripChars x ⟨#[32]⟩).length:Int)=((lead (cds x):Nat):Int):=by
  have h:=congrArg List.length (List.takeWhile_append_dropWhile (p:=(· == 32)) (l:=cds x));rw[List.length_append,aA,<-lc,aA] at h;unfold lead
  lia
 lk;refine⟨da (by lia),?_⟩;lk;refine⟨da (by lia),?_⟩;rw[s32];lk;refine⟨da (by lia),?_⟩;lk;show Q (.int ((x.length:Int) - ((Txt.lstripChars x ⟨#[32]⟩).length:Int))) H;rw[e];exact k
def AF(cT:Addr)(p:Pl):Sp:=λvs H Q _=>∃(t x:Addr) (rows:List Row) (r:Row) (c b a d:Addr) (as:List Addr) (ab:V),vs=[.ref t,.ref x,.int ((2 * r.dep:Nat):Int),ab]/\kb cT p H t rows c b a d as/\p.rep H x r.sh/\rows.length<=1000∧
 ((rows=[]/\r.dep=0/\r.isM=true)\/(rows≠[]/\(∃j:Int,ab=.int j)/\r.dep<=8/\r.sh.name∉rows.map (·.sh.name)))/\∀H',ay H H'->Q (.bl true) H'
theorem CI{cT:Addr}{tB:Tok}(F:aM K "stands_well" "stands_well" fG dV f fd)(T:Txt mg)(hc:CT K cT)(hcf:∀j,p.pr j->CF K (p.c j))(I:If P w K mg base 3 p.rep p.cl)(b2:mg "MOST_BLANKS"=some (.int 16 tB))
  (hN:gL P w K mg base 1 "names" (jy p) λC=>C=cT):aB P w K mg base (CXE P w) true 4 f fd iQ (AF cT p):=by
 have d_names:=hN.d
 have d_leaf:∀C s dvs,Dt (nD p.rep) (λC=>∃j,p.cl j C) C s dvs->MethAt P w K mg base (CXE P w) true 3 "leaf" C s dvs:=by
  rintro C s dvs ⟨⟨j,z⟩,rfl,rfl⟩;exact I.leaf z
 rcases kY,(aa (aD (zct (pK (pA hr)) (uz (pv 0) d_names) (az eT)) (ag (ao (fh (zce a0 (pv 2) af) (fX (xE (uz (pv 1) d_leaf)))))) ar)
   (ag (ao (fh (zce B5 (pv 3) bP) (fh (zce GD (pv 2) (dj (by rfl) b2)) (fX (ER (wV (B3 hr) (a8 (pv 1) rfl) (a8 (pv 0) rfl))))))))) with⟨t,x,rows,r,c,b,a,d,as,ab,rfl,hT,hR,hl,hk,k⟩
 obtain⟨dx,hob⟩:=hT.ob;obtain⟨r1,r2,dx',r3⟩:=id hR;have cf:=hcf _ r2;lk;refine nc hob ⟨rfl,rfl,rfl⟩ rfl ?_;refine ex7 t rows c b a d as (an4 rfl hT hl (λq H1 s1 hq hq2=> ?_));lk;refine⟨l8 (by decide),λq2 hq3=> ?_⟩;have s2:=ah (o:= .lst []) hq3;lk;refine ex4 q q2 _ ([]) (an7 rfl rfl (SqL.of (s2 _ _ hq2)) (SqL.of ae) (lu _) rfl ?_);generalize upd H1 q2 (.lst [])=H2 at s2;have sH:ay H H2:=λb o z=>s2 _ _ (s1 _ _ z);refine⟨_,rfl,?_⟩;rcases hk with⟨rfl,h0,hm⟩ | ⟨hn,⟨j,rfl⟩,h8,hnm⟩
 .refine aV (λe=> ?_) (λe=>absurd rfl e);lk;rw[h0];refine aV (λe2=> ?_) (λe2=>absurd (decide_eq_true rfl) e2);lk;obtain⟨C',dy,fs',i1,i2,i3,i4,_⟩:=I.inst (I.mono sH hR);refine nc i1 ⟨⟨_,i2⟩,rfl,rfl⟩ i4 ?_;refine ex4 x dy fs' _ (an4 rfl (I.mono sH hR) i1 (λH3 s3=> ?_))
  have nl:decide (r.sh.kind < 3)=false:=by
   have:=of_decide_eq_true hm;exact decide_eq_false (by lia)
  rw[nl];lk;exact k _ (λb o z=>s3 _ _ (sH _ _ z))
 .refine aV (λe=> ?_) (λe=> ?_)
  .have e:oj ((namesOf rows).map V.str) []=true:=e;cases rows with
   | nil=>exact absurd rfl hn
   | cons r0 rs=>exact absurd e (by show ¬(false=true);decide)
  .have T2:=hT.same sH;obtain⟨dx2,hob2⟩:=T2.ob;obtain⟨_,_,dx3,r4⟩:=Pl.mono sH hR
   have dg:z7 H2 d (V.str r.sh.name) none:=by
    have:=z7.k (k:= .inr r.sh.name) T2.pl;rw[qP hnm] at this;exact this
   lk;refine aV (λe2=> ?_) (λe2=>absurd (decide_eq_true (show((2 * r.dep:Nat):Int)<=16 by lia)) e2);lk;refine jk r4 cf.cl cf.n1 (oP _) ?_;lk;refine jk hob2 hc.cl hc.n4 rfl ?_;lk;exact⟨d,none,rfl,dg,k _ sH⟩
theorem sM(c:Nat):∀l:List Nat,∀y∈spl c l,y.length<=l.length
 | [],y,h=>by
  rw[Io,List.mem_singleton] at h;rw[h];exact Nat.le_refl _
 | a::r,y,h=>by
  rw[lq] at h;by_cases e:a=c
  .rw [if_pos e] at h;rcases List.mem_cons.mp h with rfl | h
   .exact Nat.zero_le _
   .exact Nat.le_trans (sM c r y h) (Nat.le_succ _)
  .rw [if_neg e] at h;have ih:=sM c r;cases hz:spl c r with
   | nil=>exact absurd hz (Bd c r)
   | cons u v=>
    rw[hz] at h ih;rcases List.mem_cons.mp h with rfl | h
    .exact Nat.succ_le_succ (ih u List.mem_cons_self)
    .exact Nat.le_trans (ih y (List.mem_cons_of_mem _ h)) (Nat.le_succ _)
theorem Cq{x y:Str}(h:y∈(bu (cds x)).map ofC):y.length<=x.length:=by
 obtain⟨l,hl,rfl⟩:=List.mem_map.mp h;have:=sM 32 (cds x) l (List.mem_filter.mp hl).1;rw[<- aA,fF,<-aA];exact this
def qw(cT:Addr)(p:Pl):Sp:=λvs H Q _=>∃(t:Addr) (x:Str) (n:Int) (rows:List Row) (r:Row) (c b a d:Addr) (as:List Addr),vs=[.ref t,.str x,.int n]/\kb cT p H t rows c b a d as/\OkP rows/\rows.length < 64/\x.length<=100000/\bA (cds x)=some r∧
 fits (aC rows rows.length) rows.length r/\r.sh.name∉rows.map (·.sh.name)/\∀(H':Hp) (y:Addr),(∀e u,e≠c->e≠b->e≠a->e≠d->H e=some u->H' e=some u)->H y=none->kb cT p H' t (rows++[r]) c b a d (as++[y])->Q .non H'
theorem tP{cT:Addr}{tR:Tok}(F:aM K "take_row" "take_row" cZ dV f fd)(T:Txt mg)(hc:CT K cT)(cw:mg "MOST_ROWS"=some (.int 64 tR))(hN:gL P w K mg base 1 "names" (jy p) λC=>C=cT)(hA:gL P w K mg base 4 "minder_above" (CY p) λC=>C=cT)
  (hK:gL P w K mg base 1 "take" (AL p) λC=>C=cT) (c_child_in:Cal P w K mg base true 7 "child_in" (oC K p none) []) (dW:Cal P w K mg base true 1 "words_in" p9 []) (bN:Cal P w K mg base true 1 "blanks_ahead" uM [])
  (c_stands_well:Cal P w K mg base true 4 "stands_well" (AF cT p) []):aB P w K mg base (CXE P w) true 8 f fd m7 (qw cT p):=by
 refine F.pf cu λvs H Q E y0=> ?_;obtain⟨t,x,n,rows,r,c,b,a,d,as,rfl,hT,hO,h64,hx,hli,hf,hnm,k⟩:=y0;refine⟨rfl,λcdv A outer s hr=> ?_⟩;obtain⟨ld,rw'⟩:=oW hli;have d_names:=hN.d;have d_minder_above:=hA.d;have d_take:=hK.d;have wl:∀y∈(bu (cds x)).map ofC,y.length<=100000:=λy hy=>Nat.le_trans (Cq hy) hx
 have t3:∃tt,PSs (fO true (CXE P w) P w K mg base mz "take_row" (aj cZ) f cdv A outer s H E).nox ((aY cZ).drop 3) tt/\∀(y:Addr) (ab:V) (H3:Hp),ay H H3->H y=none->p.rep H3 y r.sh->ab=(if rows.length=0 then V.non else V.int (b6 (rows++[r]) rows.length))→
   ((rows=[]/\r.dep=0/\r.isM=true)\/(rows≠[]/\(∃j:Int,ab=.int j)/\r.dep<=8/\r.sh.name∉rows.map (·.sh.name)))->tt { nx:=λ_ H'=>Q .non H',rt:=Q} [some (.ref t),some (.str x),some (.int n),some (.ref y),some (.int ((2 * r.dep:Nat):Int)),some ab] H3:=by
  refine⟨_,(aa (aD (PW.pt (g7 (zct GO (pv 3) bP) (gg (hJ (cc (bD c_stands_well {pv 0,pv 3,pv 4,pv 5})))))) (ag nQ) ar)
   (aa (aD (zct a0 (aE aF (by rfl) T.d0 cn {uz (pv 0) d_names}) (dj (by rfl) cw)) (ag nQ) ar)
   (ag (br (zmD (pv 0) d_take {pv 3,pv 4,pv 5}))))),?_⟩
  fin2
  intro y ab H3 s3 hy hR hab hw;have T3:=hT.same s3;have hl:rows.length<=1000:=by lia
  lk;refine Er t y rows r c b a d as ab (an6 rfl T3 hR hl hw (λH4 s4=> ?_));have T4:=T3.same s4;obtain⟨dx4,hob4⟩:=T4.ob;lk;refine nc hob4 ⟨rfl,rfl,rfl⟩ rfl ?_;refine ex7 t rows c b a d as (an4 rfl T4 hl (λq H5 s5 hq hq2=> ?_));have T5:=T4.same s5;obtain⟨dx5,hob5⟩:=T5.ob;lk;refine ex2 q _ (an3 rfl (.inl (SqL.of hq2)) ?_);lk;refine aV (λe=> ?_) (λe=> ?_)
  .have e:=V.int.inj (of_decide_eq_true e);rw[List.length_map] at e;have:(namesOf rows).length=rows.length:=List.length_map _
   lia
  refine exP rfl (nc hob5 ⟨rfl,rfl,rfl⟩ rfl ?_);refine exP rfl (exP rfl (exP rfl (Er t y rows r c b a d as ab (an7 rfl T5 (Pl.mono s5 (Pl.mono s4 hR)) hl hnm hab (λH6 k6 T6=> ?_)))));exact k H6 y (λe u n1 n2 n3 n4 z=>k6 e u n1 n2 n3 n4 (s5 _ _ (s4 _ _ (s3 _ _ z)))) hy T6
 obtain⟨tt,ht,hn⟩:=t3
 refine⟨_,(aa (aL (i:=3) cu.nd (bD c_child_in {bD dW {pv 1}}))
   (aa (aL (i:=4) cu.nd (bD bN {pv 1}))
   (aa (aL (i:=5) cu.nd (zmD (pv 0) d_minder_above {pv 4}))
   ht))),?_⟩
 fin2
 lk;refine⟨hx,λq H1 s1 hq hq2=> ?_⟩;lk;refine ex3 q _ r.sh (an7 rfl (SqL.of hq2) rw' (λz=>(by cases z)) (λz=>(by cases z)) wl (λy H2 s2 hy0 hR=> ?_));lk;refine⟨hx,?_⟩;rw[ld];have sH2:ay H H2:=λb o z=>s2 _ _ (s1 _ _ z);have T2:=hT.same sH2;obtain⟨dx2,hob2⟩:=T2.ob;have yn:H y=none:=cV s1 hy0;lk;refine nc hob2 ⟨rfl,rfl,rfl⟩ rfl ?_;refine exP rfl (ex8 t rows c b a d as r.dep (an4 rfl T2 (by lia) ?_));by_cases e0:rows=[]
 .have hf0:r.dep=0/\r.isM=true:=by
   unfold fits at hf;rw[if_pos (by rw[e0];rfl)] at hf;exact hf
  exact .inl ⟨e0,hn y _ H2 sH2 yn hR (by rw[if_pos (by rw[e0];rfl)]) (.inl ⟨e0,hf0⟩)⟩
 .obtain ⟨j,j1,j2,j3,j4,j5,j6⟩:=B6 hO e0 hf;refine .inr ⟨j,j1,j2,j3,j4,λH3 s3=> ?_⟩;exact hn y _ H3 (λb o z=>s3 _ _ (sH2 _ _ z)) yn (Pl.mono s3 hR) (by rw[if_neg (λz=>e0 (List.length_eq_zero_iff.mp z)),j6]) (.inr ⟨e0,⟨_,rfl⟩,j5,hnm⟩)
def TRk(cT:Addr)(p:Pl):TRT:=λH t rows FT=>∃(c b a d:Addr) (as:List Addr),kb cT p H t rows c b a d as/\FT=λe=>e=t\/e=c\/e=b\/e=a\/e=d\/e∈as
theorem Hd{cT:Addr}(F:aM K "read" "read" yr dV f fd)(T:Txt mg)(hc:CT K cT)(pM:Mak P w K mg base true 1 "Tree" cT (nA cT p) [])(hN:gL P w K mg base 1 "names" (jy p) λC=>C=cT)
  (cG:Cal P w K mg base true 1 "passed_over" vn []) (c_take_row:Cal P w K mg base true 8 "take_row" (qw cT p) []):aB P w K mg base (CXE P w) true 9 f fd Bh (AS (TRk cT p)):=by
 have d_names:=hN.d
 rcases il,(aa (aL (i:=1) il.nd (CG pM (hr.mono (by omega)) (by rfl) bM))
   (aa (pU PassesOwn.never rfl (zr (by rfl) T.rg {cv PySem.F.plainAttrs_str PySem.F.slot_str_split PySem.F.type_str_split iV (pv 0) {(ai)}}) (xN rfl (dO (cz (i:=2) il.nd rfl (by k_ne)) (dO (cz (i:=3) il.nd rfl (by k_ne)) se))) (ag (aD (hJ (cc (bD cG {pv 3}))) (ag (br (bD c_take_row {pv 1,pv 3,pv 2}))) ar)))
   (aa (aD (zct (pK (pA hr)) (uz (pv 1) d_names) (az eT)) (ag nQ) ar)
   (ag (ao (pv 1)))))) with⟨x,out,rfl,⟨hx,_⟩,hp,hO,k⟩
 unfold parse at hp;rw[<- ei x (by decide)] at hp;have sl:=split_len x (c:=10) (by decide);have bl:=kS x 10
 have le:∀y∈Txt.split x ⟨#[10]⟩,y.length<=100000:=λy hy=>by
  have:=sM 10 (cds x) (cds y) (by rw[<- ei x (by decide)];exact List.mem_map.mpr ⟨y,hy,rfl⟩);rw[aA,aA] at this
  lia
 lk;intro t dx n1 n2 n3;refine ex3 t dx H (an6 rfl n1 n2 n3 rfl (λH1 c b a d s1 f1 f2 f3 f4 T1=>⟨rfl,?_⟩));lk;rw[s10];generalize Txt.split x ⟨#[10]⟩=lns at hp sl le;refine⟨da (by lia),rfl,da (Nat.le_trans bl (by lia)),da (by lia),λq hq=> ?_⟩;lk;have q1:(upd H1 q (.lst (lns.map V.str))) q=some (.lst (lns.map V.str)):=ae;have s2:ay H1 (upd H1 q (.lst (lns.map V.str))):=ah hq;generalize upd H1 q (.lst (lns.map V.str))=H2 at q1 s2;refine⟨⟨_,SqL.of q1⟩,?_⟩;have nq:q≠c/\q≠b/\q≠a/\q≠d:=⟨λz=>(by rw[z,T1.ch] at hq;cases hq),λz=>(by rw[z,T1.bl] at hq;cases hq),λz=>(by rw[z,T1.ab] at hq;cases hq),λz=>(by rw[z,T1.pl] at hq;cases hq)⟩
 refine vC (n:=lns.length) (λi σ H'=>H' q=some (.lst (lns.map V.str))/\ay H H'/\∃(pre:List Row) (as:List Addr) (v2 v3:Option V),kb cT p H' t pre c b a d as/\OkP pre/\pre.length<=64/\scan pre i ((lns.drop i).map cds)=.ok out/\(∀y∈as,H y=none)/\σ=[some (.str x),some (.ref t),v2,v3])
  ⟨q1,λe u z=>s2 _ _ (s1 _ _ z),[],[],none,none,T1.same s2,λi hi=>absurd hi (Nat.not_lt_zero _),Nat.zero_le _,hp,λy hy=>(by cases hy),rfl⟩ ?_ ?_ ?_
 .rintro i σ H' hi ⟨z,_⟩;exact⟨_,V.str lns[i],SqL.of z,by rw[List.getElem?_map,List.getElem?_eq_getElem hi];rfl⟩
 .rintro i σ H' v H3 hi ⟨z1,z2,pre,as,v2,v3,Tp,Op,l64,sc,fr,rfl⟩ ⟨q3,y,hq3,rfl,hy,rfl⟩;have hy:=hy _ (SqL.of z1);rw[List.getElem?_map,List.getElem?_eq_getElem hi] at hy;obtain rfl:V.str lns[i]=y:=Option.some.inj hy;have s3:=ah (o:= .tup [.int ((1 + i:Nat):Int),V.str lns[i]]) hq3;refine ex2 q3 _ (an4 rfl (SqT.of ae) rfl ?_);have dr:(lns.drop i).map cds=cds lns[i]::(lns.drop (i + 1)).map cds:=by rw[List.drop_eq_getElem_cons hi,List.map_cons]
  rw[dr] at sc;have lx:=le lns[i] (List.getElem_mem hi);have T3:=Tp.same s3;lk;refine⟨lx,?_⟩;rcases xr sc with⟨hpa,sc2⟩ | ⟨hpa,r,hli,hfi,hnm,h64,sc2⟩
  .rw [hpa];lk;exact⟨s3 _ _ z1,λe u z=>s3 _ _ (z2 _ _ z),pre,as,_,_,T3,Op,l64,sc2,fr,rfl⟩
  .rw [hpa];lk;refine Er t (lns[i]) _ pre r c b a d as (an9 rfl T3 Op (by lia) lx hli hfi hnm (λH4 y k4 hy4 T4=> ?_));refine⟨k4 _ _ nq.1 nq.2.1 nq.2.2.1 nq.2.2.2 (s3 _ _ z1),λe u z=> ?_,pre++[r],as++[y],_,_,T4,Op.snoc hfi,by rw[List.length_append];show pre.length + 1<=64;lia,sc2,λy' hy'=> ?_,rfl⟩
   .exact k4 e u (au z f1) (au z f2) (au z f3) (au z f4) (s3 _ _ (z2 _ _ z))
   .rcases List.mem_append.mp hy' with h | h
    .exact fr y' h
    .rw [List.mem_singleton.mp h];exact cV (λe u z=>s3 _ _ (z2 _ _ z)) hy4
 .rintro σ H' ⟨z1,z2,pre,as,v2,v3,Tp,Op,l64,sc,fr,rfl⟩;rw[List.drop_length] at sc;obtain⟨hne,rfl⟩:=Ah sc;obtain⟨dx',hob⟩:=Tp.ob;refine⟨⟨_,SqL.of z1,by rw[List.length_map];exact Nat.le_refl _⟩,?_⟩;lk;refine nc hob ⟨rfl,rfl,rfl⟩ rfl ?_;refine ex7 t out c b a d as (an4 rfl Tp (by lia) (λq5 H5 s5 hq5 hq6=> ?_));lk;refine⟨l8 (by decide),λq6 hq7=> ?_⟩;have s6:=ah (o:= .lst []) hq7;lk;refine ex4 q5 q6 _ ([]) (an7 rfl rfl (SqL.of (s6 _ _ hq6)) (SqL.of ae) (lu _) rfl ?_);refine⟨_,rfl,?_⟩;refine aV (λe=> ?_) (λe=> ?_)
  .have e:oj ((namesOf out).map V.str) []=true:=e;cases out with
   | nil=>exact absurd rfl hne
   | cons r0 rs=>exact absurd e (by show ¬(false=true);decide)
  .lk;refine k t _ _ (λe u z=>s6 _ _ (s5 _ _ (z2 _ _ z))) (λe he=> ?_) ⟨c,b,a,d,as,(Tp.same s5).same s6,rfl⟩;rcases he with rfl | rfl | rfl | rfl | rfl | he
   .exact n1
   .exact f1
   .exact f2
   .exact f3
   .exact f4
   .exact fr _ he
open PySem L2 Shp Nm Tr Hs PySem.NumText
theorem CW(rows:List Row):∀k,(∀i,i < k->(rows.getD i default).dep<=(aC rows i).length)->∀j,j < k->(∀i,j < i->i < k->(rows.getD j default).dep < (rows.getD i default).dep)->(aC rows k)[(rows.getD j default).dep]? =some (j,(rows.getD j default).isM)
 | 0,_,j,hj,_=>absurd hj (Nat.not_lt_zero _)
 | k + 1,wf,j,hj,h=>by
  show((aC rows k).take (rows.getD k default).dep++[(k,(rows.getD k default).isM)])[(rows.getD j default).dep]? =_;have wk:=wf k (Nat.lt_succ_self k);have tl:((aC rows k).take (rows.getD k default).dep).length=(rows.getD k default).dep:=by rw[List.length_take];lia
  by_cases e:j=k
  .subst e;rw[List.getElem?_append_right (by lia),tl,Nat.sub_self]
   rfl
  .have hk:=h k (by lia) (by lia);rw[List.getElem?_append_left (by lia),List.getElem?_take_of_lt hk];exact CW rows k (λi hi=>wf i (by lia)) j (by lia) λi a b=>h i a (by lia)
theorem Ig{rows:List Row}{r:Row}{n j:Nat}(h:OkP rows)(h0:rows≠[])(hj:Bs rows n j)(hn:n<=16)(hr:n=2 * r.dep):fits (aC rows rows.length) rows.length r:=by
 obtain⟨h1,h2,h3,h4⟩:=hj;unfold fits;rw[if_neg (λz=>h0 (List.length_eq_zero_iff.mp z))];refine⟨by lia,by lia,j,?_⟩;have:=CW rows rows.length (λi hi=>tV (h i hi)) j h1 (λi a b=>by have:=h4 i a b;lia);rw[show r.dep - 1=(rows.getD j default).dep by lia,this,h3]
theorem Ei{rows:List Row}{x:Str}(h:x∈rows.map (·.sh.name)):∃v,lU (bx rows) (.inr x)=some v:=by
 obtain⟨i,hi,e⟩:=wU h;unfold lU;cases z:(bx rows).find? λkv=>decide (kv.1=(.inr x:Key)) with
 | none=>
  refine absurd (decide_eq_true ?_) (List.find?_eq_none.mp z (.inr (rows.getD i default).sh.name,V.int (i:Int)) (List.mem_map.mpr ⟨i,List.mem_range.mpr hi,rfl⟩));rw[e]
 | some kv=>exact⟨_,rfl⟩
def yf(rows:List Row)(s:Sh)(n:Nat)(ab:V):Prop:=(rows=[]->¬(n=0/\3<=s.kind))/\(rows≠[]->ab=.non\/((∃j:Int,ab=.int j)/\(16 < n\/s.name∈rows.map (·.sh.name))))
def B4(cT:Addr)(p:Pl):Sp:=λvs H Q _=>∃(t x:Addr) (rows:List Row) (s:Sh) (n:Nat) (c b a d:Addr) (as:List Addr) (ab:V),vs=[.ref t,.ref x,.int (n:Int),ab]/\kb cT p H t rows c b a d as/\p.rep H x s/\rows.length<=1000∧
 yf rows s n ab/\∀H',ay H H'->Q (.bl false) H'
theorem GF{cT:Addr}{tB:Tok}(F:aM K "stands_well" "stands_well" fG dV f fd)(T:Txt mg)(hc:CT K cT)(hcf:∀j,p.pr j->CF K (p.c j))(I:If P w K mg base 3 p.rep p.cl)(b2:mg "MOST_BLANKS"=some (.int 16 tB))
  (hN:gL P w K mg base 1 "names" (jy p) λC=>C=cT):aB P w K mg base (CXE P w) true 4 f fd iQ (B4 cT p):=by
 have d_names:=hN.d
 have d_leaf:∀C s dvs,Dt (nD p.rep) (λC=>∃j,p.cl j C) C s dvs->MethAt P w K mg base (CXE P w) true 3 "leaf" C s dvs:=by
  rintro C s dvs ⟨⟨j,z⟩,rfl,rfl⟩;exact I.leaf z
 rcases kY,(aa (aD (zct (pK (pA hr)) (uz (pv 0) d_names) (az eT)) (ag (ao (fh (zce a0 (pv 2) af) (fX (xE (uz (pv 1) d_leaf)))))) ar)
   (ag (ao (fh (zce B5 (pv 3) bP) (fh (zce GD (pv 2) (dj (by rfl) b2)) (fX (ER (wV (B3 hr) (a8 (pv 1) rfl) (a8 (pv 0) rfl))))))))) with⟨t,x,rows,sh,n,c,b,a,d,as,ab,rfl,hT,hR,hl,hw,k⟩
 obtain⟨dx,hob⟩:=hT.ob;obtain⟨r1,r2,dx',r3⟩:=id hR;have cf:=hcf _ r2;lk;refine nc hob ⟨rfl,rfl,rfl⟩ rfl ?_;refine ex7 t rows c b a d as (an4 rfl hT hl (λq H1 s1 hq hq2=> ?_));lk;refine⟨l8 (by decide),λq2 hq3=> ?_⟩;have s2:=ah (o:= .lst []) hq3;lk;refine ex4 q q2 _ ([]) (an7 rfl rfl (SqL.of (s2 _ _ hq2)) (SqL.of ae) (lu _) rfl ?_);generalize upd H1 q2 (.lst [])=H2 at s2;have sH:ay H H2:=λb o z=>s2 _ _ (s1 _ _ z);refine⟨_,rfl,?_⟩;by_cases e0:rows=[]
 .subst e0;refine aV (λe=> ?_) (λe=>absurd rfl e);lk;refine aV (λe2=> ?_) (λe2=> ?_)
  .have e2:=V.int.inj (of_decide_eq_true e2);lk;obtain⟨C',dy,fs',i1,i2,i3,i4,_⟩:=I.inst (I.mono sH hR);refine nc i1 ⟨⟨_,i2⟩,rfl,rfl⟩ i4 ?_;refine ex4 x dy fs' _ (an4 rfl (I.mono sH hR) i1 (λH3 s3=> ?_))
   have nl:sh.kind < 3:=by
    rcases Nat.lt_or_ge sh.kind 3 with z | z
    .exact z
    .exact absurd ⟨by lia,z⟩ (hw.1 rfl)
   rw[decide_eq_true nl];lk;exact k _ (λb o z=>s3 _ _ (sH _ _ z))
  .lk;exact k _ sH
 .refine aV (λe=> ?_) (λe=> ?_)
  .have e:oj ((namesOf rows).map V.str) []=true:=e;cases rows with
   | nil=>exact absurd rfl e0
   | cons r0 rs=>exact absurd e (by show ¬(false=true);decide)
  .have T2:=hT.same sH;obtain⟨dx2,hob2⟩:=T2.ob;obtain⟨_,_,dx3,r4⟩:=Pl.mono sH hR;rcases hw.2 e0 with rfl | ⟨⟨j,rfl⟩,hj⟩
   .lk;exact k _ sH
   .lk;refine aV (λe2=> ?_) (λe2=> ?_)
    .have e2:(n:Int)<=16:=of_decide_eq_true e2;have hj:sh.name∈rows.map (·.sh.name):=hj.resolve_left (by lia);obtain⟨v,hv⟩:=Ei hj
     have dg:z7 H2 d (V.str sh.name) (some v):=by
      have:=z7.k (k:= .inr sh.name) T2.pl;rw[hv] at this;exact this
     lk;refine jk r4 cf.cl cf.n1 (oP _) ?_;lk;refine jk hob2 hc.cl hc.n4 rfl ?_;lk;exact⟨d,_,rfl,dg,k _ sH⟩
    .lk;exact k _ sH
def Jx(rows:List Row)(l:List Nat):Prop:=∀r,bA l=some r->¬(fits (aC rows rows.length) rows.length r/\r.sh.name∉rows.map (·.sh.name))
def Ln(rows:List Row)(l:List Nat)(r:Row):Prop:=bA l=some r/\fits (aC rows rows.length) rows.length r/\r.sh.name∉rows.map (·.sh.name)
theorem EL{rows:List Row}{l:List Nat}{s:Sh}{ab:V}(hO:OkP rows)(hb:Jx rows l)(hs:rowOf ((bu l).map ofC)=some s)(ha:ab=.non\/∃j:Nat,ab=.int (j:Int)/\Bs rows (lead l) j):yf rows s (lead l) ab:=by
 have ln:∀d,lead l=2 * d->bA l=some ⟨d,s⟩:=λd e=>by
  unfold bA;rw[e,if_pos (by lia),hs,show 2 * d / 2=d by lia]
  rfl
 refine⟨λe z=> ?_,λe=> ?_⟩
 .refine hb ⟨0,s⟩ (ln 0 z.1) ⟨?_,by rw[e];exact λz=>by cases z⟩;unfold fits;rw[e];exact⟨rfl,decide_eq_true z.2⟩
 .rcases ha with ha | ⟨j,rfl,hj⟩
  .exact .inl ha
  .refine .inr ⟨⟨j,rfl⟩,?_⟩;rcases Nat.lt_or_ge 16 (lead l) with z | z
   .exact .inl z
   .right
    have e2:=hj.2.1;by_cases y:s.name∈rows.map (·.sh.name)
    .exact y
    .exact absurd ⟨Ig hO e hj z (r:=⟨(rows.getD j default).dep + 1,s⟩) (by show lead l=2 * _;lia),y⟩ (hb ⟨(rows.getD j default).dep + 1,s⟩ (ln _ (by lia)))
def tq(cT:Addr)(p:Pl)(cB cM:Addr):Sp:=λvs H _ E=>∃(t:Addr) (x:Str) (n:Nat) (rows:List Row) (c b a d:Addr) (as:List Addr),vs=[.ref t,.str x,.int (n:Int)]/\kb cT p H t rows c b a d as/\OkP rows/\rows.length<=64/\x.length<=100000/\n<=200000∧
 ((Jx rows (cds x)/\∀(H':Hp) (dx:Addr),ay H H'->H dx=none->H' dx=some (.xd [("row",.int (n:Int))])->E (.ref cB) (some dx) H')\/((∃r,Ln rows (cds x) r)/\rows.length=64/\∀H',ay H H'->E (.ref cM) none H'))
theorem zp{cT cB cM fB:Addr}{fdB:FuncData}{tR:Tok}(F:aM K "take_row" "take_row" cZ dV f fd)(T:Txt mg)(hc:CT K cT)(cw:mg "MOST_ROWS"=some (.int 64 tR))(hN:gL P w K mg base 1 "names" (jy p) λC=>C=cT)(hA:gL P w K mg base 4 "minder_above" (sQ p) λC=>C=cT)
    (hK:gL P w K mg base 1 "take" (AL p) λC=>C=cT) (c_child_in:Cal P w K mg base true 7 "child_in" (λvs H Q E=>oC K p none vs H Q E\/C0 K vs H Q E) []) (dW:Cal P w K mg base true 1 "words_in" p9 []) (bN:Cal P w K mg base true 1 "blanks_ahead" uM [])
    (c_stands_well:Cal P w K mg base true 4 "stands_well" (λvs H Q E=>AF cT p vs H Q E\/B4 cT p vs H Q E) []) (gS:mg "BadRow"=some (.ref cB)) (gO:nY K cB fB) (fn_BadRow:PySem.W.isFn K (.ref fB)=true) (ok_BadRow:aB P w K mg base (CXE P w) true 1 fB fdB bW (qb cB)) (bi_BadRow:Binds K fdB bW [])
    (ly:mg "TooMany"=some (.ref cM)) (qr:qd K cM):aB P w K mg base (CXE P w) true 8 f fd m7 (tq cT p cB cM):=by
  refine F.ok1 cu λvs H Q E y0=> ?_;obtain⟨t,x,n,rows,c,b,a,d,as,rfl,hT,hO,h64,hx,hn,k⟩:=y0;refine⟨rfl,λcdv A outer s hr=> ?_⟩;have d_names:=hN.d;have d_minder_above:=hA.d;have d_take:=hK.d;have hl:rows.length<=1000:=by lia
  have wl:∀y∈(bu (cds x)).map ofC,y.length<=100000:=λy hy=>Nat.le_trans (Cq hy) hx
  have t3:∃tt,PSs (fO true (CXE P w) P w K mg base mz "take_row" (aj cZ) f cdv A outer s H E) ((aY cZ).drop 3) tt/\∀(ch ab:V) (H3:Hp),ay H H3→
      (((ch=.non\/∃(y:Addr) (s:Sh),ch=.ref y/\p.rep H3 y s/\yf rows s (lead (cds x)) ab)/\∀(H':Hp) (dx:Addr),ay H H'->H dx=none->H' dx=some (.xd [("row",.int (n:Int))])->E (.ref cB) (some dx) H')∨
       (∃(y:Addr) (r:Row),ch=.ref y/\p.rep H3 y r.sh/\lead (cds x)=2 * r.dep/\((rows=[]/\r.dep=0/\r.isM=true)\/(rows≠[]/\(∃j:Int,ab=.int j)/\r.dep<=8/\r.sh.name∉rows.map (·.sh.name)))/\rows.length=64/\∀H',ay H H'->E (.ref cM) none H'))→
      tt { nx:=λ_ H'=>Q .non H',rt:=Q} [some (.ref t),some (.str x),some (.int (n:Int)),some ch,some (.int ((lead (cds x):Nat):Int)),some ab] H3:=by
    refine⟨_,(aa (aD (PW.pt (g7 (zct GO (pv 3) bP) (gg (hJ (cc (bO c_stands_well (hr.mono (by omega)) (by rfl) (passes ax) {pv 0,pv 3,pv 4,pv 5})))))) (ag (DV ⟨rfl,rfl,rfl⟩ rfl ax gO fn_BadRow ok_BadRow (hr.mono (by omega)) bi_BadRow (by rfl) gS {pv 2})) ar)
      (aa (aD (zct a0 (aE aF (by rfl) T.d0 cn {qF (pv 0) d_names (hr.mono (by omega)) (passes ax)}) (dj (by rfl) cw)) (ag (sv rfl ax qr (by rfl) ly {yM (iD ai (iD (Fq (dj (by rfl) cw)) (iD ai A3)))})) ar)
      (ag (br (ui (pv 0) d_take (hr.mono (by omega)) (passes ax) {pv 3,pv 4,pv 5}))))),?_⟩
    fin2
    intro ch ab H3 s3 hk;have T3:=hT.same s3
    have mk:∀(H4:Hp),ay H H4->(∀(H':Hp) (dx:Addr),ay H H'->H dx=none->H' dx=some (.xd [("row",.int (n:Int))])->E (.ref cB) (some dx) H')->∀e,H4 e=none->qb cB [.ref e,.int (n:Int)] (upd H4 e (XOn e cB none)) (λv H2=>v=.non/\∃dx,H2 e=some (XOn e cB (some dx))/\E (.ref cB) (some dx) (yU H2 e)) λ_ _ _=>False:=λH4 s4 kE e he=>by
      refine⟨e,n,rfl,ae,hn,λdx hdx=>⟨rfl,dx,?_,?_⟩⟩
      . rw[aq (λz=>by rw[z,ae] at hdx;cases hdx),ae]
      . have nd:dx≠e:=λz=>by rw[z,ae] at hdx;cases hdx
        rw[aq nd] at hdx;refine kE _ dx (λy o z=> ?_) (cV s4 hdx) ?_
        . have z4:=s4 _ _ z
          have ne:y≠e:=au z4 he;rw[ik ne,aq (au z4 hdx),aq ne,aq ne];exact z4
        . rw[ik nd,ae]
    rcases hk with⟨hch,kE⟩ | ⟨y,r,rfl,hR,hlr,hw,e64,kE⟩
    . rcases hch with rfl | ⟨y,s,rfl,hR,hw⟩
      . lk
        exact⟨aH (by show 1<=1000;decide),mk _ s3 kE⟩
      . lk
        refine .inr (Er t y rows s (lead (cds x)) c b a d as ⟨ab,rfl,T3,hR,hl,hw,λH4 s4=> ?_⟩);lk;exact⟨aH (by show 1<=1000;decide),mk _ (s3.trans s4) kE⟩
    . lk
      rw[hlr];refine .inl (Er t y rows r c b a d as ab (an6 rfl T3 hR hl hw (λH4 s4=> ?_)));have T4:=T3.same s4;obtain⟨dx4,hob4⟩:=T4.ob;lk;refine nc hob4 ⟨rfl,rfl,rfl⟩ rfl ?_;refine ex7 t rows c b a d as (an4 rfl T4 hl (λq H5 s5 hq hq2=> ?_));lk;refine ex2 q _ (an3 rfl (.inl (SqL.of hq2)) ?_);lk;refine aV (λe=> ?_) (λe=> ?_)
      . lk
        have ml:(Str.empty++Str.ofString "more than "++Str.ofString (toString (64:Int))).length<=sizeLine:=aH (by decide +kernel);have m2:(Str.empty++Str.ofString "more than "++Str.ofString (toString (64:Int))++Str.ofString " rows for children").length<=sizeLine:=aH (by decide +kernel);refine⟨aH (by decide +kernel),?_⟩;lk;exact .inl ⟨64,rfl,by decide,_,rfl,ml,_,rfl,m2,m2,aH (by show 1<=1000;decide),kE _ (s3.trans (s4.trans s5))⟩
      . refine absurd (decide_eq_true (congrArg V.int ?_)) e
        rw[List.length_map];have:(namesOf rows).length=rows.length:=List.length_map _
        lia
  obtain⟨tt,ht,hn3⟩:=t3
  refine⟨_,(aa (aL (i:=3) cu.nd (bO c_child_in (hr.mono (by omega)) (by rfl) (passes ax) {bO dW (hr.mono (by omega)) (by rfl) (passes ax) {pv 1}}))
      (aa (aL (i:=4) cu.nd (bO bN (hr.mono (by omega)) (by rfl) (passes ax) {pv 1}))
      (aa (aL (i:=5) cu.nd (ui (pv 0) d_minder_above (hr.mono (by omega)) (passes ax) {pv 4}))
      ht))),?_⟩
  fin2
  lk;refine⟨hx,λq H1 s1 hq hq2=> ?_⟩;lk
  have go:∀(E':XK) (H2:Hp) (ch:V),ay H H2->(∀(ab:V) (H3:Hp),ay H2 H3->(ab=.non/\(∀j,¬Bs rows (lead (cds x)) j)\/∃j:Nat,ab=.int (j:Int)/\Bs rows (lead (cds x)) j)->tt { nx:=λ_ H'=>Q .non H',rt:=Q} [some (.ref t),some (.str x),some (.int (n:Int)),some ch,some (.int ((lead (cds x):Nat):Int)),some ab] H3)→
      sQ p cT [.ref t,.int ((lead (cds x):Nat):Int)] H2 (λab H3=>tt { nx:=λ_ H'=>Q .non H',rt:=Q} [some (.ref t),some (.str x),some (.int (n:Int)),some ch,some (.int ((lead (cds x):Nat):Int)),some ab] H3) E':=λE' H2 ch s2 g=>
    ⟨t,rows,c,b,a,d,as,_,rfl,hT.same s2,hl,λj hj H3 s3=>g _ H3 s3 (.inr ⟨j,rfl,hj⟩),λh H3 s3=>g _ H3 s3 (.inl ⟨rfl,h⟩)⟩
  cases hro:rowOf ((bu (cds x)).map ofC) with
  | none=>
    refine .inr ⟨q,_,rfl,SqL.of hq2,hro,wl,λH2 s2=> ?_⟩;have sH2:=s1.trans s2;lk;refine⟨hx,?_⟩;have T2:=hT.same sH2;obtain⟨dx2,hob2⟩:=T2.ob;lk;refine nc hob2 ⟨rfl,rfl,rfl⟩ rfl ?_;rcases k with⟨hb,kE⟩ | ⟨⟨r,hli,hf,hnm⟩,e64,kE⟩
    . exact exP rfl (go E H2 _ sH2 λab H3 s3 ha=>hn3 _ ab H3 (sH2.trans s3) (.inl ⟨.inl rfl,kE⟩))
    . have:=(oW hli).2
      rw[hro] at this;cases this
  | some s=>
    refine .inl (ex3 q _ s (an7 rfl (SqL.of hq2) hro (λz=>(by cases z)) (λz=>(by cases z)) wl (λy H2 s2 hy0 hR=> ?_)));have sH2:=s1.trans s2;lk;refine⟨hx,?_⟩;have T2:=hT.same sH2;obtain⟨dx2,hob2⟩:=T2.ob;lk;refine nc hob2 ⟨rfl,rfl,rfl⟩ rfl ?_;rcases k with⟨hb,kE⟩ | ⟨⟨r,hli,hf,hnm⟩,e64,kE⟩
    . exact exP rfl (go E H2 _ sH2 λab H3 s3 ha=>hn3 _ ab H3 (sH2.trans s3) (.inl ⟨.inr ⟨y,s,rfl,Pl.mono s3 hR,EL hO hb hro (ha.imp (λz=>z.1) id)⟩,kE⟩))
    . obtain⟨ld,rw'⟩:=oW hli
      rw[hro] at rw';have rw':=Option.some.inj rw';subst rw';have e0:rows≠[]:=λz=>by rw[z] at e64;cases e64
      obtain⟨j,j1,j2,j3,j4,j5,_⟩:=B6 hO e0 hf;refine exP rfl (go E H2 _ sH2 λab H3 s3 ha=>hn3 _ ab H3 (sH2.trans s3) (.inr ⟨y,r,rfl,Pl.mono s3 hR,ld,.inr ⟨e0,?_,j5,hnm⟩,e64,kE⟩));rcases ha with⟨_,z⟩ | ⟨j',rfl,_⟩
      . exact absurd ⟨j1,by lia,j3,λi a1 a2=>by have:=j4 i a1 a2;lia⟩ (z j)
      . exact⟨_,rfl⟩
def yY(cB cM cO:Addr):Sp:=λvs H _ E=>∃x:Str,vs=[.str x]/\x.length<=100000/\(match parse (cds x) with
 | .ok _=>False
 | .bad n=>∀(H':Hp) (dx:Addr),ay H H'->H dx=none->H' dx=some (.xd [("row",.int (n:Int))])->E (.ref cB) (some dx) H'
 | .many=>∀H',ay H H'->E (.ref cM) none H'
 | .i8=>∀H',ay H H'->E (.ref cO) none H')
theorem Fv{cT cB cM cO:Addr}(F:aM K "read" "read" yr dV f fd)(T:Txt mg)(hc:CT K cT)(pM:Mak P w K mg base true 1 "Tree" cT (nA cT p) [])(hN:gL P w K mg base 1 "names" (jy p) λC=>C=cT)
  (cG:Cal P w K mg base true 1 "passed_over" vn []) (c_take_row:Cal P w K mg base true 8 "take_row" (λvs H Q E=>qw cT p vs H Q E\/tq cT p cB cM vs H Q E) []) (so:mg "NoTop"=some (.ref cO)) (xT:qd K cO):aB P w K mg base (CXE P w) true 9 f fd Bh (yY cB cM cO):=by
 have d_names:=hN.d;refine F.ok1 il λvs H Q E y0=> ?_;obtain⟨x,rfl,hx,k⟩:=y0;refine⟨rfl,λcdv A outer s hr=> ?_⟩
 refine⟨_,(aa (aL (i:=1) il.nd (CG pM (hr.mono (by omega)) (by rfl) (passes ax)))
   (aa (pU vK rfl (zr (by rfl) T.rg {cv PySem.F.plainAttrs_str PySem.F.slot_str_split PySem.F.type_str_split iV (pv 0) {(ai)}}) (xN rfl (dO (cz (i:=2) il.nd rfl (by k_ne)) (dO (cz (i:=3) il.nd rfl (by k_ne)) se))) (ag (aD (hJ (cc (bO cG (hr.mono (by omega)) (by rfl) (passes ax) {pv 3}))) (ag (br (bO c_take_row (hr.mono (by omega)) (by rfl) (passes ax) {pv 1,pv 3,pv 2}))) ar)))
   (aa (aD (zct (pK (pA hr)) (qF (pv 1) d_names (hr.mono (by omega)) (passes ax)) (az eT)) (ag (sv rfl ax xT (by rfl) so {(ai)})) ar)
   (ag (ao (pv 1)))))),?_⟩
 fin2
 unfold parse at k;rw[<- ei x (by decide)] at k;have sl:=split_len x (c:=10) (by decide);have bl:=kS x 10
 have le:∀y∈Txt.split x ⟨#[10]⟩,y.length<=100000:=λy hy=>by
  have:=sM 10 (cds x) (cds y) (by rw[<- ei x (by decide)];exact List.mem_map.mpr ⟨y,hy,rfl⟩);rw[aA,aA] at this
  lia
 lk;intro t dx n1 n2 n3;refine ex3 t dx H (an6 rfl n1 n2 n3 rfl (λH1 c b a d s1 f1 f2 f3 f4 T1=>⟨rfl,?_⟩));lk;rw[s10];generalize Txt.split x ⟨#[10]⟩=lns at k sl le;generalize hR:scan [] 0 (lns.map cds)=R at k;refine⟨da (by lia),rfl,da (Nat.le_trans bl (by lia)),da (by lia),λq hq=> ?_⟩;lk;have q1:(upd H1 q (.lst (lns.map V.str))) q=some (.lst (lns.map V.str)):=ae;have s2:ay H1 (upd H1 q (.lst (lns.map V.str))):=ah hq;generalize upd H1 q (.lst (lns.map V.str))=H2 at q1 s2;refine⟨⟨_,SqL.of q1⟩,?_⟩;have nq:q≠c/\q≠b/\q≠a/\q≠d:=⟨λz=>(by rw[z,T1.ch] at hq;cases hq),λz=>(by rw[z,T1.bl] at hq;cases hq),λz=>(by rw[z,T1.ab] at hq;cases hq),λz=>(by rw[z,T1.pl] at hq;cases hq)⟩
 refine vC (n:=lns.length) (λi σ H'=>H' q=some (.lst (lns.map V.str))/\ay H H'/\∃(pre:List Row) (as:List Addr) (v2 v3:Option V),kb cT p H' t pre c b a d as/\OkP pre/\pre.length<=64/\scan pre i ((lns.drop i).map cds)=R/\σ=[some (.str x),some (.ref t),v2,v3])
  ⟨q1,λe u z=>s2 _ _ (s1 _ _ z),[],[],none,none,T1.same s2,λi hi=>absurd hi (Nat.not_lt_zero _),Nat.zero_le _,hR,rfl⟩ ?_ ?_ ?_
 .rintro i σ H' hi ⟨z,_⟩;exact⟨_,V.str lns[i],SqL.of z,by rw[List.getElem?_map,List.getElem?_eq_getElem hi];rfl⟩
 .rintro i σ H' v H3 hi ⟨z1,z2,pre,as,v2,v3,Tp,Op,l64,sc,rfl⟩ ⟨q3,y,hq3,rfl,hy,rfl⟩;have hy:=hy _ (SqL.of z1);rw[List.getElem?_map,List.getElem?_eq_getElem hi] at hy;obtain rfl:V.str lns[i]=y:=Option.some.inj hy;have s3:=ah (o:= .tup [.int ((1 + i:Nat):Int),V.str lns[i]]) hq3;refine ex2 q3 _ (an4 rfl (SqT.of ae) rfl ?_);have dr:(lns.drop i).map cds=cds lns[i]::(lns.drop (i + 1)).map cds:=by rw[List.drop_eq_getElem_cons hi,List.map_cons]
  rw[dr,fw] at sc;have lx:=le lns[i] (List.getElem_mem hi);have T3:=Tp.same s3;have sH3:=z2.trans s3;lk;refine⟨lx,?_⟩;cases hpa:bG (cds lns[i]) with
  | true=>
   rw[if_pos hpa] at sc;lk;exact⟨s3 _ _ z1,sH3,pre,as,_,_,T3,Op,l64,sc,rfl⟩
  | false=>
   rw[if_neg (by rw[hpa];decide)] at sc;lk;by_cases hfi:∃r,Ln pre (cds lns[i]) r
   .obtain ⟨r,hli,hf,hnm⟩:=id hfi;rw[hli] at sc;dsimp only at sc;rw[if_pos ⟨hf,hnm⟩] at sc;by_cases h64:pre.length=64
    .rw [if_pos h64] at sc;subst sc;exact .inr ⟨t,lns[i],1 + i,pre,c,b,a,d,as,rfl,T3,Op,l64,lx,by lia,.inr ⟨hfi,h64,λH' s'=>k H' (sH3.trans s')⟩⟩
    .rw [if_neg h64] at sc;refine .inl (Er t (lns[i]) _ pre r c b a d as (an9 rfl T3 Op (by lia) lx hli hf hnm (λH4 y k4 hy4 T4=> ?_)));refine⟨k4 _ _ nq.1 nq.2.1 nq.2.2.1 nq.2.2.2 (s3 _ _ z1),λe u z=> ?_,pre++[r],as++[y],_,_,T4,Op.snoc hf,by rw[List.length_append];show pre.length + 1<=64;lia,sc,rfl⟩;exact k4 e u (au z f1) (au z f2) (au z f3) (au z f4) (sH3 _ _ z)
   .have hb:Jx pre (cds lns[i]):=λr hli hf=>hfi ⟨r,hli,hf.1,hf.2⟩
    have sc:Res.bad (i + 1)=R:=by
     rw[<- sc];cases hli:bA (cds lns[i]) with
     | none=>rfl
     | some r=>
      dsimp only;rw[if_neg (hb r hli)]
    subst sc;rw[Nat.add_comm] at k;exact .inr ⟨t,lns[i],1 + i,pre,c,b,a,d,as,rfl,T3,Op,l64,lx,by lia,.inl ⟨hb,λH' dx s' hd hx'=>k H' dx (sH3.trans s') (cV sH3 hd) hx'⟩⟩
 .rintro σ H' ⟨z1,z2,pre,as,v2,v3,Tp,Op,l64,sc,rfl⟩;rw[List.drop_length] at sc
  have e0:pre=[]:=by
   by_cases z:pre=[]
   .exact z
   .exfalso
    have:scan pre lns.length []=.ok pre:=if_neg z;rw[show List.map cds []=[] from rfl,this] at sc;subst sc;exact k
  subst e0;have sc:Res.i8=R:=sc;subst sc;obtain⟨dx',hob⟩:=Tp.ob;refine⟨⟨_,SqL.of z1,by rw[List.length_map];exact Nat.le_refl _⟩,?_⟩;lk;refine nc hob ⟨rfl,rfl,rfl⟩ rfl ?_;refine ex7 t ([]) c b a d as (an4 rfl Tp (by decide) (λq5 H5 s5 hq5 hq6=> ?_));lk;refine⟨l8 (by decide),λq6 hq7=> ?_⟩;have s6:=ah (o:= .lst []) hq7;lk;refine ex4 q5 q6 ([]) ([]) (an7 rfl rfl (SqL.of (s6 _ _ hq6)) (SqL.of ae) rfl rfl ?_);refine⟨_,rfl,?_⟩;refine aV (λe=> ?_) (λe=>absurd rfl e);lk;exact⟨aH (by show 1<=1000;decide),k _ (z2.trans (s5.trans s6))⟩
open PySem L2 Shp Nm Tr Hs PySem.NumText
def E8(p:Pl):Sp:=λvs H Q _=>∃(x:Addr) (r:Row),vs=[.ref x,.int ((2 * r.dep:Nat):Int)]/\p.rep H x r.sh/\OkR r.sh/\r.dep<=8/\∀H',ay H H'->Q (.str (ofC (hV r.dep 0 0 r.sh))) H'
theorem Hf(F:aM K "written_row" "written_row" iT dV f fd)(T:Txt mg)(hcf:∀j,p.pr j->CF K (p.c j))(I:If P w K mg base 3 p.rep p.cl):aB P w K mg base (CXE P w) true 4 f fd mx (E8 p):=by
 have d_words:=gL.d (P:=P) (w:=w) (K:=K) (mg:=mg) (base:=base) (k:=3) (m:="words") (sp:=sj p.rep) (Cl:=λC=>∃j,p.cl j C) λC ⟨j,c⟩=>I.words c;rcases uC,(ag (ao (ak aG (ak cW ai (pv 1)) (cv PySem.F.plainAttrs_str PySem.F.slot_str_join PySem.F.type_str_join cY ai {ak dG (uz (pv 0) d_words) (az {a8 (pv 0) rfl})})))) with⟨x,r,rfl,hR,ok,hd,k⟩;obtain⟨C,dx,fs,hi,hC,nw,_⟩:=I.inst hR;have wb:=kF ok;have cd:cds (⟨(List.replicate (2 * r.dep) (" ":Str).cps).foldl (·++·) #[]⟩:Str)=List.replicate (2 * r.dep) 32:=by rw[fv];exact ou _ 32
 have ld:(⟨(List.replicate (2 * r.dep) (" ":Str).cps).foldl (·++·) #[]⟩:Str).length=2 * r.dep:=by rw[<- aA,cd,List.length_replicate]
 lk;refine⟨(by show 1 * _<=_;lia),(by lia),(by show 1<=_;decide),?_⟩;lk;refine nc hi ⟨⟨_,hC⟩,rfl,rfl⟩ nw ?_;refine ex4 x dx fs r.sh (an4 rfl hR hi (λq H1 s1 hq hq2=> ?_));have hR1:=Pl.mono s1 hR;obtain⟨r1,r2,dx1,r3⟩:=id hR1;have cf:=hcf _ r2;lk;refine jk r3 cf.cl cf.n1 (oP _) ?_;refine⟨aH (by show 1<=1000;decide),λu hu=> ?_⟩;have su:=ah (o:= .lst [V.str r.sh.name]) hu;have wl:((words r.sh).map V.str).length<=7:=by rw[List.length_map];have:=wb.2;rw[List.length_append] at this;lia
 refine ex4 q u _ _ (an6 rfl rfl (su _ _ hq2) ae (by show _ + 1<=_;exact aH (by lia)) (λz hz=> ?_));have sz:=s1.trans (su.trans (ah (o:= .lst ((words r.sh).map V.str++[V.str r.sh.name])) hz));have ez:(words r.sh).map V.str++[V.str r.sh.name]=(words r.sh++[r.sh.name]).map V.str:=by rw[List.map_append];rfl
 refine ex3 (" ") z (words r.sh++[r.sh.name]) (an5 rfl rfl (by rw[<- ez];exact SqL.of ae) (by show _ + _ * 1<=_;lia) ?_)
 have rc:cds ((⟨(List.replicate (2 * r.dep) (" ":Str).cps).foldl (·++·) #[]⟩:Str)++Txt.join " " (words r.sh++[r.sh.name]))=hV r.dep 0 0 r.sh:=by
  rw[bo,cd,ju];unfold hV;rw[List.replicate_zero,List.append_nil]
  rfl
 have rl:=lK ok r.dep;rw[<- rc,aA,yH] at rl;refine ex2 _ _ (an4 rfl rfl (aH (by lia)) ?_);have:=k _ sz;rw[<- rc,xY] at this;exact this
def xA(cT:Addr)(p:Pl):Sp:=λvs H Q _=>∃(t:Addr) (rows:List Row) (c b a d:Addr) (as:List Addr),vs=[.ref t]/\kb cT p H t rows c b a d as/\OkT rows/\∀H',ay H H'->Q (.str (ofC (written rows))) H'
theorem Bw{cT:Addr}(F:aM K "written" "written" pI dV f fd)(T:Txt mg)(hc:CT K cT)(iR:Cal P w K mg base true 4 "written_row" (E8 p) []):aB P w K mg base (CXE P w) true 5 f fd xh (xA cT p):=by
 rcases u6,(aa (Ap (j:=1) u6.nd rfl (by k_ne) (xs:=["child","blanks"]) ⟨rfl,rfl,by decide +kernel,by decide +kernel,⟨rfl,rfl,True.intro⟩,by decide +kernel,(by repeat (first | exact True.intro | refine⟨rfl,?_⟩)),by repeat (first | exact True.intro | refine⟨(by first | exact λ_=>⟨_,rfl⟩ | (intro z;cases z)),?_⟩)⟩ rfl (Kf rfl ⟨rfl,rfl,by decide +kernel,by decide +kernel,⟨rfl,rfl,True.intro⟩,by decide +kernel,(by repeat (first | exact True.intro | refine⟨rfl,?_⟩)),by repeat (first | exact True.intro | refine⟨(by first | exact λ_=>⟨_,rfl⟩ | (intro z;cases z)),?_⟩)⟩) (Ku (by rfl) T.Lz {a8 (pv 0) rfl,a8 (pv 0) rfl}) (λ_ _ _ _=>pw) (λ_ _ _ _=>(bO iR (hr.mono (by omega)) (by rfl) wL {pv 0,pv 1})))
   (ag (ao (cv PySem.F.plainAttrs_str PySem.F.slot_str_join PySem.F.type_str_join cY ai {pv 1})))) with⟨t,rows,c,b,a,d,as,rfl,hT,ok,k⟩
 obtain⟨dx,hob⟩:=hT.ob;have h64:=ok.len
 have d8:∀i,i < rows.length->(rows.getD i default).dep<=8:=λi hi=>by
  have:=ok.fit i hi;unfold Tr.fits at this
  split at this
  .have:(rows.getD i default).dep=0:=this.1
   lia
  .exact this.2.1
 lk;refine jk hob hc.cl hc.n1 rfl ?_;lk;refine jk hob hc.cl hc.n2 rfl ?_;refine ex2 c b (an4 rfl ⟨_,SqL.of hT.ch⟩ ⟨_,SqL.of hT.bl⟩ ?_);refine z9 (m:=rows.length) (λi ys H'=>ay H H'/\∃xs:List Str,ys=xs.map V.str/\xs.map cds=(bz rows).take i) ⟨ay.refl _,[],rfl,rfl⟩ ?_ ?_ ?_ ?_
 .rintro i ys H' hi ⟨s1,_⟩;have t2:=hT.same s1;exact⟨_,_,V.ref (as[i]'(by rw[hT.ln];exact hi)),V.int ((2 * rows[i].dep:Nat):Int),SqL.of t2.ch,SqL.of t2.bl,by rw[List.getElem?_map,List.getElem?_eq_getElem];rfl,by unfold bq;rw[List.getElem?_map,List.getElem?_eq_getElem hi];rfl⟩
 .rintro ys H' ⟨s1,_⟩;have t2:=hT.same s1;exact⟨_,_,SqL.of t2.ch,SqL.of t2.bl,by rw[List.length_map,hT.ln];exact Nat.le_refl _⟩
 .rintro i ys H' v H2 hi ⟨s1,xs,rfl,hx⟩ ⟨q,x,y,hq,rfl,h1,h2,rfl⟩ σ0 hσ;have t2:=hT.same s1;have h1:=h1 _ (SqL.of t2.ch);have h2:=h2 _ (SqL.of t2.bl);have ha:as[i]? =some (as[i]'(by rw[hT.ln];exact hi)):=List.getElem?_eq_getElem _;have hr:rows[i]? =some rows[i]:=List.getElem?_eq_getElem hi;have hg:rows.getD i default=rows[i]:=by rw[List.getD_eq_getElem?_getD,hr];rfl
  rw[List.getElem?_map,ha] at h1;unfold bq at h2;rw[List.getElem?_map,hr] at h2;obtain rfl:=Option.some.inj h1;obtain rfl:=Option.some.inj h2;have hR:=t2.rp i _ ha;rw[hg] at hR
  obtain⟨u0,u1,rfl⟩:∃u0 u1,σ0=[u0,u1]:=by
   match σ0,hσ with
   | [a,b],_=>exact⟨a,b,rfl⟩
  have sq:=ah (o:= .tup [V.ref (as[i]'(by rw[hT.ln];exact hi)),V.int ((2 * rows[i].dep:Nat):Int)]) hq;refine⟨q,_,rfl,SqT.of ae,rfl,_,_,rfl,_,_,rfl,rfl,?_⟩
  have xl:xs.length=i:=by
   have:=congrArg List.length hx;rw[List.length_map,List.length_take,Tr.plain_len] at this
   lia
  have d8':=d8 i hi;rw[hg] at d8';lk;refine⟨Pl.mono sq hR,ok.sh _ (List.getElem_mem hi),d8',λH3 s3=>⟨by rw[List.length_map,xl];exact aI (by lia),s1.trans (sq.trans s3),xs++[ofC (hV rows[i].dep 0 0 rows[i].sh)],by rw[List.map_append];rfl,?_⟩⟩;rw[List.map_append,hx,List.take_add_one]
  congr 1
  unfold bz;rw[List.getElem?_map,hr]
  rfl
 .rintro ys H' ⟨s1,xs,rfl,hx⟩;rw[<- Tr.plain_len,List.take_length] at hx
  have xl:xs.length=rows.length:=by
   have:=congrArg List.length hx;rwa [List.length_map,Tr.plain_len] at this
  refine⟨by rw[List.length_map,xl];exact aH (by lia),λp hp=> ?_⟩;lk
  have sm:(xs.map (·.length)).sum<=83 * xs.length:=by
   refine Nat.le_trans (yA (n:=83) λy hy=> ?_) (by rw[List.length_map];exact Nat.le_refl _);obtain⟨z,hz,rfl⟩:=List.mem_map.mp hy;have:cds z∈bz rows:=by rw[<- hx];exact List.mem_map.mpr ⟨z,hz,rfl⟩
   obtain⟨r,hr,e⟩:=List.mem_map.mp this;obtain⟨i,hi,rfl⟩:=List.getElem_of_mem hr;have h2:=lK (ok.sh _ hr) rows[i].dep;have:=d8 i hi;rw[List.getD_eq_getElem?_getD,List.getElem?_eq_getElem hi] at this;have this:rows[i].dep<=8:=this;rw[<- aA,<-e]
   lia
  refine ex3 ("\n") p xs (an5 rfl rfl (SqL.of ae) (by show _ + _ * 1<=_;lia) ?_)
  have ej:Txt.join "\n" xs=ofC (written rows):=by
   refine iw ?_;rw[ju,hx,fF]
   rfl
  rw[ej];exact k _ (s1.trans (ah hp))
structure zf(K:PySem.W.Frag)(C cB cM cO cL cA cU cX:Addr)(k:Nat):Prop where
 xi:XIn K C
 ic:IsC K C
 f1:PySem.W.kitOne K (.ref C) (.ref cB)=some (decide (k=0))
 f2:PySem.W.kitOne K (.ref C) (.ref cM)=some (decide (k=1))
 f3:PySem.W.kitOne K (.ref C) (.ref cO)=some (decide (k=2))
 f4:PySem.W.kitOne K (.ref C) (.ref cL)=some false
 f5:PySem.W.kitOne K (.ref C) (.ref cA)=some false
 f6:PySem.W.kitOne K (.ref C) (.ref cU)=some false
 f7:PySem.W.kitOne K (.ref C) (.ref cX)=some false
def B9(H:Hp)(e C:Addr):Prop:=H e=some (XOb e C none)\/∃dx fs,H e=some (XOb e C (some dx))/\H dx=some (.xd fs)
theorem B9.same{H H':Hp}{e C:Addr}(h:B9 H e C)(s:ay H H'):B9 H' e C:=h.imp (λz=>s _ _ z) λ⟨dx,fs,a,b⟩=>⟨dx,fs,s _ _ a,s _ _ b⟩
def kdS(k:Nat):Str:=if k=0 then "row" else if k=1 then "many" else "top"
def xM(K:PySem.W.Frag)(cB cM cO cL cA cU cX:Addr):Sp:=λvs H Q _=>∃(e C:Addr) (k:Nat),vs=[.ref e]/\B9 H e C/\zf K C cB cM cO cL cA cU cX k/\k < 3/\∀(q:Addr) (H':Hp),ay H H'->H' q=some (.lst [V.str (kdS k)])->Q (.ref q) H'
theorem FP{cm:Bool}{cB cM cO cL cA cU cX:Addr}(F:aM K "_law_kinds" "_law_kinds" y7 dV f fd)(T:Txt mg)(g_BadRow:mg "BadRow"=some (.ref cB))(g_TooMany:mg "TooMany"=some (.ref cM))(g_NoTop:mg "NoTop"=some (.ref cO))(g_NoLeaf:mg "NoLeaf"=some (.ref cL))(g_NoName:mg "NoName"=some (.ref cA))(g_NoNumber:mg "NoNumber"=some (.ref cU))(g_NotOn:mg "NotOn"=some (.ref cX)):
  aB P w K mg base (CXE P w) cm 1 f fd B1 (xM K cB cM cO cL cA cU cX):=by
 rcases zX,(aa (aL (i:=1) zX.nd (az eT))
   (aa (aD (cc (aE eQ (by rfl) T.cy bZ {pv 0,gK (by rfl) g_BadRow})) (ag (br (cv PySem.F.plainAttrs_list PySem.F.slot_list_append PySem.F.type_list_append bI (pv 1) {(ai)}))) ar)
   (aa (aD (cc (aE eQ (by rfl) T.cy bZ {pv 0,gK (by rfl) g_TooMany})) (ag (br (cv PySem.F.plainAttrs_list PySem.F.slot_list_append PySem.F.type_list_append bI (pv 1) {(ai)}))) ar)
   (aa (aD (cc (aE eQ (by rfl) T.cy bZ {pv 0,gK (by rfl) g_NoTop})) (ag (br (cv PySem.F.plainAttrs_list PySem.F.slot_list_append PySem.F.type_list_append bI (pv 1) {(ai)}))) ar)
   (aa (aD (PW.pt (g7 (cc (aE eQ (by rfl) T.cy bZ {pv 0,gK (by rfl) g_NoLeaf})) (g7 (cc (aE eQ (by rfl) T.cy bZ {pv 0,gK (by rfl) g_NoName})) (gg (cc (aE eQ (by rfl) T.cy bZ {pv 0,gK (by rfl) g_NoNumber})))))) (ag (br (cv PySem.F.plainAttrs_list PySem.F.slot_list_append PySem.F.type_list_append bI (pv 1) {(ai)}))) ar)
   (aa (aD (cc (aE eQ (by rfl) T.cy bZ {pv 0,gK (by rfl) g_NotOn})) (ag (br (cv PySem.F.plainAttrs_list PySem.F.slot_list_append PySem.F.type_list_append bI (pv 1) {(ai)}))) ar)
   (ag (ao (pv 1))))))))) with⟨e,C,k,rfl,hx,kd,hk,k3⟩
 lk;refine⟨l8 (by decide),λq hq=> ?_⟩;have s1:=ah (o:= .lst []) hq;have h1:(upd H q (.lst [])) q=some (.lst []):=ae;generalize upd H q (.lst [])=H1 at s1 h1;have x1:=hx.same s1;have s2:∀z:Str,ay H (upd H1 q (.lst [V.str z])):=λz=>jb s1 hq;have h2:∀z:Str,(upd H1 q (.lst [V.str z])) q=some (.lst [V.str z]):=λz=>ae;have kk:k=0\/k=1\/k=2:=by lia
 rcases kk with rfl | rfl | rfl
 .lk;refine⟨e,C,.ref cB,.ref cB,_,rfl,x1,kd.xi,kd.ic,rfl,kd.f1,?_⟩;lk;refine⟨.inl ⟨rfl,_,SqL.of h1⟩,?_⟩;lk;refine ex3 q _ _ (an5 rfl rfl h1 (aI (Nat.zero_le _)) ?_);lk;have s3:=s2 "row";have h3:=h2 "row";have x2:=hx.same s3;lk;refine⟨e,C,.ref cM,.ref cM,_,rfl,x2,kd.xi,kd.ic,rfl,kd.f2,?_⟩;lk;refine⟨e,C,.ref cO,.ref cO,_,rfl,x2,kd.xi,kd.ic,rfl,kd.f3,?_⟩;lk;refine⟨e,C,.ref cL,.ref cL,_,rfl,x2,kd.xi,kd.ic,rfl,kd.f4,?_⟩;lk;refine⟨e,C,.ref cA,.ref cA,_,rfl,x2,kd.xi,kd.ic,rfl,kd.f5,?_⟩;lk;refine⟨e,C,.ref cU,.ref cU,_,rfl,x2,kd.xi,kd.ic,rfl,kd.f6,?_⟩;lk;refine⟨e,C,.ref cX,.ref cX,_,rfl,x2,kd.xi,kd.ic,rfl,kd.f7,?_⟩;lk;exact k3 q _ s3 h3
 .lk;refine⟨e,C,.ref cB,.ref cB,_,rfl,x1,kd.xi,kd.ic,rfl,kd.f1,?_⟩;lk;refine⟨e,C,.ref cM,.ref cM,_,rfl,x1,kd.xi,kd.ic,rfl,kd.f2,?_⟩;lk;refine⟨.inl ⟨rfl,_,SqL.of h1⟩,?_⟩;lk;refine ex3 q _ _ (an5 rfl rfl h1 (aI (Nat.zero_le _)) ?_);lk;have s3:=s2 "many";have h3:=h2 "many";have x2:=hx.same s3;lk;refine⟨e,C,.ref cO,.ref cO,_,rfl,x2,kd.xi,kd.ic,rfl,kd.f3,?_⟩;lk;refine⟨e,C,.ref cL,.ref cL,_,rfl,x2,kd.xi,kd.ic,rfl,kd.f4,?_⟩;lk;refine⟨e,C,.ref cA,.ref cA,_,rfl,x2,kd.xi,kd.ic,rfl,kd.f5,?_⟩;lk;refine⟨e,C,.ref cU,.ref cU,_,rfl,x2,kd.xi,kd.ic,rfl,kd.f6,?_⟩;lk;refine⟨e,C,.ref cX,.ref cX,_,rfl,x2,kd.xi,kd.ic,rfl,kd.f7,?_⟩;lk;exact k3 q _ s3 h3
 .lk;refine⟨e,C,.ref cB,.ref cB,_,rfl,x1,kd.xi,kd.ic,rfl,kd.f1,?_⟩;lk;refine⟨e,C,.ref cM,.ref cM,_,rfl,x1,kd.xi,kd.ic,rfl,kd.f2,?_⟩;lk;refine⟨e,C,.ref cO,.ref cO,_,rfl,x1,kd.xi,kd.ic,rfl,kd.f3,?_⟩;lk;refine⟨.inl ⟨rfl,_,SqL.of h1⟩,?_⟩;lk;refine ex3 q _ _ (an5 rfl rfl h1 (aI (Nat.zero_le _)) ?_);lk;have s3:=s2 "top";have h3:=h2 "top";have x2:=hx.same s3;lk;refine⟨e,C,.ref cL,.ref cL,_,rfl,x2,kd.xi,kd.ic,rfl,kd.f4,?_⟩;lk;refine⟨e,C,.ref cA,.ref cA,_,rfl,x2,kd.xi,kd.ic,rfl,kd.f5,?_⟩;lk;refine⟨e,C,.ref cU,.ref cU,_,rfl,x2,kd.xi,kd.ic,rfl,kd.f6,?_⟩;lk;refine⟨e,C,.ref cX,.ref cX,_,rfl,x2,kd.xi,kd.ic,rfl,kd.f7,?_⟩;lk;exact k3 q _ s3 h3
def He:Res->List Str
 | .ok _=>[]
 | .bad _=>["row"]
 | .many=>["many"]
 | .i8=>["top"]
def Ip:Res->Nat
 | .bad n=>n
 | _=>0
def zk(H:Hp)(q:Addr)(r:Res):Prop:=∃l,H q=some (.tup [.ref l,.int (Ip r:Int)])/\H l=some (.lst ((He r).map V.str))
def pX:Sp:=λvs H Q _=>∃x:Str,vs=[.str x]/\x.length<=100000/\∀(q:Addr) (H':Hp),ay H H'->zk H' q (parse (cds x))->Q (.ref q) H'
theorem BA{cT cB cM cO cL cA cU cX cE fB:Addr}(F:aM K "_law_refused" "_law_refused" qB dV f fd)(T:Txt mg)(pC:Cal P w K mg base true 9 "read" (λvs H Q E=>AS (TRk cT p) vs H Q E\/yY cB cM cO vs H Q E) [])(r9:Cal P w K mg base false 1 "_law_kinds" (xM K cB cM cO cL cA cU cX) [])
  (gS:mg "BadRow"=some (.ref cB)) (gO:nY K cB fB) (cD:mg "MinderError"=some (.ref cE)) (iN:qd K cE) (kB:zf K cB cB cM cO cL cA cU cX 0) (kM:zf K cM cB cM cO cL cA cU cX 1) (kO:zf K cO cB cM cO cL cA cU cX 2) (lB:XLd K cB "row")
  (m1:PySem.W.mroIn K cB (.ref cB)=some true) (m2:PySem.W.mroIn K cM (.ref cB)=some false) (m3:PySem.W.mroIn K cO (.ref cB)=some false) (m4:PySem.W.mroIn K cM (.ref cE)=some true) (m5:PySem.W.mroIn K cO (.ref cE)=some true):
  aB P w K mg base (CXE P w) true 10 f fd xy pX:=by
 refine F.pf mD λvs H Q E y0=> ?_;obtain⟨x,rfl,hx,k⟩:=y0;refine⟨rfl,λcdv A outer s hr=> ?_⟩
 refine⟨_,(aa (Ba ⟨rfl,rfl,rfl⟩ (λD pn' E' hT hP=>(ag (br (bO pC (hr.mono (by omega)) (by rfl) (passes hT) {pv 0}))))
    ar
    (Kr (i:=1) ⟨rfl,rfl,rfl⟩ mD.nd rfl rfl (by rfl) gS gO (λe=>(ag (ao (fq {bO r9 ((hr.mark _).mono (by omega)) (by rfl) (passes j8) {pv 1},Hg (K0:=K) rfl (pv 1) (by rfl)}))))
    (LA (i:=1) ⟨rfl,rfl,rfl⟩ mD.nd rfl rfl (by rfl) cD iN (λe=>(ag (ao (fq {bO r9 ((hr.mark _).mono (by omega)) (by rfl) (passes j8) {pv 1},(af)}))))
    xR)))
   (ag (ao (fq {az eT,(af)})))),?_⟩
 fin2
 lk;have fin:∀(r:Res) (H1:Hp) (l q:Addr),parse (cds x)=r->ay H H1->H1 l=some (.lst ((He r).map V.str))->H1 q=none->Q (.ref q) (upd H1 q (.tup [.ref l,.int (Ip r:Int)])):=λr H1 l q e s1 hl hq=>k q _ (s1.trans (ah hq)) ⟨l,by rw[e];exact ae,by rw[e];exact ah hq _ _ hl⟩
 have hnd:∀(C:Addr) (j:Nat) (r:Res) (H1:Hp),ay H H1->zf K C cB cM cO cL cA cU cX j->j < 3->parse (cds x)=r->He r=[kdS j]->Ip r=0->∀e,H1 e=none->xM K cB cM cO cL cA cU cX [.ref e] (upd H1 e (XOb e C none)) (λv H2=>∀q,H2 q=none->Q (.ref q) (upd H2 q (.tup [v,.int 0]))) λ_ _ _=>False:=λC j r H1 s1 kd hj e1 e2 e3 e he=>
  ⟨e,C,j,rfl,.inl ae,kd,hj,λl H2 s2 hl q hq=>by
   have:=fin r H2 l q e1 (s1.trans ((ah he).trans s2)) (by rw[e2];exact hl) hq;rw[e3] at this;exact this⟩
 cases hp:parse (cds x) with
 | ok rows=>
  refine .inl ⟨x,rows,rfl,⟨hx,trivial⟩,hp,C4 hp,λt H1 FT s1 _ _=> ?_⟩;lk;refine⟨l8 (by decide),λl hl=> ?_⟩;refine⟨l8 (by show 2<=100;decide),λq hq=> ?_⟩;exact fin _ _ l q hp (s1.trans (ah hl)) ae hq
 | bad n=>
  refine .inr ⟨x,rfl,hx,?_⟩;rw[hp];intro H1 dx s1 hd hdx;refine⟨cB,true,rfl,m1,?_⟩;rw[if_pos rfl];intro e he;have ne:dx≠e:=λz=>by rw[z,he] at hdx;cases hdx
  have hdx2:(upd H1 e (XOb e cB (some dx))) dx=some (.xd [("row",.int (n:Int))]):=by rw[aq ne];exact hdx
  lk;refine⟨e,cB,0,rfl,.inr ⟨dx,_,ae,hdx2⟩,kB,by decide,λl H2 s2 hl=> ?_⟩;lk;refine⟨e,cB,dx,_,_,rfl,s2 _ _ ae,s2 _ _ hdx2,lB,rfl,?_⟩;refine⟨l8 (by show 2<=100;decide),λq hq=> ?_⟩;exact fin _ _ l q hp (s1.trans ((ah he).trans s2)) hl hq
 | many=>
  refine .inr ⟨x,rfl,hx,?_⟩;rw[hp];intro H1 s1;refine⟨cM,false,rfl,m2,?_⟩;rw[if_neg (by decide)];refine⟨cM,true,rfl,m4,?_⟩;rw[if_pos rfl];intro e he;lk;obtain⟨e',C',j',z1,z2,z3,z4,z5⟩:=hnd cM 1 _ H1 s1 kM (by decide) hp rfl rfl e he;exact⟨e',C',j',z1,z2,z3,z4,λl H2 s2 hl=>⟨l8 (by show 2<=100;decide),λq hq=>z5 l H2 s2 hl q hq⟩⟩
 | i8=>
  refine .inr ⟨x,rfl,hx,?_⟩;rw[hp];intro H1 s1;refine⟨cO,false,rfl,m3,?_⟩;rw[if_neg (by decide)];refine⟨cO,true,rfl,m5,?_⟩;rw[if_pos rfl];intro e he;lk;obtain⟨e',C',j',z1,z2,z3,z4,z5⟩:=hnd cO 2 _ H1 s1 kO (by decide) hp rfl rfl e he;exact⟨e',C',j',z1,z2,z3,z4,λl H2 s2 hl=>⟨l8 (by show 2<=100;decide),λq hq=>z5 l H2 s2 hl q hq⟩⟩
def F7:Sp:=λvs H Q _=>∃(way deep:Nat) (nm:Str),vs=[.int (way:Int),.str nm,.int (deep:Int)]/\way < 29/\deep<=20/\nm.length<=12/\∀H',ay H H'->Q (.str (vL way nm deep)) H'
theorem dQ{H:Hp}{q1 q2:Addr}{xs ys:List V}{Q:VK}(h1:H q1=some (.lst xs))(h2:H q2=none)(hl:xs.length + ys.length<=200)(go:∀q H',ay H H'->H' q=some (.lst (xs++ys))->Q (.ref q) H'):Lp (.ref q1) (.ref q2) (upd H q2 (.lst ys)) Q:=
 ex4 q1 q2 xs ys (an6 rfl rfl (ah h2 _ _ h1) ae (aH (by lia)) λz hz=>go z _ ((ah h2).trans (ah hz)) ae)
theorem J9{way:Nat}(nm:Str)(h:way < 14):atI ((sE nm).map V.str) (way:Int)=some (V.str ((sE nm).getD way "")):=by
 refine aO ?_;have hl:way < (sE nm).length:=h;rw[List.getElem?_map,List.getElem?_eq_getElem hl,List.getD_eq_getElem?_getD,List.getElem?_eq_getElem hl]
 rfl
theorem Ih{way:Nat}(h1:17 < way)(h:way < 29):atI (vh.map V.str) ((way:Int) - 18)=some (V.str (vh.getD (way - 18) "")):=by
 have hl:way - 18 < vh.length:=by show way - 18 < 11;lia
 rw[show (way:Int) - 18=((way - 18:Nat):Int) by lia];refine aO ?_;rw[List.getElem?_map,List.getElem?_eq_getElem hl,List.getD_eq_getElem?_getD,List.getElem?_eq_getElem hl]
 rfl
theorem EE:∀j,j < 11->(vh.getD j "").length<=60:=by decide +kernel
theorem G6(nm:Str)(hn:nm.length<=12){j:Nat}(h:j < 14):((sE nm).getD j "").length<=60:=by
 by_cases c:j=12
 .subst c;show(Str.ofString "leaf always 0 0 idle "++nm).length<=60;rw[PySem.Str.length_append];have:(Str.ofString "leaf always 0 0 idle ").length=21:=by decide +kernel
  lia
 .rw [sF nm j h c];have:∀j,j < 14->((sE "").getD j "").length<=60:=by decide +kernel
  exact this j h
theorem Kq(F:aM K "_law_odd" "_law_odd" FJ dV f fd)(T:Txt mg):aB P w K mg base (CXE P w) true 1 f fd Jo F7:=by
 rcases iO,(aa (aL (i:=3) iO.nd (az {(ai),(ai),(ai)}))
   (aa (aL (i:=3) iO.nd (ak dG (pv 3) (az {(ai),(ai),(ai)})))
   (aa (aL (i:=3) iO.nd (ak dG (pv 3) (az {(ai),(ai),(ai)})))
   (aa (aL (i:=3) iO.nd (ak dG (pv 3) (az {(ai),(ai),(ai)})))
   (aa (aL (i:=3) iO.nd (ak dG (pv 3) (az {ak aG ai (pv 1),(ai)})))
   (aa (aD (zct CS (pv 0) af) (aa (aL (i:=4) iO.nd (az {(ai),(ai),(ai),(ai)}))
   (aa (aL (i:=4) iO.nd (ak dG (pv 4) (az {(ai),(ai),(ai)})))
   (aa (aL (i:=4) iO.nd (ak dG (pv 4) (az {(ai),(ai),(ai)})))
   (aa (aL (i:=4) iO.nd (ak dG (pv 4) (az {(ai)})))
   (ag (ao (ak aG ai (zix av (pv 4) (ak jo (pv 0) af))))))))) ar)
   (aa (aD (zct a0 (pv 0) af) (ag (ao ai)) ar)
   (aa (aD (zct a0 (pv 0) af) (ag (ao ai)) ar)
   (aa (aD (zct a0 (pv 0) af) (ag (ao (ak aG (ak cW ai (pv 2)) ai))) ar)
   (aa (aD (zct a0 (pv 0) af) (ag (ao ai)) ar)
   (ag (ao (ak aG ai (zix av (pv 3) (pv 0))))))))))))))) with⟨way,deep,nm,rfl,hw,hd,hn,k⟩
 lk;refine⟨l8 (by decide),λq1 h1=> ?_⟩;have s1:=ah (o:= .lst [V.str "leaf always 0 0 idle",V.str "leaf often 0 0 idle zzz",V.str "leaf always 0 0 steady zzz"]) h1;have l1:(upd H q1 (.lst [V.str "leaf always 0 0 idle",V.str "leaf often 0 0 idle zzz",V.str "leaf always 0 0 steady zzz"])) q1=_:=ae;lk;refine⟨l8 (by decide),λq2 h2=>dQ l1 h2 (by decide) λq3 H3 s3 l3=> ?_⟩;have s3:=s1.trans s3;lk;refine⟨l8 (by decide),λq4 h4=>dQ l3 h4 (by decide) λq5 H5 s5 l5=> ?_⟩;have s5:=s3.trans s5;lk;refine⟨l8 (by decide),λq6 h6=>dQ l5 h6 (by decide) λq7 H7 s7 l7=> ?_⟩;have s7:=s5.trans s7;have n21:(Str.ofString "leaf always 0 0 idle ").length=21:=by decide +kernel
 lk;refine⟨aH (by lia),?_⟩;lk;refine⟨l8 (by show 2<=100;decide),λq8 h8=>dQ l7 h8 (by show 12 + 2<=200;decide) λq9 H9 s9 l9=> ?_⟩;have s9:=s7.trans s9;have l9:H9 q9=some (.lst ((sE nm).map V.str)):=l9;lk;refine aV (λe=> ?_) (λe=> ?_)
 .have e:17 < way:=by have:(17:Int) < (way:Int):=of_decide_eq_true e;lia
  lk;refine⟨l8 (by decide),λp1 g1=> ?_⟩;have t1:=s9.trans (ah (o:= .lst [V.str "leaf always 0 0\tidle zzz",V.str "leaf always 0 0 idle zzz\t",V.str "\t",V.str "leaf always 0 0 idle zzz # one"]) g1);have k1:(upd H9 p1 (.lst [V.str "leaf always 0 0\tidle zzz",V.str "leaf always 0 0 idle zzz\t",V.str "\t",V.str "leaf always 0 0 idle zzz # one"])) p1=_:=ae;lk;refine⟨l8 (by decide),λp2 g2=>dQ k1 g2 (by decide) λp3 G3 t3 k3=> ?_⟩;have t3:=t1.trans t3;lk;refine⟨l8 (by decide),λp4 g4=>dQ k3 g4 (by decide) λp5 G5 t5 k5=> ?_⟩;have t5:=t3.trans t5;lk;refine⟨l8 (by decide),λp6 g6=>dQ k5 g6 (by decide) λp7 G7 t7 k7=> ?_⟩;have t7:=t5.trans t7;have k7:G7 p7=some (.lst (vh.map V.str)):=k7;lk;refine ex4 p7 _ _ _ (an5 rfl rfl (SqL.of k7) (Ih e hw) ?_);have:=EE (way - 18) (by lia);refine ex2 _ _ (an4 rfl rfl (aH (by show 2 + _<=1000;lia)) ?_);have:=k _ t7;unfold vL at this;rw[if_pos e] at this;exact this
 have e:¬17 < way:=λz=>e (decide_eq_true (by lia));have k:=k _ s9;unfold vL at k;rw[if_neg e] at k;lk;refine aV (λe2=> ?_) (λe2=> ?_)
 .have e2:way=14:=by have:=V.int.inj (of_decide_eq_true e2);lia
  rw[if_pos e2] at k;exact k
 have e2:way≠14:=λz=>e2 (decide_eq_true (congrArg V.int (by lia)));rw[if_neg e2] at k;lk;refine aV (λe3=> ?_) (λe3=> ?_)
 .have e3:way=15:=by have:=V.int.inj (of_decide_eq_true e3);lia
  rw[if_pos e3] at k;exact k
 have e3:way≠15:=λz=>e3 (decide_eq_true (congrArg V.int (by lia)));rw[if_neg e3] at k;lk;refine aV (λe4=> ?_) (λe4=> ?_)
 .have e4:way=16:=by have:=V.int.inj (of_decide_eq_true e4);lia
  rw[if_pos e4] at k;have ld:(nO deep).length=2 * deep:=by rw[<- aA,yQ,List.length_replicate]
  have l24:(Str.ofString "leaf always 0 0 idle zzz").length=24:=by decide +kernel
  lk;refine⟨(by show 2 * _<=_;lia),(by lia),(by show 2<=_;decide),?_⟩;lk;refine⟨aH (by show(nO deep).length + _<=1000;lia),?_⟩;exact k
 have e4:way≠16:=λz=>e4 (decide_eq_true (congrArg V.int (by lia)));rw[if_neg e4] at k;lk;refine aV (λe5=> ?_) (λe5=> ?_)
 .have e5:way=17:=by have:=V.int.inj (of_decide_eq_true e5);lia
  rw[if_pos e5] at k;exact k
 have e5:way≠17:=λz=>e5 (decide_eq_true (congrArg V.int (by lia)));rw[if_neg e5] at k;lk;refine ex4 q9 _ _ _ (an5 rfl rfl (SqL.of l9) (J9 nm (by lia)) ?_);have:=G6 nm hn (j:=way) (by lia);refine ex2 _ _ (an4 rfl rfl (aH (by show 2 + _<=1000;lia)) ?_);exact k
open PySem L2 Shp Nm Tr Hs PySem.NumText
def x6:Sp:=λvs H Q _=>vs=[]/\∀H',ay H H'->Q (.str qi) H'
theorem Eg:(jJ.map (·.length)).sum<=900/\jJ.length=9:=by decide +kernel
theorem Lk(n:Nat):(zS n).length=n:=by
 unfold zS;rw[<- aA,fv,show cds ("z":Str)=[122] by decide +kernel];have:=ou n 122;rw[this,List.length_replicate]
theorem C3(n:Nat):(nO n).length=2 * n:=by rw[<- aA,yQ,List.length_replicate]
theorem GL(F:aM K "_law_steep" "_law_steep" yS dV f fd)(T:Txt mg):aB P w K mg base (CXE P w) true 1 f fd yF x6:=by
 rcases zJ,(aa (m9 (j:=0) zJ.nd rfl (by k_ne) (x:="_law_k") (fr:=[]) (by kd_p) rfl (lI (by rfl) T.jr {(af)}) (λ_ _ _ _=>pw) (λ_ _ _ _=>(ak aG (ak aG (ak cW ai (pv 0)) ai) (ak cW ai (ak cb (pv 0) af)))))
   (ag (ao (cv PySem.F.plainAttrs_str PySem.F.slot_str_join PySem.F.type_str_join cY ai {pv 0})))) with⟨rfl,k⟩
 lk;refine⟨by decide,by decide,?_⟩;refine ff (n:=9) (λi ys H'=>H'=H/\ys=(jJ.take i).map V.str) ⟨rfl,rfl⟩ (λi ys H' hi _=>hi) (λys H' _=>Nat.le_refl _) ?_ ?_
 .rintro i ys H' v H2 hi ⟨rfl,rfl⟩ ⟨rfl,rfl⟩;have l1:=C3 i;have l3:=Lk (i + 3);have l2:(Str.ofString "minder always one 1 1 ").length=22:=by decide +kernel
  have hs:jJ[i]? =some (nO i++Str.ofString "minder always one 1 1 "++zS (i + 3)):=by
   unfold jJ;rw[List.getElem?_map,List.getElem?_range hi]
   rfl
  rw[Int.zero_add];lk;refine⟨(by show 2 * _<=_;lia),(by lia),(by show 2<=_;decide),?_⟩;lk;refine⟨aH (by show(nO i).length + _<=1000;lia),?_⟩;lk;refine⟨(by show 1 * _<=_;lia),(by lia),(by show 1<=_;decide),?_⟩;refine ex2 (nO i++Str.ofString "minder always one 1 1 ") (zS (i + 3)) (an4 rfl rfl (aH (by rw[PySem.Str.length_append];lia)) ?_);refine⟨?_,rfl,?_⟩
  .rw [List.length_map,List.length_take];exact aI (by lia)
  .rw [List.take_add_one,hs,List.map_append]
   rfl
 .rintro ys H' ⟨rfl,rfl⟩;have hl:=Eg;rw[show jJ.take 9=jJ by rw[<- hl.2,List.take_length]];refine⟨by rw[List.length_map,hl.2];exact aH (by decide),λq hq=> ?_⟩;lk;refine ex3 ("\n") q jJ (an5 rfl rfl (SqL.of ae) (by show _ + _ * 1<=_;lia) ?_);exact k _ (ah hq)
theorem zk.same{H H':Hp}{q:Addr}{r:Res}(h:zk H q r)(s:ay H H'):zk H' q r:=by
 obtain⟨l,a,b⟩:=h;exact⟨l,s _ _ a,s _ _ b⟩
theorem jD{H:Hp}{q d e:Addr}{r:Res}{ks:List Str}{n:Int}(h:zk H q r)(hd:H d=some (.tup [.ref e,.int n]))(he:H e=some (.lst (ks.map V.str)))(e1:He r=ks)(e2:(Ip r:Int)=n):EqD K H 2 (.ref q) (.ref d) true:=by
 obtain⟨l,hq,hl⟩:=h;rw[e1] at hl;rw[e2] at hq;refine .inr ⟨q,d,_,_,rfl,rfl,.inr ⟨.inr ⟨SqT.of hq,SqT.of hd⟩,rfl,λ_=>true,λj x y h1 h2=> ?_,rfl⟩⟩
 match j,h1,h2 with
 | 0,h1,h2=>
  obtain rfl:=Option.some.inj h1;obtain rfl:=Option.some.inj h2;refine .inr ⟨l,e,_,_,rfl,rfl,.inr ⟨.inl ⟨SqL.of hl,SqL.of he⟩,rfl,λ_=>true,λi x y g1 g2=> ?_,(List.all_eq_true.mpr λ_ _=>rfl).symm⟩⟩;rw[g1] at g2;obtain rfl:=Option.some.inj g2;rw[List.getElem?_map] at g1;obtain⟨z,_,rfl⟩:=Option.map_eq_some_iff.mp g1;exact⟨rfl,rfl,(n8 rfl).symm⟩
 | 1,h1,h2=>
  obtain rfl:=Option.some.inj h1;obtain rfl:=Option.some.inj h2;exact .inl ⟨rfl,rfl,(n8 rfl).symm⟩
 | j + 2,h1,h2=>cases h1
theorem JP{r:Res}{n:Nat}(h:isBad r n=true):r=.bad n:=by
 cases r with
 | bad m=>rw[show m=n from beq_iff_eq.mp h]
 | ok _=>cases h
 | many=>cases h
 | i8=>cases h
theorem LP{r:Res}(h:isOk r=true):∃rows,r=.ok rows:=by
 cases r with
 | ok rows=>exact⟨rows,rfl⟩
 | bad _=>cases h
 | many=>cases h
 | i8=>cases h
def K2(r:Res):Bool:=match r with
 | .i8=>true
 | _=>false
theorem Fh{r:Res}(h:K2 r=true):r=.i8:=by
 cases r with
 | i8=>rfl
 | bad _=>cases h
 | many=>cases h
 | ok _=>cases h
theorem L7:parse (cds "# q\n\n   ")=.i8:=Fh (by decide +kernel)
theorem top2:parse (cds "")=.i8:=Fh (by decide +kernel)
def xq:Sp:=λvs H Q _=>∃(way:Nat) (R:List Row) (other:Int),vs=[.int (way:Int),.str (ofC (written R)),.int (R.length:Int),.int other]/\way < 4/\OkT R/\(written R).length<=10000/\Str.ofString "zzz"∉R.map (·.sh.name)/\∀H',ay H H'->Q (.bl true) H'
theorem A8(F:aM K "_law_special" "_law_special" qq dV f fd)(T:Txt mg)(bH:Cal P w K mg base true 10 "_law_refused" pX [])(sf:Cal P w K mg base true 1 "_law_steep" x6 [])(xu:Cal P w K mg base true 1 "_law_odd" F7 []):aB P w K mg base (CXE P w) true 11 f fd wZ xq:=by
 rcases jQ,(aa (aD (zct a0 (pv 0) af) (ag (ao (fh (zce (jP (gI hr)) (bD bH {(ai)}) (fq {az {(ai)},(af)})) (fX (zce (jP (gI hr)) (bD bH {(ai)}) (fq {az {(ai)},(af)})))))) ar)
   (aa (aD (zct a0 (pv 0) af) (aa (aL (i:=4) jQ.nd (bD bH {ak aG (ak aG (ak aG (Cr sf (hr.mono (by omega)) (by rfl) bM) ai) (ak cW ai af)) ai}))
   (ag (ao (fh (zce (jP (gI hr)) (pv 4) (fq {az {(ai)},(af)})) (fX (zce (jP (gI hr)) (bD bH {Cr sf (hr.mono (by omega)) (by rfl) bM}) (fq {az eT,(af)}))))))) ar)
   (aa (aD (zct a0 (pv 0) af) (aa (aL (i:=5) jQ.nd (bD xu {ak aS (pv 3) af,(ai),(af)}))
   (ag (ao (zce (jP (gI hr)) (bD bH {ak aG (ak aG (ak aG ai (pv 5)) ai) (pv 1)}) (fq {az {(ai)},(af)}))))) ar)
   (aa (aD (zct jg (pv 2) af) (ag (ao vD)) ar)
   (aa (aL (i:=6) jQ.nd (zce (jP (gI hr)) (bD bH {ak aG (pv 1) ai}) (fq {az {(ai)},(af)})))
   (ag (ao (fh (pv 6) (fX (zce (jP (gI hr)) (bD bH {ak aG (pv 1) ai}) (fq {az {(ai)},(af)}))))))))))) with⟨way,R,other,rfl,hw,hR,hl,hz,k⟩
 have gl:(ofC (written R)).length<=10000:=by rw[<- aA,fF];exact hl
 have ww:way=0\/way=1\/way=2\/way=3:=by lia
 rcases ww with rfl | rfl | rfl | rfl
 .lk;refine⟨by decide +kernel,λq H1 s1 hr=> ?_⟩;rw[L7] at hr;refine⟨l8 (by decide),λl hl=>⟨l8 (by show 2<=100;decide),λd hd=> ?_⟩⟩;have s2:=(ah (o:= .lst [V.str "top"]) hl).trans (ah (o:= .tup [.ref l,.int 0]) hd);refine⟨q,d,2,true,rfl,rfl,by decide,jD (hr.same s2) ae (ah hd _ _ ae) rfl rfl,?_⟩;have s2:=s1.trans s2;lk;refine⟨by decide +kernel,λq H3 s3 hr=> ?_⟩;rw[top2] at hr;have s3:=s2.trans s3;refine⟨l8 (by decide),λl hl=>⟨l8 (by show 2<=100;decide),λd hd=> ?_⟩⟩;have s4:=(ah (o:= .lst [V.str "top"]) hl).trans (ah (o:= .tup [.ref l,.int 0]) hd);refine⟨q,d,2,true,rfl,rfl,by decide,jD (hr.same s4) ae (ah hd _ _ ae) rfl rfl,?_⟩;lk;exact k _ (s3.trans s4)
 .have l0:=Ed;have l9:=C3 9;lk;refine λH1 s1=> ?_;lk;have n1:(Str.ofString "\n").length=1:=by decide +kernel
  have n2:(Str.ofString "leaf always 0 0 idle zz").length=23:=by decide +kernel
  refine⟨da (by lia),?_⟩;refine ex2 ("  ") 9 (an6 rfl rfl (by decide) (by decide) (by decide) ?_);refine ex2 (qi++Str.ofString "\n") (nO 9) (an4 rfl rfl (da (by rw[PySem.Str.length_append];lia)) ?_);refine ex2 (qi++Str.ofString "\n"++nO 9) _ (an4 rfl rfl (da (by rw[PySem.Str.length_append,PySem.Str.length_append];lia)) ?_);refine⟨_,rfl,by rw[PySem.Str.length_append,PySem.Str.length_append,PySem.Str.length_append];lia,λq H2 s2 hr=> ?_⟩;rw[JP Ey] at hr;lk;refine⟨l8 (by decide),λl hl=>⟨l8 (by show 2<=100;decide),λd hd=> ?_⟩⟩;have s3:=(ah (o:= .lst [V.str "row"]) hl).trans (ah (o:= .tup [.ref l,.int 10]) hd);refine⟨q,d,2,true,rfl,rfl,by decide,jD (hr.same s3) ae (ah hd _ _ ae) rfl rfl,?_⟩;have s3:=s1.trans (s2.trans s3);lk;refine λH4 s4=> ?_;obtain⟨rows,e⟩:=LP Gb;lk;refine⟨by lia,λq H5 s5 hr=> ?_⟩;rw[e] at hr;refine⟨l8 (by decide),λl hl=>⟨l8 (by show 2<=100;decide),λd hd=> ?_⟩⟩;have s6:=(ah (o:= .lst []) hl).trans (ah (o:= .tup [.ref l,.int 0]) hd);refine⟨q,d,2,true,rfl,rfl,by decide,jD (hr.same s6) ae (ah hd _ _ ae) rfl rfl,?_⟩;lk;exact k _ (s3.trans (s4.trans (s5.trans s6)))
 .have b15:=bp other (n:=15) (by decide);obtain⟨c0,hc0⟩:=Int.eq_ofNat_of_zero_le b15.1;have cl:c0 < 15:=by lia
  have fo:=DR cl;lk;refine⟨c0,1,Str.ofString "zzz",by show [V.int (other % 15),_,_]=_;rw[hc0];rfl,by lia,by decide,by decide +kernel,λH1 s1=> ?_⟩;have ol:=fo.len;have n2:(Str.ofString "#\n").length=2:=by decide +kernel
  have n1:(Str.ofString "\n").length=1:=by decide +kernel
  generalize vL c0 (Str.ofString "zzz") 1=x at fo ol;lk;refine⟨aH (by lia),?_⟩;lk;refine⟨aH (by rw[PySem.Str.length_append];lia),?_⟩;lk;refine⟨da (by rw[PySem.Str.length_append,PySem.Str.length_append];lia),?_⟩;lk;refine⟨by rw[PySem.Str.length_append,PySem.Str.length_append,PySem.Str.length_append];lia,λq H2 s2 hr=> ?_⟩
  have e:cds (Str.ofString "#\n"++x++Str.ofString "\n"++ofC (written R))=[35]++10::(cds x++10::written R):=by
   rw[bo,bo,bo,fF,show cds (Str.ofString "#\n")=[35,10] by decide +kernel,show cds (Str.ofString "\n")=[10] by decide +kernel];simp
  rw[e,Av fo] at hr;refine⟨l8 (by decide),λl hl=>⟨l8 (by show 2<=100;decide),λd hd=> ?_⟩⟩;have s3:=(ah (o:= .lst [V.str "row"]) hl).trans (ah (o:= .tup [.ref l,.int 2]) hd);refine⟨q,d,2,true,rfl,rfl,by decide,jD (hr.same s3) ae (ah hd _ _ ae) rfl rfl,?_⟩;lk;exact k _ (s1.trans (s2.trans s3))
 .lk;refine aV (λe=> ?_) (λe=> ?_)
  .lk;exact k _ (ay.refl _)
  have h64:R.length=64:=by
   have:=hR.len;have:¬(R.length:Int) < 64:=λz=>e (decide_eq_true z)
   lia
  have n1:(Str.ofString "\n  leaf always 0 0 idle zzz").length=27:=by decide +kernel
  have n2:(Str.ofString "\n  leaf always 0 0 idle z_").length=26:=by decide +kernel
  lk;refine⟨da (by lia),?_⟩;lk;refine⟨by rw[PySem.Str.length_append];lia,λq H1 s1 hr=> ?_⟩
  have e1:cds (ofC (written R)++Str.ofString "\n  leaf always 0 0 idle zzz")=written R++10::cds "  leaf always 0 0 idle zzz":=by
   rw[bo,fF]
   congr 1
  rw[e1,Bm hR h64 hz] at hr;refine⟨l8 (by decide),λl hl=>⟨l8 (by show 2<=100;decide),λd hd=> ?_⟩⟩;have s3:=(ah (o:= .lst [V.str "many"]) hl).trans (ah (o:= .tup [.ref l,.int 0]) hd);refine⟨q,d,2,true,rfl,rfl,by decide,jD (hr.same s3) ae (ah hd _ _ ae) rfl rfl,?_⟩;have s3:=s1.trans s3;lk;refine⟨da (by lia),?_⟩;lk;refine⟨by rw[PySem.Str.length_append];lia,λq H4 s4 hr=> ?_⟩
  have e2:cds (ofC (written R)++Str.ofString "\n  leaf always 0 0 idle z_")=written R++10::cds "  leaf always 0 0 idle z_":=by
   rw[bo,fF]
   congr 1
  rw[e2,AM hR,h64] at hr;refine⟨l8 (by decide),λl hl=>⟨l8 (by show 2<=100;decide),λd hd=> ?_⟩⟩;have s5:=(ah (o:= .lst [V.str "row"]) hl).trans (ah (o:= .tup [.ref l,.int 65]) hd);refine⟨q,d,2,true,rfl,rfl,by decide,jD (hr.same s5) ae (ah hd _ _ ae) rfl rfl,?_⟩;lk;exact k _ (s3.trans (s4.trans s5))
theorem nk{ys:List Str}(h:∀y∈ys,y.length<=100)(hl:ys.length<=100):(ys.map (·.length)).sum + ys.length * (Str.ofString "\n").length<=16777216/\(Txt.join "\n" ys).length<=100000/\cds (Txt.join "\n" ys)=de [10] (ys.map cds):=by
 have sm:(ys.map (·.length)).sum<=100 * ys.length:=by
  refine Nat.le_trans (yA (n:=100) λy hy=> ?_) (by rw[List.length_map];exact Nat.le_refl _);obtain⟨z,hz,rfl⟩:=List.mem_map.mp hy;exact h z hz
 have jc:cds (Txt.join "\n" ys)=de [10] (ys.map cds):=by rw[ju];rfl
 refine⟨by show _ + _ * 1<=_;lia,?_,jc⟩;have:=lG [10] (ys.map cds);rw[List.map_map,List.length_map,show(λx:List Nat=>x.length)∘cds=λx:Str=>x.length from funext aA] at this;have this:(de [10] (ys.map cds)).length<=(ys.map (·.length)).sum + ys.length * 1:=this;rw[<- aA,jc]
 lia
theorem Ct(xs:List V)(a:Nat):qx xs (some (a:Int)) none=xs.drop a:=by
 unfold qx HT.sIx;dsimp only;rw[if_neg (by lia)];by_cases h:(a:Int) > xs.length
 .rw [List.drop_eq_nil_of_le (show xs.length<=a by lia)];exact List.length_eq_zero_iff.mp (by rw[List.length_take,List.length_drop];lia)
 .rw [List.take_of_length_le (by rw[List.length_drop];lia)]
  congr 1
  lia
theorem uR{R:List Row}(h:OkT R){rs:List Str}(hrs:rs.map cds=bz R):∀y∈rs,y.length<=100:=λy hy=>by
 have:cds y∈bz R:=by rw[<- hrs];exact List.mem_map.mpr ⟨y,hy,rfl⟩
 obtain⟨r,hr,e⟩:=List.mem_map.mp this;have h2:=lK (h.sh _ hr) r.dep;obtain⟨i,hi,rfl⟩:=List.getElem_of_mem hr
 have d8:R[i].dep<=8:=by
  have:=h.fit i hi;rw[List.getD_eq_getElem?_getD,List.getElem?_eq_getElem hi] at this;unfold Tr.fits at this
  split at this
  .have:R[i].dep=0:=this.1
   lia
  .exact this.2.1
 rw[<- aA,<-e]
 lia
def CN:Sp:=λvs H Q _=>∃(rp:Addr) (rs:List Str) (R:List Row) (x:Str) (at':Nat) (other:Int),vs=[.ref rp,.str x,.int (at':Int),.int other]/\H rp=some (.lst (rs.map V.str))/\rs.map cds=bz R/\OkT R/\at'<=R.length/\xp (R.take at') x/\∀H',ay H H'->Q (.bl true) H'
theorem FU(F:aM K "_law_put_in" "_law_put_in" ib dV f fd)(T:Txt mg)(bH:Cal P w K mg base true 10 "_law_refused" pX []):aB P w K mg base (CXE P w) true 11 f fd Az CN:=by
 refine F.pf jf λvs H Q E y0=> ?_;obtain⟨rp,rs,R,x,at',other,rfl,hrp,hrs,hR,hat,hx,k⟩:=y0;refine⟨rfl,λcdv Ar outer s0 hr=> ?_⟩
 have rl:rs.length=R.length:=by
  have:=congrArg List.length hrs;rwa [List.length_map,Tr.plain_len] at this
 have h64:=hR.len;have r100:=uR hR hrs;have mt:(rs.take at').map cds=bz (R.take at'):=by rw[List.map_take,hrs];exact(List.map_take ..).symm
 have md:(rs.drop at').map cds=bz (R.drop at'):=by rw[List.map_drop,hrs];exact(List.map_drop ..).symm
 have t3:∃t,PSs (fO true (CXE P w) P w K mg base tU "_law_put_in" (aj ib) f cdv Ar outer s0 H E).nox ((aY ib).drop 3) t/\∀(H1:Hp) (q1 b1:Addr) (C D:List Str) (v5:Option V),ay H H1->H1 q1=some (.lst ((rs.take at'++C++rs.drop at').map V.str))->H1 b1=some (.lst ((rs.take at'++C++x::(rs.drop at'++D)).map V.str))->(∀l∈C,bG (cds l)=true/\10∉cds l/\l.length<=10)->C.length<=2->(∀l∈D,10∉cds l/\l.length<=10)->D.length<=2→
   t { nx:=λ_ H'=>Q .non H',rt:=Q} [some (.ref q1),some (.str x),some (.int ((at' + C.length:Nat):Int)),some (.int other),some (.ref b1)] H1:=by
  refine⟨_,(ag (ao (fh (zce (jP (gI hr)) (bD bH {cv PySem.F.plainAttrs_str PySem.F.slot_str_join PySem.F.type_str_join cY ai {pv 4}}) (fq {az {(ai)},ak cb (pv 2) af})) (fX (zce (jP (gI hr)) (bD bH {cv PySem.F.plainAttrs_str PySem.F.slot_str_join PySem.F.type_str_join cY ai {pv 0}}) (fq {az eT,(af)})))))),?_⟩
  fin2
  intro H1 q1 b1 C D v5 s1 hq hb hC cl hD dl
  have lC:∀l∈C.map cds,bG l=true/\10∉l:=λl hl=>by
   obtain⟨y,hy,rfl⟩:=List.mem_map.mp hl;exact⟨(hC y hy).1,(hC y hy).2.1⟩
  have lD:∀l∈D.map cds,10∉l:=λl hl=>by
   obtain⟨y,hy,rfl⟩:=List.mem_map.mp hl;exact(hD y hy).1
  obtain⟨j1,j2,j3⟩:=nk (ys:=rs.take at'++C++x::(rs.drop at'++D)) (λy hy=>by
   rcases List.mem_append.mp hy with hy | hy
   .rcases List.mem_append.mp hy with hy | hy
    .exact r100 y (List.mem_of_mem_take hy)
    .exact Nat.le_trans (hC y hy).2.2 (by decide)
   .rcases List.mem_cons.mp hy with rfl | hy
    .exact hx.len
    .rcases List.mem_append.mp hy with hy | hy
     .exact r100 y (List.mem_of_mem_drop hy)
     .exact Nat.le_trans (hD y hy).2 (by decide)) (by
   rw[List.length_append,List.length_append,List.length_cons,List.length_append,List.length_take,List.length_drop]
   lia)
  obtain⟨g1,g2,g3⟩:=nk (ys:=rs.take at'++C++rs.drop at') (λy hy=>by
   rcases List.mem_append.mp hy with hy | hy
   .rcases List.mem_append.mp hy with hy | hy
    .exact r100 y (List.mem_of_mem_take hy)
    .exact Nat.le_trans (hC y hy).2.2 (by decide)
   .exact r100 y (List.mem_of_mem_drop hy)) (by
   rw[List.length_append,List.length_append,List.length_take,List.length_drop]
   lia)
  rw[List.map_append,List.map_append,List.map_cons,List.map_append,mt,md] at j3;rw[List.map_append,List.map_append,mt,md] at g3;have pj:=DW hR hat lC lD hx;have pg:=Gi hR at' lC;rw[<- j3] at pj;rw[<- g3] at pg;rw[List.length_map] at pj;lk;refine ex3 (Str.ofString "\n") b1 _ (an5 rfl rfl (SqL.of hb) j1 ?_);refine⟨_,rfl,j2,λq H2 s2 hr=> ?_⟩;rw[pj] at hr;refine⟨l8 (by decide),λl hl=> ?_⟩;lk;refine⟨l8 (by show 2<=100;decide),λd hd=> ?_⟩;have s3:=(ah (o:= .lst [V.str "row"]) hl).trans (ah (o:= .tup [.ref l,.int (((at' + C.length:Nat):Int) + 1)]) hd);refine⟨q,d,2,true,rfl,rfl,by decide,jD (hr.same s3) ae (ah hd _ _ ae) rfl (by show((at' + C.length + 1:Nat):Int)=_;lia),?_⟩;have hq3:=(s2.trans s3) _ _ hq;have s3:=s1.trans (s2.trans s3);lk;refine ex3 (Str.ofString "\n") q1 _ (an5 rfl rfl (SqL.of hq3) g1 ?_);refine⟨_,rfl,g2,λq H4 s4 hr=> ?_⟩;rw[pg] at hr;refine⟨l8 (by decide),λl hl=>⟨l8 (by show 2<=100;decide),λd hd=> ?_⟩⟩;have s5:=(ah (o:= .lst []) hl).trans (ah (o:= .tup [.ref l,.int 0]) hd);refine⟨q,d,2,true,rfl,rfl,by decide,jD (hr.same s5) ae (ah hd _ _ ae) rfl rfl,?_⟩;lk;exact k _ (s3.trans (s4.trans s5))
 obtain⟨t3,ht3,hn3⟩:=t3
 have t1:∃t,PSs (fO true (CXE P w) P w K mg base tU "_law_put_in" (aj ib) f cdv Ar outer s0 H E).nox ((aY ib).drop 1) t/\∀(H1:Hp) (q1:Addr) (C:List Str),ay H H1->H1 q1=some (.lst ((rs.take at'++C++rs.drop at').map V.str))->(∀l∈C,bG (cds l)=true/\10∉cds l/\l.length<=10)->C.length<=2→
   t { nx:=λ_ H'=>Q .non H',rt:=Q} [some (.ref q1),some (.str x),some (.int ((at' + C.length:Nat):Int)),some (.int other),none] H1:=by
  refine⟨_,(aa (aL (i:=4) jf.nd (ak dG (ak dG (gW jw (pv 0) ox (gC (pv 2))) (az {pv 1})) (gW jw (pv 0) (gC (pv 2)) ox)))
   (aa (aD (zct a0 (ak aS (pv 3) af) af) (ag (aL (i:=4) jf.nd (ak dG (pv 4) (az {(ai)})))) ar)
   ht3)),?_⟩
  fin2
  intro H1 q1 C s1 hq hC cl;have tk:(rs.take at'++C).length=at' + C.length:=by rw[List.length_append,List.length_take];lia
  have c1:qx ((rs.take at'++C++rs.drop at').map V.str) none (some ((at' + C.length:Nat):Int))=(rs.take at'++C).map V.str:=by
   rw[yz,<-tk,List.map_append,List.take_left' (List.length_map _)]
  have c2:qx ((rs.take at'++C++rs.drop at').map V.str) (some ((at' + C.length:Nat):Int)) none=(rs.drop at').map V.str:=by
   rw[Ct,<-tk,List.map_append,List.drop_left' (List.length_map _)]
  lk;refine⟨q1,_,rfl,SqL.of hq,λp1 hp1=> ?_⟩;rw[c1];have s2:=ah (o:= .lst ((rs.take at'++C).map V.str)) hp1;have k1:(upd H1 p1 (.lst ((rs.take at'++C).map V.str))) p1=_:=ae;generalize upd H1 p1 (.lst ((rs.take at'++C).map V.str))=H2 at s2 k1;have tl:(rs.take at'++C).length<=70:=by lia
  have dl:(rs.drop at').length<=64:=by rw[List.length_drop];lia
  lk;refine⟨l8 (by show 1<=100;decide),λp2 hp2=>dQ k1 hp2 (by rw[List.length_map];show _ + 1<=200;lia) λp3 H3 s3 k3=> ?_⟩;have s3:=s2.trans s3;lk;refine⟨q1,_,rfl,SqL.of (s3 _ _ hq),λp4 hp4=> ?_⟩;rw[c2];refine dQ k3 hp4 (by rw[List.length_append,List.length_map,List.length_map];show _ + 1 + _<=200;lia) λp5 H5 s5 k5=> ?_;have s5:=s3.trans s5
  have k5:H5 p5=some (.lst ((rs.take at'++C++x::(rs.drop at'++[])).map V.str)):=by
   rw[k5,List.append_nil,List.map_append (l₂:=x::rs.drop at')];simp
  lk;refine aV (λe=> ?_) (λe=> ?_)
  .lk;refine⟨l8 (by show 1<=100;decide),λp6 hp6=>dQ k5 hp6 (by rw[List.length_map,List.length_append,List.length_cons,List.append_nil];show _ + (_ + 1) + 1<=200;lia) λp7 H7 s7 k7=> ?_⟩;refine hn3 H7 q1 p7 C ["what"] none (s1.trans (s5.trans s7)) ((s5.trans s7) _ _ hq) ?_ hC cl (λl hl=> ?_) (by decide)
   .rw [k7];simp
   .rw [List.mem_singleton.mp hl]
    decide +kernel
  .exact hn3 H5 q1 p5 C [] none (s1.trans s5) (s5 _ _ hq) k5 hC cl (λl hl=>by cases hl) (by decide)
 obtain⟨t1,ht1,hn1⟩:=t1
 refine⟨_,(aa (aD (zct a0 (ak aS (pv 3) af) af) (aa (aL (i:=0) jf.nd (ak dG (ak dG (gW jw (pv 0) ox (gC (pv 2))) (az {(ai),(ai)})) (gW jw (pv 0) (gC (pv 2)) ox)))
   (ag (aL (i:=2) jf.nd (ak cb (pv 2) af)))) ar)
   ht1),?_⟩
 fin2
 lk;refine aV (λe=> ?_) (λe=> ?_)
 .lk;refine⟨rp,_,rfl,SqL.of hrp,λp1 hp1=> ?_⟩;rw[yz,<-List.map_take];have s2:=ah (o:= .lst ((rs.take at').map V.str)) hp1;have k1:(upd H p1 (.lst ((rs.take at').map V.str))) p1=_:=ae;generalize upd H p1 (.lst ((rs.take at').map V.str))=H2 at s2 k1;have tl:(rs.take at').length<=64:=by rw[List.length_take];lia
  have dl:(rs.drop at').length<=64:=by rw[List.length_drop];lia
  lk;refine⟨l8 (by show 2<=100;decide),λp2 hp2=>dQ k1 hp2 (by rw[List.length_map];show _ + 2<=200;lia) λp3 H3 s3 k3=> ?_⟩;have s3:=s2.trans s3;lk;refine⟨rp,_,rfl,SqL.of (s3 _ _ hrp),λp4 hp4=> ?_⟩;rw[Ct,<-List.map_drop];refine dQ k3 hp4 (by rw[List.length_append,List.length_map,List.length_map];show _ + 2 + _<=200;lia) λp5 H5 s5 k5=> ?_;lk;refine hn1 H5 p5 ["# one",""] (s3.trans s5) ?_ (λl hl=> ?_) (by decide)
  .rw [k5];simp
  .rcases List.mem_cons.mp hl with rfl | hl
   .decide +kernel
   .rw [List.mem_singleton.mp hl]
    decide +kernel
 .have:=hn1 H rp [] (ay.refl _) (by rw[List.append_nil,List.take_append_drop];exact hrp) (λl hl=>by cases hl) (by decide);exact this
open PySem L2 Shp Nm Tr Hs PySem.NumText
theorem K4{rows:List Row}{mark:Int}(h:dD rows mark):Str.ofString "zzz"∉rows.map (·.sh.name):=λz=>by
 obtain⟨i,hi,e⟩:=wU z;rw[h.nm i hi] at e;exact Km i mark e.symm
theorem zK{R:List Row}(h:OkT R){rs:List Str}(hrs:rs.map cds=bz R):(written R).length<=10000:=by
 have r100:=uR h hrs
 have rl:rs.length=R.length:=by
  have:=congrArg List.length hrs;rwa [List.length_map,Tr.plain_len] at this
 have h64:=h.len
 have sm:(rs.map (·.length)).sum<=100 * rs.length:=by
  refine Nat.le_trans (yA (n:=100) λy hy=> ?_) (by rw[List.length_map];exact Nat.le_refl _);obtain⟨z,hz,rfl⟩:=List.mem_map.mp hy;exact r100 z hz
 have:=lG [10] (rs.map cds);rw[List.map_map,List.length_map,show(λx:List Nat=>x.length)∘cds=λx:Str=>x.length from funext aA,hrs] at this;have this:(written R).length<=(rs.map (·.length)).sum + rs.length * 1:=this
 lia
theorem D0{s:Sh}(hk:s.kind<=5):∃a r,words s=a::r/\(a=Str.ofString "leaf"/\s.kind < 3\/a≠Str.ofString "leaf"/\3<=s.kind):=by
 obtain⟨kd,kp,m,g,l,nm⟩:=s;have hk:kd=0\/kd=1\/kd=2\/kd=3\/kd=4\/kd=5:=by dsimp only at hk;lia
 rcases hk with rfl | rfl | rfl | rfl | rfl | rfl
 .exact ⟨_,_,rfl,.inl ⟨rfl,by show 0 < 3;decide⟩⟩
 .exact ⟨_,_,rfl,.inl ⟨rfl,by show 1 < 3;decide⟩⟩
 .exact ⟨_,_,rfl,.inl ⟨rfl,by show 2 < 3;decide⟩⟩
 .exact ⟨_,_,rfl,.inr ⟨by decide,by show 3<=3;decide⟩⟩
 .exact ⟨_,_,rfl,.inr ⟨by decide,by show 3<=4;decide⟩⟩
 .exact ⟨_,_,rfl,.inr ⟨by decide,by show 3<=5;decide⟩⟩
def B2(K:PySem.W.Frag):Sp:=λvs H Q _=>∃(a:Addr) (ns:List Int),vs=[.ref a]/\SqL K H a (ns.map V.int)/\∀H',Q (.bl true) H'
theorem Kw{cT cB cM cO:Addr}(F:aM K "law" "law" kr dV f fd)(T:Txt mg)(bj:Cal P w K mg base true 1 "_law_cell_at" (BR K) [])(Bi:Cal P w K mg base true 3 "_law_tree" (Gd K) [])(xu:Cal P w K mg base true 1 "_law_odd" F7 [])(uX:Cal P w K mg base true 11 "_law_put_in" CN [])(lH:Cal P w K mg base true 11 "_law_special" xq [])
  (pC:Cal P w K mg base true 9 "read" (λvs H Q E=>AS (TRk cT p) vs H Q E\/yY cB cM cO vs H Q E) []) (pG:Cal P w K mg base true 5 "written" (xA cT p) []):aB P w K mg base (CXE P w) true 20 f fd Jg (B2 K):=by
 refine F.pf cx λvs H Q E y0=> ?_;obtain⟨sa,ns,rfl,hS,k⟩:=y0;refine⟨rfl,λcdv Ar outer s0 hr=> ?_⟩
 have t8:∃t,PSs (fO true (CXE P w) P w K mg base zm "law" (aj kr) f cdv Ar outer s0 H E).nox ((aY kr).drop 8) t/\∀(H1:Hp) (R:List Row) (dp ep wp np rp:Addr) (m:V) (v9 v10 v11 v12 v13 v14:Option V),SqL K H1 sa (ns.map V.int)->OkT R->(written R).length<=10000->Str.ofString "zzz"∉R.map (·.sh.name)→
   t { nx:=λ_ H'=>Q .non H',rt:=Q} [some (.ref sa),some (.int (R.length:Int)),some (.ref dp),some (.ref ep),some (.ref wp),some (.ref np),some (.ref rp),some (.str (ofC (written R))),some m,v9,v10,v11,v12,v13,v14,none] H1:=by
  refine⟨_,(aa (aL (i:=15) cx.nd (ak aS (bD bj {pv 0,(af)}) af))
   (aa (aD (PW.pt (g7 (hJ (cc (bD lH {pv 15,pv 7,pv 1,bD bj {pv 0,(af)}}))) (gg (hJ (cc (bD lH {(af),pv 7,pv 1,(af)})))))) (ag (ao vD)) ar)
   (ag (ao (zce a0 (bD pG {bD pC {pv 7}}) (pv 7)))))),?_⟩
  fin2
  intro H1 R dp ep wp np rp m v9 v10 v11 v12 v13 v14 hS1 ok wl hz;have gl:(ofC (written R)).length<=100000:=by rw[<- aA,fF];lia
  lk;refine ex3 sa 3 ns (an4 rfl hS1 (by decide) ?_);generalize ns.getD (Int.toNat 3) 0=n3;have b3:=bp n3 (n:=3) (by decide);obtain⟨c0,hc0⟩:=Int.eq_ofNat_of_zero_le b3.1;lk;refine ex3 sa 4 ns (an4 rfl hS1 (by decide) ?_);refine⟨c0,R,_,by show [V.int (n3 % 3),_,_,_]=_;rw[hc0],by lia,ok,wl,hz,λH2 s2=> ?_⟩;lk;refine⟨3,R,0,rfl,by decide,ok,wl,hz,λH3 s3=> ?_⟩;lk;refine .inl ⟨_,R,rfl,⟨gl,trivial⟩,by rw[fF];exact vG ok,ok,λt7 H7 FT s7 _ hTR=> ?_⟩;obtain⟨c7,b7,a7,d7,as7,T7,_⟩:=hTR;refine ex7 t7 R c7 b7 a7 d7 as7 (an4 rfl T7 ok (λH8 s8=> ?_));lk;rw[decide_eq_true rfl];exact k _
 obtain⟨t8,ht8,hn8⟩:=t8
 have t7:∃t,PSs (fO true (CXE P w) P w K mg base zm "law" (aj kr) f cdv Ar outer s0 H E).nox ((aY kr).drop 7) t/\∀(m:Nat) (H1:Hp) (R:List Row) (mark:Int) (rs:List Str) (dp ep wp np rp:Addr),SqL K H1 sa (ns.map V.int)->tO H1 dp ep wp np R->dD R mark->H1 rp=some (.lst (rs.map V.str))->rs.map cds=bz R->m<=6→
   t { nx:=λ_ H'=>Q .non H',rt:=Q} [some (.ref sa),some (.int (R.length:Int)),some (.ref dp),some (.ref ep),some (.ref wp),some (.ref np),some (.ref rp),some (.str (ofC (written R))),some (.int (m:Int)),none,none,none,none,none,none,none] H1:=by
  refine⟨_,(aa (pU PassesOwn.never rfl (lI (by rfl) T.jr {pv 8}) (cz (i:=9) cx.nd rfl (by k_ne)) (aa (aL (i:=10) cx.nd (ak cb (bD bj {pv 0,(af)}) (ak Fw af (pv 9))))
   (aa (aL (i:=11) cx.nd (ak cb (bD bj {pv 0,(af)}) (pv 9)))
   (aa (aL (i:=12) cx.nd (ak cb af (ak aS (pv 11) (pv 1))))
   (aa (aL (i:=13) cx.nd (ak cb (zix av (pv 2) (ak jo (pv 12) af)) af))
   (aa (aD (zct a0 (zix av (zix av (pv 4) (ak jo (pv 12) af)) af) ai) (ag (aL (i:=13) cx.nd (ak cb (zix av (pv 2) (ak jo (pv 12) af)) af))) ar)
   (aa (aL (i:=14) cx.nd (bD xu {ak aS (pv 10) af,zix av (pv 5) (ak aS (bD bj {pv 0,(af)}) (pv 12)),pv 13}))
   (ag (aD (hJ (cc (bD uX {pv 6,pv 14,pv 12,ak cb (ak b8 (pv 10) af) (pv 9)}))) (ag (ao vD)) ar)))))))))
   ht8),?_⟩
  fin2
  intro m H1 R mark rs dp ep wp np rp hS1 hT hRI hrp hrs hm;have ok:=hRI.ok;have h64:=ok.len;have hpos:=hRI.ne;have wl:=zK ok hrs;lk;refine⟨by lia,by lia,?_⟩;refine wM (lo:=0) (n:=(m:Int).toNat) (λi σ H'=>∃(v9 v10 v11 v12 v13 v14:Option V),σ=[some (.ref sa),some (.int (R.length:Int)),some (.ref dp),some (.ref ep),some (.ref wp),some (.ref np),some (.ref rp),some (.str (ofC (written R))),some (.int (m:Int)),v9,v10,v11,v12,v13,v14,none]/\ay H1 H') ⟨_,_,_,_,_,_,rfl,ay.refl _⟩ ?_ ?_
  .rintro i σ H' hi ⟨v9,v10,v11,v12,v13,v14,rfl,s1⟩;have hS2:=SqL.same hS1 s1;have t2:=hT.mono s1;rw[Int.zero_add];lk;refine ex3 sa 2 ns (an4 rfl hS2 (by decide) ?_);generalize ns.getD (Int.toNat 2) 0=n2;lk;refine⟨.inl ⟨by decide,by decide⟩,?_⟩;lk;refine ex3 sa 3 ns (an4 rfl hS2 (by decide) ?_);generalize ns.getD (Int.toNat 3) 0=n3;lk;refine⟨by show(0:Int) < _;lia,?_⟩;have ba:=bp (n3 + (i:Int)) (n:=(R.length:Int)) (by lia);obtain⟨c,hc⟩:=Int.eq_ofNat_of_zero_le ba.1;have cl:c < R.length:=by lia
   have hr0:R[c]? =some R[c]:=List.getElem?_eq_getElem cl;have hg:R.getD c default=R[c]:=by rw[List.getD_eq_getElem?_getD,hr0];rfl
   have ci:1 + (n3 + (i:Int)) % (R.length:Int) - 1=((c:Nat):Int):=by rw[hc];lia
   have zd:atI (R.map λr=>V.int (r.dep:Int)) (1 + (n3 + (i:Int)) % (R.length:Int) - 1)=some (V.int (R[c].dep:Int)):=by
    rw[ci];exact aO (by rw[List.getElem?_map,hr0];rfl)
   obtain⟨as,w1,w2,w3⟩:=id t2.w;rw[List.length_map] at w2;have ha:as[c]? =some (as[c]'(by lia)):=List.getElem?_eq_getElem (by lia)
   have zw:atI (as.map V.ref) (1 + (n3 + (i:Int)) % (R.length:Int) - 1)=some (V.ref (as[c]'(by lia))):=by
    rw[ci];exact aO (by rw[List.getElem?_map,ha];rfl)
   have hw:=w3 c _ (words R[c].sh) ha (by rw[List.getElem?_map,hr0];rfl);generalize as[c]'(by lia)=ac at zw hw;obtain⟨wa,wr,we,wk⟩:=D0 ((ok.sh _ (List.getElem_mem cl)).kd);rw[we] at hw
   have d8:R[c].dep<=8:=by
    have:=ok.fit c cl;rw[hg] at this;unfold Tr.fits at this
    split at this
    .have:R[c].dep=0:=this.1
     lia
    .exact this.2.1
   lk;refine DQ (SqL.of t2.d) zd ?_;lk;refine DQ (SqL.of w1) zw ?_;lk;refine DQ (SqL.of hw) (aO (j:=0) rfl) ?_;have b29:=bp (n2 + 5 * (i:Int)) (n:=29) (by decide);obtain⟨w0,hw0⟩:=Int.eq_ofNat_of_zero_le b29.1;lk;refine aV (λe=> ?_) (λe=> ?_)
   .have e:=V.str.inj (of_decide_eq_true e)
    have lf:R[c].sh.kind < 3:=by
     rcases wk with z | z
     .exact z.2
     .exact absurd e z.1
    lk;refine DQ (SqL.of t2.d) zd ?_;lk;refine ex3 sa 4 ns (an4 rfl hS2 (by decide) ?_);generalize ns.getD (Int.toNat 4) 0=n4;lk;refine⟨by show(0:Int) < _;lia,?_⟩;have bn:=bp n4 (n:=1 + (n3 + (i:Int)) % (R.length:Int)) (by lia);obtain⟨e0,he0⟩:=Int.eq_ofNat_of_zero_le bn.1;have el:e0 < 1 + c:=by lia
    have hr1:R[e0]? =some (R[e0]'(by lia)):=List.getElem?_eq_getElem (by lia)
    have zn:atI (R.map λr=>V.str r.sh.name) (n4 % (1 + (n3 + (i:Int)) % (R.length:Int)))=some (V.str (R[e0]'(by lia)).sh.name):=by
     rw[he0];exact aO (by rw[List.getElem?_map,hr1];rfl)
    have okn:=(ok.sh _ (List.getElem_mem (show e0 < R.length by lia))).nm;have mem1:(R[e0]'(by lia)).sh.name∈(R.take (1 + c)).map (·.sh.name):=List.mem_map.mpr ⟨R[e0]'(by lia),List.mem_take_iff_getElem.mpr ⟨e0,by lia,rfl⟩,rfl⟩;generalize (R[e0]'(by lia)).sh.name=nm at zn okn mem1;refine DQ (SqL.of t2.n) zn ?_;lk;refine⟨w0,R[c].dep + 1,nm,by show [V.int ((n2 + 5 * (i:Int)) % 29),_,_]=_;rw[hw0];rfl,by lia,by lia,okn.2.1,λH3 s3=> ?_⟩;have ob:=BZ (way:=w0) (by lia) (λz=>by have:=congrArg List.length z;rw[List.length_take] at this;have:min (1 + c) R.length=0:=this;lia) okn mem1 (Co ok (k:=1 + c) (deep:=R[c].dep + 1) (by lia) (by lia) (by rw[Nat.add_sub_cancel_left,hg];exact .inr ⟨rfl,decide_eq_false (by lia)⟩));generalize vL w0 nm (R[c].dep + 1)=x at ob;lk;refine⟨rp,rs,R,x,1 + c,_,by rw[hc];rfl,(s1.trans s3) _ _ hrp,hrs,ok,by lia,ob,λH4 s4=> ?_⟩;lk;exact⟨_,_,_,_,_,_,rfl,s1.trans (s3.trans s4)⟩
   .lk;refine ex3 sa 4 ns (an4 rfl hS2 (by decide) ?_);generalize ns.getD (Int.toNat 4) 0=n4;lk;refine⟨by show(0:Int) < _;lia,?_⟩;have bn:=bp n4 (n:=1 + (n3 + (i:Int)) % (R.length:Int)) (by lia);obtain⟨e0,he0⟩:=Int.eq_ofNat_of_zero_le bn.1;have el:e0 < 1 + c:=by lia
    have hr1:R[e0]? =some (R[e0]'(by lia)):=List.getElem?_eq_getElem (by lia)
    have zn:atI (R.map λr=>V.str r.sh.name) (n4 % (1 + (n3 + (i:Int)) % (R.length:Int)))=some (V.str (R[e0]'(by lia)).sh.name):=by
     rw[he0];exact aO (by rw[List.getElem?_map,hr1];rfl)
    have okn:=(ok.sh _ (List.getElem_mem (show e0 < R.length by lia))).nm;have mem1:(R[e0]'(by lia)).sh.name∈(R.take (1 + c)).map (·.sh.name):=List.mem_map.mpr ⟨R[e0]'(by lia),List.mem_take_iff_getElem.mpr ⟨e0,by lia,rfl⟩,rfl⟩;generalize (R[e0]'(by lia)).sh.name=nm at zn okn mem1;refine DQ (SqL.of t2.n) zn ?_;lk;refine⟨w0,R[c].dep + 2,nm,by show [V.int ((n2 + 5 * (i:Int)) % 29),_,_]=_;rw[hw0];rfl,by lia,by lia,okn.2.1,λH3 s3=> ?_⟩;have ob:=BZ (way:=w0) (by lia) (λz=>by have:=congrArg List.length z;rw[List.length_take] at this;have:min (1 + c) R.length=0:=this;lia) okn mem1 (Co ok (k:=1 + c) (deep:=R[c].dep + 2) (by lia) (by lia) (by rw[Nat.add_sub_cancel_left,hg];exact .inl rfl));generalize vL w0 nm (R[c].dep + 2)=x at ob;lk;refine⟨rp,rs,R,x,1 + c,_,by rw[hc];rfl,(s1.trans s3) _ _ hrp,hrs,ok,by lia,ob,λH4 s4=> ?_⟩;lk;exact⟨_,_,_,_,_,_,rfl,s1.trans (s3.trans s4)⟩
  .rintro σ H' ⟨v9,v10,v11,v12,v13,v14,rfl,s1⟩;exact hn8 H' R dp ep wp np rp _ _ _ _ _ _ _ (SqL.same hS1 s1) ok wl (K4 hRI)
 obtain⟨t7,ht7,hn7⟩:=t7
 have t5:∃t,PSs (fO true (CXE P w) P w K mg base zm "law" (aj kr) f cdv Ar outer s0 H E).nox ((aY kr).drop 5) t/\∀(H1:Hp) (R:List Row) (mark:Int) (rs:List Str) (dp ep wp np rp:Addr),SqL K H1 sa (ns.map V.int)->tO H1 dp ep wp np R->dD R mark->H1 rp=some (.lst (rs.map V.str))->rs.map cds=bz R→
   t { nx:=λ_ H'=>Q .non H',rt:=Q} [some (.ref sa),some (.int (R.length:Int)),some (.ref dp),some (.ref ep),some (.ref wp),some (.ref np),some (.ref rp),some (.str (ofC (written R))),none,none,none,none,none,none,none,none] H1:=by
  refine⟨_,(aa (aL (i:=8) cx.nd af)
   (aa (aD (zct a0 (pv 1) af) (ag (aL (i:=8) cx.nd af)) ar)
   ht7)),?_⟩
  fin2
  intro H1 R mark rs dp ep wp np rp hS1 hT hRI hrp hrs;lk;refine aV (λe=> ?_) (λe=> ?_)
  .lk;exact hn7 1 H1 R mark rs dp ep wp np rp hS1 hT hRI hrp hrs (by decide)
  .lk;exact hn7 6 H1 R mark rs dp ep wp np rp hS1 hT hRI hrp hrs (by decide)
 obtain⟨t5,ht5,hn5⟩:=t5
 have t3:∃t,PSs (fO true (CXE P w) P w K mg base zm "law" (aj kr) f cdv Ar outer s0 H E).nox ((aY kr).drop 3) t/\∀(H1:Hp) (rows:List Row) (mark:Int) (dp ep wp np:Addr),SqL K H1 sa (ns.map V.int)->tO H1 dp ep wp np rows->dD rows mark→
   t { nx:=λ_ H'=>Q .non H',rt:=Q} [some (.ref sa),some (.int (rows.length:Int)),some (.ref dp),some (.ref ep),some (.ref wp),some (.ref np),none,none,none,none,none,none,none,none,none,none] H1:=by
  refine⟨_,(aa (m9 (j:=6) cx.nd rfl (by k_ne) (x:="_law_k") (fr:=[("_law_depths",2),("_law_words",4),("_law_names",5)]) (by kd_p) rfl (lI (by rfl) T.jr {pv 1}) (λ_ _ _ _=>pw) (λ_ _ _ _=>(ak aG (ak cW ai (zix (uk (K0:=K) rfl) (pv 1) (pv 0))) (JO (K0:=K) rfl PySem.F.plainAttrs_str PySem.F.slot_str_join PySem.F.type_str_join (yp (K0:=K)) ai {ak dG (zix (uk (K0:=K) rfl) (pv 2) (pv 0)) (az {zix (uk (K0:=K) rfl) (pv 3) (pv 0)})}))))
   (aa (aL (i:=7) cx.nd (cv PySem.F.plainAttrs_str PySem.F.slot_str_join PySem.F.type_str_join cY ai {pv 6}))
   ht5)),?_⟩
  fin2
  intro H1 rows mark dp ep wp np hS1 hT hRI;have ok:=hRI.ok;have h64:=ok.len;lk;refine⟨by lia,by lia,ff (n:=rows.length) (λi ys H'=>ay H1 H'/\∃xs:List Str,ys=xs.map V.str/\xs.map cds=(bz rows).take i) ⟨ay.refl _,[],rfl,rfl⟩ (λi ys H' hi _=>hi) (λys H' _=>Nat.le_refl _) ?_ ?_⟩
  .rintro i ys H' v H2 hi ⟨s1,xs,rfl,hx⟩ ⟨rfl,rfl⟩;have hr:rows[i]? =some rows[i]:=List.getElem?_eq_getElem hi;have okr:=ok.sh rows[i] (List.getElem_mem hi);have t2:=hT.mono s1
   have xl:xs.length=i:=by
    have:=congrArg List.length hx;rw[List.length_map,List.length_take,Tr.plain_len] at this
    lia
   have ix:(0:Int) + (i:Int)=((i:Nat):Int):=Int.zero_add _
   have zd:atI (rows.map λr=>V.int (r.dep:Int)) (0 + (i:Int))=some (V.int (rows[i].dep:Int)):=by
    rw[ix];refine aO ?_;rw[List.getElem?_map,hr]
    rfl
   have zn:atI (rows.map λr=>V.str r.sh.name) (0 + (i:Int))=some (V.str rows[i].sh.name):=by
    rw[ix];refine aO ?_;rw[List.getElem?_map,hr]
    rfl
   obtain⟨as,w1,w2,w3⟩:=id t2.w;rw[List.length_map] at w2;have ha:as[i]? =some (as[i]'(by lia)):=List.getElem?_eq_getElem (by lia)
   have zw:atI (as.map V.ref) (0 + (i:Int))=some (V.ref (as[i]'(by lia))):=by
    rw[ix];refine aO ?_;rw[List.getElem?_map,ha]
    rfl
   have hw:=w3 i _ (words rows[i].sh) ha (by rw[List.getElem?_map,hr];rfl)
   have hd8:rows[i].dep<=8:=by
    have:=ok.fit i hi;rw[List.getD_eq_getElem?_getD,hr] at this;unfold Tr.fits at this
    split at this
    .have:rows[i].dep=0:=this.1
     lia
    .exact this.2.1
   have wb:=kF okr;have cd:cds (⟨(List.replicate rows[i].dep ("  ":Str).cps).foldl (·++·) #[]⟩:Str)=List.replicate (2 * rows[i].dep) 32:=by rw[fv];exact sS _ 32
   have ld:(⟨(List.replicate rows[i].dep ("  ":Str).cps).foldl (·++·) #[]⟩:Str).length=2 * rows[i].dep:=by rw[<- aA,cd,List.length_replicate]
   lk;refine ex4 dp _ _ _ (an5 rfl rfl (SqL.of t2.d) zd ?_);refine ex2 ("  ") (rows[i].dep) (an6 rfl rfl (by show 2 * _<=_;lia) (by lia) (by show 2<=_;decide) ?_);lk;refine ex4 wp _ _ _ (an5 rfl rfl (SqL.of w1) zw ?_);lk;refine ex4 np _ _ _ (an5 rfl rfl (SqL.of t2.n) zn ?_);refine⟨aH (by show 1<=1000;decide),λu hu=> ?_⟩;have su:=ah (o:= .lst [V.str rows[i].sh.name]) hu;have wl:((words rows[i].sh).map V.str).length<=7:=by rw[List.length_map];have:=wb.2;rw[List.length_append] at this;lia
   refine ex4 (as[i]'(by lia)) u _ _ (an6 rfl rfl (su _ _ hw) ae (by show _ + 1<=_;exact aH (by lia)) (λz hz=> ?_));have sz:=su.trans (ah (o:= .lst ((words rows[i].sh).map V.str++[V.str rows[i].sh.name])) hz);have ez:(words rows[i].sh).map V.str++[V.str rows[i].sh.name]=(words rows[i].sh++[rows[i].sh.name]).map V.str:=by rw[List.map_append];rfl
   refine ex3 (" ") z (words rows[i].sh++[rows[i].sh.name]) (an5 rfl rfl (by rw[<- ez];exact SqL.of ae) (by show _ + _ * 1<=_;lia) ?_);have rc:=FA rows[i].dep rows[i].sh;have rl:=lK okr rows[i].dep;rw[<- rc,aA,yH] at rl;refine ex2 _ _ (an4 rfl rfl (aH (by lia)) ?_);refine⟨by rw[List.length_map,xl];exact aI (by lia),s1.trans sz,xs++[_],by rw[List.map_append];rfl,?_⟩;rw[List.map_append,hx,List.take_add_one]
   congr 1
   show [cds _]=_;rw[rc];unfold bz;rw[List.getElem?_map,hr]
   rfl
  .rintro ys H' ⟨s1,xs,rfl,hx⟩;rw[<- Tr.plain_len,List.take_length] at hx
   have xl:xs.length=rows.length:=by
    have:=congrArg List.length hx;rwa [List.length_map,Tr.plain_len] at this
   refine⟨by rw[List.length_map,xl];exact aH (by lia),λp hp=> ?_⟩;have r100:=uR ok hx;obtain⟨j1,j2,j3⟩:=nk r100 (by lia);lk;refine ex3 ("\n") p xs (an5 rfl rfl (SqL.of ae) j1 ?_)
   have ej:Txt.join "\n" xs=ofC (written rows):=by
    refine iw ?_;rw[j3,hx,fF]
    rfl
   rw[ej];have s2:=s1.trans (ah (o:= .lst (xs.map V.str)) hp);exact hn5 _ rows mark xs dp ep wp np p (SqL.same hS1 s2) (hT.mono s2) hRI ae hx
 obtain⟨t3,ht3,hn3⟩:=t3
 refine⟨_,(aa (aL (i:=1) cx.nd (ak cb af (ak aS (bD bj {pv 0,(af)}) af)))
   (aa (aD (zct a0 (ak aS (ak b8 (bD bj {pv 0,(af)}) af) af) af) (ag (aL (i:=1) cx.nd af)) ar)
   (aa (F9 (bD Bi {pv 0,(af),pv 1,bD bj {pv 0,(af)}}) (xN rfl (dO (cz (i:=2) cx.nd rfl (by k_ne)) (dO (cz (i:=3) cx.nd rfl (by k_ne)) (dO (cz (i:=4) cx.nd rfl (by k_ne)) (dO (cz (i:=5) cx.nd rfl (by k_ne)) se))))))
   ht3))),?_⟩
 fin2
 lk;refine ex3 sa 0 ns (an4 rfl hS (by decide) ?_);lk;refine ex3 sa 0 ns (an4 rfl hS (by decide) ?_);lk;have b14:=bp (ns.getD 0 0) (n:=14) (by decide);obtain⟨c0,hc0⟩:=Int.eq_ofNat_of_zero_le b14.1;have go:∀(ct:Nat) (v:V),v=.int (ct:Int)->1<=ct->ct<=64->True:=λ_ _ _ _ _=>trivial;refine aV (λe=> ?_) (λe=> ?_)
 .lk;refine ex3 sa 1 ns (an4 rfl hS (by decide) ?_);generalize ns.getD (Int.toNat 1) 0=mark;refine⟨sa,ns,4,mark,64,rfl,hS,by decide,by decide,by decide,λq dp ep wp np H1 rows s1 hq hT hR hl=> ?_⟩;lk;refine ex2 q _ (an4 rfl (SqT.of hq) rfl ?_);lk;have:=hn3 H1 rows mark dp ep wp np (SqL.same hS s1) hT hR;rw[hl] at this;exact this
 .lk;refine ex3 sa 1 ns (an4 rfl hS (by decide) ?_);generalize ns.getD (Int.toNat 1) 0=mark;refine⟨sa,ns,4,mark,1 + c0,by show [_,_,V.int (1 + ns.getD 0 0 % 14),_]=_;rw[hc0];rfl,hS,by decide,by lia,by lia,λq dp ep wp np H1 rows s1 hq hT hR hl=> ?_⟩;lk;refine ex2 q _ (an4 rfl (SqT.of hq) rfl ?_);lk;have:=hn3 H1 rows mark dp ep wp np (SqL.same hS s1) hT hR;rw[hl] at this;show t3 _ [some (.ref sa),some (V.int (1 + ns.getD 0 0 % 14)),some (.ref dp),some (.ref ep),some (.ref wp),some (.ref np),none,none,none,none,none,none,none,none,none,none] H1;rw[hc0];exact this
end
end K06
namespace L2
open PySem
def BbV(K:PySem.W.Frag)(C:Addr)(m:Str)(id:String):Prop:=PySem.W.specialIn K (.ref C) "__getattribute__"=some (some (.builtin "type.__getattribute__"))/\PySem.W.readsIn K C (.type "type")=true/\PySem.W.findCls K (.ref C) (.type "type") m=some (.val (.builtin id))
def Mj(K:PySem.W.Frag)(C:Addr)(name:Str):Prop:=PySem.W.findIn K (.ref C) "__setattr__"=some (some (.builtin "object.__setattr__"))/\PySem.W.mroIn K C (.type "object")=some true/\PySem.W.mroIn K C (.type "ValueError")=some true/\PySem.W.takerIn K C name=some none/\PySem.W.hasDictIn K C=true
theorem bf.fn{K:PySem.W.Frag}{a:Addr}{x qual:Str}{st:Stmt}{dv:Value}(h:bf K a x qual st dv):PySem.W.isFn K (.ref a)=true:=let ⟨_,_,_,_,_,_,_,_,_,h⟩:=h;h.2.2.2
theorem cK{K:PySem.W.Frag}{C D:Addr}(hD:IsC K D)(hm:PySem.W.mroIn K D (.ref D)=some true)(m:PySem.W.mroIn K C (.ref D)=some false):PySem.W.kitOne K (.ref C) (.ref D)=some false:=rY hD m λe=>by
 rw[e,hm] at m;cases m
end L2
namespace K06
open PySem L2 Shp Nm Tr Hs PySem.NumText
seal L2.PE L2.PA L2.PT L2.PW L2.PS L2.PSs L2.PG L2.PGs L2.PI L2.PF L2.PJ L2.PH L2.PO L2.PC L2.HJ L2.PIp
theorem all_mk{l:PySem.W.OpenLaw}{w:World}{K:PySem.W.Frag}{h:Heap}{mg:Str->Option Value}{fa:Addr}(X:K.In h)(G:h.Ns mainGlobals mg)(hfa:mg "law"=some (.ref fa))
  {eN w6 km rh xj iZ f9 iI gB iu eI gm gq cQ fA eP o9 jY i9 xf qV jV uD jS nS qX gr mq sG kR lZ u7 EG mw xa xb GN kP oG Ff Cf Ji wN CL wK Ac Js cF bB aP aT bF dM dJ fH Cn dU bR bV bT aX aR qH yL oX jd gZ gQ:Addr}
  {y6 qL ni mV:Value}
  {FI x3 pY ng nE:Option Addr}
  {FQ x8 qy nG mW:Array (Option Value)}
  {BF zU rC BQ BH rX yG tJ BK Bv BL ku nI mQ lg kK kI kD:Tok}
  {Ia zh rS nX oE:Nat}
  (Z:Nos K ["ValueError","all","enumerate","int","isinstance","len","min","range","str","zip"])
  (Ea:PySem.W.nsIn K mainGlobals "FIGURES"=some (some (.str "0123456789" BF)))
  (Bc:PySem.W.nsIn K mainGlobals "GREATEST"=some (some (.int 1000000 zU)))
  (tE:PySem.W.nsIn K mainGlobals "MOST_FIGURES"=some (some (.int 7 rC)))
  (Dk:PySem.W.nsIn K mainGlobals "LETTERS"=some (some (.str "abcdefghijklmnopqrstuvwxyz" BQ)))
  (DY:PySem.W.nsIn K mainGlobals "LONGEST"=some (some (.int 12 BH)))
  (u4:PySem.W.nsIn K mainGlobals "FEWEST_WORDS"=some (some (.int 6 rX)))
  (Ao:PySem.W.nsIn K mainGlobals "MOST_ROWS"=some (some (.int 64 yG)))
  (v8:PySem.W.nsIn K mainGlobals "MOST_BLANKS"=some (some (.int 16 tJ)))
  (Gs0:Gls K [("made_of",w6),("told_plainly",km),("number_in",rh),("is_name",xj),("leaf_in",xf),("minder_in",qV),("by_first_word",jV),("child_in",uD),("passed_over",mq),("words_in",sG),("blanks_ahead",kR),("stands_well",lZ),("take_row",u7),("read",EG),("written_row",mw),("written",xa),("_law_cell_at",xb),("_law_name",GN),("_law_minder_words",kP),("_law_leaf_words",oG),("_law_tree",Ff),("_law_kinds",Cf),("_law_odd",Ji),("_law_refused",wN),("_law_steep",CL),("_law_special",wK),("_law_put_in",Ac),("law",Js),("MinderError",cF),("NoNumber",bB),("BadRow",aP),("TooMany",aT),("NoTop",bF),("NoName",dM),("NoLeaf",dJ),("NotOn",fH),("Child",Cn),("Leaf",dU),("Steady",bR),("Faller",bV)])
  (Gs1:Gls K [("Minder",bT),("AllMinder",aX),("RestMinder",aR),("Tree",qH),("KEEPS",yL)])
  (EM:K.lookup yL=some ⟨.type "tuple",FI,.seq #[.str "always" BK,.str "fallen" Bv,.str "never" BL] Ia,FQ⟩)
  (DG:Mts K aP [("__init__",eN)])
  (IB:Mts K dU [("leaf",iI),("words",gB),("work_words",iu),("__init__",f9)])
  (Ez:Mts K bR [("leaf",iI),("words",gB),("work_words",gm),("__init__",eI)])
  (DS:Mts K bV [("leaf",iI),("words",gB),("work_words",gq),("__init__",eI)])
  (D8:Mts K bT [("leaf",fA),("way",o9),("words",eP),("__init__",cQ)])
  (yw:Mts K aX [("leaf",fA),("way",jY),("words",eP),("__init__",cQ)])
  (wA:Mts K aR [("leaf",fA),("way",i9),("words",eP),("__init__",cQ)])
  (Ib:Mts K qH [("minder_above",gr),("names",nS),("take",qX),("__init__",jS)])
  (nV:ByV K Cn "__init__" iZ)
  (pL:ByV K dU "__init__" f9)
  (V0:bf K eN "__init__" "BadRow.__init__" eO .none/\bf K w6 "made_of" "made_of" pQ .none/\bf K km "told_plainly" "told_plainly" gX .none/\bf K rh "number_in" "number_in" ip (.ref oX)/\bf K xj "is_name" "is_name" pP .none/\bf K iZ "__init__" "Child.__init__" fj .none/\bf K f9 "__init__" "Leaf.__init__" fW (.ref jd)/\bf K iI "leaf" "Leaf.leaf" kQ .none/\bf K gB "words" "Leaf.words" jO .none/\bf K iu "work_words" "Leaf.work_words" eJ .none/\bf K eI "__init__" "Worker.__init__" eK (.ref gZ)/\bf K gm "work_words" "Steady.work_words" dB .none/\bf K gq "work_words" "Faller.work_words" dF .none/\bf K cQ "__init__" "Minder.__init__" eG (.ref gQ)/\bf K fA "leaf" "Minder.leaf" iX .none/\bf K eP "words" "Minder.words" ie .none/\bf K o9 "way" "Minder.way" jH .none/\bf K jY "way" "AllMinder.way" fU .none/\bf K i9 "way" "RestMinder.way" eX .none/\bf K xf "leaf_in" "leaf_in" lF .none/\True)
  (V1:bf K qV "minder_in" "minder_in" iz .none/\bf K jV "by_first_word" "by_first_word" dR .none/\bf K uD "child_in" "child_in" jF .none/\bf K jS "__init__" "Tree.__init__" fZ .none/\bf K nS "names" "Tree.names" jK .none/\bf K qX "take" "Tree.take" kG .none/\bf K gr "minder_above" "Tree.minder_above" b9 .none/\bf K mq "passed_over" "passed_over" iU .none/\bf K sG "words_in" "words_in" mH .none/\bf K kR "blanks_ahead" "blanks_ahead" g9 .none/\bf K lZ "stands_well" "stands_well" fG .none/\bf K u7 "take_row" "take_row" cZ .none/\bf K EG "read" "read" yr .none/\bf K mw "written_row" "written_row" iT .none/\bf K xa "written" "written" pI .none/\bf K xb "_law_cell_at" "_law_cell_at" qM .none/\bf K GN "_law_name" "_law_name" tj .none/\bf K kP "_law_minder_words" "_law_minder_words" g8 .none/\bf K oG "_law_leaf_words" "_law_leaf_words" eu .none/\bf K Ff "_law_tree" "_law_tree" nj .none/\True)
  (V2:bf K Cf "_law_kinds" "_law_kinds" y7 .none/\bf K Ji "_law_odd" "_law_odd" FJ .none/\bf K wN "_law_refused" "_law_refused" qB .none/\bf K CL "_law_steep" "_law_steep" yS .none/\bf K wK "_law_special" "_law_special" qq .none/\bf K Ac "_law_put_in" "_law_put_in" ib .none/\bf K Js "law" "law" kr .none/\True)
  (An:K.lookup oX=some ⟨y6,x3,.seq #[.int 1000000 ku] zh,x8⟩)
  (rR:K.lookup jd=some ⟨qL,pY,.seq #[.int 0 nI,.int 0 mQ] rS,qy⟩)
  (nM:K.lookup gZ=some ⟨ni,ng,.seq #[.int 0 lg,.int 0 kK] nX,nG⟩)
  (o8:K.lookup gQ=some ⟨mV,nE,.seq #[.int 1 kI,.int 1 kD] oE,mW⟩)
  (Ic:yv K dU)
  (Em:yv K bR)
  (DE:yv K bV)
  (Dp:yv K bT)
  (yP:yv K aX)
  (vS:yv K aR)
  (IK:yv K qH)
  (EC:NoX K aP ["row"])
  (Hy:NoX K dU ["grace","keep","many","most","name","slow","span"])
  (D5:NoX K bR ["grace","keep","many","most","name","slow","span"])
  (Dq:NoX K bV ["grace","keep","many","most","name","slow","span"])
  (C9:NoX K bT ["grace","keep","many","most","name","slow","span"])
  (xO:NoX K aX ["grace","keep","many","most","name","slow","span"])
  (vT:NoX K aR ["grace","keep","many","most","name","slow","span"])
  (G1:NoX K qH ["above","blanks","children","places"])
  (HA:MkV K dU)
  (Ek:MkV K bR)
  (C6:MkV K bV)
  (EA:MkV K bT)
  (yI:MkV K aX)
  (vO:MkV K aR)
  (Hi:MkV K qH)
  (bQ:PySem.W.mroIn K bB (.ref bB)=some true)
  (mJ:PySem.W.mroIn K aP (.ref bB)=some false)
  (dw:PySem.W.mroIn K aP (.ref aP)=some true)
  (oK:PySem.W.mroIn K aP (.ref aT)=some false)
  (rN:PySem.W.mroIn K aP (.ref bF)=some false)
  (qE:PySem.W.mroIn K aP (.ref dM)=some false)
  (qI:PySem.W.mroIn K aP (.ref dJ)=some false)
  (rH:PySem.W.mroIn K aP (.ref fH)=some false)
  (jE:PySem.W.mroIn K aT (.ref cF)=some true)
  (lV:PySem.W.mroIn K aT (.ref bB)=some false)
  (ig:PySem.W.mroIn K aT (.ref aP)=some false)
  (dX:PySem.W.mroIn K aT (.ref aT)=some true)
  (qk:PySem.W.mroIn K aT (.ref bF)=some false)
  (nU:PySem.W.mroIn K aT (.ref dM)=some false)
  (oU:PySem.W.mroIn K aT (.ref dJ)=some false)
  (qO:PySem.W.mroIn K aT (.ref fH)=some false)
  (ko:PySem.W.mroIn K bF (.ref cF)=some true)
  (om:PySem.W.mroIn K bF (.ref bB)=some false)
  (jZ:PySem.W.mroIn K bF (.ref aP)=some false)
  (qo:PySem.W.mroIn K bF (.ref aT)=some false)
  (h9:PySem.W.mroIn K bF (.ref bF)=some true)
  (rG:PySem.W.mroIn K bF (.ref dM)=some false)
  (rq:PySem.W.mroIn K bF (.ref dJ)=some false)
  (t9:PySem.W.mroIn K bF (.ref fH)=some false)
  (fg:PySem.W.mroIn K dM (.ref dM)=some true)
  (eU:PySem.W.mroIn K dJ (.ref dJ)=some true)
  (gR:PySem.W.mroIn K fH (.ref fH)=some true)
  (iN:PySem.W.excIn K cF bmV "ValueError.__new__"=true)
  (bY:PySem.W.excIn K bB bmV "ValueError.__new__"=true)
  (qr:PySem.W.excIn K aT bmV "ValueError.__new__"=true)
  (xT:PySem.W.excIn K bF bmV "ValueError.__new__"=true)
  (fR:BbV K cF "__init__" "ValueError.__init__")
  (df:Mj K aP "row")
  (BC:((PySem.W.clsIn K aP).any λcd=>vf cd.mro)=true)
  (va:nY K aP eN)
  (kH:IsC K bB)
  (gO:FR K aP)
  (lz:IsC K aP)
  (BB:FR K aT)
  (jz:IsC K aT)
  (F4:FR K bF)
  (ow:IsC K bF)
  (qm:IsC K dM)
  (pT:IsC K dJ)
  (uZ:IsC K fH)
  (kU:dU≠bR)
  (kT:dU≠bV)
  (kA:dU≠bT)
  (iK:dU≠aX)
  (gY:dU≠aR)
  (ji:bR≠bV)
  (jh:bR≠bT)
  (gn:bR≠aX)
  (fL:bR≠aR)
  (jm:bV≠bT)
  (gy:bV≠aX)
  (fN:bV≠aR)
  (gA:bT≠aX)
  (fP:bT≠aR)
  (eh:aX≠aR):
  ∃fd:FuncData,(∀(s:Shared) (u:Value),BindsTo s fd ⟨[u],[]⟩ [("_law_script",u)])/\∀base:Heap,K.In base->base.Ns mainGlobals mg->aB l.prog w K mg base (CXE l.prog w) true 20 fa fd ["_law_script"] (B2 K):=by
 obtain⟨xX,Lw,zZ,Ll,yX,KN,La,Im,LH,LR,_⟩:=Z;have T:Txt mg:=⟨PySem.W.mg_none_of X G xX,PySem.W.mg_none_of X G Lw,PySem.W.mg_none_of X G zZ,PySem.W.mg_none_of X G Ll,PySem.W.mg_none_of X G yX,PySem.W.mg_none_of X G KN,PySem.W.mg_none_of X G La,PySem.W.mg_none_of X G Im,PySem.W.mg_none_of X G LH,PySem.W.mg_none_of X G LR⟩;have gP:=PySem.W.mg_of X G Ea;have eZ:=PySem.W.mg_of X G Bc;have gU:=PySem.W.mg_of X G tE;have ql:=PySem.W.mg_of X G Dk;have pN:=PySem.W.mg_of X G DY;have aJ:=PySem.W.mg_of X G u4;have cw:=PySem.W.mg_of X G Ao;have b2:=PySem.W.mg_of X G v8;obtain⟨DA,uA,zQ,DM,wF,rb,jW,uL,wc,Be,uW,mn,sx,Ki,vP,Ew,En,J5,vj,y9,KJ,IU,Lr,D7,HW,DZ,E1,K3,vU,BP,F3,DD,Ij,GH,GG,IE,HQ,Jz,ET,F8,_⟩:=Gs0;obtain⟨Fz,AB,xF,Kh,HN,_⟩:=Gs1;have qS:=PySem.W.mg_of X G zQ;have Hl:=PySem.W.mg_of X G HW;have cD:=PySem.W.mg_of X G vU;have bL:=PySem.W.mg_of X G BP;have gS:=PySem.W.mg_of X G F3;have ly:=PySem.W.mg_of X G DD;have so:=PySem.W.mg_of X G Ij;have EI:=PySem.W.mg_of X G GH;have EO:=PySem.W.mg_of X G GG;have Ir:=PySem.W.mg_of X G IE;have IC:=PySem.W.mg_of X G HQ;have Fp:=PySem.W.mg_of X G Jz;have Gs:=PySem.W.mg_of X G ET;have GR:=PySem.W.mg_of X G F8;have FL:=PySem.W.mg_of X G Fz;have zD:=PySem.W.mg_of X G AB;have yC:=PySem.W.mg_of X G xF;have J0:=PySem.W.mg_of X G Kh;have jC:=PySem.W.mg_of X G HN;have jx:∀H:Hp,SqT K H yL [V.str "always",V.str "fallen",V.str "never"]:=λH=> .inr ⟨_,_,_,EM,rfl,rfl,Nat.le_of_lt (aI (show 3<=1000 by decide)),(.cons ⟨_,rfl⟩ (.cons ⟨_,rfl⟩ (.cons ⟨_,rfl⟩ .nil)))⟩;obtain⟨mP,_⟩:=DG;obtain⟨xH,vW,mS,qz,_⟩:=IB;obtain⟨vq,rM,kj,mK,_⟩:=Ez;obtain⟨vw,rV,k8,mU,_⟩:=DS;obtain⟨sX,wm,rK,mR,_⟩:=D8;obtain⟨oA,pR,mG,kc,_⟩:=yw;obtain⟨mZ,nP,lY,jM,_⟩:=wA;obtain⟨fK,vH,x5,pF,_⟩:=Ib;obtain⟨iJ,DN,uh,zV,Dx,iY,fQ,iB,gH,iy,eM,gx,gw,cR,fD,eD,nZ,jU,jl,xt,_⟩:=V0;obtain⟨qW,jX,uE,ka,xI,zI,gz,wC,Bu,ur,ma,ub,Kx,wD,Dr,DP,KH,sZ,yl,Kt,_⟩:=V1;obtain⟨HZ,Li,Ej,G0,Ep,GV,LO,_⟩:=V2;obtain⟨_,iH⟩:=iJ.d;have n9:=iH.binds (ps:=bW) λ_ _ _ _ _ _=>ln2 λ_ _=>rfl;obtain⟨_,fJ⟩:=zV.d;have mm:=fJ.xS (ps:=iG) (ds:=[.int 1000000 ku]) An rfl λ_ _ _ _ _ _=>lnD (n:=1) rfl (ln1 λ_=>⟨_,rfl,rfl⟩);obtain⟨_,ja⟩:=iY.d;have pH:=ja.binds (ps:=fu) λ_ _ _ _ _ _=>ln3 λ_ _ _=>rfl;obtain⟨_,gf⟩:=fQ.d;have iC:=gf.xS (ps:=cC) (ds:=[]) rR rfl λ_ _ _ _ _ _=>lnD (n:=5) rfl (ln5 λ_ _ _ _ _=>⟨_,rfl,rfl⟩);obtain⟨_,ij⟩:=iB.d;have kJ:=ij.binds (ps:=kn) λ_ _ _ _ _ _=>ln1 λ_=>rfl;obtain⟨_,gG⟩:=gH.d;have jL:=gG.binds (ps:=jv) λ_ _ _ _ _ _=>ln1 λ_=>rfl;obtain⟨_,iE⟩:=iy.d;have oi:=iE.binds (ps:=er) λ_ _ _ _ _ _=>ln1 λ_=>rfl;obtain⟨_,eE⟩:=eM.d;have gu:=eE.xS (ps:=bg) (ds:=[]) nM rfl λ_ _ _ _ _ _=>lnD (n:=6) rfl (ln6 λ_ _ _ _ _ _=>⟨_,rfl,rfl⟩);obtain⟨_,gk⟩:=gx.d;have lT:=gk.binds (ps:=dH) λ_ _ _ _ _ _=>ln1 λ_=>rfl;obtain⟨_,gv⟩:=gw.d;have lW:=gv.binds (ps:=dI) λ_ _ _ _ _ _=>ln1 λ_=>rfl;obtain⟨_,cP⟩:=cR.d;have dC:=cP.xS (ps:=bS) (ds:=[]) o8 rfl λ_ _ _ _ _ _=>lnD (n:=5) rfl (ln5 λ_ _ _ _ _=>⟨_,rfl,rfl⟩);obtain⟨_,fE⟩:=fD.d;have iM:=fE.binds (ps:=iW) λ_ _ _ _ _ _=>ln1 λ_=>rfl;obtain⟨_,et⟩:=eD.d;have hU:=et.binds (ps:=hW) λ_ _ _ _ _ _=>ln1 λ_=>rfl;obtain⟨_,oO⟩:=nZ.d;have yR:=oO.binds (ps:=jR) λ_ _ _ _ _ _=>ln1 λ_=>rfl;obtain⟨_,j9⟩:=jU.d;have rm:=j9.binds (ps:=gh) λ_ _ _ _ _ _=>ln1 λ_=>rfl;obtain⟨_,i6⟩:=jl.d;have qN:=i6.binds (ps:=eS) λ_ _ _ _ _ _=>ln1 λ_=>rfl;obtain⟨_,jT⟩:=ka.d;have rL:=jT.binds (ps:=fV) λ_ _ _ _ _ _=>ln1 λ_=>rfl;obtain⟨_,ye⟩:=G0.d;have Iy:=ye.binds (ps:=yF) λ_ _ _ _ _ _=>ln0 rfl;obtain⟨_,Jm⟩:=LO.d;have JZ:=Ic.d;have F1:=Em.d;have GP:=DE.d;have EY:=Dp.d;have Ax:=yP.d;have yi:=vS.d;have JX:=IK.d;obtain⟨vR,_⟩:=EC;obtain⟨vM,xJ,yq,xZ,yW,ym,yc,_⟩:=Hy;obtain⟨rO,ua,tY,uS,uB,tQ,tS,_⟩:=D5;obtain⟨rQ,uO,vB,sy,uj,vF,uF,_⟩:=Dq;obtain⟨rW,ug,vi,uT,uN,vA,uP,_⟩:=C9;obtain⟨mI,oB,oH,nK,o6,oR,oy,_⟩:=xO;obtain⟨lO,m6,nr,nh,mM,mO,mB,_⟩:=vT;obtain⟨vZ,tm,pz,ux,_⟩:=G1;have zL:=iB.mt xH;have x9:=gH.mt vW;have og:=iy.mt mS;have vN:=iB.mt vq;have vm:=gH.mt rM;have lP:=gx.mt kj;have vJ:=iB.mt vw;have uv:=gH.mt rV;have lN:=gw.mt k8;have wq:=fD.mt sX;have yh:=nZ.mt wm;have ud:=eD.mt rK;have p8:=fD.mt oA;have rA:=jU.mt pR;have oM:=eD.mt mG;have oq:=fD.mt mZ;have qf:=jl.mt nP;have mT:=eD.mt lY;have J7:=fQ.mk qz HA;have GB:=eM.mk mK Ek;have GY:=eM.mk mU C6;have FH:=cR.mk mR EA;have As:=cR.mk kc yI;have y8:=cR.mk jM vO;have JW:=ka.mk pF Hi;have nJ:=iY.bc nV;have qe:=fQ.bc pL;have e:=hfa.symm.trans (PySem.W.mg_of X G K3);cases e;refine⟨_,Jm.bl (p:=λfd=>∀(s:Shared) (u:Value),BindsTo s fd ⟨[u],[]⟩ [("_law_script",u)]) λ_ _ _ _ _ _ s v=>BindsTo.of_eq rfl,λbase _ _=> ?_⟩;have lE:CF K dU:=⟨JZ,yW,xJ,vM,ym,yq,xZ,yc⟩;have eW:CF K bR:=⟨F1,uB,ua,rO,tQ,tY,uS,tS⟩;have eY:CF K bV:=⟨GP,uj,uO,rQ,vF,vB,sy,uF⟩;have gN:CF K bT:=⟨EY,uN,ug,rW,vA,vi,uT,uP⟩;have du:CF K aX:=⟨Ax,o6,oB,mI,oR,oH,nK,oy⟩;have cJ:CF K aR:=⟨yi,mM,m6,lO,mO,nr,nh,mB⟩
 have inj:∀i j:Nat,(i=0\/i=1\/i=2\/i=3\/i=4\/i=5)->(j=0\/j=1\/j=2\/j=3\/j=4\/j=5)->(λj:Nat=>match j with | 0=>dU | 1=>bR | 2=>bV | 3=>bT | 4=>aX | _=>aR) i=(λj:Nat=>match j with | 0=>dU | 1=>bR | 2=>bV | 3=>bT | 4=>aX | _=>aR) j->i=j:=by
  rintro i j (rfl | rfl | rfl | rfl | rfl | rfl) (rfl | rfl | rfl | rfl | rfl | rfl) h
  .rfl
  .exact absurd h kU
  .exact absurd h kT
  .exact absurd h kA
  .exact absurd h iK
  .exact absurd h gY
  .exact absurd h.symm kU
  .rfl
  .exact absurd h ji
  .exact absurd h jh
  .exact absurd h gn
  .exact absurd h fL
  .exact absurd h.symm kT
  .exact absurd h.symm ji
  .rfl
  .exact absurd h jm
  .exact absurd h gy
  .exact absurd h fN
  .exact absurd h.symm kA
  .exact absurd h.symm jh
  .exact absurd h.symm jm
  .rfl
  .exact absurd h gA
  .exact absurd h fP
  .exact absurd h.symm iK
  .exact absurd h.symm gn
  .exact absurd h.symm gy
  .exact absurd h.symm gA
  .rfl
  .exact absurd h eh
  .exact absurd h.symm gY
  .exact absurd h.symm fL
  .exact absurd h.symm fN
  .exact absurd h.symm fP
  .exact absurd h.symm eh
  .rfl
 obtain⟨p,e0,e1,e2,e3,e4,e5,pr0,pr1,pr2,pr3,pr4,pr5,hpr⟩:∃p:Pl,p.c 0=dU/\p.c 1=bR/\p.c 2=bV/\p.c 3=bT/\p.c 4=aX/\p.c 5=aR/\p.pr 0/\p.pr 1/\p.pr 2/\p.pr 3/\p.pr 4/\p.pr 5/\(∀j,p.pr j->(j=0\/j=1\/j=2\/j=3\/j=4\/j=5)):=⟨⟨_,λj=>(j=0\/j=1\/j=2\/j=3\/j=4\/j=5),inj⟩,rfl,rfl,rfl,rfl,rfl,rfl,(.inl rfl),(.inr (.inl rfl)),(.inr (.inr (.inl rfl))),(.inr (.inr (.inr (.inl rfl)))),(.inr (.inr (.inr (.inr (.inl rfl))))),(.inr (.inr (.inr (.inr (.inr (rfl)))))),λ_ h=>h⟩;subst e0 e1 e2 e3 e4 e5;have k0:Cmt l.prog w K mg base true 1 "Child" "__init__" (sg K) []:=⟨_,_,_,_,_,nJ,E0 ja,IC,pH,.nil⟩;have kL:Cmt l.prog w K mg base true 2 "Leaf" "__init__" (sr K) []:=⟨_,_,_,_,_,qe,zl gf k0,Fp,iC,.nil⟩;have iL:=II (p:=p) lE pr0 (zl (base:=base) gf k0);have iS:=Dl (p:=p) eW pr1 (zt (base:=base) eE kL);have iF:=DU (p:=p) eY pr2 (zt (base:=base) eE kL);have i3:=qv (p:=p) (j:=3) (by decide) gN pr3 (uK (base:=base) cP k0);have i4:=qv (p:=p) (j:=4) (by decide) du pr4 (uK (base:=base) cP k0);have i5:=qv (p:=p) (j:=5) (by decide) cJ pr5 (uK (base:=base) cP k0);have wk0:gL l.prog w K mg base 1 "work_words" (mX p.rep) λC=>C=p.c 0:=λC e=>by subst e;exact⟨_,_,_,_,lE.cl,og,Fy iE pr0,oi,.nil⟩
 have wk1:gL l.prog w K mg base 1 "work_words" (mX p.rep) λC=>C=p.c 1:=λC e=>by subst e;exact⟨_,_,_,_,eW.cl,lP,ES gk T pr1 eW,lT,.nil⟩
 have wk2:gL l.prog w K mg base 1 "work_words" (mX p.rep) λC=>C=p.c 2:=λC e=>by subst e;exact⟨_,_,_,_,eY.cl,lN,F6 gv T pr2 eY,lW,.nil⟩
 have wy3:gL l.prog w K mg base 1 "way" (tu p.rep) λC=>C=p.c 3:=λC e=>by subst e;exact⟨_,_,_,_,gN.cl,yh,HI oO pr3,yR,.nil⟩
 have wy4:gL l.prog w K mg base 1 "way" (tu p.rep) λC=>C=p.c 4:=λC e=>by subst e;exact⟨_,_,_,_,du.cl,rA,Hv j9 pr4,rm,.nil⟩
 have wy5:gL l.prog w K mg base 1 "way" (tu p.rep) λC=>C=p.c 5:=λC e=>by subst e;exact⟨_,_,_,_,cJ.cl,qf,Il i6 pr5,qN,.nil⟩
 have IF:If l.prog w K mg base 3 p.rep p.cl:=by
  refine⟨λe h=>Pl.mono e h,λh=>h.1,?_,?_,?_⟩
  .rintro H a s ⟨ok,pr,dx,e⟩;refine⟨_,dx,_,e,⟨pr,rfl⟩,?_⟩;unfold lX
   split <;> exact⟨rfl,rfl,rfl,rfl,rfl⟩
  .rintro C j ⟨z,rfl⟩;rcases hpr _ z with rfl | rfl | rfl | rfl | rfl | rfl
   .exact ⟨_,_,_,_,lE.cl,x9,(qh gG T pr0 (by decide) lE wk0).mono (by decide),jL,.nil⟩
   .exact ⟨_,_,_,_,eW.cl,vm,(qh gG T pr1 (by decide) eW wk1).mono (by decide),jL,.nil⟩
   .exact ⟨_,_,_,_,eY.cl,uv,(qh gG T pr2 (by decide) eY wk2).mono (by decide),jL,.nil⟩
   .exact ⟨_,_,_,_,gN.cl,ud,(pZ et T pr3 (by decide) gN wy3).mono (by decide),hU,.nil⟩
   .exact ⟨_,_,_,_,du.cl,oM,(pZ et T pr4 (by decide) du wy4).mono (by decide),hU,.nil⟩
   .exact ⟨_,_,_,_,cJ.cl,mT,(pZ et T pr5 (by decide) cJ wy5).mono (by decide),hU,.nil⟩
  .rintro C j ⟨z,rfl⟩;rcases hpr _ z with rfl | rfl | rfl | rfl | rfl | rfl
   .exact ⟨_,_,_,_,lE.cl,zL,(uG ij pr0 (by decide)).mono (by decide),kJ,.nil⟩
   .exact ⟨_,_,_,_,eW.cl,vN,(uG ij pr1 (by decide)).mono (by decide),kJ,.nil⟩
   .exact ⟨_,_,_,_,eY.cl,vJ,(uG ij pr2 (by decide)).mono (by decide),kJ,.nil⟩
   .exact ⟨_,_,_,_,gN.cl,wq,(tT fE pr3 (by decide)).mono (by decide),iM,.nil⟩
   .exact ⟨_,_,_,_,du.cl,p8,(tT fE pr4 (by decide)).mono (by decide),iM,.nil⟩
   .exact ⟨_,_,_,_,cJ.cl,oq,(tT fE pr5 (by decide)).mono (by decide),iM,.nil⟩
 have e:Wd l.prog w K mg base:=trivial
 have hcf:∀j,p.pr j->CF K (p.c j):=by
  intro j z;rcases hpr _ z with rfl | rfl | rfl | rfl | rfl | rfl
  .exact lE
  .exact eW
  .exact eY
  .exact gN
  .exact du
  .exact cJ
 have MT:MkT l.prog w K mg base p 3:=⟨⟨_,_,_,_,J7,iL.mono (by decide),Fp,iC,.nil⟩,⟨_,_,_,_,GB,iS.mono (by decide),Gs,gu,.nil⟩,⟨_,_,_,_,GY,iF.mono (by decide),GR,gu,.nil⟩,
  ⟨_,_,_,_,FH,i3.mono (by decide),FL,dC,.nil⟩,⟨_,_,_,_,As,i4.mono (by decide),zD,dC,.nil⟩,⟨_,_,_,_,y8,i5.mono (by decide),yC,dC,.nil⟩⟩
 have gM:=dS X G e DA DN λ_ F=>Du F T;have fk:=dS X G e DM Dx λ_ F=>DX F T ql pN gP gM;have cq:=dS X G e uA uh λ_ F=>IS F T gU gP gM;have Fb:Cal l.prog w K mg base true 3 "number_in" Cg [.int 1000000]:=⟨_,_,_,_,Kn fJ T eZ cq,qS,fJ.kp,mm,.cons ⟨_,rfl⟩ .nil⟩;have F0:Cal l.prog w K mg base true 3 "number_in" (yd bB) [.int 1000000]:=⟨_,_,_,_,IL fJ T eZ bL bY cq,qS,fJ.kp,mm,.cons ⟨_,rfl⟩ .nil⟩;have IM:=dS X G e wF xt λ_ F=>Dg F T MT Fb;have Ho:=dS X G e rb qW λ_ F=>Es F T aJ MT Fb;have Jt:=dS X G e jW jX λ_ F=>Bq F T IM Ho;have HX:=dS X G e wF xt λ_ F=>Bp F T MT F0;have Hb:=dS X G e rb qW λ_ F=>AO F T aJ MT F0;have LK:=dS X G e jW jX λ_ F=>zB F T HX Hb;have zH:=dS X G e uL uE λ_ F=>sU F T aJ jC jx bL bY fk Jt;have E9:=dS X G e uL uE λ_ F=>aB.or (sU F T aJ jC jx bL bY fk Jt) (zM F T aJ jC jx bL bY bQ fk LK);have ct:CT K qH:=⟨JX,pz,tm,vZ,ux⟩;have tN:=Ht e ct.cl vH xI λ_ F=>Fe (p:=p) F ct hcf;have tK:=Ht e ct.cl x5 zI λ_ F=>HH (p:=p) F T ct hcf;have tA:=Ht e ct.cl fK gz λ_ F=>Gj (p:=p) F T ct IF;have tX:=Ht e ct.cl fK gz λ_ F=>Dj (p:=p) F T ct IF;have pM:=mkM e J0 JW rL (Ad (p:=p) jT ct);have cG:=dS X G e wc wC λ_ F=>Et F T;have dW:=dS X G e Be Bu λ_ F=>AH F T;have bN:=dS X G e uW ur λ_ F=>DL F T;have CZ:=dS X G e mn ma λ_ F=>CI F T ct hcf IF b2 tN;have HB:=dS X G e mn ma λ_ F=>aB.or (CI F T ct hcf IF b2 tN) (GF F T ct hcf IF b2 tN);have iP:Gx K cF "__init__" "ValueError.__init__":=⟨fR.1,fR.2.1,fR.2.2⟩;have sB:XSt K aP "row":=⟨df.1,BC,df.2.1,df.2.2.1,df.2.2.2.1,df.2.2.2.2⟩;have _:=mP;have okB:=A5 (P:=l.prog) (w:=w) (base:=base) iH cD iP sB;have Hh:=dS X G e sx ub λ_ F=>tP F T ct cw tN tA tK zH dW bN CZ;have HU:=dS X G e sx ub λ_ F=>aB.or (tP F T ct cw tN tA tK zH dW bN CZ) (zp F T ct cw tN tX tK E9 dW bN HB gS va (bf.fn iJ) okB n9 ly qr);have pC:=dS X G e Ki Kx λ_ F=>aB.or (Hd F T ct pM tN cG Hh) (Fv F T ct pM tN cG HU so xT);have iR:=dS X G e vP wD λ_ F=>Hf F T hcf IF;have pG:=dS X G e Ew Dr λ_ F=>Bw F T ct iR;have r9:=dS X G e IU HZ λ_ F=>FP (cm:=false) F T gS ly so EO EI bL Ir;have kB:zf K aP aP aT bF dJ dM bB fH 0:=⟨gO.xi,lz,rY lz dw (λ_=>rfl),cK jz dX oK,cK ow h9 rN,cK pT eU qI,cK qm fg qE,cK kH bQ mJ,cK uZ gR rH⟩;have kM:zf K aT aP aT bF dJ dM bB fH 1:=⟨BB.xi,jz,cK lz dw ig,rY jz dX (λ_=>rfl),cK ow h9 qk,cK pT eU oU,cK qm fg nU,cK kH bQ lV,cK uZ gR qO⟩;have kO:zf K bF aP aT bF dJ dM bB fH 2:=⟨F4.xi,ow,cK lz dw jZ,cK jz dX qo,rY ow h9 (λ_=>rfl),cK pT eU rq,cK qm fg rG,cK kH bQ om,cK uZ gR t9⟩;have lB:XLd K aP "row":=⟨gO.xi,vR,sB.hd⟩;have bH:=dS X G e D7 Ej λ_ F=>BA F T pC r9 gS va cD iN kB kM kO lB dw ig jZ jE ko;have xu:=dS X G e Lr Li λ_ F=>Kq F T;have sf:Cal l.prog w K mg base true 1 "_law_steep" x6 []:=⟨_,_,_,_,GL ye T,Hl,ye.kp,Iy,.nil⟩;have lH:=dS X G e DZ Ep λ_ F=>A8 F T bH sf xu;have uX:=dS X G e E1 GV λ_ F=>FU F T bH;have bj:=dS X G e En DP λ_ F=>Jb (cm:=true) F T;have Bg:=dS X G e J5 KH λ_ F=>Ha F T;have eA:=dS X G e vj sZ λ_ F=>Dv F T;have jI:=dS X G e y9 yl λ_ F=>DK F T;have Bi:=dS X G e KJ Kt λ_ F=>HF F T bj Bg eA jI;exact Kw Jm T bj Bi xu uX lH pC pG
theorem walk{l:PySem.W.OpenLaw}{q:Program}{loose:List Str}{XP:(Str->Option Value)->Heap->Prop}{YP:World->Heap->Prop}{d:DefRec}{K:Params->PySem.W.Frag}(hn:l.most=some 63)(hdf:d.params.defaults=[])
  (hY:∀(w:World) (h:Heap),YP w h->(K w.params).In h)
  (F:∀(w:World) (mg:Str->Option Value) (fa:Addr) (h:Heap),(K w.params).In h->h.Ns mainGlobals mg->mg d.name=some (.ref fa)→
   ∃fd:FuncData,(∀(s:Shared) (u:Value),BindsTo s fd ⟨[u],[]⟩ [("_law_script",u)])/\∀base:Heap,(K w.params).In base->base.Ns mainGlobals mg->aB l.prog w (K w.params) mg base (CXE l.prog w) true 20 fa fd ["_law_script"] (B2 (K w.params))):
  PySem.W.WalkO q loose XP YP l.row.toRowW d [] (λf vs=>PySem.call f vs):=
 L2.Hz (n:=63) (k:=20) (cm:=true) (x:="_law_script") (CX:=λw=>CXE l.prog w) (sp:=λw=>B2 (K w.params)) hn (by decide) hdf ⟨λ_=>rfl,by decide,by decide⟩ hY F (λ_ _ a ns hl _ hS=>⟨a,ns,rfl,hS,λ_=>rfl⟩)
  λw H s e s' z=>by obtain⟨_,_,_,_,_,_,_,_,_,_,_,_,_,q⟩:=z;exact q
end K06
end
local macro_rules|`(example:=$s:str)=>do
 let mut x:=#[]
 let mut n:=1
 for c in s.getString.toList do
  let d:=c.toNat
  n:=n*62+(if d<58 then d-48 else if d<91 then d-55 else d-61)
  if n>=62^11 then
   x:=x.push (Lean.mkIdent (.mkSimple s!"tw{n-62^11}"))
   n:=1
 `(structure $(Lean.mkIdent `PySem.W.Fast):ident:Prop where($x*:True))
example:="KxMEkNa8ZtT1MOAo3cNqdMCUyKmWlTYSe6VEEA8en8vwDSE1AGqzrRgGs2hWTv0mpsABs22N9L9WKA4Mu9cRlPAO7RT0XgJKViiCbF7t3cNJZo5SYW2Jpwn1UCT29xp7039s3qxaEiA0otc3oEuU0G9yO9IlPodgT7R7BIFjbZ53IXyLEqBeFxm9aRl3qkUJatUCav2ihcvi9leWfHpKz0T1Fy0v5KUIAfxoZ6XGJ44cO3d7PV4zsZCxCs5EvCRoVK4xYtAvJEv7uu99oEjGWyV3BFaRbFFIdh4PaOB1tFcuWLGurcXJ5BYZDsL6sNt1FlG7QyMu8X8lkffaediUb7A8vu2eKnbeKP02NQ9BcryJPXyzRNhHl432i3QjGwKGY3nywDYcnJmUKZ4fL5xr5F4F0KIVHAJimA5KX6G9Uo6LaCA1KJxL3fqE8TaV1GRVfrm9bTDvn7GMt9JkcHmhNzjfvHUyoyPGbxul5MWrxoQwJIhIiH7hWAxDhT4wJBVEmhdzPJlD9qu97fcpBc65Sxye8dH4nAhuVfPIVnA3scnXWEmfb3Te1jq7aDzP2mNKSa9YAK4Io7ldvmvjgC7xxNJidlz7c9nC23XtwDno9IdgU0W22bsJLdXB1tAdiWJt3tVLCHl6SGExEnuBNHFcK4EqlVYSyTkB5Ald6fzEfM3CMyumelpNUC8vk87TbNci8sry5EvDfca7KV62m2JWPk8UEgYn6nlDA4KcN0Nhsb0m3FcqIl8D3OmE98DvTRpbYyA9EbPlvG1mG31w5U2R4vP3C8DH4H7PmNBGbZTUyzXLJlIZT5XbO9KmTB76Rrb3HQIP0wmDDKEjs616B3gWEySVi1K864YhYZUOLEtakEhblcHNKohT5o7sskf5UMJN39xk974SgbUxGqiij3EJITMHlLYTGGszdyjG4Sz1m1tnkgNbuwGd0grALcqZS3tZaUk1XGti6Dmrzo6KstyIqkKnGfA9DSCyLPsjF2gSs5i9dRaij4KcATxcErLOQDeDVodvFbYPdmERzEHu1Nb0Q0N02jG48tss4Eng3l8k6kw8Daqq47IZuAB0vxhvixZzi0abtS4riYbu2geFZ5HVH4ILuPVRtXEEBa3NHFbZMzVf4IP6N6wsuF6s8toCfc64qiE1KHATZU0SP8KaDY2ohsx0Q0UuTm0EIxx1K8z2FImG9rDLuiWKdJ14HnFeD0UpyA2D99KXhN3ecYQ37BcRw4UNxIN92hPnn693p9HCQL94VGBst5eiHEbVYHaBGPIV9xOirP5JSM7NvMqwvH6ksCSB1BiCNB1sUZ7WBpZv6CbvIWApr4p9KSQkBmpbk75TcI6g4mz3PGUYkRjQtWdDBpHd1FqlPjrIwp9sIWl3zj1lDKMPPzFo7IvpBpcuuBL5Fm6FoYU1pgNKFfhB3QK7fU98k5NoGLkzo7IskhuuXw4G59HEN7FErMWAmKW8YCbba4KTmSLDmh9lQLJ6H4YYL7nMIVFjcnqziDQIRrBvWjb9SKIaBQBEOpdcGFH3ynBHKuVsLHA2TBxds0O0m7yFZ69CW0EAG3YRu3xN2EWkuAlYfSLB00F4qKBqDgPGaB5Gli4rGLG5wSFpcEcUz3klUfS0M1xB3EjcshhmRqLKjdzaV8mKyHJW0tbSk0mW986AxfZPcARt7s8b6rW7VgP9MULsAfyWwDB27rQ64R0J7J2X0OQVmvDl6GX4TMesv5V2Bdp8masarJ3x7TgSHG8u9I7kOZqlBqkU9iebicJY0Ik4nT9hRye4gEAsuoiBTZf3K8oEnkkOgNoY4w76l54atj8JGleSnQdoTK0dOgWLOvgmACqkd8Cg3uX4KRgzRwz6HgxAG6NKNp6Z6hChbWkKTZNv9I4LzYArYd6RDzMmkvJShSd774JeappfKt1HSgeIdDtNLGP3SH3cLhIh0wuTl6V91PnAecMkBQsxdTKmXIVmlBUCp51oghWu2MgN3rML7GXIE3vBmtSU857ca3G2vWLK4OCb6F6VgAlOrzDw98Ui7wVUNw4Jeg2pZZYbRkAOYjwkfXpq0CTgwUTt9uMG9ivXSWUVgku4xFCuFdjKYO87gx8ELowpgD37yIgGIGSqJgBBDDD4hR74i4f9IZ5Mtx2jnH2fkzYYnCL3oVwZ591ZKR9TqYDbr5R32X94CmojAzJb7OCNaMH8fAnF43q7Zpz36IbNvohkgU1HLCdT7UWcyjHogiyG7Z6EvHVdqIJTDb8X5mwJufFaIVpIML0bdtVZcrGAU0nYrD7kcDjRlfqrv8hS1KKMGRqrTiw35UiYBBM8tyFQwaIT1hrJ84cg0ekHycsoEAIUnSK6FOoBbRJGaOpNbqIKfpwfqjDdmIleDuJYjLp85tAx5XPPqiEAakY9h12nJn4PbtoazaA2xBzXxGZj1ZKZGAQXqJk3uJj4sxGvHdsijP5bHKZbRac5H7oz4Enei9rrCM6Zl3A4iK7Em1OPhOhbUF2qU2lALExeJJyUk2TlSv1z4OTz2ujz75L2PvUa97PUOVIA3ay3gnT0ZGCwK1LjVyvP9QvxJ4yrM114nPONkMLEStEUr8qgfhJmBCLgi8C2CatELOxQG9ZCn8i9DIgFYzJitsGQEd03cF4GOJdI5oSYd8qGJq5bOOyfwnI9vPtCxmzxZo86wNn00jQVE1Oum4GS0e3sLHBtB8SsaZM9uIZpCjRT1cLIWvfrg33Bo2UEkNpswyHIJ4u4AZXXIZcA8wdIOAExEG0w2mo96y5r6097mycupnxx13rz3ASQRJx7zvzu8L1ga905CNu5rbBo12qv2wUxgTFRGpXK3mJN5wP9bD4JmMQLaL8svvNfNXE2r8H1oRtaENph7CYwuxdzOssEpFo8hr7r182OKMaHxaM0AIRLAP4CsNRyCEhqP4m5xB4Hx5AI0WjzDW6qR2aBLczNC5DSIQFqb8hmC07QrQNhMzyIQI5ArIi2tOHv9vxoLjSXyIJ1xXD5pehG4x5apnLeU3mCDAFQukSdVKBk1o3pNhYLS7Rba2yKvnCk7Yi0cu2otxS4RVlNyk0TtCH8priy0edUo88nHPViStOdCLpzUTvch19Ggjxs7ddw2tDv51a4uPMjTLKBMzBjMfqt4H9akt6T23vJUgrgagFevT8qgq3Eajmmx5ZVW9nLHgn52bqn6luRltTAaRNVpC9yk82BAXJUmn92y4pFor2eo1voH9Rv8GxszZcESxB8wdiMz68rU5cz0MG9MFEPDEZ5bvnA7Ha8o88ktEaK3XhhRW9JbxCHh4QNB1cmLKiFtMN5ifG13j7yeCTTxkz0dg4o87Qyqj6gxZGMLVOIXLnYGfN9XQ4D0isqCpKK7CHFGnb4I3Uzq95tIhvhpOqIvJDtJ8bVzuy53VRSJJZKM8TKtqIbbC26KLEN23UztdqKr2FsWD3VvJH3EaAwYjlN9td4SLSzSVejrSHy0JC4loRQUBfK5et9vSlyFxqSuNPpIBCF0AlLKeOC8MG13fR2Dp9SI3CzyEK8LHDq5miAs9FdfPC67lP4dyQ55SLMoenYmSytK6XfQPEDtFSwHK4ylccmhU638eEpLYgbNW7H9rzlX6zANBAdwwcyoBDLG6yFr64nhXrC50XnRpcVK30ATYPrmbs6JGEosdIbkKDX9SDaTYT0wAp4x7EUbt0zrz8xF5HX22mqlCgoATueyfKR10rfhG1uWQx7pelCw0Y4Vr2tHTAGUwOW76oR8eG6MyQBFpmgwvSpRbDKlOIqec7elEKzQKvDeB7u4FjOM5aGmdmSCExcKDv4ZHUAJ0SpWX9Pmi8uWXgcwwsrwD5pwWh2SmGO7ETEONDjSiOFChIjzFhvrcFuiQrqRY2JsFJrTOByqiW8LC4ihMlooEiAHJafaboDMHI6Rxbbob8Kf7ttnJev4zKT4JV7bF1rnBZ5kLNTKfTMWvCCJU7TWlzQn0tKxUQ3qxtBLQzGC3wzwUr1gTDj1X8NfVEq5eQJnKyRFFWNKJGl9uLx5RlaG0SLn33CRyTYgCoDIvIx25zzZ1PwX8x5g54cosos7Hbdo2yY5ucGNKz0iJDyhuJ9qN54fVnoYIUp2oyugzCk9wr4jW5R7xSLFt8ojUCT5mAUOC4XwpA9y3u1rjBiLOaAG7xoV9TggTi9ZsA97B8GOw02FeHXg5u8o3dkRXBkM0OwJuhzjldH2U7Gojj1Ks8KZnFGUiPbxJWQN7BVtLd8MghPIlCxYa0a2EFHd4FC2tLkEt7BDn6zLtiWJ6fQXyFRmG2F3que6GnhfVzJQb5TRVjCEV7OfZtjsq9sZ2dehzg0W1MZHsP93mAzQBH84DCvZEVgdv6dgb2CGzJjnE2i0ZWkQCwFJoqb3nFc3IJCZr9oQvUQqR3AZzsCcdLOl7jsMO04NVFM6tJSVk6SnL2EvdI0NwDqvc22OqvuAFjHYF2lkqy8NDMCG8fH5s8K9rY6U0QmSA0kXcASGvtShI2kGIUAaT2X1Iaq7ZYfOiQSYHMLXhg0VvjQqLAz38Q53eKRJCNrde8eYxkT38B8vys0MwPKfH58QKJv4v0lI8b3rYchRG4SgjrczE3p6eUf8NXZordL4qvCTr5L8nARKRF7LgvLZIlNZS4vCruf0WqTMSqXicX6Vqmhs69rvZEeNIqHkoNR89R8M0RE9jLy06xMalrAzHiFhJrFkqgsM2F1po7EwsbLa8in8WVhul4w8wtYcOHOv1i92cngnDkiuUGy3dhU70VsUJMnQJJa2cpyBXzPPXucaHW9upzHcGFuEI6Jad5UrfZV8AJvGftYVMUw20tl52BVQSMEgpl1V93kBa5rHjAII2Nfa9mzkMRYSb9yE4KmHwO2OUBDY9usAyFShTAWKPbZqNIR5JWKr1OouymlJnYlVTrgo759RgQld12AVrJwS26IrL1jj9Q3a3LH83NHC5Valn0MMhD7Q73sdjFWNr"

open PySem PySem.W PyProof.Rows
set_option maxRecDepth 100000 in
set_option maxHeartbeats 0 in
theorem PySem.Challenge.cw_minders_k06_the_first_row_misread_holds : PySem.Challenge.rw_minders_k06_the_first_row_misread.Holds := by
  w_on; o_law; k_head; (case hw => w_witness2)
  k_fill
  refine K06.walk (l := PySem.Challenge.rw_minders_k06_the_first_row_misread) rfl rfl (fun w h Y => PySem.W.kIn_of Y) ?F
  case F =>
    intro w mg fa h KX G hmg
    refine' K06.all_mk KX G hmg ?k0 ?k1 ?k2 ?k3 ?k4 ?k5 ?k6 ?k7 ?k8 ?k9 ?k10 ?k11 ?k12 ?k13 ?k14 ?k15 ?k16 ?k17 ?k18 ?k19 ?k20 ?k21 ?k22 ?k23 ?k24 ?k25 ?k26 ?k27 ?k28 ?k29 ?k30 ?k31 ?k32 ?k33 ?k34 ?k35 ?k36 ?k37 ?k38 ?k39 ?k40 ?k41 ?k42 ?k43 ?k44 ?k45 ?k46 ?k47 ?k48 ?k49 ?k50 ?k51 ?k52 ?k53 ?k54 ?k55 ?k56 ?k57 ?k58 ?k59 ?k60 ?k61 ?k62 ?k63 ?k64 ?k65 ?k66 ?k67 ?k68 ?k69 ?k70 ?k71 ?k72 ?k73 ?k74 ?k75 ?k76 ?k77 ?x78 ?x79 ?x80 ?x81 ?k82 ?k83 ?r84 ?r85 ?k86 ?k87 ?k88 ?k89 ?k90 ?k91 ?k92 ?k93 ?k94 ?k95 ?n96 ?n97 ?n98 ?n99 ?n100 ?n101 ?n102 ?n103 ?n104 ?n105 ?n106 ?n107 ?n108 ?n109 ?n110
    case k0 | k1 | k2 | k3 | k4 | k5 | k6 | k7 | k8 | k9 | k10 | k11 | k12 | k13 | k14 | k15 | k16 | k17 | k18 | k19 | k20 | k21 | k22 | k23 | k24 | k25 | k26 | k27 | k28 | k29 | k30 | k31 | k32 | k33 | k34 | k35 | k36 | k37 | k38 | k39 | k40 | k41 | k42 | k43 | k44 | k45 | k46 | k47 | k48 | k49 | k50 | k51 | k52 | k53 | k54 | k55 | k56 | k57 | k58 | k59 | k60 | k61 | k62 | k63 | k64 | k65 | k66 | k67 | k68 | k69 | k70 | k71 | k72 | k73 | k74 | k75 | k76 | k77 | k82 | k83 | k86 | k87 | k88 | k89 | k90 | k91 | k92 | k93 | k94 | k95 => (repeat' (first | exact True.intro | apply And.intro | apply Exists.intro | fail)) <;> k_is
    case x78 | x79 | x80 | x81 => k_exc
    case n96 | n97 | n98 | n99 | n100 | n101 | n102 | n103 | n104 | n105 | n106 | n107 | n108 | n109 | n110 => decide
    case r84 | r85 => (first | kernel_rfl | (show _ = true; kernel_rfl))
