import PyProof.Rows.All
import Wide.All
import OpenK.AllK
import Wide.FinOn
import Lean
import PyProof.EqAt
import PyProof.EqKinds
import PyProof.TupleCall
import PySem.Challenge.RW_minders_k09_whole_nobody_without_a_minde
set_option Elab.async false
set_option linter.all false
set_option maxRecDepth 100000
set_option maxHeartbeats 4000000
abbrev eJ:=@if_neg
abbrev fK:=@decide_eq_true
abbrev eT:=@if_pos
abbrev gD:=@of_decide_eq_true
abbrev ik:=@decide_eq_false
abbrev kP:=@decide_eq_true_iff
abbrev hI:=@congrArg
abbrev yV:=@of_decide_eq_false
abbrev rz:=@beq_iff_eq
abbrev aic:=@beq_eq_false_iff_ne
abbrev ajy:=@beq_self_eq_true
abbrev alm:=@bne_iff_ne
open PySem renaming Addr->eh,Value->ez,Shared->eW,Stmt->fy,wpAny_bind->iV,Program->hD,Expr->fU,World->gT,Heap->gm,Around->ie,wpAny_pure->nr,FuncData->oT,wpAny_mono->ro,wpAny_truthy_bool->NW,mem_of_lookup->ahS,sizeLine_eq->GX,wpAny_passesOwn->aim,wpAny_pyIter_list->ais,Spec->aiD,Scope->sZ,wpAny_Call_Name_kw->aiI,wpAny_loadPart_at->aiP,codeAny_mono->aja,Model->xl,typeIs_str->aji,call_meets->ajk,wpAny_holding->ajt,ExceptHandler->ajv,NameKind->YP,wpAny_execs_nil->ajH,codeAny_call_builtin->ajK,wpAny_field->aj3,tupleKind_room_in1->aj5,wpAny_standAt->akb,BindsTo->aku,wpAny_comprehension_free->akz,CmpOp->L1,IsRangeIter->akQ,wpAny_pyNext_range_end->akR,wpAny_pyIter_rangeiter->akS,Paired->ak1,wpAny_isTrue_Compare1->ak2,intText?->ak5,codeAny_handlers_test->ak6,lookup_relabel_local->alk,wpAny_handleBy_cons->alx,Within->alB,wpAny_Constant_int->alC,wpAny_pyIter_range->alD,seqIndex_neg->alI,step_same->alQ,Keyword->alU,wpAny_assign_Name->alW,list_append->alZ,wpAny_newObj_type->al1,wpAny_pyIter_enum->al5,seqIndex_of->amb,wpAny_execs_cons->amf,Operator->amg,wpAny_Name->amq,wpAny_call->ams,PlainAttrs->amt,wpAny_Compare1->amA,wpAny_loadPart->amC,Builtin->amE,PassesOwn->amJ,intBits_le_64->amM,evalPart_none->amN,call_list_seq->amO,GenState->amU
open List renaming getElem?_eq_getElem->gx,length_map->fC,getElem?_map->hV,length_append->iv,size_toArray->iB,range->gG,getD_eq_getElem?_getD->nN,map_append->js,replicate->jb,mem_cons_self->ll,range'->iH,mem_cons_of_mem->mD,getElem?_eq_some_iff->pE,length_range->mq,mem_singleton->oi,append_nil->ov,filter_append->qH,getElem?_append_left->yh,mem_range->pf,length_cons->qV,mem_append->ql,mem_append_right->wb,getElem?_append_right->Bj,filter_cons->rj,mem_cons->qJ,length_take->uU,all_eq_true->vc,getElem_mem->ve,append_assoc->wH,length_filter_le->AL,getElem?_range->zq,mem_map->ri,nil_append->wg,map_cons->tH,mem_filter->yq,replicate_succ->Fs,take_add_one->Cb,range_succ->zB,lookup_cons->B6,take_length->Bn,length_replicate->M5,length_eq_zero_iff->ahE,mem_of_getElem?->S4,filter_nil->FH,getElem?_eq_none->ahN,cons_ne_nil->Q4,cons_append->ah0,range'_succ->SU,mem_replicate->ah3,drop_eq_getElem_cons->ah4,lookup->C0,range'_append_1->aia,length_drop->aid,foldlM_cons->aif,filter_eq_nil_iff->aik,any_cons->XP,mem_append_left->aiu,map_map->aiw,find?_cons->aiJ,length_range'->aiK,take_of_length_le->aiM,foldl_append->aiQ,mem_range'_1->aiR,map_nil->aiT,contains_iff_mem->aiV,range_eq_range'->ai0,mem_iff_getElem->ai1,map_eq_nil_iff->ai3,replicate_zero->ai4,map_congr_left->ai5,length_pos_iff->ai7,length_nil->ai8,filter_filter->ajf,getElem?_set_self->ajq,range_succ_eq_map->ajr,getElem_map->ajz,drop_length->ajA,singleton_append->ajD,take_append_drop->ajE,getElem?_set_ne->ajG,nodup_cons->ajI,all_map->ajL,getElem_toArray->ajM,foldl_cons->ajN,sum_append->ajP,mem_of_mem_take->ajQ,take_append_of_le_length->ajV,filterMap_cons->ajW,getElem?_drop->aj8,find?_eq_none->aka,all_cons->akc,takeWhile_cons_of_neg->akg,dropWhile_cons_of_neg->akh,map_take->aki,sum_cons->akj,flatten_cons->akp,mem_of_find?_eq_some->akr,getElem?_take_of_lt->akx,not_mem_nil->akB,of_mem_zip->akK,mem_range'->akP,drop_eq_nil_of_le->akX,length_singleton->ak4,drop_zero->ala,map_drop->alp,getElem_of_mem->alv,mem_filterMap->alE,getElem_range->alO,range'_concat->alP,any_nil->alS,map_singleton->alT,ext_getElem?->al6,filter_congr->al7,getElem?_inj->al8,filter->amd,range'_zero->aml,any_eq_true->amo,find?_some->amz,takeWhile->amF,take_zero->amG,map_id->anb
open Nat renaming le_refl->fx,testBit->hX,le_trans->je,ne_of_lt->kx,lt_of_lt_of_le->pD,lt_of_le_of_lt->ry,zero_le->pI,testBit_and->yp,mod_two_eq_zero_or_one->aho,le_of_lt->tL,not_lt_zero->y4,lt_succ_self->EU,sub_self->zy,mul_le_mul_left->ahU,lt_irrefl->F6,lt_trans->IH,eq_of_testBit_eq->ah8,testBit_xor->RN,zero_testBit->aie,le_succ->HY,le_add_right->aiy,add_mul->M6,one_mul->Q9,pow_le_pow_right->aiZ,ne_of_gt->ai9,add_sub_cancel_left->ajn,mul_add->ajs,strongRecOn->ajO,succ_pos->ajR,zero_mul->ajS,zero_add->ajT,mul_le_mul_right->ajU,testBit_two_pow->ajZ,log2->aj2,testBit_two_pow_sub_one->aj9,succ_le_succ->aky,and_le_right->akC,two_pow_pos->akN,testBit_lt_two_pow->akY,testBit_or->ak9,add_le_add_left->als,le_of_eq->alF,add_right_comm->alN,mul_zero->alR,lt_succ_of_lt->al2,le_succ_of_le->al4,mul_one->amc,log2_lt->ame,testBit_zero->amk,testBit_log2->amm,le_max_right->amn,zero_lt_one->amx,le_max_left->amy,mul_le_mul->amI,mul_comm->amY,pow_succ->amZ,add_zero->am0,sub_zero->am1
open PySem.W renaming Frag->fD,mg_of->mE,findIn->pq,mroIn->su,kitOne->tW,mg_none_of->Bq,kia_one->Cm,emptyDict->M4,nsIn->BR,fnOf->Fd,keepIn->KX,instObj->NC,plainGet->aiW,looks_findIn->aiX,excIn->ai2,callWith_K->ajb,kitCls->ajl,hasDictIn->ajp,methodCall_KW->ajC,plainGet_of->ajY,lookIn->aj0,codeIn->aj1,methodObj->akk,plainOver->akl,specialIn->akm,isFn->akw,takerIn->akI,makesIn->akJ,OpenLaw->akM,cellsFrom_some->akU,callWith_K0->alq,looks_mroIn->alw,kitx_list->alX,kitx_dict->alY,handedIn->amh,readsIn->amv,findCls->amw,InstAt->amB,typeIn->amD,WalkO->amP,clsIn->amR
open Option.some renaming inj->hH
open Bool renaming false_ne_true->jt,and_eq_true->kE,eq_iff_iff->qj,or_eq_true->xk,true_and->za,false_and->ED,not_eq_true'->aib,or_false->aiC,and_false->aiU,false_or->akd,eq_false_iff->akn,and_true->amS,and_comm->amT,true_or->amW
open PySem.Heap renaming get?_push_of_some->nc,lt_size->ko,get?_push_size->rx,get?_none_of_le->ait,get?_update_other->aiL,size_push->aiS,SameBut->akv,get?_update_self->ak3
open PySem.F renaming plainAttrs_list->rB,slot_list_append->wx,type_list_append->vq,plainAttrs_str->ahJ,args_str_split_2->aj7,entry_str_split->ako,slot_str_split->akA,slot_str_lstrip->akF,type_str_lstrip->akG,slot_str_split->akZ,type_str_split->ak0,typeOf_object_class->ak7,slot_enumerate_next->alc,slot_str_join->ald,type_str_join->ale,slot_list_pop->alf,type_list_pop->alg,args_list_append_2->alj,entry_list_append->alr,slot_list_append->alJ
open PySem.Value renaming ref->kO,int->GQ,str->F1,none->K2,bool->ajF,builtin->ake,type->akq,float->ama,isStrOf->amL,isInt->am3,bytes->am4
open Option renaming bind_some->rr,isSome_map->al0,getD_none->ami,none->ana
open PySem.PassesOwn renaming never->uZ
open PySem.Builtin renaming bitAnd->wh,bitNot->aiv,bitOr->aju
open True renaming intro->zw
open Int renaming toNat_natCast->M0,eq_ofNat_of_zero_le->ahP,le_refl->Jn,natCast_nonneg->ajd,emod_lt_of_pos->aje,add_zero->akD,zero_add->akE,emod_nonneg->akO,toNat->alM,le_of_eq->am2
open PyProof.Rows renaming callWith_type1->ahR,AllBare->Hq,subscriptTail_builtinR->akV,Subscript_->alh,IntsAre->alV,boot_range->amr,boot_enumerate->amH,split_len->amK
open PySem.Builtin.Str renaming strKind->ahT,occurrences->aiB
open False renaming elim->zl
open PySem.Str renaming ofString->KP,length_append->ajo,empty->aj4
open PySem.Txt renaming lstripChars->aio,startswith->ak8,join->aln
open PySem.Calls renaming Name_function_global->aip,loadGlobal_global->ajm,callWith_builtin->akW,evalArgs_plain->ali
open Array renaming getElem?_eq_some_iff->air,getElem?_toList->ajB,length_toList->ajX,toList->amV
open PySem.AutoSeq1 renaming wpAny_loadPart'->aix
open PySem.Builtin.Range renaming rangeSize->aiA,small->aly
open PySem.Obj renaming mapSeq->T1,data_mapFields->ajc,cls_mapFields->al3
open PySem.Builtin.Int renaming intBits->ai6
open PySem.SeqAt renaming EqAt->ajj
open List.cons renaming inj->ajw
open ForInStep renaming yield->ajJ
open PySem.SeqAt.RcNeAt renaming lists_lengths->akf,lists->alK
open Sum renaming inl->aks,inr->akt
open PySem.SeqAt.EqAt renaming same->akL,int_str->alz,str_int->alA,of_refs->alL
open PyProof renaming noPylong_small->akT
open PySem.Value.type renaming inj->alb
open PySem.Paired renaming length->alo,snoc->am9
open PySem.EntryCells renaming newEntry->alu
open PySem.Around renaming under->alG
open PySem.Code renaming isFrame->alH,frames->am8
open Sum.inr renaming inj->al9
open PySem.IsL renaming update->amj
open Or renaming inr->amu,inl->amX
open PySem.Value.ref renaming inj->amQ
open PySem.Data renaming fields->am5
open PySem.Walks renaming range->am6,list->anc
open PySem.IsRange renaming new->am7
open PySem.W.WData renaming int->ane
section
set_option compiler.extract_closed false
set_option bootstrap.genMatcherCode false

theorem d2{a b G:Prop}(h:a/\b)(k:a->b->G):G:=k h.1 h.2
theorem d3{a b c G:Prop}(h:a/\b/\c)(k:a->b->c->G):G:=k h.1 h.2.1 h.2.2
theorem d4{a b c d G:Prop}(h:a/\b/\c/\d)(k:a->b->c->d->G):G:=k h.1 h.2.1 h.2.2.1 h.2.2.2
theorem d5{a b c d e G:Prop}(h:a/\b/\c/\d/\e)(k:a->b->c->d->e->G):G:=k h.1 h.2.1 h.2.2.1 h.2.2.2.1 h.2.2.2.2
theorem d6{a b c d e f G:Prop}(h:a/\b/\c/\d/\e/\f)(k:a->b->c->d->e->f->G):G:=k h.1 h.2.1 h.2.2.1 h.2.2.2.1 h.2.2.2.2.1 h.2.2.2.2.2
theorem d7{a b c d e f g G:Prop}(h:a/\b/\c/\d/\e/\f/\g)(k:a->b->c->d->e->f->g->G):G:=k h.1 h.2.1 h.2.2.1 h.2.2.2.1 h.2.2.2.2.1 h.2.2.2.2.2.1 h.2.2.2.2.2.2
theorem d8{a b c d e f g i G:Prop}(h:a/\b/\c/\d/\e/\f/\g/\i)(k:a->b->c->d->e->f->g->i->G):G:=k h.1 h.2.1 h.2.2.1 h.2.2.2.1 h.2.2.2.2.1 h.2.2.2.2.2.1 h.2.2.2.2.2.2.1 h.2.2.2.2.2.2.2
theorem d9{a b c d e f g i j G:Prop}(h:a/\b/\c/\d/\e/\f/\g/\i/\j)(k:a->b->c->d->e->f->g->i->j->G):G:=k h.1 h.2.1 h.2.2.1 h.2.2.2.1 h.2.2.2.2.1 h.2.2.2.2.2.1 h.2.2.2.2.2.2.1 h.2.2.2.2.2.2.2.1 h.2.2.2.2.2.2.2.2
theorem d10{a b c d e f g i j l G:Prop}(h:a/\b/\c/\d/\e/\f/\g/\i/\j/\l)(k:a->b->c->d->e->f->g->i->j->l->G):G:=k h.1 h.2.1 h.2.2.1 h.2.2.2.1 h.2.2.2.2.1 h.2.2.2.2.2.1 h.2.2.2.2.2.2.1 h.2.2.2.2.2.2.2.1 h.2.2.2.2.2.2.2.2.1 h.2.2.2.2.2.2.2.2.2
theorem d11{a b c d e f g i j l m G:Prop}(h:a/\b/\c/\d/\e/\f/\g/\i/\j/\l/\m)(k:a->b->c->d->e->f->g->i->j->l->m->G):G:=k h.1 h.2.1 h.2.2.1 h.2.2.2.1 h.2.2.2.2.1 h.2.2.2.2.2.1 h.2.2.2.2.2.2.1 h.2.2.2.2.2.2.2.1 h.2.2.2.2.2.2.2.2.1 h.2.2.2.2.2.2.2.2.2.1 h.2.2.2.2.2.2.2.2.2.2
theorem d12{a b c d e f g i j l m n G:Prop}(h:a/\b/\c/\d/\e/\f/\g/\i/\j/\l/\m/\n)(k:a->b->c->d->e->f->g->i->j->l->m->n->G):G:=k h.1 h.2.1 h.2.2.1 h.2.2.2.1 h.2.2.2.2.1 h.2.2.2.2.2.1 h.2.2.2.2.2.2.1 h.2.2.2.2.2.2.2.1 h.2.2.2.2.2.2.2.2.1 h.2.2.2.2.2.2.2.2.2.1 h.2.2.2.2.2.2.2.2.2.2.1 h.2.2.2.2.2.2.2.2.2.2.2
theorem e1{R:A'->Prop}{G:Prop}(h:∃a,R a)(k:∀a,R a->G):G:=h.elim k
theorem e2{R:A'->B'->Prop}{G:Prop}(h:∃a b,R a b)(k:∀a b,R a b->G):G:=h.elim λa h=>e1 h (k a)
theorem e3{R:A'->B'->C'->Prop}{G:Prop}(h:∃a b c,R a b c)(k:∀a b c,R a b c->G):G:=h.elim λa h=>e2 h (k a)
theorem e4{R:A'->B'->C'->D'->Prop}{G:Prop}(h:∃a b c d,R a b c d)(k:∀a b c d,R a b c d->G):G:=h.elim λa h=>e3 h (k a)
theorem e5{R:A'->B'->C'->D'->E'->Prop}{G:Prop}(h:∃a b c d e,R a b c d e)(k:∀a b c d e,R a b c d e->G):G:=h.elim λa h=>e4 h (k a)
theorem e6{R:A'->B'->C'->D'->E'->F'->Prop}{G:Prop}(h:∃a b c d e f,R a b c d e f)(k:∀a b c d e f,R a b c d e f->G):G:=h.elim λa h=>e5 h (k a)
theorem e7{R:A'->B'->C'->D'->E'->F'->G'->Prop}{G:Prop}(h:∃a b c d e f g,R a b c d e f g)(k:∀a b c d e f g,R a b c d e f g->G):G:=h.elim λa h=>e6 h (k a)
theorem e8{R:A'->B'->C'->D'->E'->F'->G'->I'->Prop}{G:Prop}(h:∃a b c d e f g i,R a b c d e f g i)(k:∀a b c d e f g i,R a b c d e f g i->G):G:=h.elim λa h=>e7 h (k a)
theorem e9{R:A'->B'->C'->D'->E'->F'->G'->I'->J'->Prop}{G:Prop}(h:∃a b c d e f g i j,R a b c d e f g i j)(k:∀a b c d e f g i j,R a b c d e f g i j->G):G:=h.elim λa h=>e8 h (k a)
theorem e10{R:A'->B'->C'->D'->E'->F'->G'->I'->J'->L'->Prop}{G:Prop}(h:∃a b c d e f g i j l,R a b c d e f g i j l)(k:∀a b c d e f g i j l,R a b c d e f g i j l->G):G:=h.elim λa h=>e9 h (k a)
local macro_rules | `(tactic|obtain ⟨$ps,*⟩:=$h) => `(tactic|rcases $h:term with ⟨$ps,*⟩)
local macro_rules | `(tactic|rcases $h:term with ⟨$ps,*⟩) => do
  let n := ps.getElems.size
  let mut xs := #[]
  let mut ts := #[]
  let z := Lean.mkIdent (← Lean.Macro.addMacroScope `z)
  for p in ps.getElems do
    match p with
    | `(Lean.Parser.Tactic.rcasesPatLo| $x:ident) =>
      if x.getId != `rfl then
        xs := xs.push x
        continue
    | _ => pure ()
    let y := Lean.mkIdent (z.getId.appendIndexAfter xs.size)
    xs := xs.push y
    ts := ts.push (← `(tactic|rcases $y:ident with $p:rcasesPatLo))
  let st c i (h : Lean.Term) (ys : Array Lean.Ident) := `(tactic|(refine $(Lean.mkIdent (`_root_ ++ .mkSimple s!"{c}{i}")) $h ?_; (try clear $(⟨h.raw⟩):ident); intro $ys*))
  let a := ps.getElems[:11].toArray
  let b := ps.getElems[11:].toArray
  let mut r ← if n > 12 then `(tactic|rcases $h:term with ⟨$a,*,⟨$b,*⟩⟩) else `(tactic|rcases $h:term with (⟨$ps,*⟩))
  for k in [1:n+1] do
    let k := n - k
    let mut t ← if k = 0 then st "d" n h xs else st "e" k h (xs[:k].toArray.push (if k + 1 = n then xs[k]! else z))
    if k > 0 && k + 1 < n then t ← `(tactic|$t <;> $(← st "d" (n - k) z xs[k:]))
    for s in ts do t ← `(tactic|$t <;> $s)
    r ← `(tactic|first|$t:tactic|$r:tactic)
  return r
local macro_rules|`(())=>`(by lia)|`(∅)=>`(by decide)|`(⋯)=>`(by rfl)
local macro_rules|`(def $n:declId $s:optDeclSig:=by $x)=>`(theorem $n:declId $(⟨.node .none ``Lean.Parser.Command.declSig #[s.raw[0],s.raw[1][0]]⟩):declSig:=by $x)
namespace L2
open PySem PySem.Spec PyProof.Rows
abbrev Key:=Sum Int Str
def Lq:Key->ez->Bool
 |.inl k,v=>am3 k v
 |.inr x,v=>amL x v
def afu(w:gT):Key->Int
 |.inl k=>hashInt k
 |.inr x=>hashStr w x
theorem dZ:∀{k:Key} {v:ez},Lq k v=true->(∃i t,k=aks i/\v=GQ i t)\/(∃x t,k=akt x/\v=F1 x t)
 |.inl i,v,h=>by
  obtain⟨t,e⟩:=Value.isInt_shape (k:=i) (v:=v) h;exact .inl ⟨i,t,rfl,e⟩
 |.inr x,v,h=>by
  obtain⟨t,e⟩:=Value.isStrOf_shape (x:=x) (v:=v) h;exact .inr ⟨x,t,rfl,e⟩
def Us(i:Int)(t:Tok):Lq (.inl i) (.int i t)=true:=by simp[Lq,am3]
def UM(x:Str)(t:Tok):Lq (.inr x) (.str x t)=true:=by simp[Lq,amL]
def acY(a b:Int):decide ((aks a:Key)=aks b)=(a==b):=by
 by_cases e:a=b
 .subst e;simp
 .have h:¬(aks a:Key)=aks b:=λq=>e (Sum.inl.inj q);rw[ik h];exact(aic.mpr e).symm
def adh(a b:Str):decide ((akt a:Key)=akt b)=decide (a=b):=by
 by_cases e:a=b
 .subst e;simp
 .have h:¬(akt a:Key)=akt b:=λq=>e (al9 q);rw[ik h,ik e]
theorem ad6(a:Int)(b:Str):decide ((aks a:Key)=akt b)=false:=ik (λq=>nomatch q)
theorem adJ(a:Str)(b:Int):decide ((akt a:Key)=aks b)=false:=ik (λq=>nomatch q)
def fE(prog:hD)(w:gT):PySem.KeyKind prog w Key where
 is:=Lq
 hash:=afu w
 inj:=λv a b l f=>by
  rcases dZ l with⟨i,t,rfl,rfl⟩|⟨x,t,rfl,rfl⟩
  .rcases dZ f with⟨j,u,rfl,e⟩|⟨y,u,rfl,e⟩
   .injection e with e1 _;rw[e1]
   .exact nomatch e
  .rcases dZ f with⟨j,u,rfl,e⟩|⟨y,u,rfl,e⟩
   .exact nomatch e
   .injection e with e1 _;rw[e1]
 byValue:=λk v h=>by
  rcases dZ h with⟨i,t,rfl,rfl⟩|⟨x,t,rfl,rfl⟩<;>rfl
 pyHash:=λc h=>by
  rcases dZ c with⟨i,t,rfl,rfl⟩|⟨x,t,rfl,rfl⟩
  .exact wpAny_pyHash_int h
  .exact wpAny_pyHash_str h
 eqBool:=λg c h=>by
  rcases dZ g with⟨i,t,rfl,rfl⟩|⟨x,t,rfl,rfl⟩
  .rcases dZ c with⟨j,u,rfl,rfl⟩|⟨y,u,rfl,rfl⟩
   .rw[acY] at h;exact wpAny_eqBool_int h
   .rw[ad6] at h;exact alz i t y u _ _ _ _ h
  .rcases dZ c with⟨j,u,rfl,rfl⟩|⟨y,u,rfl,rfl⟩
   .rw[adJ] at h;exact alA x t j u _ _ _ _ h
   .rw[adh] at h;exact wpAny_eqBool_str h
 «strs»:=λk x t v h=>by
  rcases dZ h with⟨i,u,rfl,e⟩|⟨y,u,rfl,e⟩
  .exact nomatch e
  .injection e with e1 _;subst e1;cases v<;>rfl
theorem OI(prog:hD)(w:gT)(i:Int)(t:Tok):(fE prog w).is (.inl i) (.int i t)=true:=Us i t
theorem OL(prog:hD)(w:gT)(x:Str)(t:Tok):(fE prog w).is (.inr x) (.str x t)=true:=UM x t
inductive V where
 |non|bl (b:Bool)|int (i:Int)|str (x:Str)|byt (b:Array UInt8)|flt (b:UInt64)|ref (a:eh)|ty (n:String)
 deriving DecidableEq
def RelV:V->ez->Prop
 |.non,u=>u=K2
 |.bl b,u=>u=ajF b
 |.int i,u=>∃t,u=GQ i t
 |.str x,u=>∃t,u=F1 x t
 |.byt b,u=>∃t,u=am4 b t
 |.flt b,u=>∃t,u=ama b t
 |.ref a,u=>u=kO a
 |.ty n,u=>u=akq n
abbrev Vals:List V->List ez->Prop:=ak1 RelV
theorem Vals.length{xs:List V}{us:List ez}(r:Vals xs us):xs.length=us.length:=alo r
theorem Vals.get:∀{xs:List V} {us:List ez} {i:Nat} {x:V},Vals xs us->xs[i]? =some x->∃u,us[i]? =some u/\RelV x u
 |_,_,_,_,.nil,e=>by simp at e
 |_,_,0,_,.cons r _,e=>by simp at e;subst e;exact⟨_,rfl,r⟩
 |_,_,i+1,x,.cons _ t,e=>by
  obtain⟨u,b,a⟩:=Vals.get (i:=i) (x:=x) t (by simpa using e);exact⟨u,by simpa using b,a⟩
theorem Vals.set{x:V}{u:ez}(r:RelV x u):∀{xs:List V} {us:List ez} (i:Nat),Vals xs us->Vals (xs.set i x) (us.set i u)
 |_,_,_,.nil=>.nil
 |_,_,0,.cons _ t=>.cons r t
 |_,_,i+1,.cons q t=>.cons q (Vals.set r i t)
theorem Vals.append:∀{xs ys:List V} {us a:List ez},Vals xs us->Vals ys a->Vals (xs++ys) (us++a)
 |_,_,_,_,.nil,s=>s
 |_,_,_,_,.cons r t,s=>.cons r (Vals.append t s)
theorem Vals.take:∀{xs:List V} {us:List ez} (n:Nat),Vals xs us->Vals (xs.take n) (us.take n)
 |_,_,0,_=>.nil
 |_,_,_+1,.nil=>.nil
 |_,_,n+1,.cons r t=>.cons r (Vals.take n t)
theorem Vals.drop:∀{xs:List V} {us:List ez} (n:Nat),Vals xs us->Vals (xs.drop n) (us.drop n)
 |_,_,0,r=>r
 |_,_,_+1,.nil=>.nil
 |_,_,n+1,.cons _ t=>Vals.drop n t
def y9:Option V->Option ez->Prop
 |some v,some u=>RelV v u
 |none,none=>True
 |_,_=>False
def KV{a:Type}:List (a×V)->List (a×ez)->Prop:=ak1 λ(p:a×V) (q:a×ez)=>p.1=q.1/\RelV p.2 q.2
def kV:Key->V
 |.inl i=>.int i
 |.inr x=>.str x
inductive HO where
 |lst (xs:List V)
 |tup (xs:List V)
 |dK (Fw:List (Key×V))|dT (Fw:List (List Key×V))
 |set (S:Int->Bool) (n:Nat)
 |ins (C dx:eh) (fs:List (Str×V))
 |own (x:eh)
 |xd (fs:List (Str×V))
 |met (f x:eh)
 |rng (lo hi:Int)
 |frz (o:Obj) (u:HO)
 |tbl (ps:Array ez)
 |ext (φ:gm->Prop)
abbrev Hp:=eh->Option HO
def upd(H:Hp)(a:eh)(o:HO):Hp:=λb=>if b=a then some o else H b
def af{H:Hp}{a:eh}{o:HO}:upd H a o a=some o:=by unfold upd;rw[eT rfl]
def ai{H:Hp}{a b:eh}{o:HO}(h:b≠a):upd H a o b=H b:=by unfold upd;rw[eJ h]
def aW{H:Hp}{a:eh}{o u:HO}:upd (upd H a o) a u=upd H a u:=by
 funext b;unfold upd;split<;>rfl
def Xb{H:Hp}{a b:eh}{o u:HO}(h:H a=some o)(h':H b=some u)(d:o≠u):a≠b:=by
 intro e;subst e;rw[h] at h';exact d (hH h')
def ao{H:Hp}{a b:eh}{o:HO}(h:H a=some o)(h':H b=none):a≠b:=by
 intro e;subst e;rw[h] at h';cases h'
section
variable(P:hD)(w:gT)
def eK(H:Hp)(h:gm)(a:eh):HO->Prop
 |.lst xs=>xs.length<=sizeLine/\∃(its:List ez) (n:Nat),Vals xs its/\h.get? a=some {cls:= .type "list",data:= .seq its.toArray n}
 |.tup xs=>xs.length<=sizeLine/\∃its:List ez,Vals xs its/\IsTup h a its.toArray
 |.dK b=>b.length<=sizeLine/\(a==sysModules)=false/\∃vs,KV b vs/\h.DictOf (fE P w) a vs
 |.dT b=>b.length<=sizeLine/\(a==sysModules)=false/\∃xs:List (List Key×eh×ez),
   ak1 (λ(p:List Key×V) (q:List Key×eh×ez)=>p.1=q.1/\H q.2.1=some (.tup (p.1.map kV))/\RelV p.2 q.2.2) b xs∧
   ∃o es m,h.get? a=some o/\o.ExactDict/\o.data=.dict es m/\es.toList=xs.map (entryOfKey (tupleKind (fE P w)))/\(xs.map (·.1)).Nodup
 |.set S n=>h.SetOf (intKind P w) a S n
 |.ins C e fs=>H e=some (.own a)/\fs.length<=1000/\e≠a/\h.get? a=some (NC C e)∧
   ∃c,h.Ns1 e c/\(∀f,y9 (fs.lookup f) (c f))/\alB c (fs.map (·.1))
 |.own _=>∃o,h.get? a=some o
 |.xd fs=>∃c,h.Ns1 a c/\∀f,y9 (fs.lookup f) (c f)
 |.rng lo l=>∃t u v,h.get? a=some {cls:= .type "range",data:= .fields #[.int lo t,.int l u,.int 1 v]}
 |.frz o u=>h.get? a=some o/\eK H h a u
 |.tbl ps=>h.get? a=some {cls:= .none,data:= .fields ps}
 |.met f x=>h.get? a=some (akk (.ref f) (.ref x))
 |.ext g=>g h/\(∃o,h.get? a=some o)/\∀j i:gm,g j->(∀o,j.get? a=some o->i.get? a=some o)->g i
def mh(H:Hp)(h:gm):Prop:=∀a o,H a=some o->eK P w H h a o
end
section
variable{P:hD}{w:gT}{H H':Hp}{h h':gm}{a:eh}{o:HO}
def eK.lt(x:eK P w H h a o):a<h.objs.size:=by
 cases o with
 |lst xs=>obtain⟨_,_,_,_,e⟩:=x;exact ko e
 |tup xs=>obtain⟨_,_,_,p⟩:=x;exact p.lt
 |dK b=>obtain⟨_,_,_,_,o,_,_,e,_⟩:=x;exact ko e
 |dT b=>obtain⟨_,_,_,_,o,_,_,e,_⟩:=x;exact ko e
 |set S n=>obtain⟨o,_,_,_,e,_⟩:=x;exact ko e
 |ins C c fs=>obtain⟨_,_,_,e,_⟩:=x;exact ko e
 |own y=>obtain⟨_,e⟩:=x;exact ko e
 |xd fs=>obtain⟨_,⟨_,_,_,e,_⟩,_⟩:=x;exact ko e
 |rng lo g=>obtain⟨_,_,_,e⟩:=x;exact ko e
 |frz i u=>obtain⟨e,_⟩:=x;exact ko e
 |tbl ps=>exact ko (show h.get? a=some _ from x)
 |met f y=>exact ko (show h.get? a=some _ from x)
 |ext j=>obtain⟨_,⟨_,e⟩,_⟩:=x;exact ko e
theorem Paired.adP{i g:Type}{F G:i->g->Prop}:∀{c:List i} {e:List g},ak1 F c e->(∀a b,F a b->G a b)->ak1 G c e
 |_,_,.nil,_=>.nil
 |_,_,.cons r t,f=>.cons (f _ _ r) (Paired.adP t f)
def eK.N6(x:eK P w H h a o)(k:∀b u,(b=a\/H b=some (.own a))->h.get? b=some u->h'.get? b=some u)
  (A:∀b,H b=some (.own a)->H' b=some (.own a)) (s:∀b xs,H b=some (.tup xs)->H' b=some (.tup xs)):eK P w H' h' a o:=by
 induction o with
 |lst xs=>obtain⟨z,its,n,r,e⟩:=x;exact⟨z,its,n,r,k _ _ (.inl rfl) e⟩
 |tup xs=>obtain⟨z,its,r,g,e,c⟩:=x;exact⟨z,its,r,g,k _ _ (.inl rfl) e,c⟩
 |dK l=>obtain⟨z,y,vs,r,g,es,i,e,c⟩:=x;exact⟨z,y,vs,r,g,es,i,k _ _ (.inl rfl) e,c⟩
 |dT l=>
  obtain⟨z,y,xs,r,g,es,i,e,c⟩:=x;exact⟨z,y,xs,Paired.adP r λp q z=>⟨z.1,s _ _ z.2.1,z.2.2⟩,g,es,i,k _ _ (.inl rfl) e,c⟩
 |set S n=>obtain⟨g,es,i,t,e,c⟩:=x;exact⟨g,es,i,t,k _ _ (.inl rfl) e,c⟩
 |ins C E fs=>
  obtain⟨d,z,ne,e,m,⟨j,es,i,e2,c⟩,r⟩:=x;exact⟨A _ d,z,ne,k _ _ (.inl rfl) e,m,⟨j,es,i,k _ _ (.inr d) e2,c⟩,r⟩
 |own y=>obtain⟨g,e⟩:=x;exact⟨g,k _ _ (.inl rfl) e⟩
 |xd fs=>obtain⟨m,⟨j,es,i,e,c⟩,r⟩:=x;exact⟨m,⟨j,es,i,k _ _ (.inl rfl) e,c⟩,r⟩
 |rng lo D=>obtain⟨t,u,v,e⟩:=x;exact⟨t,u,v,k _ _ (.inl rfl) e⟩
 |frz g u B=>obtain⟨e,q⟩:=x;exact⟨k _ _ (.inl rfl) e,B q⟩
 |tbl ps=>
  have e:h.get? a=some {cls:= .none,data:= .fields ps}:=x;show h'.get? a=some {cls:= .none,data:= .fields ps};exact k a _ (.inl rfl) e
 |met f y=>
  have e:h.get? a=some (akk (.ref f) (.ref y)):=x;show h'.get? a=some (akk (.ref f) (.ref y));exact k a _ (.inl rfl) e
 |ext F=>obtain⟨p,⟨o,e⟩,st⟩:=x;exact⟨st _ _ p λo q=>k _ _ (.inl rfl) q,⟨o,k _ _ (.inl rfl) e⟩,st⟩
theorem mh.lt(x:mh P w H h)(e:H a=some o):a<h.objs.size:=(x a o e).lt
def mh.fresh(x:mh P w H h)(e:h.objs.size<=a):H a=none:=by
 cases q:H a with
 |none=>rfl
 |some u=>exact absurd (pD (x.lt q) e) (F6 _)
theorem mh.kept(x:mh P w H h)(k:∀b u,h.get? b=some u->h'.get? b=some u):mh P w H h':=λa o e=>
 (x a o e).N6 (λb u _ q=>k b u q) (λ_ q=>q) λ_ _ q=>q
theorem mh.laid(x:mh P w H h)(k:∀b u,h.get? b=some u->h'.get? b=some u)(i:h.objs.size<=a)(new:eK P w (upd H a o) h' a o):mh P w (upd H a o) h':=λb u e=>by
 have f:=x.fresh i;by_cases g:b=a
 .subst g;rw[af] at e;cases e;exact new
 .rw[ai g] at e;exact(x b u e).N6 (λc v _ q=>k c v q) (λc q=>by rwa[ai (ao q f)]) λc xs q=>by rwa[ai (ao q f)]
end
def Rd(H:Hp)(a:eh)(u:HO):Prop:=H a=some u\/∃o,H a=some (.frz o u)
def Rd.ok{P:hD}{w:gT}{H:Hp}{h:gm}{a:eh}{u:HO}(r:Rd H a u)(x:mh P w H h):eK P w H h a u:=by
 rcases r with r|⟨o,r⟩
 .exact x a u r
 .obtain ⟨_,q⟩:=x a _ r;exact q
def Mut:Option HO->Prop
 |some (.lst _)=>True
 |some (.dK _)=>True
 |some (.dT _)=>True
 |some (.set _ _)=>True
 |some (.ins _ _ _)=>True
 |some (.ext _)=>True
 |_=>False
section
variable{P:hD}{w:gT}{H:Hp}{h h':gm}{x e:eh}{o':HO}
theorem mh.write(ok:mh P w H h)(i:Mut (H x))(n:e=x\/H e=some (.own x))(k:∀b u,b≠e->h.get? b=some u->h'.get? b=some u)(m:∃u,h'.get? e=some u)
  (new:eK P w (upd H x o') h' x o'):mh P w (upd H x o') h':=λb u q=>by
 have f:∀c y,H c=some (.own y)->c≠x:=λc y r z=>by subst z;rw[r] at i;exact i
 have g:∀c xs,H c=some (.tup xs)->c≠x:=λc xs r z=>by subst z;rw[r] at i;exact i
 by_cases l:b=x
 .subst l;rw[af] at q;cases q;exact new
 .rw[ai l] at q;by_cases a:b=e
  .have q':H b=some (.own x):=by
    rcases n with z|z
    .exact absurd (a.trans z) l
    .rwa[a]
   rw[q] at q';cases q';obtain⟨v,o⟩:=m;exact⟨v,by rwa[a]⟩
  .refine (ok b u q).N6 (λc v j r=>k c v ?_ r) (λc r=>by rwa[ai (f c b r)]) λc xs r=>by rwa[ai (g c xs r)]
   rcases j with rfl|j
   .exact a
   .rintro rfl;rcases n with z|z
    .exact f c b j z
    .rw[j] at z;cases z;exact l rfl
end
structure Un(fs ex:List eh)(H H':Hp)(h h':gm):Prop where
 keep:∀b o,h.get? b=some o->H b=none->b∉fs->b∉ex->h'.get? b=some o
 slot:∀b o,h.get? b=some o->H b=none->b∈fs->b∉ex->∃sl,h'.get? b=some {o with slots:=sl}
 free:∀b o,h.get? b=some o->H b=none->b∉ex->H' b=none
 there:∀b o,h.get? b=some o->b∉ex->∃o',h'.get? b=some o'
 KG:∀b xs,H b=some (.tup xs)->H' b=some (.tup xs)
 GR:∀b o u,H b=some (.frz o u)->H' b=some (.frz o u)
 Kq:∀b ps,H b=some (.tbl ps)->∃more,H' b=some (.tbl (ps++more))
section
variable{fs fs' ex ex':List eh}{H H1 H2:Hp}{h h1 h2 h':gm}{a x e:eh}{o:HO}
def Un.any(u:Un fs ex H H1 h h1){b:eh}{c:Obj}(q:h.get? b=some c)(n:H b=none)(f:b∉ex):∃i,h1.get? b=some {c with slots:=i}:=by
 by_cases g:b∈fs
 .exact u.slot b c q n g f
 .exact ⟨c.slots,u.keep b c q n g f⟩
theorem Un.kept(k:∀b u,h.get? b=some u->h'.get? b=some u):Un fs ex H H h h':=
 ⟨λb c q _ _ _=>k b c q,λb c q _ _ _=>⟨c.slots,k b c q⟩,λ_ _ _ n _=>n,λb c q _=>⟨c,k b c q⟩,λ_ _ q=>q,λ_ _ _ q=>q,λ_ ps q=>⟨#[],by rw[q];simp⟩⟩
theorem Un.refl:Un fs ex H H h h:=Un.kept λ_ _ q=>q
theorem Un.laid(k:∀b u,h.get? b=some u->h'.get? b=some u)(f:h.objs.size<=a)(c:H a=none):Un fs ex H (upd H a o) h h' where
 keep:=λb u q _ _ _=>k b u q
 slot:=λb u q _ _ _=>⟨u.slots,k b u q⟩
 free:=λb u q n _=>by rwa[ai (kx (pD (ko q) f))]
 there:=λb u q _=>⟨u,k b u q⟩
 KG:=λb xs q=>by rwa[ai (ao q c)]
 GR:=λb u xs q=>by rwa[ai (ao q c)]
 Kq:=λb ps q=>⟨#[],by rw[ai (ao q c),q];simp⟩
def Un.write(f:Mut (H x))(m:e=x\/H e=some (.own x))(k:∀b u,b≠e->h.get? b=some u->h'.get? b=some u)(g:∃u,h'.get? e=some u):Un fs ex H (upd H x o) h h':=by
 have j:∀b,H b=none->b≠x:=λb n z=>by subst z;rw[n] at f;exact f
 have l:∀b,H b=none->b≠e:=λb n z=>by
  subst z;rcases m with r|r
  .exact j b n r
  .rw[n] at r;cases r
 have i:∀b u,H b=some u->¬Mut (some u)->b≠x:=λb u q nm z=>by subst z;rw[q] at f;exact nm f
 refine⟨λb u q n _ _=>k b u (l b n) q,λb u q n _ _=>⟨u.slots,k b u (l b n) q⟩,λb u q n _=>by rwa[ai (j b n)],λb u q _=>?_,
  λb xs q=>by rwa[ai (i b _ q λz=>z)],λb u xs q=>by rwa[ai (i b _ q λz=>z)],λb ps q=>⟨#[],by rw[ai (i b _ q λz=>z),q];simp⟩⟩
 by_cases c:b=e
 .subst c;exact g
 .exact ⟨u,k b u c q⟩
end
def trk(h:gm)(H:Hp):List eh:=(gG h.objs.size).filter λa=>(H a).isSome
def N2(h:gm)(H:Hp):gm:=PySem.W.hideAll h (trk h H)
theorem VC(h:gm)(H:Hp):(N2 h H).objs.size=h.objs.size:=PySem.W.hideAll_size _ _
theorem Yj{h:gm}{H:Hp}{b:eh}{o:Obj}(e:h.get? b=some o)(n:H b=none):(N2 h H).get? b=some o:=
 PySem.W.hideAll_get _ e λa=>by
  have q:(H b).isSome=true:=(yq.mp a).2;rw[n] at q;simp at q
def aaq{h:gm}{H:Hp}{b:eh}{o:Obj}(e:(N2 h H).get? b=some o):h.get? b=some o/\H b=none:=by
 have a:h.get? b=some o:=PySem.W.of_hideAll (trk h H) e;refine⟨a,?_⟩;cases q:H b with
 |none=>rfl
 |some x=>
  have c:b∈trk h H:=yq.mpr ⟨pf.mpr (ko a),by simp[q]⟩;have z:(N2 h H).get? b=none:=PySem.W.hideAll_none (trk h H) c;rw[z] at e;cases e
structure Mod(K:fD)(mg:Str->Option ez)(dX:gm):Prop where
 kin:K.In dX
 glob:dX.Ns mainGlobals mg
 blt:∃mb,dX.Ns builtinsNs mb/\∀x:Str,x≠"__name__"->mb x=bootBuiltins x
 nolimit:dX.NoLimit
structure Cx where
 prog:hD
 w:gT
 K:fD
 mg:Str->Option ez
 dX:gm
 A:ie
 N:List Str
 s₀:eW
 H₀:Hp
 env:Env
 eD:List Env
 stack:List Env
 ex:List eh
 fn:Str->Bool
 calm:Bool
 pn:List (eh×Obj)
 xe:ez->eW->Prop
def rP(l:List Env):List eh:=l.filterMap (·.frame)
abbrev Cx.fs(X:Cx):List eh:=rP X.eD
def Vis(a:sZ)(x:Str):Prop:=a.names.lookup x=some .local\/a.names.lookup x=some .cell\/a.names.lookup x=some .free
def Loc(a:sZ)(x:Str):Prop:=a.names.lookup x=some .local\/a.names.lookup x=some .cell
def Look(env:Env)(h:gm)(m:Str->Option ez)(x:Str)(u:ez):Prop:=
 (env.kindOf x=some .local/\m x=some u)\/((env.kindOf x=some .cell\/env.kindOf x=some .free)/\∃c,env.cells.lookup x=some c/\h.IsCell c (some u))
structure Cx.Ok(X:Cx):Prop where
 mod:Mod X.K X.mg X.dX
 kind:X.env.scope.kind=.function
 glob:X.env.globals=mainGlobals
 blt:X.env.builtins=builtinsNs
 above:X.s₀.heap.objs.size<=X.env.locals
 inj:∀x y c,X.env.cells.lookup x=some c->X.env.cells.lookup y=some c->x=y
 has:∀x,(X.env.kindOf x=some .cell\/X.env.kindOf x=some .free)->∃c,X.env.cells.lookup x=some c
 cab:∀x c,X.fn x=true->X.env.cells.lookup x=some c->X.s₀.heap.objs.size<=c
 hd:X.calm=true->X.A.handled=none
 frames:X.A.frames=some X.stack
 stk:X.stack=X.eD\/(X.stack=X.env::X.eD/\X.env.frame=some X.env.locals)
 exf:∀b∈X.ex,b≠X.env.locals/\∀x c,X.env.cells.lookup x=some c->c≠b
 bs:∀b o,X.dX.get? b=some o->X.s₀.heap.get? b=some o/\X.H₀ b=none
 bsz:X.dX.objs.size<=X.s₀.heap.objs.size
 LR:∀b o,X.dX.get? b=some o->b∉X.ex
 Nf:∀b∈X.ex,b∉X.fs
 w6:X.s₀.heap.FunFrames X.dX X.eD
 frf:∀b∈X.fs,X.H₀ b=none
structure Inv(X:Cx)(et:List (eh×Obj))(σ:List (Option V))(H:Hp)(s:eW):Prop where
 ok:X.Ok
 os:s.os=X.s₀.os
 bare:Hq s.gens
 dX:Un X.fs X.ex X.H₀ H X.s₀.heap s.heap
 loc:∃m,s.heap.Ns X.env.locals m/\∀(i:Nat) (x:Str) (v:V),X.N[i]? =some x->σ[i]? =some (some v)->Vis X.env.scope x->∃u,RelV v u/\Look X.env s.heap m x u
 cell:∀x c,X.env.cells.lookup x=some c->∃v,s.heap.IsCell c v
 free:H X.env.locals=none
 lL:∀x c,X.env.cells.lookup x=some c->H c=none
 pin:∀p∈X.pn++et,s.heap.get? p.1=some p.2/\H p.1=none/\p.1≠X.env.locals/\p.1∉X.fs/\∀v,p.2.data≠ .cell v
 hok:mh X.prog X.w H s.heap
 len:σ.length=X.N.length
section
variable{X:Cx}{et:List (eh×Obj)}{σ:List (Option V)}{H H':Hp}{s:eW}{h':gm}
theorem Cx.Ok.afC(ok:X.Ok){b:eh}{o:Obj}(e:X.dX.get? b=some o):b∉X.fs:=λa=>by
 have:=(ok.w6.mem a).1;rw[e] at this;cases this
theorem Inv.bs(I:Inv X et σ H s):∀b o,X.dX.get? b=some o->s.heap.get? b=some o/\H b=none:=λb o e=>
 ⟨I.dX.keep b o (I.ok.bs b o e).1 (I.ok.bs b o e).2 (I.ok.afC e) (I.ok.LR b o e),I.dX.free b o (I.ok.bs b o e).1 (I.ok.bs b o e).2 (I.ok.LR b o e)⟩
theorem Inv.bk(I:Inv X et σ H s):∀b o,X.dX.get? b=some o->s.heap.get? b=some o:=λb o e=>(I.bs b o e).1
theorem Inv.mod(I:Inv X et σ H s):Mod X.K X.mg X.dX:=I.ok.mod
theorem Inv.ma(I:Inv X et σ H s):X.K.In s.heap:=I.ok.mod.kin.keeps I.bk
theorem Inv.lt(I:Inv X et σ H s):X.env.locals<s.heap.objs.size:=let ⟨_,hn,_⟩:=I.loc;hn.lt
theorem Inv.sz(I:Inv X et σ H s):X.s₀.heap.objs.size<=s.heap.objs.size:=je I.ok.above (tL I.lt)
theorem Inv.afN(I:Inv X et σ H s){a:eh}(h:s.heap.objs.size<=a):a∉X.fs:=λc=>by
 obtain⟨_,o,b,_⟩:=I.ok.w6.mem c;exact absurd (pD (ko b) (je I.sz h)) (F6 _)
theorem Inv.Ma(I:Inv X et σ H s):∀x c,X.env.cells.lookup x=some c->c≠X.env.locals:=λx c e z=>by
 obtain⟨v,o,f,hd⟩:=I.cell x c e;obtain⟨m,⟨g,es,h,a,b,_⟩,_⟩:=I.loc;rw[z,a] at f;cases f;rw[b] at hd;cases hd
def Inv.w6(I:Inv X et σ H s):s.heap.FunFrames X.dX X.eD:=by
 have all:∀(l:List Env),(∀b∈rP l,b∈X.fs)->X.s₀.heap.FunFrames X.dX l->s.heap.FunFrames X.dX l:=by
  intro l
  induction l with
  |nil=>intro _ _;trivial
  |cons env r i=>
   intro hs n;obtain⟨j,⟨L,o,f,m,g,hd⟩,h⟩:=n;have a:L∈X.fs:=hs L (by unfold rP;rw[ajW,f];exact ll);obtain⟨p,e⟩:=I.dX.slot L o g (I.ok.frf L a) a λz=>I.ok.Nf L z a;exact⟨j,⟨L,_,f,m,e,hd⟩,i (λb c=>hs b (by unfold rP;rw[ajW,f];exact mD _ c)) h⟩
 exact all X.eD (λ_ c=>c) I.ok.w6
def Inv.stack(I:Inv X et σ H s):s.heap.FunFrames X.dX X.stack:=by
 rcases I.ok.stk with e|⟨e,a⟩
 .rw[e];exact I.w6
 .rw[e];obtain⟨m,b,_⟩:=I.loc;refine .cons (by rw[I.ok.kind];decide) a b ?_ I.w6;exact ait (je I.ok.bsz I.ok.above)
theorem Inv.RX(I:Inv X et σ H s):∀b∈rP X.stack,b∈X.env.locals::X.fs:=λb a=>by
 rcases I.ok.stk with e|⟨e,c⟩
 .rw[e] at a;exact mD _ a
 .rw[e] at a;unfold rP at a;rw[ajW,c] at a;exact a
theorem Inv.LV(I:Inv X et σ H s):∀b∈rP X.stack,H b=none:=λb a=>by
 rcases qJ.mp (I.RX b a) with e|a
 .rw[e];exact I.free
 .obtain ⟨_,o,ho,_⟩:=I.ok.w6.mem a;exact I.dX.free b o ho (I.ok.frf b a) λz=>I.ok.Nf b z a
def Inv.step{g':Array amU}{t':Nat}{d':Drawn}{ch:List eh}(I:Inv X et σ H s)
  (g:∀b∈ch,(b∈X.ex\/X.s₀.heap.get? b=none)/\b≠X.env.locals/\(∀x c,X.env.cells.lookup x=some c->c≠b)/\∀p∈X.pn++et,p.1≠b)
  (keep:∀b o,b≠X.env.locals->b∉X.fs->b∉ch->s.heap.get? b=some o->H b=none->h'.get? b=some o)
  (slot:∀b o,b≠X.env.locals->b∈X.fs->b∉ch->s.heap.get? b=some o->H b=none->∃C,h'.get? b=some {o with slots:=C}) (free:∀b o,b∉ch->s.heap.get? b=some o->H b=none->H' b=none)
  (there:∀b o,b∉ch->s.heap.get? b=some o->∃B,h'.get? b=some B)
  (KG:∀b xs,H b=some (.tup xs)->H' b=some (.tup xs)) (GR:∀b o u,H b=some (.frz o u)->H' b=some (.frz o u)) (Kq:∀b ps,H b=some (.tbl ps)->∃more,H' b=some (.tbl (ps++more)))
  (ns:∀m,s.heap.Ns X.env.locals m->h'.Ns X.env.locals m) (hok:mh X.prog X.w H' h') (J:Hq g'):
  Inv X et σ H' {s with heap:=h',gens:=g',drawn:=d',toks:=t'}:=by
 have A:∀b o,X.s₀.heap.get? b=some o->b≠X.env.locals:=λb o e=>kx (pD (ko e) I.ok.above)
 have j:∀b o,X.s₀.heap.get? b=some o->b∉X.ex->b∉ch:=λb o e a t=>by
  rcases(g b t).1 with z|z
  .exact a z
  .rw[z] at e;cases e
 have h:∀x c,X.env.cells.lookup x=some c->∀v,s.heap.IsCell c v->h'.IsCell c v:=λx c e v ⟨o,y,hd⟩=>by
  have f:c∉ch:=λz=>(g c z).2.2.1 x c e rfl;by_cases F:c∈X.fs
  .obtain ⟨C,q⟩:=slot c o (I.Ma x c e) F f y (I.lL x c e);exact⟨_,q,hd⟩
  .exact ⟨o,keep c o (I.Ma x c e) F f y (I.lL x c e),hd⟩
 refine⟨I.ok,I.os,J,⟨λb o e n t a=>?_,λb o e n t a=>?_,λb o e n a=>?_,λb o e a=>?_,λb xs e=>KG b xs (I.dX.KG b xs e),λb o xs e=>GR b o xs (I.dX.GR b o xs e),λb ps e=>?_⟩,?_,λx c e=>?_,?_,λx c e=>?_,λp E=>?_,hok,I.len⟩
 .exact keep b o (A b o e) t (j b o e a) (I.dX.keep b o e n t a) (I.dX.free b o e n a)
 .obtain ⟨C,e1⟩:=I.dX.slot b o e n t a;obtain⟨D,e2⟩:=slot b _ (A b o e) t (j b o e a) e1 (I.dX.free b o e n a);exact⟨D,e2⟩
 .obtain ⟨B,e1⟩:=I.dX.there b o e a;exact free b B (j b o e a) e1 (I.dX.free b o e n a)
 .obtain ⟨B,e1⟩:=I.dX.there b o e a;exact there b B (j b o e a) e1
 .obtain ⟨m1,e1⟩:=I.dX.Kq b ps e;obtain⟨G,e2⟩:=Kq b _ e1;exact⟨m1++G,by rw[e2,Array.append_assoc]⟩
 .obtain ⟨m,hn,hl⟩:=I.loc;refine⟨m,ns m hn,λi x v e1 e2 e3=>?_⟩;obtain⟨u,r,l⟩:=hl i x v e1 e2 e3;refine⟨u,r,?_⟩;rcases l with l|⟨k,c,e,z⟩
  .exact .inl l
  .exact .inr ⟨k,c,e,h x c e _ z⟩
 .obtain ⟨v,z⟩:=I.cell x c e;exact⟨v,h x c e v z⟩
 .obtain ⟨m,⟨o,_,_,y,_⟩,_⟩:=I.loc;exact free _ o (λz=>(g _ z).2.1 rfl) y I.free
 .obtain ⟨v,o,y,hd⟩:=I.cell x c e;exact free c o (λz=>(g c z).2.2.1 x c e rfl) y (I.lL x c e)
 .obtain ⟨e,n,ne,nf,d⟩:=I.pin p E;have f:p.1∉ch:=λz=>(g p.1 z).2.2.2 p E rfl;exact⟨keep p.1 p.2 ne nf f e n,free p.1 p.2 f e n,ne,nf,d⟩
def Inv.un{t':Nat}(I:Inv X et σ H s)(u:Un X.fs [] H H' s.heap h')(hok:mh X.prog X.w H' h'):Inv X et σ H' {s with heap:=h',toks:=t'}:=by
 obtain⟨m,⟨o,es,t,h,r⟩,_⟩:=id I.loc;obtain⟨p,j⟩:=u.any h I.free (by simp)
 exact I.step (g':=s.gens) (d':=s.drawn) (ch:=[]) (λ_ z=>nomatch z) (λb o _ g _ e n=>u.keep b o e n g (by simp)) (λb o _ g _ e n=>u.slot b o e n g (by simp)) (λb o _ e n=>u.free b o e n (by simp)) (λb o _ e=>u.there b o e (by simp)) u.KG u.GR u.Kq (λq l=>by
  obtain⟨v,c,f,a,i⟩:=l;rw[h] at a;cases a;exact⟨_,c,f,j,i⟩) hok I.bare
def Inv.call{g':Array amU}{t':Nat}{d':Drawn}{ch:List eh}(I:Inv X et σ H s)(u:Un (rP X.stack) ch H H' s.heap h')(hok:mh X.prog X.w H' h')(y:Hq g')
  (g:∀b∈ch,(b∈X.ex\/X.s₀.heap.get? b=none)/\b≠X.env.locals/\(∀x c,X.env.cells.lookup x=some c->c≠b)/\∀p∈X.pn++et,p.1≠b):
  Inv X et σ H' {s with heap:=h',gens:=g',drawn:=d',toks:=t'}:=by
 obtain⟨m,⟨o,es,C,l,r⟩,_⟩:=id I.loc;obtain⟨A,h⟩:=u.any l I.free λz=>(g _ z).2.1 rfl
 exact I.step (ch:=ch) g (λb o h t a e n=>u.keep b o e n (λz=>(qJ.mp (I.RX b z)).elim h t) a) (λb o _ _ a e n=>u.any e n a) (λb o a e n=>u.free b o e n a) (λb o a e=>u.there b o e a) u.KG u.GR u.Kq (λB v=>by
  obtain⟨D,i,j,f,q⟩:=v;rw[l] at f;cases f;exact⟨_,i,j,h,q⟩) hok y
def Inv.turned{t':Nat}{it:eh}(I:Inv X et σ H s)(k:∀b o,b≠it->s.heap.get? b=some o->h'.get? b=some o)(t:H it=none)(g:it≠X.env.locals)
  (w:it∈X.ex\/X.s₀.heap.get? it=none) (j:∀x c,X.env.cells.lookup x=some c->c≠it) (h:∀p∈X.pn++et,p.1≠it):Inv X et σ H {s with heap:=h',toks:=t'}:=by
 have f:∀b u,H b=some u->b≠it:=λb u e z=>by rw[z,t] at e;cases e
 refine I.step (g':=s.gens) (d':=s.drawn) (ch:=[it]) (λb i=>?_) (λb o _ _ a e _=>k b o (λz=>a (by simp[z])) e) (λb o _ _ a e _=>⟨o.slots,k b o (λz=>a (by simp[z])) e⟩) (λ_ _ _ _ n=>n)
  (λb o a e=>⟨o,k b o (λz=>a (by simp[z])) e⟩) (λ_ _ e=>e) (λ_ _ _ e=>e) (λb ps e=>⟨#[],by rw[e];simp⟩) (λm l=>?_) (λb u e=>?_) I.bare
 .have e:b=it:=by simpa using i
  subst e;exact⟨w,g,j,h⟩
 .obtain ⟨o,es,ep,ho,r⟩:=l;exact⟨o,es,ep,k _ o (Ne.symm g) ho,r⟩
 .refine (I.hok b u e).N6 (λc v a q=>k c v ?_ q) (λ_ q=>q) λ_ _ q=>q;rcases a with z|z
  .rw[z];exact f b u e
  .exact f c _ z
theorem Inv.tok(I:Inv X et σ H s)(t:Nat):Inv X et σ H {s with toks:=t}:=I.un (h':=s.heap) (t':=t) Un.refl I.hok
theorem Inv.kept{t':Nat}(I:Inv X et σ H s)(k:∀b u,s.heap.get? b=some u->h'.get? b=some u):Inv X et σ H {s with heap:=h',toks:=t'}:=I.un (Un.kept k) (I.hok.kept k)
theorem Inv.laid{a:eh}{o:HO}{t':Nat}(I:Inv X et σ H s)(k:∀b u,s.heap.get? b=some u->h'.get? b=some u)(c:s.heap.objs.size<=a)(new:eK X.prog X.w (upd H a o) h' a o):
  Inv X et σ (upd H a o) {s with heap:=h',toks:=t'}:=I.un (Un.laid k c (I.hok.fresh c)) (I.hok.laid k c new)
theorem Inv.write{x e:eh}{o:HO}{t':Nat}(I:Inv X et σ H s)(f:Mut (H x))(c:e=x\/H e=some (.own x))(k:∀b u,b≠e->s.heap.get? b=some u->h'.get? b=some u)(a:∃u,h'.get? e=some u)
  (new:eK X.prog X.w (upd H x o) h' x o):Inv X et σ (upd H x o) {s with heap:=h',toks:=t'}:=I.un (Un.write f c k a) (I.hok.write f c k a new)
theorem Inv.Gh{a:List (eh×Obj)}(I:Inv X et σ H s)(h:∀p∈a,s.heap.get? p.1=some p.2/\H p.1=none/\p.1≠X.env.locals/\p.1∉X.fs/\∀v,p.2.data≠ .cell v):Inv X a σ H s:=
 ⟨I.ok,I.os,I.bare,I.dX,I.loc,I.cell,I.free,I.lL,λp b=>(ql.mp b).elim (λz=>I.pin p (aiu _ z)) (h p),I.hok,I.len⟩
def Hg{N:List Str}(c:N.Nodup){i j:Nat}{x:Str}(a:N[i]? =some x)(b:N[j]? =some x):i=j:=by
 obtain⟨f,e1⟩:=pE.mp a;obtain⟨e,e2⟩:=pE.mp b;exact(List.getElem_inj c).mp (e1.trans e2.symm)
def K6{M:xl}{A:ie}{E:ez->eW->Prop}{i:Nat}{x:Str}{v:V}{u:ez}{Q:Unit->eW->Prop}(I:Inv X et σ H s)(hN:X.N.Nodup)(G:X.N[i]? =some x)(l:Loc X.env.scope x)(r:RelV v u)
  (h:∀S,Inv X et (σ.set i (some v)) H S->(∃a,akv a s.heap S.heap/\(a=X.env.locals\/X.env.cells.lookup x=some a))->Q .unit S) (hf:X.fn x=true\/X.env.scope.names.lookup x=some .local:=by first|exact .inl rfl|exact .inr rfl|assumption):wpAny M A (storeName X.env x u) Q E s:=by
 obtain⟨m,Z,hl⟩:=id I.loc;have K:(X.env.scope.kind== .class||(X.env.scope.kind== .module&&X.env.locals != X.env.globals))=false:=by rw[I.ok.kind];rfl
 have B:i<σ.length:=by rw[I.len];exact(pE.mp G).1
 have Ma:=I.Ma
 have f:∀{a:eh} {h':gm},(∃o,s.heap.get? a=some o/\H a=none)->akv a s.heap h'->mh X.prog X.w H h':=λ{a h'} ha hs b ob e=>by
  obtain⟨_,_,t⟩:=ha;refine(I.hok b ob e).N6 (λc O g q=>(hs.2 c ?_).trans q) (λ_ q=>q) λ_ _ q=>q;rintro rfl;rcases g with rfl|g
  .rw[t] at e;cases e
  .rw[t] at g;cases g
 rcases l with C|C
 .refine wpAny_storeName_local C Z (λh' ab hs=>?_) K;obtain⟨oL,_,_,U,_⟩:=id Z;refine h _ ⟨I.ok,I.os,I.bare,⟨λb o e n D l=>?_,λb o e n D l=>?_,I.dX.free,λb o e l=>?_,I.dX.KG,I.dX.GR,I.dX.Kq⟩,⟨_,ab,λj y R e1 e2 e3=>?_⟩,λy c e=>?_,I.free,I.lL,λp Y=>?_,f ⟨oL,U,I.free⟩ hs,by simpa using I.len⟩ ⟨_,hs,.inl rfl⟩
  .exact (hs.2 b (kx (pD (ko e) I.ok.above))).trans (I.dX.keep b o e n D l)
  .obtain ⟨sl,e1⟩:=I.dX.slot b o e n D l;exact⟨sl,(hs.2 b (kx (pD (ko e) I.ok.above))).trans e1⟩
  .obtain ⟨o',e1⟩:=I.dX.there b o e l;exact⟨o',(hs.2 b (kx (pD (ko e) I.ok.above))).trans e1⟩
  .by_cases hj:j=i
   .subst hj;rw[G] at e1;cases e1;rw[ajq B] at e2;cases e2;exact⟨u,r,.inl ⟨C,by simp⟩⟩
   .rw[ajG (Ne.symm hj)] at e2;obtain⟨W,T,q⟩:=hl j y R e1 e2 e3;refine⟨W,T,?_⟩;rcases q with⟨k,e⟩|⟨k,c,e,z⟩
    .refine .inl ⟨k,?_⟩;have:y≠x:=λe=>hj (Hg hN e1 (e ▸ G));simp[this,e]
    .exact .inr ⟨k,c,e,z.sameBut hs (Ma y c e)⟩
  .obtain ⟨O,z⟩:=I.cell y c e;exact⟨O,z.sameBut hs (Ma y c e)⟩
  .obtain ⟨e,n,ne,nf,d⟩:=I.pin p Y;exact⟨(hs.2 p.1 ne).trans e,n,ne,nf,d⟩
 .have hfn:X.fn x=true:=by
   rcases hf with z|z
   .exact z
   .rw[z] at C;cases C
  obtain⟨c,g⟩:=I.ok.has x (.inl C);obtain⟨O,z⟩:=I.cell x c g;refine wpAny_storeName_cell I.ok.kind C g z (λh' L hs=>?_);obtain⟨oc,F,J⟩:=id z;refine h {s with heap:=h'} ⟨I.ok,I.os,I.bare,⟨λb o e n D l=>?_,λb o e n D l=>?_,I.dX.free,λb o e l=>?_,I.dX.KG,I.dX.GR,I.dX.Kq⟩,⟨m,Z.sameBut hs (Ne.symm (Ma x c g)),λj y R e1 e2 e3=>?_⟩,λy P e=>?_,I.free,I.lL,λp Y=>?_,f ⟨oc,F,I.lL x c g⟩ hs,by simpa using I.len⟩ ⟨c,hs,.inr g⟩
  .exact (hs.2 b (kx (pD (ko e) (I.ok.cab x c hfn g)))).trans (I.dX.keep b o e n D l)
  .obtain ⟨sl,e1⟩:=I.dX.slot b o e n D l;exact⟨sl,(hs.2 b (kx (pD (ko e) (I.ok.cab x c hfn g)))).trans e1⟩
  .obtain ⟨o',e1⟩:=I.dX.there b o e l;exact⟨o',(hs.2 b (kx (pD (ko e) (I.ok.cab x c hfn g)))).trans e1⟩
  .by_cases hj:j=i
   .subst hj;rw[G] at e1;cases e1;rw[ajq B] at e2;cases e2;exact⟨u,r,.inr ⟨.inl C,c,g,L⟩⟩
   .rw[ajG (Ne.symm hj)] at e2;obtain⟨W,T,q⟩:=hl j y R e1 e2 e3;refine⟨W,T,?_⟩;rcases q with q|⟨k,P,e,z'⟩
    .exact .inl q
    .refine .inr ⟨k,P,e,z'.sameBut hs ?_⟩;rintro rfl;exact hj (Hg hN e1 (I.ok.inj _ _ _ e g ▸ G))
  .by_cases hcc:P=c
   .subst hcc;exact⟨_,L⟩
   .obtain ⟨w2,z2⟩:=I.cell y P e;exact⟨w2,z2.sameBut hs hcc⟩
  .obtain ⟨e,n,ne,nf,d⟩:=I.pin p Y;refine⟨(hs.2 p.1 ?_).trans e,n,ne,nf,d⟩;intro q;rw[q,F] at e;have q':oc=p.2:=hH e;exact d O (by rwa[<- q'])
theorem IA{M:xl}{A:ie}{E:ez->eW->Prop}{i:Nat}{x:Str}{v:V}{u:ez}{Q:Unit->eW->Prop}(I:Inv X et σ H s)(e:X.N.Nodup)(f:X.N[i]? =some x)(c:Loc X.env.scope x)(r:RelV v u)
  (h:∀a,Inv X et (σ.set i (some v)) H a->Q .unit a) (b:X.fn x=true\/X.env.scope.names.lookup x=some .local:=by first|exact .inl rfl|exact .inr rfl|assumption):wpAny M A (storeName X.env x u) Q E s:=
 K6 I e f c r (λa g _=>h a g) b
def Inv.abT{a:eW}{ch:List eh}(I:Inv X et σ H s)(g:a.os=s.os)(u:Un (rP X.stack) ch H H' s.heap a.heap)(hok:mh X.prog X.w H' a.heap)(i:Hq a.gens)
  (f:∀b∈ch,(b∈X.ex\/X.s₀.heap.get? b=none)/\b≠X.env.locals/\(∀x c,X.env.cells.lookup x=some c->c≠b)/\∀p∈X.pn++et,p.1≠b):Inv X et σ H' a:=by
 obtain⟨h',g',d',t',h⟩:=a;have e:h=s.os:=g;subst e;exact I.call (g':=g') (t':=t') (d':=d') u hok i f
end
abbrev XK:=ez->Option eh->Hp->Prop
abbrev St:=List (Option V)
abbrev VK:=V->Hp->Prop
abbrev TE:=St->Hp->VK->Prop
abbrev TT:=St->Hp->(Bool->Hp->Prop)->Prop
abbrev TA:=St->Hp->(List V->Hp->Prop)->Prop
structure Ends where
 nx:St->Hp->Prop
 rt:VK
 bk:St->Hp->Prop:=λ_ _=>False
 ct:St->Hp->Prop:=λ_ _=>False
abbrev TS:=Ends->St->Hp->Prop
def EP(X:Cx)(a:List (eh×Obj))(b:St)(Q:VK)(u:ez)(c:eW):Prop:=∃v H',Inv X a b H' c/\RelV v u/\Q v H'
def TP(X:Cx)(a:List (eh×Obj))(c:St)(Q:Bool->Hp->Prop)(b:Bool)(e:eW):Prop:=∃H',Inv X a c H' e/\Q b H'
def AP(X:Cx)(a:List (eh×Obj))(b:St)(Q:List V->Hp->Prop)(us:List ez)(c:eW):Prop:=∃vs H',Inv X a b H' c/\Vals vs us/\Q vs H'
def SP(X:Cx)(b:List (eh×Obj))(D:Ends)(f:Flow)(c:eW):Prop:=
 match f with
 |.next=>∃a H',Inv X b a H' c/\D.nx a H'
 |.brk=>∃a H',Inv X b a H' c/\D.bk a H'
 |.cont=>∃a H',Inv X b a H' c/\D.ct a H'
 |.ret u=>∃v a H',Inv X b a H' c/\RelV v u/\D.rt v H'
def PE(X:Cx)(e:fU)(t:TE):Prop:=
 ∀(a:List (eh×Obj)) (s:eW) (b:St) (H:Hp) (Q:VK),Inv X a b H s->t b H Q->wpAny (model X.prog X.w) X.A (eval e X.env) (EP X a b Q) X.xe s
def PT(X:Cx)(e:fU)(t:TT):Prop:=
 ∀(a:List (eh×Obj)) (s:eW) (b:St) (H:Hp) (Q:Bool->Hp->Prop),Inv X a b H s->t b H Q->wpAny (model X.prog X.w) X.A (isTrue e X.env (eval e X.env)) (TP X a b Q) X.xe s
def PW(X:Cx)(e:fU)(t:TT):Prop:=
 ∀(b:Sem ez) (a:List (eh×Obj)) (s:eW) (c:St) (H:Hp) (Q:Bool->Hp->Prop),Inv X a c H s->t c H Q->wpAny (model X.prog X.w) X.A (isTrue e X.env b) (TP X a c Q) X.xe s
theorem PW.pt{X:Cx}{e:fU}{t:TT}(h:PW X e t):PT X e t:=h _
def PA(X:Cx)(es:List fU)(t:TA):Prop:=
 ∀(b:Pos) (a:List (eh×Obj)) (s:eW) (c:St) (H:Hp) (Q:List V->Hp->Prop),Inv X a c H s->t c H Q->wpAny (model X.prog X.w) X.A (spliced (backTo b (starEach es X.env))) (AP X a c Q) X.xe s
def PS(X:Cx)(st:fy)(t:TS):Prop:=
 ∀(a:List (eh×Obj)) (s:eW) (b:St) (H:Hp) (D:Ends),Inv X a b H s->t D b H->wpAny (model X.prog X.w) X.A (exec st X.env) (SP X a D) X.xe s
def nh(X:Cx)(st:List fy)(t:TS):Prop:=
 ∀(a:List (eh×Obj)) (s:eW) (b:St) (H:Hp) (D:Ends),Inv X a b H s->t D b H->wpAny (model X.prog X.w) X.A (execs st X.env) (SP X a D) X.xe s
theorem jG{c:Type}{t:Sem c}{Q b:c->eW->Prop}{M:xl}{A:ie}{E:ez->eW->Prop}{s:eW}(h:wpAny M A t Q E s)(e:∀a s,Q a s->b a s):wpAny M A t b E s:=ro h e λ_ _ x=>x
variable{X:Cx}{et:List (eh×Obj)}{σ:St}{H:Hp}{s:eW}
theorem thE{Q:VK}{t:Sem ez}{b:ez->eW->Prop}{M:xl}{A:ie}{E:ez->eW->Prop}(h:wpAny M A t (EP X et σ Q) E s)(k:∀u a v H',Inv X et σ H' a->RelV v u->Q v H'->b u a):wpAny M A t b E s:=jG h λu a h=>e2 h λv H' h=>d3 h (k u a v H')
theorem thA{Q:List V->Hp->Prop}{t:Sem (List ez)}{b:List ez->eW->Prop}{M:xl}{A:ie}{E:ez->eW->Prop}(h:wpAny M A t (AP X et σ Q) E s)(k:∀u a v H',Inv X et σ H' a->Vals v u->Q v H'->b u a):wpAny M A t b E s:=jG h λu a h=>e2 h λv H' h=>d3 h (k u a v H')
theorem thT{Q:Bool->Hp->Prop}{t:Sem Bool}{b:Bool->eW->Prop}{M:xl}{A:ie}{E:ez->eW->Prop}(h:wpAny M A t (TP X et σ Q) E s)(k:∀u a H',Inv X et σ H' a->Q u H'->b u a):wpAny M A t b E s:=jG h λu a h=>e1 h λH' h=>d2 h (k u a H')
theorem PE.th{e:fU}{t:TE}{Q:VK}{b:ez->eW->Prop}(h:PE X e t)(I:Inv X et σ H s)(w:t σ H Q)(k:∀u a v H',Inv X et σ H' a->RelV v u->Q v H'->b u a):wpAny (model X.prog X.w) X.A (eval e X.env) b X.xe s:=thE (h et s σ H Q I w) k
theorem PA.th{e:List fU}{t:TA}{a:Pos}{Q:List V->Hp->Prop}{b:List ez->eW->Prop}(h:PA X e t)(I:Inv X et σ H s)(w:t σ H Q)(k:∀u c v H',Inv X et σ H' c->Vals v u->Q v H'->b u c):wpAny (model X.prog X.w) X.A (spliced (backTo a (starEach e X.env))) b X.xe s:=thA (h a et s σ H Q I w) k
theorem PT.th{e:fU}{t:TT}{Q:Bool->Hp->Prop}{b:Bool->eW->Prop}(h:PT X e t)(I:Inv X et σ H s)(w:t σ H Q)(k:∀u a H',Inv X et σ H' a->Q u H'->b u a):wpAny (model X.prog X.w) X.A (isTrue e X.env (eval e X.env)) b X.xe s:=thT (h et s σ H Q I w) k
section
variable{X:Cx}
def acZ(i:Nat):TE:=λσ H Q=>∃v,σ[i]? =some (some v)/\Q v H
def tC(v:V):TE:=λ_ H Q=>Q v H
def adu{i:Nat}{x:Str}{j:Pos}(o:X.N[i]? =some x)(t:Vis X.env.scope x)(hd:(x==("__debug__":Str))=false:=by decide)(g:(x==("__classdict__":Str))=false:=by decide):PE X (.Name x j) (acZ i):=by
 intro et s σ H Q I h;obtain⟨v,e,h⟩:=h;obtain⟨m,p,w⟩:=I.loc;obtain⟨u,r,l⟩:=w i x v o e t;have b:EP X et σ Q u s:=⟨v,H,I,r,h⟩;rcases l with⟨f,q⟩|⟨f,c,n,a⟩
 .exact amq (wpAny_loadName_local I.ok.kind f p q b) hd
 .rcases f with f|f
  .exact amq (wpAny_loadName_cell I.ok.kind f n a b) hd
  .exact amq (wpAny_loadName_free I.ok.kind f n a b g) hd
theorem ag{i j a}:PE X (.Constant (.int i) j a) (tC (.int i)):=λ_ _ _ H _ I h=>alC ⟨.int i,H,I.tok _,⟨_,rfl⟩,h⟩
theorem cc{b j a}:PE X (.Constant (.bool b) j a) (tC (.bl b)):=λ_ _ _ H _ I h=>Constant_bool ⟨.bl b,H,I,rfl,h⟩
theorem fG{j a}:PE X (.Constant .none j a) (tC .non):=λ_ _ _ H _ I h=>Constant_none ⟨.non,H,I,rfl,h⟩
theorem aj{x j a}:PE X (.Constant (.str x) j a) (tC (.str x)):=λ_ _ _ H _ I h=>Calls.Constant_str ⟨.str x,H,I.tok _,⟨_,rfl⟩,h⟩
def Gl(X:Cx)(x:Str):Prop:=X.env.kindOf x=some .globalImplicit
theorem yM{E:ez->eW->Prop}{et:List (eh×Obj)}{s:eW}{σ:St}{H:Hp}{x:Str}{u:ez}{a:Pos}{Q:ez->eW->Prop}(I:Inv X et σ H s)(c:Gl X x)(b:X.mg x=some u)(h:Q u s)
  (hd:(x==("__debug__":Str))=false:=by decide):wpAny (model X.prog X.w) X.A (eval (.Name x a) X.env) Q E s:=
 aip I.ok.kind c (ajm (by rw[I.ok.glob];exact I.mod.glob.keeps I.bk) b h) hd
def xt{E:ez->eW->Prop}{et:List (eh×Obj)}{s:eW}{σ:St}{H:Hp}{x:Str}{u:ez}{a:Pos}{Q:ez->eW->Prop}(I:Inv X et σ H s)(g:Gl X x)(c:X.mg x=none)(f:bootBuiltins x=some u)(h:Q u s)
  (e:x≠"__name__":=by decide) (hd:(x==("__debug__":Str))=false:=by decide):wpAny (model X.prog X.w) X.A (eval (.Name x a) X.env) Q E s:=by
 obtain⟨j,i,b⟩:=I.mod.blt;exact aip I.ok.kind g (Calls.loadGlobal_builtin (by rw[I.ok.glob];exact I.mod.glob.keeps I.bk) c (by rw[I.ok.blt];exact i.keeps I.bk) ((b x e).trans f) h) hd
theorem Mi{x:Str}{v:V}{u:ez}{a:Pos}(c:Gl X x)(b:X.mg x=some u)(r:RelV v u)(hd:(x==("__debug__":Str))=false:=by decide):PE X (.Name x a) (tC v):=
 λ_ _ _ H _ I h=>yM I c b ⟨v,H,I,r,h⟩ hd
theorem aaO{x:Str}{v:V}{u:ez}{a:Pos}(b:Gl X x)(c:X.mg x=none)(f:bootBuiltins x=some u)(r:RelV v u)(e:x≠"__name__":=by decide)(hd:(x==("__debug__":Str))=false:=by decide):PE X (.Name x a) (tC v):=
 λ_ _ _ H _ I h=>xt I b c f ⟨v,H,I,r,h⟩ e hd
variable{a b:fU}{ta tb:TE}{pos:Pos}
def PC(X:Cx)(f:L1)(a b:fU)(t:TE):Prop:=
 ∀(et:List (eh×Obj)) (s:eW) (σ:St) (H:Hp) (Q:VK),Inv X et σ H s->t σ H Q→
  wpAny (model X.prog X.w) X.A (eval a X.env) (λv e=>wpAny (model X.prog X.w) X.A (eval b X.env) (λu c=>wpAny (model X.prog X.w) X.A (compareOp f v u) (EP X et σ Q) X.xe c) X.xe e) X.xe s
def tB(t:TE):TT:=λσ H Q=>t σ H λx e=>∃c,x=.bl c/\Q c e
theorem acR{c:L1}{t:TE}(h:PC X c a b t)(f:behindInMarks c b=false:=by first|exact nobehind _ ∅ ∅|rfl):PE X (.Compare a [c] [b] pos) t:=λet s σ H Q I e=>amA (h et s σ H Q I e) f
def ad4{e:L1}{t:TE}(h:PC X e a b t)(f:behindInMarks e b=false:=by first|exact nobehind _ ∅ ∅|rfl):PT X (.Compare a [e] [b] pos) (tB t):=by
 intro et s σ H Q I i;refine ak2 (jG (h et s σ H _ I i) λv w f=>jG f λu p n=>jG n λc r o=>?_) f;obtain⟨x,l,j,m,g⟩:=o;obtain⟨d,rfl,q⟩:=g;cases m;exact NW ⟨l,j,q⟩
def ba{e:fU}{t:TE}(h:PE X e t)(m:∀c,isTrue e X.env c=(do let v<-c;standAt e.pos;holding [v] (truthy v)):=by intro _;rfl):PT X e (tB t):=by
 intro et s σ H Q I g;refine isTrue_plain (h.th I g λv n x j i l f=>?_) (m _);obtain⟨d,rfl,q⟩:=f;cases l;exact NW ⟨j,i,q⟩
variable{tA tB':TT}{rest:List fU}
def afL(t u:TT):TT:=λσ H Q=>t σ H λc e=>if c=true then u σ e Q else Q false e
def tOr(t u:TT):TT:=λσ H Q=>t σ H λc e=>if c=true then Q true e else u σ e Q
def afS(t:TT):TT:=λσ H Q=>t σ H λc e=>Q (!c) e
def cQ(f:PT X a tA):PW X (.BoolOp .And [a] pos) tA:=by
 intro i et s σ H Q I h;refine isTrue_and (jG (f et s σ H Q I h) λc g e=>?_);cases c with
 |true=>exact isTrue_and_nil e
 |false=>exact e
def kU(f:PT X a tA):PW X (.BoolOp .Or [a] pos) tA:=by
 intro i et s σ H Q I h;refine isTrue_or (jG (f et s σ H Q I h) λc g e=>?_);cases c with
 |false=>exact isTrue_or_nil e
 |true=>exact e
def dA(j:PT X a tA)(m:PW X (.BoolOp .And (b::rest) pos) tB'):PW X (.BoolOp .And (a::b::rest) pos) (afL tA tB'):=by
 intro l et s σ H Q I h;refine isTrue_and (j.th I h λc i g f e=>?_);cases c with
 |true=>exact m l et i σ g Q f e
 |false=>exact⟨g,f,e⟩
def kB(j:PT X a tA)(m:PW X (.BoolOp .Or (b::rest) pos) tB'):PW X (.BoolOp .Or (a::b::rest) pos) (tOr tA tB'):=by
 intro l et s σ H Q I h;refine isTrue_or (j.th I h λc i g f e=>?_);cases c with
 |true=>exact⟨g,f,e⟩
 |false=>exact m l et i σ g Q f e
def cU(f:PT X a tA):PT X (.UnaryOp .Not a pos) (afS tA):=by
 intro et s σ H Q I h;exact isTrue_not (f et s σ H (λc e=>Q (!c) e) I h)
def aeQ(ta tb:TE):TE:=λσ H Q=>ta σ H λx e=>∃c,x=.bl c/\if c=true then tb σ e Q else Q (.bl false) e
def afs(ta tb:TE):TE:=λσ H Q=>ta σ H λx e=>∃c,x=.bl c/\if c=true then Q (.bl true) e else tb σ e Q
def afk(ta:TE):TE:=λσ H Q=>ta σ H λx e=>∃c,x=.bl c/\Q (.bl (!c)) e
theorem rm{e}{t:TE}(h:PE X a t):PE X (.BoolOp e [a] pos) t:=λet s σ H Q I c=>BoolOp_one (h et s σ H Q I c)
def uK(l:PE X a ta)(m:PE X (.BoolOp .And (b::rest) pos) tb):PE X (.BoolOp .And (a::b::rest) pos) (aeQ ta tb):=by
 intro et s σ H Q I h;refine BoolOp_and (l.th I h λv i x g f j e=>?_);obtain⟨c,rfl,e⟩:=e;cases j;refine NW ?_;cases c with
 |true=>exact m et i σ g Q f e
 |false=>exact⟨.bl false,g,f,rfl,e⟩
def acf(l:PE X a ta)(m:PE X (.BoolOp .Or (b::rest) pos) tb):PE X (.BoolOp .Or (a::b::rest) pos) (afs ta tb):=by
 intro et s σ H Q I h;refine BoolOp_or (l.th I h λv i x g f j e=>?_);obtain⟨c,rfl,e⟩:=e;cases j;refine NW ?_;cases c with
 |false=>exact m et i σ g Q f e
 |true=>exact⟨.bl true,g,f,rfl,e⟩
def NG(j:PE X a ta):PE X (.UnaryOp .Not a pos) (afk ta):=by
 intro et s σ H Q I h;refine UnaryOp_ (j.th I h λv l x g f i e=>?_);obtain⟨c,rfl,e⟩:=e;cases i;exact not_of (NW ⟨.bl (!c),g,f,rfl,e⟩)
def tIf(t:TT)(ta tb:TE):TE:=λσ H Q=>t σ H λc e=>if c=true then ta σ e Q else tb σ e Q
def oS{c:fU}(j:PT X c tA)(l:PE X a ta)(m:PE X b tb):PE X (.IfExp c a b pos) (tIf tA ta tb):=by
 intro et s σ H Q I h;refine wpAny_IfExp (j.th I h λd i g f e=>?_);cases d with
 |true=>exact l et i σ g Q f e
 |false=>exact m et i σ g Q f e
end
def eZ(K:fD)(H:Hp)(a:eh)(xs:List V):Prop:=
 Rd H a (.lst xs)∨
  ∃(o:Obj) (its:Array ez) (n:Nat),K.lookup a=some o/\o.cls=.type "list"/\o.dict=none/\o.data=.seq its n/\its.size<=sizeLine/\Vals xs its.toList
def iq(K:fD)(H:Hp)(a:eh)(xs:List V):Prop:=
 Rd H a (.tup xs)∨
  ∃(o:Obj) (its:Array ez) (n:Nat),K.lookup a=some o/\o.cls=.type "tuple"/\o.data=.seq its n/\its.size<=sizeLine/\Vals xs its.toList
def afT:ez->Option V
 |.none=>some .non
 |.bool b=>some (.bl b)
 |.int i _=>some (.int i)
 |.str x _=>some (.str x)
 |.bytes b _=>some (.byt b)
 |.float b _=>some (.flt b)
 |.ref a=>some (.ref a)
 |.type n=>some (.ty n)
 |_=>none
def RelV.abs{x:V}{u:ez}(r:RelV x u):afT u=some x:=by
 cases x with
 |non=>cases r;rfl
 |bl _=>cases r;rfl
 |int _=>obtain⟨t,rfl⟩:=r;rfl
 |str _=>obtain⟨t,rfl⟩:=r;rfl
 |byt _=>obtain⟨t,rfl⟩:=r;rfl
 |flt _=>obtain⟨t,rfl⟩:=r;rfl
 |ref _=>cases r;rfl
 |ty _=>cases r;rfl
theorem RelV.inj{x y:V}{u:ez}(r:RelV x u)(q:RelV y u):x=y:=hH (r.abs.symm.trans q.abs)
theorem Vals.inj:∀{xs ys:List V} {us:List ez},Vals xs us->Vals ys us->xs=ys
 |_,_,_,.nil,.nil=>rfl
 |_,_,_,.cons r t,.cons r' t'=>by rw[r.inj r',Vals.inj t t']
section
variable{X:Cx}{et:List (eh×Obj)}{σ:St}{H:Hp}{s:eW}{a:eh}{xs ys:List V}
theorem eZ.of{K:fD}(h:H a=some (.lst xs)):eZ K H a xs:= .inl (.inl h)
theorem iq.of{K:fD}(h:H a=some (.tup xs)):iq K H a xs:= .inl (.inl h)
def Inv.list(I:Inv X et σ H s)(h:eZ X.K H a xs):∃its:List ez,Vals xs its/\PlainL s.heap a its.toArray/\xs.length<=sizeLine:=by
 rcases h with h|⟨o,its,n,c,b,hd,hs,f,r⟩
 .obtain ⟨z,its,n,r,e⟩:=h.ok I.hok;exact⟨its,r,⟨_,n,e,rfl,rfl,rfl⟩,z⟩
 .refine ⟨its.toList,r,⟨o,n,I.ma a o c,b,hd,by simpa using hs⟩,?_⟩;have e:=r.length;simp only[ajX] at e
  lia
def Inv.tuple(I:Inv X et σ H s)(h:iq X.K H a xs):∃its:List ez,Vals xs its/\IsTup s.heap a its.toArray/\xs.length<=sizeLine:=by
 rcases h with h|⟨o,its,n,c,b,hs,f,r⟩
 .obtain ⟨z,its,r,p⟩:=h.ok I.hok;exact⟨its,r,p,z⟩
 .refine ⟨its.toList,r,⟨o,I.ma a o c,b,n,by simpa using hs⟩,?_⟩;have e:=r.length;simp only[ajX] at e
  lia
def Inv.BE(I:Inv X et σ H s)(h:eZ X.K H a xs)(h':eZ X.K H a ys):xs=ys:=by
 obtain⟨its,r,⟨o,n,e,_,_,d⟩,_⟩:=I.list h;obtain⟨its',f,⟨g,i,b,_,_,d'⟩,_⟩:=I.list h';rw[e] at b;cases b;rw[d] at d';injection d' with c _;have:its=its':=by simpa using hI amV c
 subst this;exact r.inj f
def Inv.US(I:Inv X et σ H s)(h:iq X.K H a xs)(h':iq X.K H a ys):xs=ys:=by
 obtain⟨its,r,⟨o,e,_,n,d⟩,_⟩:=I.tuple h;obtain⟨its',f,⟨g,b,_,i,d'⟩,_⟩:=I.tuple h';rw[e] at b;cases b;rw[d] at d';injection d' with c _;have:its=its':=by simpa using hI amV c
 subst this;exact r.inj f
end
abbrev Cx.JL(X:Cx)(E:ez->eW->Prop):Cx:={X with xe:=E}
abbrev Cx.ib(X:Cx):Cx:=X.JL λ_ _=>False
theorem Cx.Ok.JL{X:Cx}(ok:X.Ok)(E:ez->eW->Prop):(X.JL E).Ok:=
 ⟨ok.mod,ok.kind,ok.glob,ok.blt,ok.above,ok.inj,ok.has,ok.cab,ok.hd,ok.frames,ok.stk,ok.exf,ok.bs,ok.bsz,ok.LR,ok.Nf,ok.w6,ok.frf⟩
theorem Cx.Ok.wZ{X:Cx}{E:ez->eW->Prop}(ok:(X.JL E).Ok):X.Ok:=
 ⟨ok.mod,ok.kind,ok.glob,ok.blt,ok.above,ok.inj,ok.has,ok.cab,ok.hd,ok.frames,ok.stk,ok.exf,ok.bs,ok.bsz,ok.LR,ok.Nf,ok.w6,ok.frf⟩
section
variable{X:Cx}{et:List (eh×Obj)}{σ:St}{H:Hp}{s:eW}{E:ez->eW->Prop}
theorem Inv.JL(I:Inv X et σ H s)(E:ez->eW->Prop):Inv (X.JL E) et σ H s:=⟨I.ok.JL E,I.os,I.bare,I.dX,I.loc,I.cell,I.free,I.lL,I.pin,I.hok,I.len⟩
theorem Inv.wZ(I:Inv (X.JL E) et σ H s):Inv X et σ H s:=⟨I.ok.wZ,I.os,I.bare,I.dX,I.loc,I.cell,I.free,I.lL,I.pin,I.hok,I.len⟩
def SP.wZ{D:Ends}{f:Flow}{b:eW}(h:SP (X.JL E) et D f b):SP X et D f b:=by
 cases f with
 |next=>obtain⟨a,H',I,q⟩:=h;exact⟨a,H',I.wZ,q⟩
 |brk=>obtain⟨a,H',I,q⟩:=h;exact⟨a,H',I.wZ,q⟩
 |cont=>obtain⟨a,H',I,q⟩:=h;exact⟨a,H',I.wZ,q⟩
 |ret u=>obtain⟨v,a,H',I,r,q⟩:=h;exact⟨v,a,H',I.wZ,r,q⟩
theorem nh.ib{st:List fy}{t:TS}(h:nh X.ib st t):nh X st t:=λet s σ H D I a=>
 ro (h et s σ H D (I.JL _) a) (λ_ _ q=>q.wZ) λ_ _ z=>zl z
end
section
variable{X:Cx}{st:fy}{rest:List fy}{t u:TS}{e:fU}{te:TE}{pos:Pos}
def ae6:TS:=λD σ H=>D.nx σ H
def vT(t u:TS):TS:=λD σ H=>t {D with nx:=u D} σ H
theorem aw:nh X [] ae6:=λ_ _ σ H _ I h=>ajH ⟨σ,H,I,h⟩
def aa(i:PS X st t)(b:nh X rest u):nh X (st::rest) (vT t u):=by
 intro et s σ H D I h;refine amf (jG (i et s σ H {D with nx:=u D} I h) λf c q=>?_);cases f with
 |next=>
  obtain⟨a,H',g,q⟩:=q;exact b et c a H' D g q
 |ret v=>exact q
 |brk=>exact q
 |cont=>exact q
def ae(a:PS X st t):nh X [st] t:=by
 intro et s σ H D I h;refine amf (jG (a et s σ H D I h) λf b q=>?_);cases f with
 |next=>exact ajH q
 |ret v=>exact q
 |brk=>exact q
 |cont=>exact q
def Inv.quiet{et:List (eh×Obj)}{σ:St}{H:Hp}{s:eW}(I:Inv X et σ H s):interactive X.env=false:=by simp[interactive,I.ok.kind]
def aeI(te:TE):TS:=λD σ H=>te σ H λ_ a=>D.nx σ a
def aC(f:PE X e te)(hs:swapsWith e none pos.line X.env=pure false:=by rfl):PS X (.Expr e pos) (aeI te):=by
 intro et s σ H D I h;exact wpAny_Expr_any (f.th I h λv g x c b i a=>⟨σ,c,b,a⟩) I.quiet hs
def afB(te:TE):TS:=λD σ H=>te σ H D.rt
def ar(g:PE X e te):PS X (.Return (some e) pos) (afB te):=by
 intro et s σ H D I h;exact wpAny_Return_some (g.th I h λv i x c b f a=>⟨x,σ,c,b,f,a⟩)
def aeX:TS:=λD _ H=>D.rt .non H
theorem TU:PS X (.Return none pos) aeX:=λ_ _ σ H _ I h=>wpAny_Return_none ⟨.non,σ,H,I,rfl,h⟩
def afj(c:TT)(t u:TS):TS:=λD σ H=>c σ H λb a=>if b=true then t D σ a else u D σ a
def aH{c:fU}{a b:List fy}{g:TT}(n:PT X c g)(m:nh X a t)(o:nh X b u):PS X (.If c a b pos) (afj g t u):=by
 intro et s σ H D I h;refine wpAny_If (n.th I h λd l j i f=>?_);cases d with
 |true=>exact m et l σ j D i f
 |false=>exact o et l σ j D i f
def acA:TS:=λ_ _ _=>False
theorem xw:PS X st acA:=λ_ _ _ _ _ _ h=>h.elim
end
abbrev TG:=V->St->Hp->(St->Hp->Prop)->Prop
abbrev TGs:=List V->St->Hp->(St->Hp->Prop)->Prop
def PG(X:Cx)(a:fU)(t:TG):Prop:=
 ∀(et:List (eh×Obj)) (s:eW) (σ:St) (H:Hp) (v:V) (u:ez) (Q:St->Hp->Prop),Inv X et σ H s->RelV v u->t v σ H Q→
  wpAny (model X.prog X.w) X.A (assign a X.env u) (λ_ c=>∃b H',Inv X et b H' c/\Q b H') X.xe s
def PGs(X:Cx)(ts:List fU)(t:TGs):Prop:=
 ∀(et:List (eh×Obj)) (s:eW) (σ:St) (H:Hp) (vs:List V) (us:List ez) (Q:St->Hp->Prop),Inv X et σ H s->Vals vs us->t vs σ H Q→
  wpAny (model X.prog X.w) X.A (assignInOrder ((assignEach ts X.env).map (·.2)) us) (λ_ b=>∃a H',Inv X et a H' b/\Q a H') X.xe s
abbrev acD:=V->V->V->Hp->(Hp->Prop)->Prop
def acN(X:Cx)(t:acD):Prop:=
 ∀(et:List (eh×Obj)) (s:eW) (σ:St) (H:Hp) (o i v:V) (b a u:ez) (Q:Hp->Prop),Inv X et σ H s->RelV o b->RelV i a->RelV v u->t o i v H Q→
  wpAny (model X.prog X.w) X.A (setItem b a u) (λ_ c=>∃H',Inv X et σ H' c/\Q H') X.xe s
abbrev TIp:=V->V->Hp->VK->Prop
def PIp(X:Cx)(a:amg)(t:TIp):Prop:=
 ∀(et:List (eh×Obj)) (s:eW) (σ:St) (H:Hp) (x y:V) (v u:ez) (Q:VK),Inv X et σ H s->RelV x v->RelV y u->t x y H Q→
  wpAny (model X.prog X.w) X.A (inplaceOp a v u) (EP X et σ Q) X.xe s
section
variable{X:Cx}{pos:Pos}
def Bo(i:Nat):TG:=λv σ H Q=>Q (σ.set i (some v)) H
def cG{i:Nat}{x:Str}(b:X.N.Nodup)(c:X.N[i]? =some x)(a:Loc X.env.scope x)(e:X.fn x=true\/X.env.scope.names.lookup x=some .local:=by first|exact .inl rfl|exact .inr rfl|assumption):PG X (.Name x pos) (Bo i):=by
 intro et s σ H v u Q I r h;exact alW (IA I b c a r (λg f=>⟨_,H,f,h⟩) e)
def afW:TGs:=λvs σ H Q=>vs=[]/\Q σ H
def aff(t:TG)(u:TGs):TGs:=λvs σ H Q=>∃v r,vs=v::r/\t v σ H λa H'=>u r a H' Q
def L4:PGs X [] afW:=by
 intro et s σ H vs us Q I r h;obtain⟨e,h⟩:=h;subst e;cases r;exact assignInOrder_nil ⟨σ,H,I,h⟩
def lT{e:fU}{es:List fU}{t:TG}{u:TGs}(m:PG X e t)(f:PGs X es u)
  (hs:(assignEach (e::es) X.env).map (·.2)=assign e X.env::(assignEach es X.env).map (·.2):=by rfl):PGs X (e::es) (aff t u):=by
 intro et s σ H vs us Q I r h;obtain⟨v,n,e1,h⟩:=h;subst e1;cases r with
 |cons r b=>
  rw[hs];refine assignInOrder_cons (jG (m et s σ H _ _ _ I r h) λ_ j l=>?_);obtain⟨a,i,g,c⟩:=l;exact f et j a i _ _ Q g b c
def aft(K:fD)(n:Nat)(t:TGs):TG:=λv σ H Q=>∃a xs,v=.ref a/\iq K H a xs/\xs.length=n/\t xs σ H Q
def QJ{es:List fU}{k:Nat}{t:TGs}{n:Nat}(w:X.calm=true)(h:PGs X es t)
  (m:(assignEach es X.env).length=n:=by rfl) (c:(assignEach es X.env).findIdx? (·.1)=none:=by rfl):PG X (.Tuple es k pos) (aft X.K n t):=by
 intro et s σ H v u Q I r f;obtain⟨a,xs,e1,l,q,f⟩:=f;subst e1;cases r;obtain⟨its,g,i,x⟩:=I.tuple l;refine assign_Tuple_tuple (I.ok.hd w) i (by simp[m,<-q,g.length]) c λh' j=>?_;have p:Inv X et σ H {s with heap:=h'}:=I.kept (t':=s.toks) λb o e=>j b o (kx (ko e)) e;exact h et _ σ H xs _ Q p (by simpa using g) f
def afK(f a:TE)(t:acD):TG:=λv σ H Q=>f σ H λo b=>a σ b λi e=>t o i v e λc=>Q σ c
def HL{o i:fU}{e c:TE}{t:acD}(A:PE X o e)(l:PE X i c)(hs:acN X t)
  (B:∀v,assign (.Subscript o i pos) X.env v=(do
   let a<-holding [v] (eval o X.env)
   let b<-holding [v,a] (eval i X.env)
   standAt pos
   holding [v,a,b] (setItem a b v)
   release [v,a,b] []):=by intro _;rfl):PG X (.Subscript o i pos) (afK e c t):=by
 intro et s σ H v u Q I r h;rw[B];refine iV (ajt (A.th I h λa J x F p q f=>?_));refine iV (ajt (l.th p f λb m y g n j D=>?_));refine iV (akb (iV (ajt (jG (hs et m σ g x y v a b u _ n q j r D) λ_ G E=>?_))));obtain⟨C,w,z⟩:=E;exact wpAny_release ⟨σ,C,w,z⟩
def aaM(b:TE)(g:TG):TS:=λD σ H=>b σ H λx a=>g x σ a D.nx
def Dx{a e:fU}{b:TE}{g:TG}(m:PE X e b)(o:PG X a g)(hs:swapsWithSole [a] e pos.line X.env=pure false:=by rfl)(f:swappedStores [a] e X.env=pure none:=by rfl)
  (p:(assignEach [a] X.env).map (·.2)=[assign a X.env]:=by rfl):PS X (.Assign [a] e pos) (aaM b g):=by
 intro et s σ H D I h;refine wpAny_Assign_stores (m.th I h λv n x j i l c=>?_) hs f;rw[p];exact jG (o et n σ j x v _ i l c) λ_ r q=>q
def acH{i:Nat}{x:Str}{e:fU}{b:TE}{a:Pos}(f:X.N.Nodup)(g:X.N[i]? =some x)(p:Loc X.env.scope x)(o:PE X e b)(hs:swapsWith e (some (.Name x a)) pos.line X.env=pure false:=by rfl)(q:X.fn x=true\/X.env.scope.names.lookup x=some .local:=by first|exact .inl rfl|exact .inr rfl|assumption):
  PS X (.Assign [.Name x a] e pos) (aaM b (Bo i)):=by
 intro et s σ H D I h;refine wpAny_Assign_Name (o.th I h λv t y m l n c=>?_) hs;exact IA l f g p n (λr j=>⟨_,m,j,c⟩) q
end
section
variable{X:Cx}{pos:Pos}
def adH(c:TT)(g:TS):TS:=λD σ H=>∃W:Nat->St->Hp->Prop,(∃m,W m σ H)/\∀m σ H,W m σ H→
 c σ H λb e=>if b=true then ∃N:St->Hp->Prop,(∀a H',N a H'->∃f,f<m/\W f a H')/\g {D with nx:=N,ct:=N,bk:=D.nx} σ e else D.nx σ e
def Pw{c:fU}{g:List fy}{z:TT}{B:TS}(y:amJ (model X.prog X.w) X.A X.env X.xe)(Q:PT X c z)(M:nh X g B):PS X (.While c g [] pos) (adH z B):=by
 intro et s σ H D I h;obtain⟨W,⟨O,P⟩,turn⟩:=h;refine wpAny_While (codeAny_whileLoop (λn G=>∃i H',Inv X et i H' G/\W n i H') ?_ O ⟨σ,H,I,P⟩);rintro n K ⟨e,x,L,J⟩;refine aim y (thT (Q et K e x _ L (turn n e x J)) λb F E u m=>?_);cases b with
 |true=>
  obtain⟨N,C,m⟩:=m;rw[eT rfl];refine aim y (jG (M et F e E _ u m) λf R l=>?_);cases f with
  |next=>
   obtain⟨a,j,r,p⟩:=l;obtain⟨q,t,o⟩:=C a j p;exact⟨q,t,a,j,r,o⟩
  |cont=>
   obtain⟨a,j,r,p⟩:=l;obtain⟨q,t,o⟩:=C a j p;exact⟨q,t,a,j,r,o⟩
  |brk=>exact l
  |ret v=>exact l
 |false=>
  rw[eJ jt];exact ajH ⟨e,E,u,m⟩
end
structure It where
 go:Nat->Hp->Prop
 yld:Nat->Hp->V->Hp->Prop
 stop:Nat->Hp->Prop
def ky(X:Cx)(et:List (eh×Obj))(H:Hp)(b:eh):Prop:=
 H b=none/\b≠X.env.locals/\b∉X.fs/\(b∈X.ex\/X.s₀.heap.get? b=none)/\(∀x c,X.env.cells.lookup x=some c->c≠b)/\∀p∈X.pn++et,p.1≠b
def Inv.QI{X:Cx}{et:List (eh×Obj)}{σ:St}{H H':Hp}{s:eW}{b:eh}(I:Inv X et σ H s)(a:s.heap.objs.size<=b)(g:H' b=none):ky X et H' b:=by
 refine⟨g,ai9 (pD I.lt a),I.afN a,.inr (ait (je I.sz a)),λx c e z=>?_,λp f z=>?_⟩
 .obtain ⟨v,q⟩:=I.cell x c e;exact absurd (pD q.lt (by rwa[z])) (F6 _)
 .exact absurd (pD (ko (I.pin p f).1) (by rwa[z])) (F6 _)
structure Turn(P:hD)(w:gT)(K:fD)(tg:fU)(J:It)(fp:List eh)(it:eh)(tn:Nat->gm->Prop):Prop where
 mem:it∈fp
 obj:∀i h,tn i h->∀b∈fp,∃o,h.get? b=some o/\∀v,o.data≠ .cell v
 keep:∀i h h',tn i h->(∀b∈fp,∀o,h.get? b=some o->h'.get? b=some o)->tn i h'
 item:∀(X:Cx),X.prog=P->X.w=w->X.K=K->X.calm=true->∀(i:Nat) (et:List (eh×Obj)) (s:eW) (σ:St) (H:Hp) (E:ez->eW->Prop),Inv X et σ H s->(∀b∈fp,ky X et H b)->tn i s.heap->J.go i H→
  wpAny (model P w) X.A (pyNext (.ref it)) (λr s1=>∃u,r=some u∧
   wpAny (model P w) X.A (letOwnedTupleGo tg (.ref it) u) (λ_ s2=>∃x H',Inv X et σ H' s2/\RelV x u/\J.yld i H x H'/\tn (i+1) s2.heap/\∀b∈fp,H' b=none) E s1) E s
 done:∀(X:Cx),X.prog=P->X.w=w->X.K=K->X.calm=true->∀(i:Nat) (et:List (eh×Obj)) (s:eW) (σ:St) (H:Hp) (E:ez->eW->Prop),Inv X et σ H s->(∀b∈fp,ky X et H b)->tn i s.heap->J.stop i H→
  wpAny (model P w) X.A (pyNext (.ref it)) (λr s1=>r=none/\Inv X et σ H s1) E s
 self:∀(A:ie) (i:Nat) (s:eW) (Q:ez->eW->Prop) (E:ez->eW->Prop),tn i s.heap->Q (.ref it) s->wpAny (model P w) A (pyIter (.ref it)) Q E s
abbrev TI:=St->Hp->(It->Hp->Prop)->Prop
def PIE(X:Cx)(et:List (eh×Obj))(σ:St)(g:fU)(R:It->Hp->Prop)(a:ez)(e:eW):Prop:=
 ∃(it:eh) (f:List eh) (c:Nat->gm->Prop) (J:It) (H':Hp),a=.ref it/\Inv X et σ H' e/\Turn X.prog X.w X.K g J f it c/\c 0 e.heap/\(∀b∈f,ky X et H' b)/\R J H'
def PI(X:Cx)(e a:fU)(b:TI):Prop:=
 ∀(et:List (eh×Obj)) (s:eW) (σ:St) (H:Hp) (R:It->Hp->Prop),Inv X et σ H s->b σ H R→
  wpAny (model X.prog X.w) X.A (eval a X.env) (λv c=>wpAny (model X.prog X.w) X.A (pyIter v) (PIE X et σ e R) X.xe c) X.xe s
def Xx{M:xl}{A:ie}{E:ez->eW->Prop}{s:eW}{b:fU}{it:eh}{u:ez}{o:Obj}{n:String}{vs:Array ez}{Q:Unit->eW->Prop}(c:s.heap.get? it=some o)(e:o.cls=.type n)(hd:o.data=.fields vs)
    (f:["enumerate","zip","dict_itemiterator","dict_reverseitemiterator","odict_iterator","itertools.zip_longest","itertools.pairwise"].contains n=false) (a:Q .unit s):wpAny M A (letOwnedTupleGo b (.ref it) u) Q E s:=by
  unfold letOwnedTupleGo
  cases b<;>first
    |exact nr a
    | (cases u<;>first
        |exact nr a
        | (refine iV (wpAny_load c ?_)
           rw[e,hd];show wpAny M A (if (["enumerate","zip","dict_itemiterator","dict_reverseitemiterator","odict_iterator","itertools.zip_longest","itertools.pairwise"].contains n&&vs[0]? ==some (rawInt _))=true then _ else _) Q E s;rw[eJ (by intro h;rw[f,ED] at h;cases h)];exact nr a))
def Yn(K:fD)(a:eh):It:=
 ⟨λi H=>∃xs x,eZ K H a xs/\xs[i]? =some x,λi H x H'=>H'=H/\∀xs,eZ K H a xs->xs[i]? =some x,λi H=>∃xs,eZ K H a xs/\xs.length<=i⟩
def Mo(lo:Int)(n:Nat):It:=⟨λi _=>i<n,λi H x H'=>H'=H/\x=.int (lo+i),λi _=>n<=i⟩
def UH{P:hD}{w:gT}{K:fD}{M:fU}(a it:eh):Turn P w K M (Yn K a) [it] it (λi h=>h.IsListIter it a i) where
 mem:=by simp
 obj:=λi h st b f=>by
  have e:b=it:=by simpa using f
  subst e;obtain⟨o,e,c,d⟩:=st;exact⟨o,e,λv z=>by rw[d] at z;cases z⟩
 keep:=λi h h' st k=>st.at λo e=>k it (by simp) o e
 item:=by
  intro X y r A G i et s σ H E I l st n;subst y r A;obtain⟨xs,x,j,m⟩:=n;obtain⟨its,D,p,R⟩:=I.list j;obtain⟨u,T,L⟩:=D.get m;obtain⟨C,B,S,F,q,t⟩:=l it (by simp);refine wpAny_pyNext_list_item st p.isList (x:=u) (by simpa using T) λh' g Q=>?_;have N:Inv X et σ H {s with heap:=h'}:=I.turned (t':=s.toks) (λb o f e=>(Q.2 b f).trans e) C B F q t;obtain⟨o,e,c,d⟩:=id g;exact⟨u,rfl,Xx (s:={s with heap:=h'}) e c d ∅ ⟨x,H,N,L,⟨rfl,λys O=>by rwa[I.BE O j]⟩,g,λb f=>(l b f).1⟩⟩
 done:=by
  intro X y r A G i et s σ H E I l st n;subst y r A;obtain⟨xs,j,m⟩:=n;obtain⟨its,D,p,R⟩:=I.list j;obtain⟨C,B,S,F,q,t⟩:=l it (by simp);have U:=D.length;exact wpAny_pyNext_list_end (I.ok.hd G) st p.isList (by simp;lia) λh' J=>⟨rfl,I.turned (t':=s.toks) (λb o f e=>J b o f e) C B F q t⟩
 self:=λ_ _ _ _ _ st h=>wpAny_pyIter_listiter st h
def QL{P:hD}{w:gT}{K:fD}{B:fU}(it:eh)(lo:Int)(n:Nat):Turn P w K B (Mo lo n) [it] it (λi h=>akQ h it (lo+(i:Nat)*1) ((n:Int)-(i:Nat)) 1) where
 mem:=by simp
 obj:=λi h st b a=>by
  have e:b=it:=by simpa using a
  subst e
  exact⟨_,st,λv z=>by
   have G:am5 _=Data.cell v:=z;cases G⟩
 keep:=λi h h' st k=>k it (by simp) _ st
 item:=by
  intro X p l q x i et s σ H E I f st g;subst p l q;obtain⟨u,r,F,y,j,m⟩:=f it (by simp);have W:=am6 (prog:=X.prog) (w:=X.w) (I.ok.hd x) it lo 1 n;refine W.item i s _ _ g st λv h' tk D c kk=>?_;obtain⟨t,rfl⟩:=D;have C:Inv X et σ H {s with heap:=h',toks:=tk}:=I.turned (λb o a e=>kk b o (by simpa using a) e) u r y j m;refine⟨_,rfl,Xx (s:={s with heap:=h',toks:=tk}) (n:="range_iterator") c rfl rfl ∅ ⟨.int (lo+i),H,C,⟨t,?_⟩,⟨rfl,rfl⟩,c,λb a=>(f b a).1⟩⟩;rw[Int.mul_one]
 done:=by
  intro X p l q x i et s σ H E I f st g;subst p l q;obtain⟨u,r,F,y,j,m⟩:=f it (by simp);exact akR (I.ok.hd x) st (by have:n<=i:=g;lia) λh' A=>⟨rfl,I.turned (t':=s.toks) (λb o a e=>A b o a e) u r y j m⟩
 self:=λ_ _ _ _ _ st h=>akS st h
section
variable{X:Cx}{tg:fU}
def aeR(K:fD)(c:TE):TI:=λσ H R=>c σ H λx b=>∃a,x=.ref a/\(∃xs,eZ K b a xs)/\R (Yn K a) b
def ke{l:fU}{g:TE}(t:PE X l g):PI X tg l (aeR X.K g):=by
 intro et s σ H R I h;refine jG (t et s σ H _ I h) λv f u=>?_;obtain⟨x,m,c,n,i⟩:=u;obtain⟨a,e,⟨xs,j⟩,q⟩:=i;subst e;cases n;obtain⟨its,y,p,w⟩:=c.list j;refine ais p.isList ?_;refine⟨f.heap.objs.size,[f.heap.objs.size],_,_,m,rfl,c.kept (t':=f.toks) λb o e=>nc _ e,UH a _,⟨_,rx _ rfl,rfl,rfl⟩,λb r=>?_,q⟩;have e:b=f.heap.objs.size:=by simpa using r
 subst e;exact c.QI (fx _) (c.hok.fresh (fx _))
def Oj{et:List (eh×Obj)}{σ:St}{H:Hp}{s:eW}{R:It->Hp->Prop}{E:ez->eW->Prop}{lo a:Int}{t u v:Tok}{tk:Nat}(I:Inv X et σ H s)(j: -(2^62)<=lo)(i:lo<2^62)(g: -(2^62)<=a)(f:a<2^62)
  (q:R (Mo lo (a-lo).toNat) H):wpAny (model X.prog X.w) X.A (pyIter (.ref s.heap.objs.size)) (PIE X et σ tg R) E {s with heap:=s.heap.push {cls:= .type "range",data:= .fields #[.int lo t,.int a u,.int 1 v]},toks:=tk}:=by
 refine alD (am7 ..) (small_one j i g f) ?_;have c:Inv X et σ H {s with heap:=s.heap.push {cls:= .type "range",data:= .fields #[.int lo t,.int a u,.int 1 v]},toks:=tk}:=I.kept λb o e=>nc _ e
 refine⟨(s.heap.push {cls:= .type "range",data:= .fields #[.int lo t,.int a u,.int 1 v]}).objs.size,[(s.heap.push {cls:= .type "range",data:= .fields #[.int lo t,.int a u,.int 1 v]}).objs.size],_,_,H,rfl,
  c.kept (t':=tk) λb o e=>nc _ e,QL _ lo (a-lo).toNat,?_,λb h=>?_,q⟩
 .have e1:lo+((0:Nat):Int)*1=lo:=by simp
  have e2:(((a-lo).toNat:Nat):Int)-((0:Nat):Int)=aiA lo a 1:=by rw[rangeSize_one];split<;>lia
  show akQ _ _ (lo+((0:Nat):Int)*1) ((((a-lo).toNat:Nat):Int)-((0:Nat):Int)) 1;rw[e1,e2];exact rx _ rfl
 .have e:b=(s.heap.push {cls:= .type "range",data:= .fields #[.int lo t,.int a u,.int 1 v]}).objs.size:=by simpa using h
  subst e;exact c.QI (fx _) (c.hok.fresh (fx _))
def aeK(b:TA):TI:=λσ H R=>b σ H λvs a=>∃j:Int,vs=[.int j]/\ -(2^62)<=j/\j<2^62/\R (Mo 0 j.toNat) a
def aeJ(b:TA):TI:=λσ H R=>b σ H λvs a=>∃i j:Int,vs=[.int i,.int j]/\(-(2^62)<=i/\i<2^62/\ -(2^62)<=j/\j<2^62)/\R (Mo i (j-i).toNat) a
def jo{a:fU}{f:TA}{p c:Pos}(u:Gl X "range")(l:X.mg "range"=none)(i:PA X [a] f)(hs:starEach [a] X.env=[(false,eval a X.env)]:=by rfl):PI X tg (.Call (.Name "range" p) [a] [] c) (aeK f):=by
 intro et s σ H R I h;refine Call_ (xt I u l amr (ahR (i.th I h λus w vs v m n b=>?_) hs rfl));obtain⟨j,e,b,o,q⟩:=b;subst e;cases n with
 |cons r g=>
  cases g;obtain⟨t,rfl⟩:=r;exact call_range_1 (Oj m () () b o (by simpa using q))
def Em{a b:fU}{m:TA}{p l:Pos}(z:Gl X "range")(y:X.mg "range"=none)(x:PA X [a,b] m)(hs:starEach [a,b] X.env=[(false,eval a X.env),(false,eval b X.env)]:=by rfl)(c:starEach [b] X.env=[(false,eval b X.env)]:=by rfl):
  PI X tg (.Call (.Name "range" p) [a,b] [] l) (aeJ m):=by
 intro et s σ H R I h;refine Call_ (xt I z y amr (ahR (x.th I h λus C vs B o u f=>?_) (by rw[hs,c]) (by rw[c];rfl)));obtain⟨i,j,e,⟨f,A,w,v⟩,q⟩:=f;subst e;cases u with
 |cons r g=>
  cases g with
  |cons n g=>
   cases g;obtain⟨t,rfl⟩:=r;obtain⟨t',rfl⟩:=n;exact call_range_2 (Oj o f A w v q)
def afY(f:TI)(g:TG)(j:TS):TS:=λD σ H=>f σ H λJ e=>∃W:Nat->Nat->St->Hp->Prop,(∃m,W 0 m σ e)/\∀i m σ H,W i m σ H→
 (J.stop i H/\D.nx σ H)\/(J.go i H/\∃N:St->Hp->Prop,(∀a H',N a H'->∃c,c<m/\W (i+1) c a H')/\∀x H',J.yld i H x H'->g x σ H' λb h=>j {D with nx:=N,ct:=N,bk:=D.nx} b h)
def uS(a:List eh)(h:gm):List (eh×Obj):=a.filterMap λb=>(h.get? b).map λo=>(b,o)
theorem uY{a:List eh}{h:gm}{b:eh}{o:Obj}(c:b∈a)(e:h.get? b=some o):(b,o)∈uS a h:=alE.mpr ⟨b,c,by rw[e];rfl⟩
def Lk{a:List eh}{h:gm}{p:eh×Obj}(f:p∈uS a h):p.1∈a/\h.get? p.1=some p.2:=by
 obtain⟨b,g,e⟩:=alE.mp f;cases q:h.get? b with
 |none=>rw[q] at e;cases e
 |some o=>
  rw[q] at e;have c:(b,o)=p:=hH e;subst c;exact⟨g,q⟩
theorem Inv.pinned{et:List (eh×Obj)}{σ:St}{H:Hp}{s:eW}{a:List eh}(I:Inv X et σ H s)(l:∀b∈a,ky X et H b)(g:∀b∈a,∃o,s.heap.get? b=some o/\∀v,o.data≠ .cell v):Inv X (et++uS a s.heap) σ H s:=
 I.Gh λp i=>(ql.mp i).elim (λz=>I.pin p (wb _ z)) λz=>by
  obtain⟨f,e⟩:=Lk z;obtain⟨j,h,m,_⟩:=l p.1 f;obtain⟨o,c,d⟩:=g p.1 f;rw[e] at c;cases c;exact⟨e,j,h,m,d⟩
theorem Inv.Cd{et pl:List (eh×Obj)}{σ:St}{H:Hp}{s:eW}(I:Inv X (et++pl) σ H s):Inv X et σ H s:=I.Gh λp a=>I.pin p (wb _ (aiu _ a))
def kj{p:fU}{C:List fy}{wi:TI}{g:TG}{tb:TS}{R:Pos}(G:amJ (model X.prog X.w) X.A X.env X.xe)(hc:X.calm=true)(hi:PI X tg p wi)(hg:PG X tg g)(z:nh X C tb)
  (hs:∀x,foldedSetIterable p X.env x=pure x:=by intro _;rfl):PS X (.For tg p C [] R) (afY wi g tb):=by
 intro et s σ H D I h;refine wpAny_For (jG (hi et s σ H _ I h) λv s1 h1=>jG h1 λac s2 h2=>?_) hs;obtain⟨it,O,tn,J,H2,e,I2,T,Q,f2,W,⟨m0,w0⟩,turn⟩:=h2;subst e;have q:∀{H':Hp},(∀b∈O,H' b=none)->∀b∈O,ky X et H' b:=λhn b z=>⟨hn b z,(f2 b z).2⟩;refine codeAny_forLoop_any (λn s'=>∃i t H',Inv X et t H' s'/\tn i s'.heap/\(∀b∈O,H' b=none)/\W i n t H') ?_ m0 ⟨0,σ,H2,I2,Q,λb z=>(f2 b z).1,w0⟩;rintro n s3 ⟨i,j,P,I3,M,L,w3⟩;rcases turn i n j P w3 with⟨stop,qn⟩|⟨go,N,hN,step⟩
 .refine aim G (jG (T.done X rfl rfl rfl hc i et s3 j P X.xe I3 (q L) M stop) λr s4 E=>?_);obtain⟨U,I4⟩:=E;subst U;exact ajH ⟨j,P,I4,qn⟩
 .refine aim G (jG (T.item X rfl rfl rfl hc i et s3 j P X.xe I3 (q L) M go) λr s4 E=>?_);obtain⟨u,U,h4⟩:=E;subst U;refine aim G (jG h4 λ_ s5 E=>?_);obtain⟨x,H5,I5,r5,y5,F,ab⟩:=E;have Z:=I5.pinned (q ab) (T.obj _ _ F);refine aim G (jG (hg _ s5 j H5 x u _ Z r5 (step x H5 y5)) λ_ s6 E=>?_);obtain⟨Y,H6,I6,q6⟩:=E;refine aim G (jG (z _ s6 Y H6 _ I6 q6) λf S B=>?_)
  have y:∀{a:St} {l:Hp},Inv X (et++uS O s5.heap) a l S->N a l->∃m,m<n/\∃i t H',Inv X et t H' S/\tn i S.heap/\(∀b∈O,H' b=none)/\W i m t H':=λ{a l} c K=>by
   obtain⟨m',hm,w7⟩:=hN a l K;refine⟨m',hm,i+1,a,l,c.Cd,T.keep _ _ _ F λb z o e=>(c.pin (b,o) (wb _ (wb _ (uY z e)))).1,λb z=>?_,w7⟩;obtain⟨o,e,d⟩:=T.obj _ _ F b z;exact(c.pin (b,o) (wb _ (wb _ (uY z e)))).2.1
  cases f with
  |next=>obtain⟨a,l,c,K⟩:=B;exact y c K
  |cont=>obtain⟨a,l,c,K⟩:=B;exact y c K
  |brk=>obtain⟨a,l,c,B⟩:=B;exact⟨a,l,c.Cd,B⟩
  |ret v=>obtain⟨x7,a,l,c,r7,B⟩:=B;exact⟨x7,a,l,c.Cd,r7,B⟩
end
def kX{lo:Int}{n:Nat}{g:TG}{l:TS}{D:Ends}{σ:St}{H:Hp}(b:Nat->St->Hp->Prop)(o:b 0 σ H)
  (hs:∀i σ H,i<n->b i σ H->g (.int (lo+i)) σ H λc h=>l {D with nx:=b (i+1),ct:=b (i+1),bk:=D.nx} c h) (hd:∀σ H,b n σ H->D.nx σ H):
  ∃W:Nat->Nat->St->Hp->Prop,(∃m,W 0 m σ H)/\∀i m σ H,W i m σ H→
   ((Mo lo n).stop i H/\D.nx σ H)\/((Mo lo n).go i H/\∃N:St->Hp->Prop,(∀f H',N f H'->∃j,j<m/\W (i+1) j f H')/\∀x H',(Mo lo n).yld i H x H'->g x σ H' λc h=>l {D with nx:=N,ct:=N,bk:=D.nx} c h):=by
 refine⟨λi m σ H=>m=n-i/\i<=n/\b i σ H,⟨n,by simp,pI _,o⟩,?_⟩;rintro i m σ H ⟨rfl,r,p⟩;by_cases a:i<n
 .refine .inr ⟨a,b (i+1),λf H' q=>⟨n-(i+1),(),rfl,a,q⟩,λx H' y=>?_⟩;obtain⟨e,y⟩:=y;subst e y;exact hs i σ _ a p
 .have e:i=n:=by lia
  subst e;exact .inl ⟨fx _,hd σ H p⟩
abbrev R2:=V->V->Hp->VK->Prop
def kM(X:Cx)(f:ez->ez->Sem ez)(r:R2):Prop:=
 ∀(et:List (eh×Obj)) (s:eW) (σ:St) (H:Hp) (x y:V) (v u:ez) (Q:VK),Inv X et σ H s->RelV x v->RelV y u->r x y H Q→
  wpAny (model X.prog X.w) X.A (f v u) (EP X et σ Q) X.xe s
def UnR(X:Cx)(f:ez->Sem ez)(r:V->Hp->VK->Prop):Prop:=
 ∀(et:List (eh×Obj)) (s:eW) (σ:St) (H:Hp) (x:V) (v:ez) (Q:VK),Inv X et σ H s->RelV x v->r x H Q→
  wpAny (model X.prog X.w) X.A (f v) (EP X et σ Q) X.xe s
def sg(X:Cx)(f:ez)(r:List V->Hp->VK->Prop):Prop:=
 ∀(et:List (eh×Obj)) (s:eW) (σ:St) (H:Hp) (xs:List V) (us:List ez) (Q:VK),Inv X et σ H s->Vals xs us->r xs H Q→
  wpAny (model X.prog X.w) X.A (call f us) (EP X et σ Q) X.xe s
def NP(r:R2)(b e:TE):TE:=λσ H Q=>b σ H λx a=>e σ a λy c=>r x y c Q
def tUn(r:V->Hp->VK->Prop)(b:TE):TE:=λσ H Q=>b σ H λx a=>r x a Q
def rI(C:Int->Int->Prop)(g:Int->Int->V):R2:=λx y H Q=>∃i j,x=.int i/\y=.int j/\C i j/\Q (g i j) H
def GY(g:Int->Int->V):R2:=λx y H Q=>∃i j,x=.int i/\y=.int j/\Q (g i j) H
def rU(g:Int->V):V->Hp->VK->Prop:=λx H Q=>∃i,x=.int i/\Q (g i) H
section
variable{X:Cx}{a b c:fU}{ta tb tc:TE}{pos:Pos}
def ZD(t:PE X a ta)(r:PE X b tb){et:List (eh×Obj)}{s:eW}{σ:St}{H:Hp}{R:V->V->Hp->Prop}(I:Inv X et σ H s)
  (h:ta σ H λx l=>tb σ l λy e=>R x y e) {Q:ez->eW->Prop} {f:ez->ez->Sem ez}
  (z:∀v u j x y e,Inv X et σ e j->RelV x v->RelV y u->R x y e->wpAny (model X.prog X.w) X.A (f v u) Q X.xe j):
  wpAny (model X.prog X.w) X.A (eval a X.env) (λv i=>wpAny (model X.prog X.w) X.A (eval b X.env) (λu g=>wpAny (model X.prog X.w) X.A (f v u) Q X.xe g) X.xe i) X.xe s:=by
 refine t.th I h λv C x l p q m=>?_;refine r.th p m λu j y e o n B=>?_;exact z v u j x y e o q n B
def aB{e:amg}{r:R2}(f:kM X (binaryOp e) r)(j:PE X a ta)(o:PE X b tb):PE X (.BinOp a e b pos) (NP r ta tb):=by
 intro et s σ H Q I h;exact wpAny_BinOp (ZD j o I h λv u l x y g m i n q=>f et l σ g x y v u Q m i n q)
def CI{e:UnaryOp}{r:V->Hp->VK->Prop}(j:UnR X (unaryOp e) r)(n:PE X a ta):PE X (.UnaryOp e a pos) (tUn r ta):=by
 intro et s σ H Q I h;exact UnaryOp_ (n.th I h λv l x i g m f=>j et l σ i x v Q g m f)
def opI{f:ez->ez->Sem ez}{C:Int->Int->Prop}{g:Int->Int->Int}
  (e:∀(i j:Int) (t u:Tok) (s:eW) (Q:ez->eW->Prop) (E:ez->eW->Prop),C i j->Q (.int (g i j) s.toks) {s with toks:=s.toks+1}->wpAny (model X.prog X.w) X.A (f (.int i t) (.int j u)) Q E s):
  kM X f (rI C λi j=>.int (g i j)):=by
 intro et s σ H x y v u Q I l n h;obtain⟨i,j,rfl,rfl,m,q⟩:=h;obtain⟨t,rfl⟩:=l;obtain⟨t',rfl⟩:=n;exact e i j t t' s _ _ m ⟨.int (g i j),H,I.tok _,⟨_,rfl⟩,q⟩
def aas{f:ez->ez->Sem ez}{g:Int->Int->Int}
  (e:∀(i j:Int) (t u:Tok) (s:eW) (Q:ez->eW->Prop) (E:ez->eW->Prop),Q (.int (g i j) s.toks) {s with toks:=s.toks+1}->wpAny (model X.prog X.w) X.A (f (.int i t) (.int j u)) Q E s):
  kM X f (GY λi j=>.int (g i j)):=by
 intro et s σ H x y v u Q I l m h;obtain⟨i,j,rfl,rfl,q⟩:=h;obtain⟨t,rfl⟩:=l;obtain⟨t',rfl⟩:=m;exact e i j t t' s _ _ ⟨.int (g i j),H,I.tok _,⟨_,rfl⟩,q⟩
def aa8{f:ez->ez->Sem ez}{g:Int->Int->Bool}
  (e:∀(i j:Int) (t u:Tok) (s:eW) (Q:ez->eW->Prop) (E:ez->eW->Prop),Q (.bool (g i j)) s->wpAny (model X.prog X.w) X.A (f (.int i t) (.int j u)) Q E s):
  kM X f (GY λi j=>.bl (g i j)):=by
 intro et s σ H x y v u Q I l m h;obtain⟨i,j,rfl,rfl,q⟩:=h;obtain⟨t,rfl⟩:=l;obtain⟨t',rfl⟩:=m;exact e i j t t' s _ _ ⟨.bl (g i j),H,I,rfl,q⟩
def ae3(i j:Int):Prop:=0<j/\j<1073741824
def afM(i j:Int):Prop:=0<=j/\j<=1000000/\i.natAbs<2^64
def adW(i j:Int):Prop:=(-(2^64)<i/\i<2^64)\/(-(2^64)<j/\j<2^64)
def adW.ok{i j:Int}(h:adW i j):IntMulOk i j:=by
 rcases h with⟨f,e⟩|⟨f,e⟩
 .exact .of_left (amM f e)
 .exact .of_right (amM f e)
theorem fR:kM X (binaryOp .Add) (GY λi j=>.int (i+j)):=aas λ_ _ _ _ _ _ _ q=>add_int q
theorem A7:kM X (binaryOp .Sub) (GY λi j=>.int (i-j)):=aas λ_ _ _ _ _ _ _ q=>sub_int q
theorem adz:kM X (binaryOp .Mult) (rI adW λi j=>.int (i*j)):=opI λ_ _ _ _ _ _ _ e q=>mul_int q e.ok
theorem cZ:kM X (binaryOp .FloorDiv) (rI ae3 λi j=>.int (i/j)):=opI λi j _ _ _ _ _ e q=>by
 have g:(0:Int)<j:=e.1;have f:j<1073741824:=e.2;exact floordiv_int () (by rwa[Int.fdiv_eq_ediv_of_nonneg i ()]) (.inl (akT ()))
theorem bF:kM X (binaryOp .Mod) (rI (λ_ j=>0<j) λi j=>.int (i%j)):=opI λi j _ _ _ _ _ e q=>by
 have f:(0:Int)<j:=e;exact mod_int' () (by rwa[Int.fmod_eq_emod_of_nonneg i ()])
theorem Wj:kM X (binaryOp .LShift) (rI afM λi j=>.int (i*2^j.toNat)):=opI λ_ _ _ _ _ _ _ e q=>lshift_int_small e.1 e.2.1 e.2.2 q
theorem Gj:kM X (binaryOp .BitAnd) (GY λi j=>.int (wh i j)):=aas λ_ _ _ _ _ _ _ q=>and_int q
theorem ae0:kM X (binaryOp .BitOr) (GY λi j=>.int (aju i j)):=aas λ_ _ _ _ _ _ _ q=>or_int q
def unI{f:ez->Sem ez}{g:Int->Int}
  (e:∀(i:Int) (t:Tok) (s:eW) (Q:ez->eW->Prop) (E:ez->eW->Prop),Q (.int (g i) s.toks) {s with toks:=s.toks+1}->wpAny (model X.prog X.w) X.A (f (.int i t)) Q E s):
  UnR X f (rU λi=>.int (g i)):=by
 intro et s σ H x v Q I j h;obtain⟨i,rfl,q⟩:=h;obtain⟨t,rfl⟩:=j;exact e i t s _ _ ⟨.int (g i),H,I.tok _,⟨_,rfl⟩,q⟩
theorem wC:UnR X (unaryOp .USub) (rU λi=>.int (-i)):=unI λ_ _ _ _ _ q=>neg_int q
theorem adL:UnR X (unaryOp .Invert) (rU λi=>.int (aiv i)):=unI λ_ _ _ _ _ q=>invert_int q
end
def afr:V->V->Bool
 |.non,.non=>true| .non,.int _=>true| .int _,.non=>true| .non,.bl _=>true| .bl _,.non=>true| .non,.str _=>true| .str _,.non=>true
 |.int _,.int _=>true| .bl _,.bl _=>true| .str _,.str _=>true| .byt _,.byt _=>true
 |.int _,.str _=>true| .str _,.int _=>true| .bl _,.str _=>true| .str _,.bl _=>true
 |_,_=>false
def rEq:R2:=λx y H Q=>afr x y=true/\Q (.bl (decide (x=y))) H
def rNe:R2:=λx y H Q=>afr x y=true/\Q (.bl (!decide (x=y))) H
def SV{i j:Int}:decide (V.int i=V.int j)=(i==j):=by
 rw[qj];simp
def XF{i j:Bool}:decide (V.bl i=V.bl j)=(i==j):=by
 rw[qj];simp
def SJ{i j:Str}:decide (V.str i=V.str j)=(i==j):=by
 rw[qj];simp
def Ua{i j:Array UInt8}:decide (V.byt i=V.byt j)=(i.toList==j.toList):=by
 rw[qj];cases i;cases j;simp
section
variable{X:Cx}{a b c:fU}{ta tb tc:TE}{pos:Pos}
def bP{et:List (eh×Obj)}{σ:St}{H:Hp}{s:eW}{Q:VK}{k f:Bool}(I:Inv X et σ H s)(q:Q (.bl k) H)(e:k=f):EP X et σ Q (.bool f) s:=by
 subst e;exact⟨.bl k,H,I,rfl,q⟩
def bM:kM X (compareOp .Eq) rEq:=by
 intro et s σ H x y v u Q I f e h;obtain⟨hs,q⟩:=h;cases x with
 |non=>
  cases f;cases y with
  |non=>cases e;exact PySem.EqNone.eq_none_none (bP I q (by simp))
  |bl j=>cases e;exact PySem.EqNone.eq_none_bool (bP I q (by simp))
  |int j=>obtain⟨t',rfl⟩:=e;exact PySem.EqNone.eq_none_int (bP I q (by simp))
  |str j=>obtain⟨t',rfl⟩:=e;exact PySem.EqNone.eq_none_str (bP I q (by simp))
  |_=>exact absurd (show false=true from hs) jt
 |bl i=>
  cases f;cases y with
  |non=>cases e;exact PySem.EqNone.eq_bool_none (bP I q (by simp))
  |bl j=>cases e;exact eq_bool (bP I q XF)
  |str j=>obtain⟨t',rfl⟩:=e;exact PySem.EqMixed.eq_bool_str (bP I q (by simp))
  |_=>exact absurd (show false=true from hs) jt
 |int i=>
  obtain⟨t,rfl⟩:=f;cases y with
  |non=>cases e;exact PySem.EqNone.eq_int_none (bP I q (by simp))
  |int j=>obtain⟨t',rfl⟩:=e;exact eq_int (bP I q SV)
  |str j=>obtain⟨t',rfl⟩:=e;exact PySem.EqMixed.eq_int_str (bP I q (by simp))
  |_=>exact absurd (show false=true from hs) jt
 |str i=>
  obtain⟨t,rfl⟩:=f;cases y with
  |non=>cases e;exact PySem.EqNone.eq_str_none (bP I q (by simp))
  |bl j=>cases e;exact PySem.EqMixed.eq_str_bool (bP I q (by simp))
  |int j=>obtain⟨t',rfl⟩:=e;exact PySem.EqMixed.eq_str_int (bP I q (by simp))
  |str j=>obtain⟨t',rfl⟩:=e;exact eq_str (bP I q SJ)
  |_=>exact absurd (show false=true from hs) jt
 |byt i=>
  obtain⟨t,rfl⟩:=f;cases y with
  |byt j=>obtain⟨t',rfl⟩:=e;exact PySem.W.eq_bytes (bP I q Ua)
  |_=>exact absurd (show false=true from hs) jt
 |_=>cases y<;>exact absurd (show false=true from hs) jt
def qp:kM X (compareOp .NotEq) rNe:=by
 intro et s σ H x y v u Q I f e h;obtain⟨hs,q⟩:=h;cases x with
 |non=>
  cases f;cases y with
  |non=>cases e;exact PySem.EqNone.ne_none_none (bP I q (by simp))
  |bl j=>cases e;exact PySem.EqNone.ne_none_bool (bP I q (by simp))
  |int j=>obtain⟨t',rfl⟩:=e;exact PySem.EqNone.ne_none_int (bP I q (by simp))
  |str j=>obtain⟨t',rfl⟩:=e;exact PySem.EqNone.ne_none_str (bP I q (by simp))
  |_=>exact absurd (show false=true from hs) jt
 |bl i=>
  cases f;cases y with
  |non=>cases e;exact PySem.EqNone.ne_bool_none (bP I q (by simp))
  |bl j=>cases e;exact ne_bool (bP I q (hI not XF))
  |str j=>obtain⟨t',rfl⟩:=e;exact PySem.EqMixed.ne_bool_str (bP I q (by simp))
  |_=>exact absurd (show false=true from hs) jt
 |int i=>
  obtain⟨t,rfl⟩:=f;cases y with
  |non=>cases e;exact PySem.EqNone.ne_int_none (bP I q (by simp))
  |int j=>obtain⟨t',rfl⟩:=e;exact ne_int (bP I q (hI not SV))
  |str j=>obtain⟨t',rfl⟩:=e;exact PySem.EqMixed.ne_int_str (bP I q (by simp))
  |_=>exact absurd (show false=true from hs) jt
 |str i=>
  obtain⟨t,rfl⟩:=f;cases y with
  |non=>cases e;exact PySem.EqNone.ne_str_none (bP I q (by simp))
  |bl j=>cases e;exact PySem.EqMixed.ne_str_bool (bP I q (by simp))
  |int j=>obtain⟨t',rfl⟩:=e;exact PySem.EqMixed.ne_str_int (bP I q (by simp))
  |str j=>obtain⟨t',rfl⟩:=e;exact ne_str (bP I q (hI not SJ))
  |_=>exact absurd (show false=true from hs) jt
 |byt i=>
  obtain⟨t,rfl⟩:=f;cases y with
  |byt j=>obtain⟨t',rfl⟩:=e;exact PySem.W.ne_bytes (bP I q (hI not Ua))
  |_=>exact absurd (show false=true from hs) jt
 |_=>cases y<;>exact absurd (show false=true from hs) jt
theorem oI:kM X (compareOp .Lt) (GY λi j=>.bl (decide (i<j))):=aa8 λ_ _ _ _ _ _ _ q=>lt_int q
theorem ach:kM X (compareOp .LtE) (GY λi j=>.bl (decide (i<=j))):=aa8 λ_ _ _ _ _ _ _ q=>le_int q
theorem Cp:kM X (compareOp .Gt) (GY λi j=>.bl (decide (j<i))):=aa8 λ_ _ _ _ _ _ _ q=>gt_int q
theorem ab2:kM X (compareOp .GtE) (GY λi j=>.bl (decide (j<=i))):=aa8 λ_ _ _ _ _ _ _ q=>ge_int q
def Vp:kM X (compareOp .In) (λx y H Q=>∃i j,x=.str i/\y=.str j/\Q (.bl (!(aiB j i 0 j.length 1).isEmpty)) H):=by
 intro et s σ H x y v u Q I e f h;obtain⟨i,j,rfl,rfl,q⟩:=h;obtain⟨t,rfl⟩:=e;obtain⟨t',rfl⟩:=f;exact in_str (bP I q rfl)
def DS:kM X (compareOp .Is) (λx y H Q=>y=.non/\Q (.bl (decide (x=.non))) H):=by
 intro et s σ H x y v u Q I e f h;obtain⟨rfl,q⟩:=h;cases f;refine is_none_gen (bP I q ?_)
 cases x<;>first
  |(cases e;rfl)
  |(obtain⟨t,rfl⟩:=e;rfl)
def Tv:kM X (compareOp .IsNot) (λx y H Q=>y=.non/\Q (.bl (!decide (x=.non))) H):=by
 intro et s σ H x y v u Q I e f h;obtain⟨rfl,q⟩:=h;cases f;refine isnot_none_gen (bP I q ?_)
 cases x<;>first
  |(cases e;rfl)
  |(obtain⟨t,rfl⟩:=e;rfl)
def HE(b:fU){e:L1}(h:e≠ .In:=by decide)(f:e≠ .NotIn:=by decide):behindInMarks e b=false:=by
 have e1:(e==CmpOp.In)=false:=by cases e<;>first|rfl|exact absurd rfl h
 have e2:(e==CmpOp.NotIn)=false:=by cases e<;>first|rfl|exact absurd rfl f
 cases b<;>simp[behindInMarks,e1,e2]
def Tf{e:L1}{r:R2}(f:kM X (compareOp e) r)(j:PE X a ta)(p:PE X b tb)(l:behindInMarks e b=false):PE X (.Compare a [e] [b] pos) (NP r ta tb):=by
 intro et s σ H Q I h;exact amA (ZD j p I h λv u m x y g n i o q=>f et m σ g x y v u Q n i o q) l
def abO(t:TE):TT:=λσ H Q=>t σ H λx H'=>∃k,x=.bl k/\Q k H'
def Gd{f:L1}{r:R2}(i:kM X (compareOp f) r)(m:PE X a ta)(F:PE X b tb)(o:behindInMarks f b=false):PT X (.Compare a [f] [b] pos) (abO (NP r ta tb)):=by
 intro et s σ H Q I h
 refine ak2 (m.th I h λv K x G t w g=>F.th t g λu p y j q l A=>
  thE (i et p σ j x y v u _ q w l A) λc J z B D C E=>?_) o
 obtain⟨k,e,n⟩:=E;subst e;cases C;exact NW ⟨B,D,n⟩
def ac7(r h:R2)(ta tb tc:TE):TE:=λσ H Q=>ta σ H λx j=>tb σ j λy f=>r x y f λz e=>∃k,z=.bl k∧
 (if k=true then tc σ e λi g=>h y i g Q else Q (.bl false) e)
def Yd{i f:L1}{r l:R2}(J:kM X (compareOp i) r)(g:kM X (compareOp f) l)(K:PE X a ta)(G:PE X b tb)(N:PE X c tc)
  (L:lastMarks [i,f] [b,c]=false:=by with_unfolding_all rfl):PE X (.Compare a [i,f] [b,c] pos) (ac7 r l ta tb tc):=by
 intro et s σ H Q I h
 refine Compare_chain (K.th I h λv Y x U B D o=>chain_link (G.th B o λu q y p A j R=>
  thE (J et q σ p x y v u _ A D j R) λd W z M m E T=>?_)) L
 obtain⟨k,e,n⟩:=T;subst e;cases E;refine NW ?_;cases k with
 |false=>exact ite_ff ⟨.bl false,M,m,rfl,n⟩
 |true=>exact ite_tt (chain_last (N.th m n λw S O t P C F=>g et S σ t y O u w Q P j C F))
def IZ:(sizeLine:Nat)<2^63:=by rw[GX];decide
def oM:kM X (binaryOp .Add) (λx y H Q=>∃i j,x=.str i/\y=.str j/\i.length+j.length<=sizeLine/\Q (.str (i++j)) H):=by
 intro et s σ H x y v u Q I e g h;obtain⟨i,j,rfl,rfl,f,q⟩:=h;obtain⟨t,rfl⟩:=e;obtain⟨t',rfl⟩:=g;exact add_str (λt' tk=>⟨.str (i++j),H,I.tok _,⟨_,rfl⟩,q⟩) f
def WI(b:fU):Prop:=∀o i,subscripted b false o i=operate [o,i] (getItem o i)
def qt(p:PE X a ta)(n:PE X b tb)(hs:WI b):
  PE X (.Subscript a b pos) (NP (λx y H Q=>∃z i c,x=.str z/\y=.int i/\0<=i/\i<2^63/\i<z.length/\z.cps[i.toNat]? =some c/\Q (.str ⟨#[c]⟩) H) ta tb):=by
 intro et s σ H Q I h;refine alh (ZD p n I h λv u j x y f l g w q=>?_);obtain⟨z,i,c,rfl,rfl,m,o,A,r,q⟩:=q;obtain⟨t,rfl⟩:=g;obtain⟨t',rfl⟩:=w;have e:seqIndex? i z.length=some i.toNat:=PySem.StrLaws.seqIndex_nonneg m A
 exact tail_any (aji j z t) slot_str_getitem.lookup (getItem_str (c:=c) (by
  have e1:decide (i < -(2^63:Int))=false:=ik ();have e2:decide (i>=2^63)=false:=ik ();rw[e1,e2]<;>rfl) (by rwa[e]) ⟨.str ⟨#[c]⟩,f,l.tok _,⟨_,rfl⟩,q⟩) (hs _ _)
def vals1{x:V}{us:List ez}(r:Vals [x] us):∃u,us=[u]/\RelV x u:=by
 cases r with
 |cons e f=>cases f;exact⟨_,rfl,e⟩
def vals2{x y:V}{us:List ez}(r:Vals [x,y] us):∃u e,us=[u,e]/\RelV x u/\RelV y e:=by
 cases r with
 |cons f h=>
  cases h with
  |cons g i=>cases i;exact⟨_,_,rfl,f,g⟩
def Ue(f:X.calm=true):sg X (.builtin "min") (λxs H Q=>∃i j,xs=[.int i,.int j]/\Q (.int (if j<i then j else i)) H):=by
 intro et s σ H xs us Q I r h;obtain⟨i,j,rfl,q⟩:=h;obtain⟨u,g,rfl,⟨t,rfl⟩,⟨t',rfl⟩⟩:=vals2 r;refine min_two_ints (I.ok.hd f) λh' tk k=>⟨_,H,I.kept k,?_,q⟩;by_cases e:j<i
 .rw[eT e,eT e];exact⟨_,rfl⟩
 .rw[eJ e,eJ e];exact⟨_,rfl⟩
def bN:sg X (.type "str") (λxs H Q=>∃i,xs=[.int i]/\i.natAbs.log2<1920/\Q (.str (toString i)) H):=by
 intro et s σ H xs us Q I r h;obtain⟨i,rfl,e,q⟩:=h;obtain⟨u,rfl,t,rfl⟩:=vals1 r;exact PySem.P.str_of_int e ⟨.str _,H,I.tok _,⟨_,rfl⟩,q⟩
end
structure R9(h:gm)(x dx C:eh)(mA:Str->Option ez):Prop where
 obj:h.get? x=some (NC C dx)
 ns:h.Ns1 dx mA
 ne:dx≠x
def Vo{h:gm}{f:eh}{g:Str->Option ez}(n:h.Ns1 f g):∃c,h.get? f=some c/\∀name,aj0 name c=some (g name):=by
 obtain⟨o,es,r,j,hd,l,_,m⟩:=n;refine⟨o,j,λname=>?_⟩;have e:=m name;unfold nsFind findBy at e;rw[<- Array.find?_toList] at e;unfold aj0;rw[hd];dsimp only
 split
 .rename_i y q
  rw[q] at e;exact hI some e
 .rename_i q
  rw[q] at e
  have a:es.toList.any (·.refKey)=false:=by
   rw[List.any_eq_false];intro y i;obtain⟨z,t,b⟩:=l y (Array.mem_toList_iff.mp i);simp[DictEntry.refKey,b]
  have p:¬es.toList.any (·.refKey)=true:=by rw[a];exact jt
  rw[eJ p];exact hI some e
theorem R9.look{h:gm}{x c C:eh}{b:Str->Option ez}(I:R9 h x c C b):∃a,amB h x (NC C c) C (some a)/\∀name,aj0 name a=some (b name):=
 let ⟨a,ho,hl⟩:=Vo I.ns
 ⟨a,⟨I.obj,rfl,rfl,ho⟩,hl⟩
section
variable{prog:hD}{w:gT}{A:ie}{E:ez->eW->Prop}{s:eW}{K:fD}{x dx C f:eh}{mA:Str->Option ez}{name:Str}{v:ez}
def get_map{a:Bool}{Q:ez->eW->Prop}(X:K.In s.heap)(I:R9 s.heap x dx C mA)(g:aiW K C name=true)(e:ajp K C=true)
  (i:pq K (.ref C) name=some none) (j:mA name=some v) (b:amh v=true) (h:Q v {s with toks:=s.toks+1}):
  wpAny (model prog w) A (getAttr (.ref x) name a) Q E s:=by
 obtain⟨l,J,c⟩:=I.look;exact PySem.W.get_value X J (ajY g).1 (PySem.W.findObj_own e i rfl (by rw[c,j])) b h
def Yh{pl:Sem Bool}{Q:ez×List ez->eW->Prop}(X:K.In s.heap)(I:R9 s.heap x dx C mA)(a:aiW K C name=true)
  (b:pq K (.ref C) name=some (some (.ref f))) (c:akw K (.ref f)=true) (i:mA name=none) (h:Q (.ref f,[.ref x]) s):
  wpAny (model prog w) A (getMethod (.ref x) name pl) Q E s:=by
 obtain⟨e,J,g⟩:=I.look;exact PySem.W.method_fn X J (ajY a).1 (ajY a).2 b (rz.mp c) (by show(aj0 name e).map (·.isSome)=some false;rw[g,i];rfl) h
def abo{ns:List Str}{Q:Unit->eW->Prop}(X:K.In s.heap)(I:R9 s.heap x dx C mA)
  (hs:pq K (.ref C) "__setattr__"=some (some (.builtin "object.__setattr__"))) (u:akl K C=true) (q:akI K C name=some none) (m:ajp K C=true)
  (n:alB mA ns) (hsz:ns.length<=sizeLine)
  (h:∀h',R9 h' x dx C (λy=>if y=name then some v else mA y)->akv dx s.heap h'->Q .unit {s with heap:=h',toks:=s.toks+2}):
  wpAny (model prog w) A (setAttr (.ref x) name v) Q E s:=by
 obtain⟨B,J,G⟩:=I.look;refine PySem.W.set_plain X J hs (PySem.W.osa_open (s:={s with toks:=s.toks+1}) (r:=none) X J u q λb=>?_);obtain⟨D,z,j⟩:=PySem.W.any_some m;have t:s.heap.get? x=some ⟨.ref C,some dx,.plain,#[]⟩:=I.obj;refine iV (nr (iV (iV (amC t (iV (PySem.W.Looks.here (s:={s with toks:=s.toks+1}) (PySem.W.looks_clsIn X z) ?_))))));rw[j];refine nr (a:=some dx) (iV (nr (iV ?_)));refine wpAny_nsSet1 (s:={s with toks:=s.toks+1}) I.ns λh' c e=>?_;obtain⟨F,p,o,l,i,g⟩:=c.count (PySem.Within.cons name v n);refine iV (wpAny_lookBehind l (by rw[i];exact pastItsLine_dict (je g (by rw[qV];lia))) ?_);exact nr (h _ ⟨(e.2 _ (Ne.symm I.ne)).trans I.obj,c,I.ne⟩ e)
def WA{R:Result->eW->Prop}{vs:List ez}{kw:List (Str×ez)}(X:K.In s.heap)(b:akJ K C=true)
  (a:pq K (.ref C) "__init__"=some (some (.ref f))) (c:amD K (.ref f)=some (.type "function"))
  (h:codeAny (model prog w) (A.under (.builtin "type.__call__" ⟨.ref C::vs,kw⟩)) (.call (.ref f) ⟨.ref (s.heap.objs.size+1)::vs,kw⟩) (PySem.W.InitBack (s.heap.objs.size+1) R)
   {s with heap:=(s.heap.push M4).push (NC C s.heap.objs.size)}):
  codeAny (model prog w) A (.call (.ref C) ⟨vs,kw⟩) R s:=by
 obtain⟨e,g,d,t,os⟩:=s;exact PySem.W.make_core (PySem.W.makes_of X b) (aiX X a) (λself=>PySem.W.bind_fn X self c) (.inl rfl) h
end
def lh(f:Str)(v:V):List (Str×V)->List (Str×V)
 |[]=>[(f,v)]
 |(g,x)::r=>if g=f then (g,v)::r else (g,x)::lh f v r
theorem EO(f g:Str)(v:V):∀fs:List (Str×V),(lh f v fs).lookup g=if g=f then some v else fs.lookup g
 |[]=>by
  show C0 g [(f,v)]=_;by_cases h:g=f
  .have hb:(g==f)=true:=rz.mpr h;simp only[C0,hb,eT h]
  .have hb:(g==f)=false:=aic.mpr h;simp only[C0,hb,eJ h]
 |(k,x)::r=>by
  have b:=EO f g v r;rw[show lh f v ((k,x)::r)=(if k=f then (k,v)::r else (k,x)::lh f v r) from rfl];by_cases a:k=f
  .rw[eT a];by_cases h:g=k
   .have hb:(g==k)=true:=rz.mpr h;simp only[C0,hb,eT (h.trans a)]
   .have hb:(g==k)=false:=aic.mpr h;simp only[C0,hb,eJ (λe:g=f=>h (e.trans a.symm))]
  .rw[eJ a];by_cases h:g=k
   .have hb:(g==k)=true:=rz.mpr h;simp only[C0,hb,eJ (λe:g=f=>a (h.symm.trans e))]
   .have hb:(g==k)=false:=aic.mpr h;simp only[C0,hb];exact b
theorem DU(f:Str)(v:V):∀fs:List (Str×V),f∈(lh f v fs).map (·.1)/\∀g,g∈fs.map (·.1)->g∈(lh f v fs).map (·.1)
 |[]=>⟨by simp[lh],λg h=>by simp at h⟩
 |(k,x)::r=>by
  obtain⟨c,b⟩:=DU f v r;rw[show lh f v ((k,x)::r)=(if k=f then (k,v)::r else (k,x)::lh f v r) from rfl];by_cases a:k=f
  .rw[eT a];subst a;exact⟨by simp,λg h=>by simpa using h⟩
  .rw[eJ a];refine⟨?_,λg h=>?_⟩
   .rw[tH];exact mD _ c
   .rw[tH] at h ⊢;rcases qJ.mp h with e|e
    .exact qJ.mpr (.inl e)
    .exact mD _ (b g e)
theorem EG(f:Str)(v:V):∀fs:List (Str×V),(lh f v fs).length<=fs.length+1
 |[]=>by simp[lh]
 |(k,x)::r=>by
  have b:=EG f v r;rw[show lh f v ((k,x)::r)=(if k=f then (k,v)::r else (k,x)::lh f v r) from rfl];by_cases a:k=f
  .rw[eT a,qV,qV];lia
  .rw[eJ a,qV,qV];lia
def y9.some_of{v:V}{o:Option ez}(r:y9 (some v) o):∃u,o=some u/\RelV v u:=by
 cases o with
 |none=>exact(show False from r).elim
 |some u=>exact⟨u,rfl,r⟩
def y9.none_of{o:Option ez}(r:y9 none o):o=none:=by
 cases o with
 |none=>rfl
 |some u=>exact(show False from r).elim
def Uy{v:V}{u:ez}(r:RelV v u):amh u=true:=by
 cases v with
 |non=>cases (show u=K2 from r);rfl
 |bl b=>cases (show u=ajF b from r);rfl
 |int i=>obtain⟨t,e⟩:=(show ∃t,u=GQ i t from r);cases e;rfl
 |str x=>obtain⟨t,e⟩:=(show ∃t,u=F1 x t from r);cases e;rfl
 |byt b=>obtain⟨t,e⟩:=(show ∃t,u=am4 b t from r);cases e;rfl
 |flt b=>obtain⟨t,e⟩:=(show ∃t,u=ama b t from r);cases e;rfl
 |ref a=>cases (show u=kO a from r);rfl
 |ty n=>cases (show u=akq n from r);rfl
section
variable{P:hD}{w:gT}{H H':Hp}{h h':gm}{a C dx:eh}{fs fs':List (Str×V)}
def FW(hok:mh P w H h)(e:H a=some (.ins C dx fs)):∃b,R9 h a dx C b/\(∀f,y9 (fs.lookup f) (b f))/\alB b (fs.map (·.1))/\fs.length<=1000/\H dx=some (.own a):=by
 obtain⟨d,z,ne,c,b,n,r,q⟩:=(show eK P w H h a (.ins C dx fs) from hok a _ e);exact⟨b,⟨c,n,ne⟩,r,q,z,d⟩
end
structure pJ(K:fD)(C:eh):Prop where
 pg:aiW K C aj4=true
 hd:ajp K C=true
 po:akl K C=true
 sa:pq K (.ref C) "__setattr__"=some (some (.builtin "object.__setattr__"))
theorem pJ.get{K:fD}{C:eh}(c:pJ K C)(f:Str):aiW K C f=true:=c.pg
def bb(K:fD)(C:eh)(f:Str):Prop:=pq K (.ref C) f=some none
def bb.aeV{K:fD}{C:eh}{f:Str}(n:bb K C f):akI K C f=some none:=by
 unfold akI;rw[show pq K (.ref C) f=some none from n]
 rfl
structure Meth(K:fD)(C:eh)(m:Str)(f:eh):Prop where
 at_:pq K (.ref C) m=some (some (.ref f))
 fn:akw K (.ref f)=true
 kp:KX K (.ref f)=true
section
variable{X:Cx}{et:List (eh×Obj)}{σ:St}{H:Hp}{s:eW}{a C dx:eh}{fs:List (Str×V)}{f:Str}{v:V}{A:ie}{E:ez->eW->Prop}
def Ic{b:Bool}{Q:ez->eW->Prop}(I:Inv X et σ H s)(e:H a=some (.ins C dx fs))(c:pJ X.K C)(n:bb X.K C f)(l:fs.lookup f=some v)
  (h:∀u g,Inv X et σ H g->RelV v u->Q u g):wpAny (model X.prog X.w) A (getAttr (.ref a) f b) Q E s:=by
 obtain⟨m,O,r,_,_,_⟩:=FW I.hok e;obtain⟨u,j,i⟩:=y9.some_of (v:=v) (o:=m f) (by rw[<- l];exact r f);exact get_map I.ma O (c.get f) c.hd n j (Uy i) (h u _ (I.tok _) i)
def Hv{m:Str}{g:eh}{pl:Sem Bool}{Q:ez×List ez->eW->Prop}(I:Inv X et σ H s)(e:H a=some (.ins C dx fs))(c:pJ X.K C)(k:Meth X.K C m g)(l:fs.lookup m=none)
  (h:Q (.ref g,[.ref a]) s):wpAny (model X.prog X.w) A (getMethod (.ref a) m pl) Q E s:=by
 obtain⟨b,O,r,_,_,_⟩:=FW I.hok e;have i:b m=none:=y9.none_of (by rw[<- l];exact r m);exact Yh I.ma O (c.get m) k.at_ k.fn i h
def Jy{y:V}{u:ez}{Q:Unit->eW->Prop}(I:Inv X et σ H s)(e:H a=some (.ins C dx fs))(c:pJ X.K C)(n:bb X.K C f)(J:fs.length<1000)(G:RelV y u)
  (h:∀j,Inv X et σ (upd H a (.ins C dx (lh f y fs))) j->Q .unit j):wpAny (model X.prog X.w) A (setAttr (.ref a) f u) Q E s:=by
 obtain⟨p,O,r,l,_,m⟩:=FW I.hok e;have D:(fs.map (·.1)).length<=sizeLine:=by rw[fC,GX];lia
 refine abo I.ma O c.sa c.po n.aeV c.hd l D λh' i B=>h _ ?_;have hd:∃o,h'.get? dx=some o:=let ⟨o,_,_,e',_⟩:=i.ns;⟨o,e'⟩;refine I.write (x:=a) (e:=dx) (by rw[e];exact zw) (.inr m) (λb q t z=>(B.2 b t).trans z) hd ?_;refine⟨by rw[ai O.ne];exact m,?_,O.ne,i.obj,_,i.ns,λg=>?_,λg F=>?_⟩
 .have:=EG f y fs;lia
 .show y9 ((lh f y fs).lookup g) (if g=f then some u else p g);rw[EO];by_cases q:g=f
  .rwa[eT q,eT q]
  .rw[eJ q,eJ q];exact r g
 .by_cases q:g=f
  .rw[q];exact(DU f y fs).1
  .refine (DU f y fs).2 g (l g λz=>F ?_);show(if g=f then some u else p g)=none;rwa[eJ q]
def Inv.made(I:Inv X et σ H s):Inv X et σ (upd (upd H s.heap.objs.size (.own (s.heap.objs.size+1))) (s.heap.objs.size+1) (.ins C s.heap.objs.size []))
  {s with heap:=(s.heap.push M4).push (NC C s.heap.objs.size)}:=by
 have e1:(s.heap.push M4).get? s.heap.objs.size=some M4:=rx s.heap rfl
 have e2:((s.heap.push M4).push (NC C s.heap.objs.size)).get? (s.heap.objs.size+1)=some (NC C s.heap.objs.size):=by
  have:=rx (s.heap.push M4) (o:=NC C s.heap.objs.size) rfl;rwa [aiS] at this
 have e3:(s.heap.push M4).Ns s.heap.objs.size (λ_=>none):=⟨M4,#[],_,e1,rfl,(λe h=>absurd h (by simp)),λ_=>rfl⟩;have c:=I.laid (a:=s.heap.objs.size) (o:= .own (s.heap.objs.size+1)) (h':=s.heap.push M4) (t':=s.toks) (λb u q=>nc _ q) (fx _) ⟨_,e1⟩;refine c.laid (a:=s.heap.objs.size+1) (o:= .ins C s.heap.objs.size []) (t':=s.toks) (λb u q=>nc _ q) (alF (aiS _ _)) ?_;have ne:s.heap.objs.size≠s.heap.objs.size+1:=kx (EU _);refine⟨by rw[ai ne,af],pI _,ne,e2,λ_=>none,(Heap.Ns1.of_empty e3).at λo q=>nc _ q,λ_=>zw,λy g=>absurd rfl g⟩
theorem aal{prog:hD}{w:gT}{env:Env}{e:fU}{f:Str}{c:Pos}{s:eW}{Q:ez->eW->Prop}(g:attributeBase e f env (eval e env)=eval e env)
  (h:wpAny (model prog w) A (eval e env) (λo b=>wpAny (model prog w) A (getAttr o f true) Q E b) E s):wpAny (model prog w) A (eval (.Attribute e f c) env) Q E s:=
 Attribute_any_ h (by rw[arm_eval_Attribute,g])
end
def aeF(K:fD)(c:TE)(f:Str):TE:=λσ H Q=>c σ H λx b=>∃a C e fs v,x=.ref a/\b a=some (.ins C e fs)/\pJ K C/\bb K C f/\fs.lookup f=some v/\Q v b
def aeh(K:fD)(g h:TE)(f:Str):TS:=λD σ H=>h σ H λy e=>g σ e λx c=>∃a C b fs,x=.ref a/\c a=some (.ins C b fs)/\pJ K C/\bb K C f/\fs.length<1000∧
 D.nx σ (upd c a (.ins C b (lh f y fs)))
def ade(X:Cx)(a:amg)(rd:V->V->Hp->VK->Prop):Prop:=
 ∀(et:List (eh×Obj)) (s:eW) (σ:St) (H:Hp) (x y:V) (u v:ez) (Q:VK),Inv X et σ H s->RelV x u->RelV y v->rd x y H Q->wpAny (model X.prog X.w) X.A (inplaceOp a u v) (EP X et σ Q) X.xe s
def aag(K:fD)(l j:TE)(rd:V->V->Hp->VK->Prop)(f:Str):TS:=λD σ H=>l σ H λx e=>∃a C h fs v,x=.ref a/\e a=some (.ins C h fs)/\pJ K C/\bb K C f/\fs.lookup f=some v∧
 j σ e λy i=>rd v y i λz g=>∃c b,g a=some (.ins C c b)/\b.length<1000/\D.nx σ (upd g a (.ins C c (lh f z b)))
section
variable{X:Cx}{o e value:fU}{f:Str}{pos pos' tpos:Pos}{ta tv:TE}
def au(m:PE X e ta)(r:attributeBase e f X.env (eval e X.env)=eval e X.env):PE X (.Attribute e f pos) (aeF X.K ta f):=by
 intro et s σ H Q I h;refine aal r (m.th I h λu B x j i b w=>?_);obtain⟨a,C,A,fs,v,ex,p,c,n,l,q⟩:=w;subst ex;obtain rfl:u=kO a:=b;exact Ic i p c n l λz y g t=>⟨v,j,g,t,q⟩
def aI(r:PE X o ta)(t:PE X value tv)(hs:swapsWith value (some (.Attribute o f pos')) pos.line X.env=pure false):PS X (.Assign [.Attribute o f pos'] value pos) (aeh X.K ta tv f):=by
 intro et s σ H D I h;refine plainObj_wpAny_Assign_Attribute (t.th I h λu J y E i v q=>r.th i q λp B x A g b z=>?_) hs;obtain⟨a,C,F,fs,ex,m,c,n,l,w⟩:=z;subst ex;obtain rfl:p=kO a:=b;exact Jy g m c n l v λG j=>⟨σ,_,j,w⟩
def yF{j:amg}{rd:V->V->Hp->VK->Prop}(A:PE X o ta)(T:PE X value tv)(i:ade X j rd):PS X (.AugAssign (.Attribute o f tpos) j value pos) (aag X.K ta tv rd f):=by
 intro et s σ H D I h;refine wpAny_AugAssign_AttributeAny (A.th I h λR s1 x Y P N b=>?_);obtain⟨a,C,Z,fs,v,ex,t,c,n,l,q⟩:=b;subst ex;obtain rfl:R=kO a:=N;refine Ic P t c n l λu W m F=>T.th m q λM E y O Q G w=>thE (i et E σ O v y u M _ Q F G w) λw4 s4 z H3 U B b=>?_;obtain⟨L,J,g,p,r⟩:=b;exact Jy U g c n p B λs5 S=>⟨σ,_,S,r⟩
def afR:V->V->Hp->VK->Prop:=λx y H Q=>∃i j,x=.int i/\y=.int j/\Q (.int (i+j)) H
def afv:V->V->Hp->VK->Prop:=λx y H Q=>∃i j,x=.int i/\y=.int j/\Q (.int (i-j)) H
def X3:ade X .Add afR:=by
 rintro et s σ H x y u v Q I a b ⟨i,j,rfl,rfl,q⟩;obtain⟨t,rfl⟩:=(show ∃t,u=GQ i t from a);obtain⟨t',rfl⟩:=(show ∃t',v=GQ j t' from b);exact PyProof.Rows.iadd_int ⟨.int (i+j),H,I.tok _,⟨_,rfl⟩,q⟩
def YM:ade X .Sub afv:=by
 rintro et s σ H x y u v Q I a b ⟨i,j,rfl,rfl,q⟩;obtain⟨t,rfl⟩:=(show ∃t,u=GQ i t from a);obtain⟨t',rfl⟩:=(show ∃t',v=GQ j t' from b);exact PyProof.Rows.isub_int ⟨.int (i-j),H,I.tok _,⟨_,rfl⟩,q⟩
end
section
variable{X:Cx}{et:List (eh×Obj)}{σ:St}{H:Hp}{s:eW}{A:ie}{E:ez->eW->Prop}{Q:ez->eW->Prop}{c:ez}{b:Bool}
inductive Ei(K:fD)(H:Hp):V->ez->Prop where
 |non:Ei K H .non (.type "NoneType")
 |bl (x:Bool):Ei K H (.bl x) (.type "bool")
 |int (i:Int):Ei K H (.int i) (.type "int")
 |str (x:Str):Ei K H (.str x) (.type "str")
 |flt (x:UInt64):Ei K H (.flt x) (.type "float")
 |lst {a:eh} {xs:List V} (e:H a=some (.lst xs)):Ei K H (.ref a) (.type "list")
 |frz {a:eh} {o:Obj} {xs:List V} (e:H a=some (.frz o (.lst xs))):Ei K H (.ref a) (.type "list")
 |tup {a:eh} {xs:List V} (e:H a=some (.tup xs)):Ei K H (.ref a) (.type "tuple")
 |dK {a:eh} {Fw:List (Key×V)} (e:H a=some (.dK Fw)):Ei K H (.ref a) (.type "dict")
 |dT {a:eh} {Fw:List (List Key×V)} (e:H a=some (.dT Fw)):Ei K H (.ref a) (.type "dict")
 |ins {a C dx:eh} {fs:List (Str×V)} (e:H a=some (.ins C dx fs)) (cl:pJ K C) (ha:pq K (.ref C) "__class__"=some (some (.builtin "object.__class__")))
   (hn:akm K (.builtin "object.__class__") "__get__"=some (some (.builtin "getset_descriptor.__get__"))) (htk:PySem.W.takesIn K (.builtin "object.__class__")=some true)
   (hm:su K C (.type "object")=some true):Ei K H (.ref a) (.ref C)
def UZ{x:V}{u t:ez}(I:Inv X et σ H s)(f:RelV x u)(ty:Ei X.K H x t)(e:tW X.K t c=some b)(h:∀tk,Q (.bool b) {s with toks:=tk}):
  wpAny (model X.prog X.w) A (call (.builtin "isinstance") [u,c]) Q E s:=by
 cases ty with
 |non=>cases (show u=K2 from f);exact Cm PySem.W.kitx_none I.ma zw e (λz=>nomatch z) h
 |bl y=>cases (show u=ajF y from f);exact Cm PySem.W.kitx_bool I.ma zw e (λz=>nomatch z) h
 |int i=>obtain⟨t,q⟩:=(show ∃t,u=GQ i t from f);cases q;exact Cm PySem.W.kitx_int I.ma zw e (λz=>nomatch z) h
 |str y=>obtain⟨t,q⟩:=(show ∃t,u=F1 y t from f);cases q;exact Cm PySem.W.kitx_str I.ma zw e (λz=>nomatch z) h
 |flt y=>obtain⟨t,q⟩:=(show ∃t,u=ama y t from f);cases q;exact Cm PySem.W.kitx_float I.ma zw e (λz=>nomatch z) h
 |@lst a xs ea=>
  cases (show u=kO a from f);obtain⟨_,_,n,_,g⟩:=(show eK X.prog X.w H s.heap a (.lst xs) from I.hok a _ ea);exact Cm alX I.ma ⟨_,g,rfl⟩ e (λz=>nomatch z) h
 |@frz a ob xs ea=>
  cases (show u=kO a from f);obtain⟨_,_,_,n,_,g⟩:=(show eK X.prog X.w H s.heap a (.frz ob (.lst xs)) from I.hok a _ ea);exact Cm alX I.ma ⟨_,g,rfl⟩ e (λz=>nomatch z) h
 |@tup a xs ea=>
  cases (show u=kO a from f);obtain⟨_,_,_,p⟩:=(show eK X.prog X.w H s.heap a (.tup xs) from I.hok a _ ea);obtain⟨o,g,j,_⟩:=p;exact Cm PySem.W.kitx_tuple I.ma ⟨o,g,j⟩ e (λz=>nomatch z) h
 |@dK a Fw ea=>
  cases (show u=kO a from f);obtain⟨_,_,vs,_,p⟩:=(show eK X.prog X.w H s.heap a (.dK Fw) from I.hok a _ ea);obtain⟨o,es,l,g,j,_⟩:=p;exact Cm alY I.ma ⟨o,g,j.1⟩ e (λz=>nomatch z) h
 |@dT a Fw ea=>
  cases (show u=kO a from f);obtain⟨_,_,xs,_,o,es,l,g,j,_⟩:=(show eK X.prog X.w H s.heap a (.dT Fw) from I.hok a _ ea);exact Cm alY I.ma ⟨o,g,j.1⟩ e (λz=>nomatch z) h
 |@ins a C dx fs ea cl ha hn htk hm=>
  cases (show u=kO a from f);obtain⟨r,O,_⟩:=FW I.hok ea;obtain⟨m,J,_⟩:=O.look;exact Cm (PySem.W.kitx_own (cl.get _) cl.hd ha hn htk hm) I.ma J e (λz=>nomatch z) h
end
structure eO(cm:Bool)(k:Nat)(A:ie):Prop where
 hd:cm=true->A.handled=none
 dp:A.depth+3*k+5<recursionLimit
 un:A.units+16*k+200<cLine
theorem eO.mono{j k:Nat}{A:ie}(r:eO cm k A)(h:j<=k):eO cm j A:=⟨r.hd,by have:=r.dp;lia,by have:=r.un;lia⟩
theorem eO.deeper{k:Nat}{A:ie}(r:eO cm (k+1) A)(env:Env):eO cm k (A.deeper env):=
 ⟨r.hd,by have:=r.dp;show A.depth+1+3*k+5<_;lia,by have:=r.un;show A.units+3+16*k+200<_;lia⟩
def RI{A:ie}{C:eh}{us:List ez}{kw:List (Str×ez)}:(A.under (.builtin "type.__call__" ⟨.ref C::us,kw⟩)).depth=A.depth+1:=by
 first|rfl|simp[alG,Code.weight,Code.isCreation,Code.isGuard,Code.isCaller,am8,alH,guardIds]
def RW{A:ie}{C:eh}{us:List ez}{kw:List (Str×ez)}:(A.under (.builtin "type.__call__" ⟨.ref C::us,kw⟩)).units=A.units+1:=by
 first|rfl|simp[alG,Code.cUnits,am8,alH]
theorem eO.make{k:Nat}{A:ie}(r:eO cm (k+1) A)(C:eh)(us:List ez)(kw:List (Str×ez)):eO cm k (A.under (.builtin "type.__call__" ⟨.ref C::us,kw⟩)):=
 ⟨r.hd,by have:=r.dp;rw[RI];lia,by have:=r.un;rw[RW];lia⟩
def eO.depth{k:Nat}{A:ie}(r:eO cm k A):A.depth<recursionLimit:=by have:=r.dp;lia
def eO.units{k:Nat}{A:ie}(r:eO cm k A):A.units+64<cLine:=by have:=r.un;lia
def Yo:TA:=λ_ H Q=>Q [] H
def abG(b:TE)(e:TA):TA:=λσ H Q=>b σ H λx a=>e σ a λxs c=>Q (x::xs) c
section
variable{X:Cx}{e:fU}{es:List fU}{te:TE}{t:TA}{pos:Pos}
theorem cS:PA X [] Yo:=λ_ _ _ _ H Q I h=>Calls.spliced_nil ⟨[],H,I,.nil,h⟩
def S5(m:PE X e te)(l:PA X es t)(hs:starEach (e::es) X.env=(false,eval e X.env)::starEach es X.env:=by rfl):PA X (e::es) (abG te t):=by
 intro pos et s σ H Q I h;rw[hs];show wpAny _ _ (spliced ((false,eval e X.env)::backTo pos (starEach es X.env))) _ _ s;refine Calls.spliced_cons (m.th I h λu n x i g j a=>?_);exact thA (l pos et n σ i _ g a) λus p xs b f c o=>⟨x::xs,b,f,.cons j c,o⟩
def afG(t:TA):TE:=λσ H Q=>t σ H λxs a=>xs.length<=sizeLine/\∀p,a p=none->Q (.ref p) (upd a p (.tup xs))
def afE(t:TA):TE:=λσ H Q=>t σ H λxs a=>xs.length<=sizeLine/\∀p,a p=none->Q (.ref p) (upd a p (.lst xs))
def qR{i}(h:PA X es t):PE X (.Tuple es i pos) (afG t):=by
 intro et s σ H Q I g;refine wpAny_Tuple_spliced (h.th I g λus a xs f c r ⟨z,q⟩=>⟨by rwa[<- r.length],?_⟩);have j:f a.heap.objs.size=none:=c.hok.fresh (fx _);refine⟨.ref a.heap.objs.size,upd f a.heap.objs.size (.tup xs),c.laid (t':=a.toks) (λb u e=>nc _ e) (fx _) ?_,rfl,q _ j⟩;exact⟨z,us,r,⟨_,rx _ rfl,rfl,_,rfl⟩⟩
def aY(h:PA X es t):PE X (.List es pos) (afE t):=by
 intro et s σ H Q I g;refine wpAny_List_spliced (h.th I g λus a xs f c r ⟨z,q⟩=>⟨by rwa[<- r.length],?_⟩);have i:f a.heap.objs.size=none:=c.hok.fresh (fx _);refine⟨.ref a.heap.objs.size,upd f a.heap.objs.size (.lst xs),c.laid (t':=a.toks) (λb u e=>nc _ e) (fx _) ?_,rfl,q _ i⟩;exact⟨z,us,0,r,rx _ rfl⟩
end
abbrev Sp:=List V->Hp->VK->XK->Prop
abbrev tI:=List Env->Hp->eW->XK->ez->eW->Prop
structure QG(P:hD)(w:gT)(K:fD)(mg:Str->Option ez)(dX:gm)(A:ie)(eD:List Env)(s:eW)(H:Hp):Prop where
 frames:A.frames=some eD
 mod:Mod K mg dX
 bs:∀b o,dX.get? b=some o->s.heap.get? b=some o/\H b=none
 bsz:dX.objs.size<=s.heap.objs.size
 w6:s.heap.FunFrames dX eD
 frf:∀b∈rP eD,H b=none
 hok:mh P w H s.heap
 bare:Hq s.gens
def CE(eD:List Env)(P:hD)(w:gT)(H:Hp)(s:eW)(Q:VK)(u:ez)(a:eW):Prop:=
 ∃v H',a.os=s.os/\Hq a.gens/\Un (rP eD) [] H H' s.heap a.heap/\mh P w H' a.heap/\RelV v u/\Q v H'
def CR(CX:tI)(eD:List Env)(P:hD)(w:gT)(H:Hp)(s:eW)(Q:VK)(E:XK)(r:Result)(a:eW):Prop:=
 match r with
 |.ok (.ret u)=>CE eD P w H s Q u a
 |.ok _=>False
 |.error e=>CX eD H s E e a
structure aD(P:hD)(w:gT)(K:fD)(mg:Str->Option ez)(dX:gm)(CX:tI)(cm:Bool)(k:Nat)(f:eh)(fd:oT)(ps:List Str)(sp:Sp):Prop where
 len:∀vs H Q E,sp vs H Q E->vs.length=ps.length
 run:∀(A:ie) (eD:List Env) (s:eW) (H:Hp) (args:Args) (us:List ez) (vs:List V) (Q:VK) (E:XK),eO cm k A->QG P w K mg dX A eD s H->aku s fd args (ps.zip us)->Vals vs us->sp vs H Q E→
  codeAny (model P w) A (.call (.ref f) args) (CR CX eD P w H s Q E) s
theorem aD.mono{P:hD}{w:gT}{K:fD}{mg:Str->Option ez}{dX:gm}{CX:tI}{j k:Nat}{f:eh}{fd:oT}{ps:List Str}{sp:Sp}(F:aD P w K mg dX CX cm j f fd ps sp)(h:j<=k):
  aD P w K mg dX CX cm k f fd ps sp:=⟨F.len,λA eD s H args us vs Q E a=>F.run A eD s H args us vs Q E (a.mono h)⟩
theorem aD.imp{P:hD}{w:gT}{K:fD}{mg:Str->Option ez}{dX:gm}{CX:tI}{k:Nat}{f:eh}{fd:oT}{ps:List Str}{sp a:Sp}(F:aD P w K mg dX CX cm k f fd ps sp)
  (h:∀vs H Q E,a vs H Q E->sp vs H Q E):aD P w K mg dX CX cm k f fd ps a:=
 ⟨λvs H Q E q=>F.len vs H Q E (h _ _ _ _ q),λA eD s H args us vs Q E e b c g hs=>F.run A eD s H args us vs Q E e b c g (h _ _ _ _ hs)⟩
theorem QG.make{P:hD}{w:gT}{K:fD}{mg:Str->Option ez}{dX:gm}{A:ie}{eD:List Env}{s:eW}{H:Hp}(e:QG P w K mg dX A eD s H)(C:eh)(us:List ez)(kw:List (Str×ez)):
  QG P w K mg dX (A.under (.builtin "type.__call__" ⟨.ref C::us,kw⟩)) eD s H:=⟨by first|exact e.frames|(simpa[alG,Code.envs,alH,pushEnvs] using e.frames),e.mod,e.bs,e.bsz,e.w6,e.frf,e.hok,e.bare⟩
section
variable{X:Cx}{et:List (eh×Obj)}{σ:St}{H:Hp}{s s':eW}
theorem Inv.aes(I:Inv X et σ H s):QG X.prog X.w X.K X.mg X.dX X.A X.stack s H:=
 ⟨I.ok.frames,I.ok.mod,I.bs,je I.ok.bsz I.sz,I.stack,I.LV,I.hok,I.bare⟩
def Inv.after{Q:VK}{u:ez}(I:Inv X et σ H s)(h:CE X.stack X.prog X.w H s Q u s'):EP X et σ Q u s':=by
 obtain⟨v,H',os,bare,un,hok,r,q⟩:=h;obtain⟨c,g,d,t,a⟩:=s';obtain rfl:a=s.os:=os;exact⟨v,H',I.call (h':=c) (g':=g) (d':=d) (t':=t) (ch:=[]) un hok bare (λb z=>absurd z (by simp)),r,q⟩
end
def O6(sp:Sp)(a:List V)(E:St->XK)(t:TA):TE:=λσ H Q=>t σ H λvs b=>sp (vs++a) b Q (E σ)
def Tx(C:eh)(sp:Sp)(b:List V)(E:St->XK)(t:TA):TE:=λσ H Q=>t σ H λvs c=>∀x a,c x=none->c a=none->a≠x→
 sp (.ref x::(vs++b)) (upd (upd c a (.own x)) x (.ins C a [])) (λv e=>v=.non/\Q (.ref x) e) (E σ)
def Binds(K:fD)(fd:oT)(ps:List Str)(ds:List ez):Prop:=
 ∀(s:eW) (us:List ez),K.In s.heap->(us++ds).length=ps.length->aku s fd ⟨us,[]⟩ (ps.zip (us++ds))
theorem Binds.all{K:fD}{fd:oT}{ps:List Str}(h:∀us:List ez,us.length=ps.length->bindArgs fd ⟨us,[]⟩=pure (ps.zip us)):Binds K fd ps []:=λs us _ a=>by
 rw[ov] at a ⊢;exact .of_eq (h us a)
def Passes(CX:tI)(X:Cx)(E:St->XK):Prop:=∀(et:List (eh×Obj)) (σ:St) (H:Hp) (s:eW) (e:ez) (a:eW),Inv X et σ H s->CX X.stack H s (E σ) e a->X.xe e a
section
variable{X:Cx}{CX:tI}{k:Nat}{f C:eh}{fd:oT}{ps:List Str}{sp:Sp}{kR:List V}{ds:List ez}{E:St->XK}{x m:Str}{p pos apos:Pos}{e o:fU}{es:List fU}{ta:TE}{t:TA}
def N4{et:List (eh×Obj)}{σ:St}{H:Hp}{s:eW}{Q:VK}{us:List ez}{vs:List V}(F:aD X.prog X.w X.K X.mg X.dX CX cm k f fd ps sp)(j:eO cm k X.A)(g:Binds X.K fd ps ds)(hd:Vals kR ds)(i:Passes CX X E)
  (I:Inv X et σ H s) (r:Vals vs us) (h:sp (vs++kR) H Q (E σ)):wpAny (model X.prog X.w) X.A (call (.ref f) us) (EP X et σ Q) X.xe s:=by
 have b:Vals (vs++kR) (us++ds):=r.append hd;have l:(us++ds).length=ps.length:=by rw[<- b.length];exact F.len _ _ _ _ h
 refine ams (aja (F.run X.A X.stack s H ⟨us,[]⟩ (us++ds) (vs++kR) Q (E σ) j I.aes (g s us I.ma l) b h) λr c a=>?_);cases r with
 |error e=>exact i et σ H s e c I a
 |ok n=>
  cases n with
  |ret u=>exact I.after a
  |next=>exact zl a
  |brk=>exact zl a
  |cont=>exact zl a
def ZK(F:aD X.prog X.w X.K X.mg X.dX CX cm k f fd ps sp)(l:eO cm k X.A)(y:Gl X x)(v:X.mg x=some (.ref f))(u:KX X.K (.ref f)=true)(i:Binds X.K fd ps ds)(hd:Vals kR ds)(j:Passes CX X E)
  (n:PA X (e::es) t) (b:(x==("__debug__":Str))=false:=by decide) (g:starEach (e::es) X.env=(false,eval e X.env)::starEach es X.env:=by rfl) (a:(backTo pos (starEach es X.env)).any (·.1)=false:=by rfl):
  PE X (.Call (.Name x p) (e::es) [] pos) (O6 sp kR E t):=by
 intro et s σ H Q I h;refine aiI (yM I y v ?_ b);refine ajb (h₀:=X.dX) I.ok.mod.kin u (n.th I h λus B vs z c r q=>⟨c.ma,?_⟩) g a;exact N4 F l i hd j c r q
structure Mk(K:fD)(C f:eh):Prop where
 makes:akJ K C=true
 init:pq K (.ref C) "__init__"=some (some (.ref f))
 fn:akw K (.ref f)=true
 kp:KX K (.ref C)=true
def P9{et:List (eh×Obj)}{σ:St}{H:Hp}{s:eW}{Q:VK}{us:List ez}{vs:List V}(M:Mk X.K C f)(F:aD X.prog X.w X.K X.mg X.dX CX cm k f fd ps sp)(D:eO cm (k+1) X.A)(z:Binds X.K fd ps ds)(hd:Vals kR ds)
  (B:Passes CX X E) (I:Inv X et σ H s) (r:Vals vs us)
  (h:∀x c,H x=none->H c=none->c≠x->sp (.ref x::(vs++kR)) (upd (upd H c (.own x)) x (.ins C c [])) (λv j=>v=.non/\Q (.ref x) j) (E σ)):
  wpAny (model X.prog X.w) X.A (call (.ref C) us) (EP X et σ Q) X.xe s:=by
 have i:=h (s.heap.objs.size+1) s.heap.objs.size (I.hok.fresh (HY _)) (I.hok.fresh (fx _)) (kx (EU _));have b:=Inv.made (C:=C) I;have g:Vals (V.ref (s.heap.objs.size+1)::(vs++kR)) (kO (s.heap.objs.size+1)::(us++ds)):= .cons rfl (r.append hd)
 have J:(kO (s.heap.objs.size+1)::us++ds).length=ps.length:=by
  have e:=g.length;rw[F.len _ _ _ _ i] at e;exact e.symm
 refine ams (WA (f:=f) I.ma M.makes M.init (rz.mp M.fn) (aja (F.run _ X.stack _ _ ⟨kO (s.heap.objs.size+1)::us,[]⟩ (kO (s.heap.objs.size+1)::(us++ds)) _ _ (E σ) (D.make C us [])
  (b.aes.make C us []) (z _ (kO (s.heap.objs.size+1)::us) b.ma J) g i) λr l a=>?_))
 cases r with
 |error e=>exact B et σ _ _ e l b a
 |ok L=>
  cases L with
  |ret u=>
   obtain⟨v,H',q,G,n,y⟩:=b.after a;subst n;exact⟨G,⟨V.ref (s.heap.objs.size+1),H',q,rfl,y⟩⟩
  |next=>exact zl a
  |brk=>exact zl a
  |cont=>exact zl a
def ZJ(M:Mk X.K C f)(F:aD X.prog X.w X.K X.mg X.dX CX cm k f fd ps sp)(l:eO cm (k+1) X.A)(v:Gl X x)(u:X.mg x=some (.ref C))(i:Binds X.K fd ps ds)(hd:Vals kR ds)(j:Passes CX X E)
  (n:PA X (e::es) t) (b:(x==("__debug__":Str))=false:=by decide) (g:starEach (e::es) X.env=(false,eval e X.env)::starEach es X.env:=by rfl) (a:(backTo pos (starEach es X.env)).any (·.1)=false:=by rfl):
  PE X (.Call (.Name x p) (e::es) [] pos) (Tx C sp kR E t):=by
 intro et s σ H Q I h;refine aiI (yM I v u ?_ b);refine ajb (h₀:=X.dX) I.ok.mod.kin M.kp (n.th I h λus z vs y c r q=>⟨c.ma,?_⟩) g a;exact P9 M F l i hd j c r q
def Wn(M:Mk X.K C f)(F:aD X.prog X.w X.K X.mg X.dX CX cm k f fd ps sp)(c:eO cm (k+1) X.A)(g:Gl X x)(i:X.mg x=some (.ref C))(j:Binds X.K fd ps ds)(hd:Vals kR ds)(b:Passes CX X E)
  (a:(x==("__debug__":Str))=false:=by decide):PE X (.Call (.Name x p) [] [] pos) (Tx C sp kR E Yo):=by
 intro et s σ H Q I h;refine aiI (yM I g i ?_ a);exact alq I.ma M.kp (P9 (us:=[]) M F c j hd b I .nil h)
end
section
variable{X:Cx}{CX:tI}{k:Nat}{f C:eh}{fd:oT}{ps ks:List Str}{sp:Sp}{E:St->XK}{x m:Str}{p pos apos kpos:Pos}{e o:fU}{es:List fU}{kws:List alU}{te ta:TE}{t tk:TA}{nm:Option Str}
variable{g:List ez->List ez->List ez}{gV:List V->List V->List V}
end
structure ak(N P:List Str)(sc:sZ):Prop where
 kind:sc.kind=.function
 co:sc.isCoroutine=false
 gen:sc.isGenerator=false
 nd:N.Nodup
 pre:N.take P.length=P
 par:∀x∈P,sc.names.lookup x=some .local\/sc.names.lookup x=some .cell
 acW:∀y∈sc.names,y.2≠ .free
def Lf{a:Str->Option YP}{x:Str}:∀{binds:List (Str×ez)} {m:Str->Option ez},(∀v,(x,v)∉binds)->bindL a binds m x=m x
 |[],_,_=>rfl
 |(n,v)::r,m,h=>by
  unfold bindL;rw[Lf λw b=>h w (mD _ b)]
  split
  .have:x≠n:=by rintro rfl;exact h v ll
   simp[this]
  .rfl
def KR{a:Str->Option YP}{x:Str}:∀{binds:List (Str×ez)} {m:Str->Option ez},(∀v,(x,v)∉binds)->bindC a binds m x=m x
 |[],_,_=>rfl
 |(n,v)::r,m,h=>by
  unfold bindC;rw[KR λw b=>h w (mD _ b)]
  split
  .rfl
  .have:x≠n:=by rintro rfl;exact h v ll
   simp[this]
theorem KN{a:Str->Option YP}{x:Str}{v:ez}:∀{P:List Str} {vs:List ez} {i:Nat} {m:Str->Option ez},P.Nodup->P[i]? =some x->vs[i]? =some v->a x=some .local→
  bindL a (P.zip vs) m x=some v
 |[],_,_,_,_,h,_,_=>by simp at h
 |_::_,[],_,_,_,_,h,_=>by simp at h
 |p::P,w::vs,0,m,nd,h1,h2,hk=>by
  simp at h1 h2;subst h1;subst h2;show bindL a ((p,w)::P.zip vs) m p=_;unfold bindL;rw[Lf λv b=>(ajI.mp nd).1 (akK b).1,eT hk];simp
 |p::P,w::vs,i+1,m,nd,h1,h2,hk=>by
  show bindL a ((p,w)::P.zip vs) m x=_;unfold bindL;exact KN (i:=i) (ajI.mp nd).2 (by simpa using h1) (by simpa using h2) hk
theorem LC{a:Str->Option YP}{x:Str}{v:ez}:∀{P:List Str} {vs:List ez} {i:Nat} {m:Str->Option ez},P.Nodup->P[i]? =some x->vs[i]? =some v->a x≠some .local→
  bindC a (P.zip vs) m x=some v
 |[],_,_,_,_,h,_,_=>by simp at h
 |_::_,[],_,_,_,_,h,_=>by simp at h
 |p::P,w::vs,0,m,nd,h1,h2,hk=>by
  simp at h1 h2;subst h1;subst h2;show bindC a ((p,w)::P.zip vs) m p=_;unfold bindC;rw[KR λv b=>(ajI.mp nd).1 (akK b).1,eJ hk];simp
 |p::P,w::vs,i+1,m,nd,h1,h2,hk=>by
  show bindC a ((p,w)::P.zip vs) m x=_;unfold bindC;exact LC (i:=i) (ajI.mp nd).2 (by simpa using h1) (by simpa using h2) hk
def start(N:List Str)(vs:List V):St:=vs.map some++jb (N.length-vs.length) none
def vL(cm:Bool)(CX:tI)(P:hD)(w:gT)(K:fD)(mg:Str->Option ez)(dX:gm)(N:List Str)(a:Str)(scope:sZ)(f:eh)(c:ez)(A:ie)(eD:List Env)(s:eW)(H:Hp)(E:XK):Cx where
 prog:=P
 w:=w
 K:=K
 mg:=mg
 dX:=dX
 A:=A.deeper (envOfC a scope s.heap.objs.size f c)
 N:=N
 s₀:=s
 H₀:=H
 env:=envOfC a scope s.heap.objs.size f c
 eD:=eD
 stack:=envOfC a scope s.heap.objs.size f c::eD
 ex:=[]
 calm:=cm
 fn:=λ_=>true
 pn:=[]
 xe:=λe h=>wpAny (model P w) (A.deeper (envOfC a scope s.heap.objs.size f c)) (leaving (envOfC a scope s.heap.objs.size f c) e) (λ_ b=>CX eD H s E e b) (λg b=>CX eD H s E g b) h
def Ob{a:sZ}{n:Nat}{x:Str}(h:a.names.lookup x=some .cell):∃c,(cellsFrom n a.names []).lookup x=some c:=by
 have q:=akU a.names n [] (.inl h);exact Option.isSome_iff_exists.mp q
def VM{CX:tI}{P:hD}{w:gT}{K:fD}{mg:Str->Option ez}{dX:gm}{N ps:List Str}{g:Str}{scope:sZ}{f:eh}{D:ez}{A:ie}{eD:List Env}{s G:eW}{H:Hp}{E:XK}{us:List ez}{vs:List V}
  (S:ak N ps scope) (hd:cm=true->A.handled=none) (l:QG P w K mg dX A eD s H) (Q:vs.length=ps.length) (r:Vals vs us)
  (x:InCallC s s.heap.objs.size (bindL (envOfC g scope s.heap.objs.size f D).kindOf (ps.zip us) λ_=>none) (cellsFrom (s.heap.objs.size+1) scope.names []) (bindC (envOfC g scope s.heap.objs.size f D).kindOf (ps.zip us) λ_=>none) G):
  Inv (vL cm CX P w K mg dX N g scope f D A eD s H E) [] (start N vs) H G:=by
 have M:ps.length<=N.length:=by have:=hI List.length S.pre;rw[uU] at this;lia
 obtain⟨F,tk,rfl,I⟩:=x.done;have m:∀b:eh,b∉(vL cm CX P w K mg dX N g scope f D A eD s H E).ex:=λb z=>absurd (show b∈([]:List eh) from z) (by simp)
 refine⟨⟨l.mod,S.kind,rfl,rfl,fx _,λy z c F j=>?_,λy o=>?_,λy c _ h=>?_,hd,Around.frames_deeper l.frames,.inr ⟨rfl,rfl⟩,λb z=>absurd z (m b),l.bs,l.bsz,λb _ _=>m b,λb z=>absurd z (m b),l.w6,l.frf⟩,
  rfl,l.bare,Un.kept I,⟨_,x.toInCall.ns,λi y v F j R=>?_⟩,λy c h=>⟨_,x.cell y c h⟩,l.hok.fresh (fx _),λy c h=>?_,λp B=>absurd (show p∈([]:List (eh×Obj)) from B) (by simp),l.hok.kept I,?_⟩
 .exact name_of_addr x.apart (ahS F) (ahS j)
 .have o:scope.names.lookup y=some .cell\/scope.names.lookup y=some .free:=o;rcases o with o|o
  .exact Ob o
  .exact absurd rfl (S.acW _ (ahS o))
 .exact tL (x.above y c (ahS h))
 .have C:i<vs.length:=by
   unfold start at j;by_cases C:i<vs.length
   .exact C
   .rw[Bj (by simpa using C)] at j;rw[List.getElem?_replicate] at j
    split at j<;>cases j
  have L:vs[i]? =some v:=by
   unfold start at j;rw[yh (by simpa using C),hV] at j;cases e:vs[i]? with
   |none=>rw[e] at j;cases j
   |some a=>rw[e] at j;cases j;rfl
  obtain⟨u,J,O⟩:=r.get L
  have B:ps[i]? =some y:=by
   rwa[<- S.pre,akx ()]
  have t:ps.Nodup:=by rw[<- S.pre];exact S.nd.sublist (List.take_sublist _ _)
  refine⟨u,O,?_⟩;rcases S.par y (S4 B) with k|k
  .exact .inl ⟨k,KN t B J k⟩
  .obtain ⟨c,e⟩:=Ob (n:=s.heap.objs.size+1) k;refine .inr ⟨.inl k,c,e,?_⟩;have q:=x.cell y c e;rw[LC t B J (by show scope.names.lookup y≠_;rw[k];decide)] at q;exact q
 .exact l.hok.fresh (tL (x.above y c (ahS h)))
 .unfold start;show _=N.length;rw[iv,fC,M5]
  lia
def afa{CX:tI}{P:hD}{w:gT}{K:fD}{mg:Str->Option ez}{dX:gm}{k:Nat}{f:eh}{name a:Str}{g:Arguments}{h:List fy}{scope:sZ}{U kV p T c ct oc:ez}{Y Z:Option eh}
  {G:Array (Option ez)} {N ps:List Str} {sp:Sp} (lk:K.lookup f=some ⟨oc,Z,.func (Fd name a g h scope U kV p T Y c ct),G⟩) (F:aj1 K c a=true) (S:ak N ps scope)
  (len:∀vs H Q E,sp vs H Q E->vs.length=ps.length)
  (j:∀(A:ie) (eD:List Env) (s:eW) (H:Hp) (vs:List V) (Q:VK) (E:XK),eO cm k (A.deeper (envOfC a scope s.heap.objs.size f c))->sp vs H Q E→
   ∃t,nh (vL cm CX P w K mg dX N a scope f c A eD s H E) h t/\t {nx:=λ_ H'=>Q .non H',rt:=Q} (start N vs) H):
  aD P w K mg dX CX cm (k+1) f (Fd name a g h scope U kV p T Y c ct) ps sp:=by
 refine⟨len,λA eD s H args us vs Q E L B hb r m=>?_⟩;have hl:=len _ _ _ _ m;have O:K.In s.heap:=B.mod.kin.keeps λb o e=>(B.bs b o e).1;have C:s.heap.NoLimit:=B.mod.nolimit.keeps λb o e=>(B.bs b o e).1
 have l:∀y∈ps.zip us,scope.names.lookup y.1=some .local\/(scope.names.lookup y.1=some .cell/\((cellsFrom (s.heap.objs.size+1) scope.names []).lookup y.1).isSome=true):=λ⟨n,v⟩ hy=>by
  rcases S.par n (akK hy).1 with q|q
  .exact .inl q
  .exact .inr ⟨q,akU _ _ _ (.inl q)⟩
 refine codeAny_call_function L.depth (O _ _ lk) rfl S.co S.gen rfl (PySem.W.codeRec_of O F) (hb _ _ _ _ ?_);refine wpAny_newFunctionEnv_cells S.kind l λenv he R x=>?_;subst he;refine⟨C.keeps x.toInCall.keep,codeAny_func ?_⟩;obtain⟨t,ht,hq⟩:=j A eD s H vs Q E (L.deeper _) m;have I:Inv (vL cm CX P w K mg dX N a scope f c A eD s H E) [] (start N vs) H R:=VM S L.hd B hl r x;refine ro (ht [] R (start N vs) H _ I hq) (λfl D hs=>?_) λe D hs=>hs
 have z:∀{i:St} {H':Hp} {v:V} {u:ez},Inv (vL cm CX P w K mg dX N a scope f c A eD s H E) [] i H' D->RelV v u->Q v H'->CE eD P w H s Q u D:=
  λ{i H' v u} J M q=>⟨v,H',J.os,J.bare,J.dX,J.hok,M,q⟩
 cases fl with
 |ret u=>
  obtain⟨v,i,H',J,M,q⟩:=hs;exact z J M q
 |next=>
  obtain⟨i,H',J,q⟩:=hs;exact z (v:=V.non) (u:=K2) J rfl q
 |brk=>
  obtain⟨_,_,_,q⟩:=hs;exact zl q
 |cont=>
  obtain⟨_,_,_,q⟩:=hs;exact zl q
section
variable{X:Cx}{x:Str}{p pos:Pos}{e:fU}{es:List fU}{t:TA}{id T:String}{r:List V->Hp->VK->Prop}
def tCB(r:List V->Hp->VK->Prop)(t:TA):TE:=λσ H Q=>t σ H λvs a=>r vs a Q
def aO(u:sg X (.builtin id) r)(v:Gl X x)(m:X.mg x=none)(o:bootBuiltins x=some (.builtin id))(l:PA X (e::es) t)(n:x≠"__name__":=by decide)(b:(x==("__debug__":Str))=false:=by decide)
  (j:starEach (e::es) X.env=(false,eval e X.env)::starEach es X.env:=by rfl) (a:(backTo pos (starEach es X.env)).any (·.1)=false:=by rfl):PE X (.Call (.Name x p) (e::es) [] pos) (tCB r t):=by
 intro et s σ H Q I h;refine aiI (xt I v m o ?_ n b);exact PyProof.Rows.callWith_builtin1 (l.th I h λus q vs g f i c=>u et q σ g vs us Q f i c) j a
def cv(u:sg X (.type T) r)(v:Gl X x)(m:X.mg x=none)(o:bootBuiltins x=some (.type T))(l:PA X (e::es) t)(n:x≠"__name__":=by decide)(b:(x==("__debug__":Str))=false:=by decide)
  (j:starEach (e::es) X.env=(false,eval e X.env)::starEach es X.env:=by rfl) (a:(backTo pos (starEach es X.env)).any (·.1)=false:=by rfl):PE X (.Call (.Name x p) (e::es) [] pos) (tCB r t):=by
 intro et s σ H Q I h;refine aiI (xt I v m o ?_ n b);exact ahR (l.th I h λus q vs g f i c=>u et q σ g vs us Q f i c) j a
end
end L2
namespace HT
open PySem PyProof.Rows
section
open PySem.SeqAt
open PySem.AutoSeq1 (wpAny_loadPart')
open PySem.MeetsSeq PySem.MeetsSeq2 PySem.MeetsSeq3
end
section
variable{prog:hD}{w:gT}{A:ie}{E:ez->eW->Prop}{s:eW}
def pA(n d:Nat):Option Int->Nat
 |none=>d
 |some v=>if v<0 then (v+(n:Int)).toNat else min v.toNat n
def TH(n d k:Nat):pA n d (some (k:Int))=min k n:=by
 show(if (k:Int)<0 then ((k:Int)+(n:Int)).toNat else min (k:Int).toNat n)=min k n;rw[eJ (),M0]
end
end HT
namespace L2
open PySem PySem.Spec PyProof.Rows
abbrev TO:=St->Hp->(Option Int->Hp->Prop)->Prop
def PO(X:Cx)(e:Option fU)(t:TO):Prop:=
 ∀(a:List (eh×Obj)) (s:eW) (b:St) (H:Hp) (Q:Option Int->Hp->Prop),Inv X a b H s->t b H Q→
  wpAny (model X.prog X.w) X.A (evalPart e X.env) (λu c=>∃o H',Inv X a b H' c/\IsPart u o/\Q o H') X.xe s
def aap:TO:=λ_ H Q=>Q none H
def aeD(t:TE):TO:=λb H Q=>t b H λx a=>∃i,x=.int i/\Q (some i) a
section
variable{X:Cx}{e:fU}{te:TE}{lo hi:Option fU}{tl th:TO}{pos p2:Pos}
def Nw:PO X none aap:=by
 intro a s b H Q I h;rw[amN];exact nr ⟨none,H,I,.none,h⟩
def uJ(h:PE X e te):PO X (some e) (aeD te):=by
 intro a s m H Q I b;rw[evalPart_some];refine h.th I b λu l x g f j c=>?_;obtain⟨i,rfl,q⟩:=c;obtain⟨t,rfl⟩:=j;exact⟨some i,g,f,.int i t,q⟩
def SlR(X:Cx)(r:V->Option Int->Option Int->Hp->VK->Prop):Prop:=
 ∀(a:List (eh×Obj)) (s:eW) (f:St) (H:Hp) (x:V) (v vl b:ez) (lo hi:Option Int) (c:eh) (Q:VK),Inv X a f H s->RelV x v->s.heap.IsSliceOf c vl b .none->IsPart vl lo->IsPart b hi->r x lo hi H Q→
  ∃T id,typeLookup (.type T) "__getitem__"=pure (some (.builtin id))/\s.TypeIs v T/\wpAny (model X.prog X.w) X.A (getItem v (.ref c)) (EP X a f Q) X.xe s
def tSl(r:V->Option Int->Option Int->Hp->VK->Prop)(te:TE)(tl th:TO):TE:=λa H Q=>te a H λx b=>tl a b λl f=>th a f λu c=>r x l u c Q
def wo{r:V->Option Int->Option Int->Hp->VK->Prop}(L:SlR X r)(p:PE X e te)(z:PO X lo tl)(N:PO X hi th):PE X (.Subscript e (.Slice lo hi none p2) pos) (tSl r te tl th):=by
 intro a s f H Q I h;refine alh (p.th I h λv y x n G o E=>?_);refine wpAny_Slice (jG (z a y f n _ G E) λvl j ⟨l,F,m,pl,C⟩=>jG (N a j f F _ m C) λg c D=>?_);obtain⟨u,i,J,O,t⟩:=D;rw[amN];refine nr ?_;have P:Inv X a f i {c with heap:=c.heap.push {cls:= .type "slice",data:= .fields #[vl,g,.none]}}:=J.kept (t':=c.toks) λb R q=>nc _ q;obtain⟨T,id,M,K,B⟩:=L a {c with heap:=c.heap.push {cls:= .type "slice",data:= .fields #[vl,g,.none]}} f i x v vl g l u c.heap.objs.size Q P o (Heap.IsSliceOf.new ..) pl O t;show wpAny (model X.prog X.w) X.A (subscriptTail e (.Slice lo hi none p2) v (.ref c.heap.objs.size)) (EP X a f Q) X.xe {c with heap:=c.heap.push {cls:= .type "slice",data:= .fields #[vl,g,.none]}};exact tail_any (ops:=[.ref c.heap.objs.size,v]) K M B (by with_unfolding_all rfl)
def DR(xs:List V)(lo hi:Option Int):List V:=(xs.drop (HT.pA xs.length 0 lo)).take (HT.pA xs.length xs.length hi-HT.pA xs.length 0 lo)
def PU(xs:List V)(lo hi:Option Int):(DR xs lo hi).length<=xs.length:=by
 unfold DR;rw[uU,aid]
 lia
end
def Cj(n:Nat)(i:Int):Option Nat:=if 0<=i then (if i<n then some i.toNat else none) else if -(n:Int)<=i then some (i+n).toNat else none
def oK{a:Type}(xs:List a)(i:Int):Option a:=(Cj xs.length i).bind λj=>xs[j]?
def Su{n:Nat}{i:Int}{j:Nat}(h:Cj n i=some j):seqIndex? i n=some j/\j<n/\ -(n:Int)<=i/\i<n:=by
 unfold Cj at h;by_cases b:0<=i
 .rw[eT b] at h;by_cases a:i<n
  .rw[eT a] at h;have e:i.toNat=j:=hH h;exact⟨by rw[amb b a,e],(),(),a⟩
  .rw[eJ a] at h;cases h
 .rw[eJ b] at h;by_cases a: -(n:Int)<=i
  .rw[eT a] at h;have e:(i+n).toNat=j:=hH h;exact⟨by rw[alI () a,e],(),a,()⟩
  .rw[eJ a] at h;cases h
def SK{a:Type}{xs:List a}{i:Int}{v:a}(h:oK xs i=some v):∃j,seqIndex? i xs.length=some j/\xs[j]? =some v/\j<xs.length/\ -(xs.length:Int)<=i/\i<xs.length:=by
 unfold oK at h;cases e:Cj xs.length i with
 |none=>rw[e] at h;cases h
 |some j=>
  rw[e] at h;obtain⟨g,b,f,c⟩:=Su e;exact⟨j,g,h,b,f,c⟩
def bY{a:Type}{xs:List a}{j:Nat}{v:a}(h:xs[j]? =some v):oK xs (j:Int)=some v:=by
 have b:j<xs.length:=(pE.mp h).1
 have e:Cj xs.length (j:Int)=some j:=by
  unfold Cj;rw[eT (),eT ()];simp
 unfold oK;rwa[e]
def Tz(b:fU):Prop:=∀o i,subscripted b false o i=operate [o,i] (getItem o i)
def IxR(X:Cx)(r:R2):Prop:=
 ∀(c a:fU) (b:List (eh×Obj)) (s:eW) (e:St) (H:Hp) (x y:V) (v u:ez) (Q:VK),Inv X b e H s->RelV x v->RelV y u->r x y H Q→
  subscripted a false v u=operate [v,u] (getItem v u)->wpAny (model X.prog X.w) X.A (subscriptTail c a v u) (EP X b e Q) X.xe s
def MtR(X:Cx)(id:String)(r:V->List V->Hp->VK->Prop):Prop:=
 ∀(a:List (eh×Obj)) (s:eW) (b:St) (H:Hp) (x:V) (xs:List V) (v:ez) (us:List ez) (Q:VK),Inv X a b H s->RelV x v->Vals xs us->r x xs H Q→
  wpAny (model X.prog X.w) X.A (call (.builtin id) (v::us)) (EP X a b Q) X.xe s
section
variable{X:Cx}{a b:fU}{ta tb:TE}{pos:Pos}
def aen{r:R2}(e:IxR X r)(i:PE X a ta)(o:PE X b tb)(hs:Tz b):PE X (.Subscript a b pos) (NP r ta tb):=by
 intro c s n H Q I h;exact alh (ZD i o I h λv u j x y f l g m q=>e a b c j n f x y v u Q l g m q (hs _ _))
def aev(K:fD):R2:=λx y H Q=>∃p xs i v,x=.ref p/\y=.int i/\eZ K H p xs/\oK xs i=some v/\Q v H
def aeO(K:fD):R2:=λx y H Q=>∃p xs i v,x=.ref p/\y=.int i/\iq K H p xs/\oK xs i=some v/\Q v H
def aA:IxR X (aev X.K):=by
 intro m l c s o H x y v u Q I C M h hs;obtain⟨p,xs,i,z,rfl,rfl,E,G,q⟩:=h;cases C;obtain⟨t,rfl⟩:=M;obtain⟨its,r,pl,O⟩:=I.list E;obtain⟨j,f,J,N,B,D⟩:=SK G;obtain⟨w,A,g⟩:=r.get J;have L:=r.length;have P:=IZ;have e:EP X c o Q w s:=⟨z,H,I,g,q⟩;by_cases n:0<=i
 .have hj:i.toNat=j:=by
   rw[amb n D] at f;exact hH f
  exact item_listR pl.isList n () (by rw[hj];simpa using A) e hs
 .have hj:(i+(its.toArray.size:Int)).toNat=j:=by
   rw[alI () B] at f;rw[iB,<-L];exact hH f
  exact akV (x:=w) pl.isList.typeIs slot_list_getitem.lookup
   (wpAny_getItem_list_neg (Q:=λr F=>r=w/\EP X c o Q r F) pl.isList () (by rw[iB]<;>lia) () (by rw[hj];simpa using A) ⟨rfl,e⟩) hs
def bW:IxR X (aeO X.K):=by
 intro l g c s m H x y v u Q I n F h hs;obtain⟨p,xs,i,z,rfl,rfl,o,B,q⟩:=h;cases n;obtain⟨t,rfl⟩:=F;obtain⟨its,r,pl,N⟩:=I.tuple o;obtain⟨j,G,C,M,J,L⟩:=SK B;obtain⟨w,D,f⟩:=r.get C;have E:=r.length;have O:=IZ;have e:EP X c m Q w s:=⟨z,H,I,f,q⟩
 exact akV (x:=w) pl.typeIs slot_tuple_getitem.lookup
  (getItem_tuple (j:=j) (Q:=λr A=>r=w/\EP X c m Q r A) pl () () (by rwa[iB,<-E]) (by simpa using D) ⟨rfl,e⟩) hs
def RQ(its:List ez)(n j:Nat)(u:ez):T1 (·.setIfInBounds j u) {cls:= .type "list",data:= .seq its.toArray n}={cls:= .type "list",data:= .seq (its.set j u).toArray n}:=by
 simp[T1]
def Inv.lst{c:List (eh×Obj)}{f:St}{H:Hp}{s:eW}{p:eh}{xs:List V}(I:Inv X c f H s)(h:H p=some (.lst xs)):
  ∃(its:List ez) (n:Nat),Vals xs its/\s.heap.get? p=some {cls:= .type "list",data:= .seq its.toArray n}/\xs.length<=sizeLine:=by
 obtain⟨z,its,n,r,e⟩:=I.hok p _ h;exact⟨its,n,r,e,z⟩
def Inv.adS{c:List (eh×Obj)}{j:St}{H:Hp}{s:eW}{p:eh}{xs ys:List V}{its its':List ez}{n g:Nat}{f:Obj->Obj}(I:Inv X c j H s)(h:H p=some (.lst xs))
  (l:s.heap.get? p=some {cls:= .type "list",data:= .seq its.toArray n}) (i:f {cls:= .type "list",data:= .seq its.toArray n}={cls:= .type "list",data:= .seq its'.toArray g}) (r:Vals ys its') (m:ys.length<=sizeLine) (t:Nat):
  Inv X c j (upd H p (.lst ys)) {s with heap:=s.heap.update p f,toks:=t}:=by
 have e:(s.heap.update p f).get? p=some {cls:= .type "list",data:= .seq its'.toArray g}:=by
  rw[ak3 f l (by rw[i]<;>rfl),i]
 refine I.write (x:=p) (e:=p) (by rw[h];trivial) (.inl rfl) (λb u o q=>(aiL _ _ (Ne.symm o)).trans q) ⟨_,e⟩ ?_;exact⟨m,its',g,r,e⟩
def aeC:V->V->V->Hp->(Hp->Prop)->Prop:=λo i v H Q=>∃p xs k j,o=.ref p/\i=.int k/\H p=some (.lst xs)/\Cj xs.length k=some j/\Q (upd H p (.lst (xs.set j v)))
def set_list:acN X aeC:=by
 intro c s B H o i v F J u Q I E z D h;obtain⟨p,xs,k,j,rfl,rfl,y,A,q⟩:=h;cases E;obtain⟨t,rfl⟩:=z;obtain⟨its,n,r,f,C⟩:=I.lst y;obtain⟨e,G,m,l⟩:=Su A;have g:=r.length;have K:=IZ
 have x:Inv X c B (upd H p (.lst (xs.set j v))) {s with heap:=s.heap.update p (T1 (·.setIfInBounds j u))}:=
  I.adS y f (RQ its n j u) (r.set D j) (by rwa[List.length_set]) s.toks
 by_cases w:0<=k
 .have hk:k.toNat=j:=by
   rw[amb w l] at e;exact hH e
  exact PySem.W.ki_setAt f w () (by rwa[iB,<-g]) (by rw[hk];exact⟨_,x,q⟩)
 .have hk:(k+(its.toArray.size:Int)).toNat=j:=by
   rw[alI () m] at e;rw[iB,<-g];exact hH e
  exact PySem.W.ki_setBack f () (by rwa[iB,<-g]) () (by rw[hk];exact⟨_,x,q⟩)
def MV(lo c:Option Int)(n:Nat):(sliceBounds lo c none n).1=((HT.pA n 0 lo:Nat):Int)/\(sliceBounds lo c none n).2.1=((HT.pA n n c:Nat):Int)/\(sliceBounds lo c none n).2.2=1:=by
 refine⟨?_,?_,rfl⟩
 .cases lo with
  |none=>simp[sliceBounds,HT.pA]
  |some i=>
   simp only[sliceBounds,HT.pA,ami,show(1:Int) > 0 by decide,if_true];by_cases h:i<0
   .simp only[h,if_true]<;>lia
   .simp only[h,if_false]<;>lia
 .cases c with
  |none=>simp[sliceBounds,HT.pA]
  |some i=>
   simp only[sliceBounds,HT.pA,ami,show(1:Int) > 0 by decide,if_true];by_cases h:i<0
   .simp only[h,if_true]<;>lia
   .simp only[h,if_false]<;>lia
def J7(its:List ez)(lo c:Option Int):slicePick its.toArray lo c none=((its.drop (HT.pA its.length 0 lo)).take (HT.pA its.length its.length c-HT.pA its.length 0 lo)).toArray:=by
 obtain⟨g,e,f⟩:=MV lo c its.toArray.size;unfold slicePick;rw[g,e,f];simp only[sliceRange_one,pick_run,iB]<;>rfl
def afw(K:fD):V->Option Int->Option Int->Hp->VK->Prop:=λx lo c H Q=>∃a xs,x=.ref a/\eZ K H a xs/\∀p,H p=none->Q (.ref p) (upd H p (.lst (DR xs lo c)))
def BJ:SlR X (afw X.K):=by
 intro g s p H x v vl u lo e n Q I i hs pl m h;obtain⟨a,xs,rfl,j,q⟩:=h;cases i;obtain⟨its,r,f,l⟩:=I.list j;have c:=r.length;refine⟨"list",_,slot_list_getitem.lookup,f.isList.typeIs,?_⟩;refine wpAny_getItem_list_slice f.isList hs pl m .none (by simp) ?_ (by rw[iB]<;>lia)
 rw[J7,<-c];refine⟨.ref s.heap.objs.size,_,I.laid (t':=s.toks) (o:= .lst (DR xs lo e)) (λb t q=>nc _ q) (fx _) ?_,rfl,q _ (I.hok.fresh (fx _))⟩;exact⟨je (PU xs lo e) l,_,0,(r.drop (HT.pA xs.length 0 lo)).take (HT.pA xs.length xs.length e-HT.pA xs.length 0 lo),rx _ rfl⟩
def fX:V->Bool
 |.non=>true
 |.bl _=>true
 |.int _=>true
 |.str _=>true
 |_=>false
def nt:V->V->Bool
 |.non,.non=>true
 |.bl a,.bl b=>a==b
 |.bl a,.int b=>(if a then 1 else 0)==b
 |.int a,.bl b=>a==(if b then 1 else 0)
 |.int a,.int b=>a==b
 |.str a,.str b=>a==b
 |_,_=>false
def MU{A:ie}{s:eW}{y x:V}{u v:ez}(e:RelV y u)(c:RelV x v)(g:fX y=true)(f:fX x=true):ajj A s u v (nt y x):=by
 cases y with
 |non=>
  cases e;cases x with
  |non=>cases c;exact akL _
  |bl b=>cases c;exact SeqAt.EqAt.none_bool b
  |int b=>obtain⟨t,rfl⟩:=c;exact SeqAt.EqAt.none_int b t
  |str b=>obtain⟨t,rfl⟩:=c;exact SeqAt.EqAt.none_str b t
  |_=>exact absurd (show false=true from f) jt
 |bl a=>
  cases e;cases x with
  |non=>cases c;exact SeqAt.EqAt.bool_none a
  |bl b=>cases c;exact SeqAt.EqAt.bool_bool a b
  |int b=>obtain⟨t,rfl⟩:=c;exact SeqAt.EqAt.bool_int a b t
  |str b=>obtain⟨t,rfl⟩:=c;exact SeqAt.EqAt.bool_str a b t
  |_=>exact absurd (show false=true from f) jt
 |int a=>
  obtain⟨t',rfl⟩:=e;cases x with
  |non=>cases c;exact SeqAt.EqAt.int_none a t'
  |bl b=>cases c;exact SeqAt.EqAt.int_bool a t' b
  |int b=>obtain⟨t,rfl⟩:=c;exact SeqAt.EqAt.int_int a t' b t
  |str b=>obtain⟨t,rfl⟩:=c;exact alz a t' b t
  |_=>exact absurd (show false=true from f) jt
 |str a=>
  obtain⟨t',rfl⟩:=e;cases x with
  |non=>cases c;exact SeqAt.EqAt.str_none a t'
  |bl b=>cases c;exact SeqAt.EqAt.str_bool a t' b
  |int b=>obtain⟨t,rfl⟩:=c;exact alA a t' b t
  |str b=>obtain⟨t,rfl⟩:=c;exact SeqAt.EqAt.str_str a t' b t
  |_=>exact absurd (show false=true from f) jt
 |_=>exact absurd (show false=true from g) jt
def tq(x:V)(u:ez):Bool:=match u with
 |.none=>nt .non x
 |.bool b=>nt (.bl b) x
 |.int i _=>nt (.int i) x
 |.str z _=>nt (.str z) x
 |_=>false
def YR{x y:V}{u:ez}(r:RelV y u)(f:fX y=true):tq x u=nt y x:=by
 cases y with
 |non=>cases r;rfl
 |bl b=>cases r;rfl
 |int i=>obtain⟨t,rfl⟩:=r;rfl
 |str z=>obtain⟨t,rfl⟩:=r;rfl
 |_=>exact absurd (show false=true from f) jt
theorem Cz{x:V}:∀{xs:List V} {us:List ez},Vals xs us->xs.all fX=true->us.any (tq x)=xs.any λy=>nt y x
 |_,_,.nil,_=>rfl
 |y::xs,u::us,.cons r t,f=>by
  rw[akc,kE] at f;rw[XP,XP,YR r f.1,Cz t f.2]
theorem sd{A:ie}{s:eW}{x:V}{v:ez}(e:RelV x v)(g:fX x=true):∀{xs:List V} {us:List ez},Vals xs us->xs.all fX=true->∀u∈us,ajj A s u v (tq x u)
 |_,_,.nil,_=>λu c=>by cases c
 |y::xs,u::us,.cons r t,f=>λh c=>by
  rw[akc,kE] at f;rcases qJ.mp c with rfl|c
  .rw[YR r f.1];exact MU r e f.1 g
  .exact sd e g t f.2 h c
def x9(x:V)(xs:List V):Bool:=xs.any λy=>nt y x
def rIn(K:fD)(c:Bool):R2:=λx y H Q=>∃p xs,y=.ref p/\(eZ K H p xs\/iq K H p xs)/\fX x=true/\xs.all fX=true/\Q (.bl (if c then !x9 x xs else x9 x xs)) H
def sO:kM X (compareOp .In) (rIn X.K false):=by
 intro i s l H x y v u Q I f j h;obtain⟨p,xs,rfl,c,g,fs,q⟩:=h;cases j;rcases c with c|c
 .obtain ⟨its,r,pl,hz⟩:=I.list c;refine SeqAt.in_listAt (tq x) pl.isList (λw e=>sd f g r fs w (by simpa using e)) ⟨.bl _,H,I,rfl,?_⟩;rwa[show its.toArray.any (tq x)=its.any (tq x) by simp,Cz r fs]
 .obtain ⟨its,r,pl,hz⟩:=I.tuple c;refine SeqAt.in_tupleAt (tq x) pl (λw e=>sd f g r fs w (by simpa using e)) ⟨.bl _,H,I,rfl,?_⟩;rwa[show its.toArray.any (tq x)=its.any (tq x) by simp,Cz r fs]
def Ck:kM X (compareOp .NotIn) (rIn X.K true):=by
 intro i s l H x y v u Q I f j h;obtain⟨p,xs,rfl,c,g,fs,q⟩:=h;cases j;rcases c with c|c
 .obtain ⟨its,r,pl,hz⟩:=I.list c;refine SeqAt.notIn_listAt (tq x) pl.isList (λw e=>sd f g r fs w (by simpa using e)) ⟨.bl _,H,I,rfl,?_⟩;rwa[show its.toArray.any (tq x)=its.any (tq x) by simp,Cz r fs]
 .obtain ⟨its,r,pl,hz⟩:=I.tuple c;refine SeqAt.notIn_tupleAt (tq x) pl (λw e=>sd f g r fs w (by simpa using e)) ⟨.bl _,H,I,rfl,?_⟩;rwa[show its.toArray.any (tq x)=its.any (tq x) by simp,Cz r fs]
def aE:sg X (.builtin "len") (λxs H Q=>∃p ys,xs=[.ref p]/\(eZ X.K H p ys\/iq X.K H p ys)/\Q (.int ys.length) H):=by
 intro f s i H xs us Q I r h;obtain⟨p,ys,rfl,e,q⟩:=h;obtain⟨u,rfl,g⟩:=vals1 r;cases g;have j:=IZ;rcases e with e|e
 .obtain ⟨its,r',pl,hz⟩:=I.list e;have c:=r'.length;exact Calls.call_len_list pl.isList (by simp only[iB]<;>lia) ⟨.int ys.length,H,I.tok _,⟨s.toks+1,by rw[iB,c]⟩,q⟩
 .obtain ⟨its,r',pl,hz⟩:=I.tuple e;have c:=r'.length;exact len_tuple pl (by simp only[iB]<;>lia) ⟨.int ys.length,H,I.tok _,⟨s.toks+1,by rw[iB,c]⟩,q⟩
def nK:sg X (.builtin "len") (λxs H Q=>∃z,xs=[.str z]/\z.length<=sizeLine/\Q (.int z.length) H):=by
 intro c s f H xs us Q I r h;obtain⟨z,rfl,e,q⟩:=h;obtain⟨u,rfl,t,rfl⟩:=vals1 r;have g:=IZ;exact len_str () ⟨.int z.length,H,I.tok _,⟨_,rfl⟩,q⟩
def NU:sg X (.type "list") (λxs H Q=>∃p ys,xs=[.ref p]/\(eZ X.K H p ys\/iq X.K H p ys)/\∀l,H l=none->Q (.ref l) (upd H l (.lst ys))):=by
 intro v s B H xs us Q I r h;obtain⟨p,ys,rfl,m,q⟩:=h;obtain⟨u,rfl,A⟩:=vals1 r;cases A
 have g:∀(its:List ez),Vals ys its->ys.length<=sizeLine->∀(h':gm) (f:Nat),(∀b z,s.heap.get? b=some z->h'.get? b=some z)→
   h'.get? s.heap.objs.size=some {cls:= .type "list",dict:=none,data:= .seq its.toArray f,slots:=#[]}->EP X v B Q (.ref s.heap.objs.size) {s with heap:=h'}:=λits c i h' f t e=>
  ⟨.ref s.heap.objs.size,_,I.laid (t':=s.toks) t (fx _) (show eK X.prog X.w _ h' _ (.lst ys) from⟨i,its,f,c,e⟩),rfl,q _ (I.hok.fresh (fx _))⟩
 rcases m with m|m
 .obtain ⟨its,c,pl,i⟩:=I.list m;have j:=c.length;obtain⟨o,x,y,n,hd⟩:=pl.isList;exact amO p (.inl rfl) x y hd (λh' f t e=>g its c i h' f t e) (by simp only[iB]<;>lia)
 .obtain ⟨its,c,pl,i⟩:=I.tuple m;have j:=c.length;obtain⟨o,x,y,n,hd⟩:=pl;exact amO p (.inr rfl) x y hd (λh' f t e=>g its c i h' f t e) (by simp only[iB]<;>lia)
def tyV(K:fD)(T:String)(x:V)(H:Hp):Prop:=match x with
 |.str _=>T="str"
 |.int _=>T="int"
 |.ref p=>(T="list"/\∃xs,eZ K H p xs)\/(T="tuple"/\∃o,K.lookup p=some o/\o.cls=.type "tuple"/\o.dict=none)∨
   (T="dict"/\((∃c,H p=some (.dK c))\/∃c,H p=some (.dT c)))\/(T="set"/\∃S n,H p=some (.set S n))
 |_=>False
def Y1{g:List (eh×Obj)}{m:St}{H:Hp}{s:eW}{T:String}{x:V}{v:ez}(I:Inv X g m H s)(r:RelV x v)(ty:tyV X.K T x H):
  s.TypeIs v T/\∀a,v=.ref a->∃j,s.heap.get? a=some j/\j.dict=none:=by
 cases x with
 |str z=>
  obtain⟨t,rfl⟩:=r;cases (show T="str" from ty);exact⟨aji s z t,λ_ e=>nomatch e⟩
 |int i=>
  obtain⟨t,rfl⟩:=r;cases (show T="int" from ty);exact⟨typeIs_int s i t,λ_ e=>nomatch e⟩
 |ref p=>
  cases r;rcases ty with⟨rfl,xs,l⟩|⟨rfl,o,f,q,hd⟩|⟨rfl,f⟩|⟨rfl,S,n,f⟩
  .obtain ⟨its,_,pl,_⟩:=I.list l;refine⟨pl.isList.typeIs,λa e=>?_⟩;cases e;obtain⟨o,n,e,c,hd,_⟩:=pl;exact⟨o,e,hd⟩
  .refine ⟨⟨o,I.ma p o f,q⟩,λa e=>?_⟩;cases e;exact⟨o,I.ma _ o f,hd⟩
  .have z:∃o,s.heap.get? p=some o/\o.ExactDict:=by
    rcases f with⟨h,f⟩|⟨h,f⟩
    .obtain ⟨_,_,_,_,o,_,_,e,ex,_⟩:=I.hok p _ f;exact⟨o,e,ex⟩
    .obtain ⟨_,_,_,_,o,_,_,e,ex,_⟩:=I.hok p _ f;exact⟨o,e,ex⟩
   obtain⟨o,e,ex⟩:=z;refine⟨⟨o,e,ex.1⟩,λa e2=>?_⟩;cases e2;exact⟨o,e,ex.2.1⟩
  .obtain ⟨o,_,_,_,e,ex,_⟩:=I.hok p _ f;refine⟨⟨o,e,ex.1⟩,λa e2=>?_⟩;cases e2;exact⟨o,e,ex.2.1⟩
 |_=>exact zl ty
def afP(K:fD)(T:String)(r:V->List V->Hp->VK->Prop)(e:TE):TE:=λf H Q=>e f H λx c=>tyV K T x c/\r x [] c Q
def tBM(K:fD)(T:String)(r:V->List V->Hp->VK->Prop)(g:TE)(t:TA):TE:=λe H Q=>g e H λx c=>tyV K T x c/\t e c λxs f=>r x xs f Q
variable{o e:fU}{es:List fU}{to:TE}{t:TA}{name:Str}{apos cpos:Pos}{T id:String}{r:V->List V->Hp->VK->Prop}
def acB(z:amt T)(slot:Slot T name id)(i:typeOf (.builtin id)=pure (.type "method_descriptor"))(q:MtR X id r)(p:PE X o to)
  (f:attributeBase o name X.env (eval o X.env)=eval o X.env:=by rfl) (c:(apos.endLine==cpos.line)=true:=by rfl):PE X (.Call (.Attribute o name apos) [] [] cpos) (afP X.K T r to):=by
 intro g s y H Q I h;refine wpAny_Call_method0_late f c (p.th I h λv w x u j l A=>?_);obtain⟨ty,m⟩:=A;obtain⟨B,n⟩:=Y1 j l ty;exact⟨T,id,z,slot,i,B,n,akW rfl (PySem.evalArgs_none (q g w y u x [] v [] Q j l .nil m))⟩
def fI(D:amt T)(slot:Slot T name id)(l:typeOf (.builtin id)=pure (.type "method_descriptor"))(J:MtR X id r)(F:PE X o to)(G:PA X (e::es) t)
  (i:attributeBase o name X.env (eval o X.env)=eval o X.env:=by rfl)
  (j:((backTo cpos (starEach (e::es) X.env)).all (λx=> !x.1)&&(backToKw cpos (keywordEach [] X.env)).all (λx=>x.1.isSome)
   && decide ((e::es).length+([]:List alU).length+(if ([]:List alU).isEmpty then 0 else 1)<30))=true:=by rfl)
  (g:(apos.endLine==cpos.line)=true:=by rfl) (hs:starEach (e::es) X.env=(false,eval e X.env)::starEach es X.env:=by rfl) (c:(backTo cpos (starEach es X.env)).any (·.1)=false:=by rfl):
  PE X (.Call (.Attribute o name apos) (e::es) [] cpos) (tBM X.K T r to t):=by
 intro f s u H Q I h;refine wpAny_Call_method_late i j g rfl (F.th I h λv L x C p q m=>?_);obtain⟨ty,w⟩:=m;obtain⟨N,E⟩:=Y1 p q ty;refine⟨T,id,D,slot,l,N,E,?_⟩;have n:=G cpos f L u C _ p w;rw[hs] at n ⊢;refine akW (by show(false||(backTo cpos (starEach es X.env)).any (·.1))=false;rw[c]<;>rfl) (ali ?_)
 exact jG n λus A m=>by obtain⟨vs,y,B,z,M⟩:=m;exact J f A u y x vs v us Q B q z M
end
def JQ(X:Cx)(id:String)(r:V->List V->Hp->VK->Prop):Prop:=
 ∀(a:List (eh×Obj)) (s:eW) (b:St) (H:Hp) (x:V) (xs:List V) (v:ez) (us:List ez) (Q:VK),Inv X a b H s->RelV x v->Vals xs us->r x xs H Q→
  wpAny (model X.prog X.w) X.A (call (.builtin id) (v::us)) (EP X a b Q) X.xe s
theorem Vals.one:∀{x:V} {us:List ez},Vals [x] us->∃u,us=[u]/\RelV x u
 |_,_,.cons r .nil=>⟨_,rfl,r⟩
theorem Vals.eraseIdx:∀{xs:List V} {us:List ez} (i:Nat),Vals xs us->Vals (xs.eraseIdx i) (us.eraseIdx i)
 |_,_,_,.nil=>.nil
 |_,_,0,.cons _ t=>t
 |_,_,i+1,.cons r t=>.cons r (Vals.eraseIdx i t)
theorem KL{a:Type}:∀(l:List a) (i:Nat),(l.eraseIdx i).length<=l.length
 |[],_=>fx _
 |_::_,0=>HY _
 |_::r,i+1=>aky (KL r i)
section
variable{X:Cx}{et:List (eh×Obj)}{σ:St}{H:Hp}{s:eW}{l b:eh}{xs ys zs:List V}
def Inv.aek{its its':List ez}{n:Nat}{f:Array ez->Array ez}{t':Nat}(I:Inv X et σ H s)(c:H l=some (.lst xs))
  (e:s.heap.get? l=some {cls:= .type "list",data:= .seq its.toArray n}) (a:f its.toArray=its'.toArray) (j:Vals ys its') (h:ys.length<=sizeLine):
  Inv X et σ (upd H l (.lst ys)) {s with heap:=s.heap.update l (T1 f),toks:=t'}:=by
 have q:=amj e f;rw[a] at q;refine I.write (x:=l) (e:=l) (by rw[c];exact trivial) (.inl rfl) (λm u g i=>(aiL s.heap (T1 f) (Ne.symm g)).trans i) ⟨_,q⟩ ?_;exact⟨h,its',_,j,q⟩
theorem Inv.ada{its:List ez}{t':Nat}(I:Inv X et σ H s)(c:Vals ys its)(a:ys.length<=sizeLine):
  Inv X et σ (upd H s.heap.objs.size (.lst ys)) {s with heap:=s.heap.push {cls:= .type "list",data:= .seq its.toArray},toks:=t'}:=
 I.laid (λ_ _ q=>nc _ q) (fx _) ⟨a,its,0,c,rx _ rfl⟩
theorem Inv.fresh(I:Inv X et σ H s):H s.heap.objs.size=none:=I.hok.fresh (fx _)
def Inv.aaT(I:Inv X et σ H s)(a:H l=some (.lst xs)):xs.length<=sizeLine/\∃(its:List ez) (n:Nat),Vals xs its/\xs.length=its.length/\s.heap.get? l=some {cls:= .type "list",data:= .seq its.toArray n}:=by
 obtain⟨z,its,n,r,e⟩:=I.hok l _ a;exact⟨z,its,n,r,r.length,e⟩
end
section
variable{X:Cx}
def aaf:V->List V->Hp->VK->Prop:=λx vs H Q=>∃l xs y,x=.ref l/\vs=[y]/\H l=some (.lst xs)/\xs.length<sizeLine/\Q .non (upd H l (.lst (xs++[y])))
def cA:JQ X "list.append" aaf:=by
 intro b s i H x vs v us Q I c f h;obtain⟨l,xs,y,rfl,rfl,a,j,q⟩:=h;cases c;obtain⟨u,rfl,g⟩:=f.one;obtain⟨z,its,n,r,m,e⟩:=I.aaT a;refine ajk alJ ⟨_,e,rfl⟩ alr (alj _ _) (alZ l its.toArray n u (by rw[iB];lia)) ⟨e,?_⟩;refine⟨.non,_,I.aek (its':=its++[u]) a e (by simp) (r.append (.cons g .nil)) ?_,rfl,q⟩;rw[iv,ak4]
 lia
def acT:V->List V->Hp->VK->Prop:=λx vs H Q=>∃l xs i k y,x=.ref l/\vs=[.int i]/\H l=some (.lst xs)/\ -(2^63)<=i/\i<2^63/\seqIndex? i xs.length=some k/\xs[k]? =some y/\Q y (upd H l (.lst (xs.eraseIdx k)))
def Ou:JQ X "list.pop" acT:=by
 intro c s D H x vs v us Q I f p h;obtain⟨l,xs,i,k,y,rfl,rfl,b,C,m,o,j,q⟩:=h;cases f;obtain⟨u,rfl,A⟩:=p.one;obtain⟨t,rfl⟩:=A;obtain⟨z,its,n,r,B,e⟩:=I.aaT b;obtain⟨w,g,a⟩:=r.get j
 refine ajk F.slot_list_pop ⟨_,e,rfl⟩ F.entry_list_pop (F.args_list_pop_2 _ _)
  (MeetsSeq.list_pop_at l its.toArray n i t k w (fitsIndex_both C m) (by rwa[iB,<-B]) (by rwa[<- ajB]) (by rw[iB];lia)) ⟨e,?_⟩
 refine⟨y,_,I.aek (its':=its.eraseIdx k) b e ?_ (r.eraseIdx k) ?_,a,q⟩
 .show its.toArray.eraseIdxIfInBounds k=(its.eraseIdx k).toArray;rw[List.eraseIdxIfInBounds_toArray]
 .have:=KL xs k
  lia
def afx:R2:=λx y H Q=>∃l b xs a,x=.ref l/\y=.ref b/\H l=some (.lst xs)/\H b=some (.lst a)/\xs.length+a.length<=sizeLine/\∀p,H p=none->Q (.ref p) (upd H p (.lst (xs++a)))
def GI:kM X (binaryOp .Add) afx:=by
 intro c s t H x y v u Q I f o h;obtain⟨l,b,xs,C,rfl,rfl,i,p,w,q⟩:=h;cases f;cases o;obtain⟨z,its,n,r,B,e⟩:=I.aaT i;obtain⟨D,a,A,g,m,e2⟩:=I.aaT p;refine PySem.P.add_list e e2 ?_ (by rw[iB,iB];lia);have j:its.toArray++a.toArray=(its++a).toArray:=by simp
 rw[j];exact⟨.ref _,_,I.ada (t':=s.toks) (r.append g) (by rw[iv];lia),rfl,q _ I.fresh⟩
end
section
variable{prog:hD}{w:gT}{A:ie}{E:ez->eW->Prop}{s:eW}
end
section
variable{X:Cx}
end
section
variable{κ:Type}[DecidableEq κ]
def yY(a:List (κ×V))(k:κ):Option V:=(a.find? λkv=>decide (kv.1=k)).map (·.2)
def putK(a:List (κ×V))(k:κ)(v:V):List (κ×V):=
 if (a.any λkv=>decide (kv.1=k))=true then a.map (λkv=>if kv.1=k then (kv.1,v) else kv) else a++[(k,v)]
def GK{p:κ×V}{r:List (κ×V)}{k:κ}(e:p.1=k):yY (p::r) k=some p.2:=by simp[yY,aiJ,e]
def Io{p:κ×V}{r:List (κ×V)}{k:κ}(e:¬p.1=k):yY (p::r) k=yY r k:=by simp[yY,aiJ,e]
theorem Og(k:κ):∀a:List (κ×V),(a.any λkv=>decide (kv.1=k))=(yY a k).isSome
 |[]=>rfl
 |p::r=>by
  rw[XP];by_cases e:p.1=k
  .simp only[GK e,fK e,amW,Option.isSome_some]
  .rw[Io e,ik e,akd];exact Og k r
def xA(a:List (κ×V))(k:κ)(v:V):(putK a k v).length<=a.length+1:=by
 unfold putK
 split
 .rw[fC];lia
 .rw[iv,qV,ai8];lia
def y9.Dg{o:Option V}{u:Option ez}(r:y9 o u):o.isSome=u.isSome:=by
 cases o with
 |none=>cases u with
  |none=>rfl
  |some _=>exact(show False from r).elim
 |some _=>cases u with
  |none=>exact(show False from r).elim
  |some _=>rfl
def KV.val{a:List (κ×V)}{vs:List (κ×ez)}(r:KV a vs)(k:κ):y9 (yY a k) (valueAt vs k):=by
 unfold KV at r
 induction r with
 |nil=>exact zw
 |@cons p q ps qs h t ih=>
  obtain⟨c,f⟩:=h;by_cases e:p.1=k
  .have e':q.1=k:=c.symm.trans e;have b:valueAt (q::qs) k=some q.2:=by simp[valueAt,aiJ,e']
   rwa[GK e,b]
  .have e':¬q.1=k:=λz=>e (c.trans z);have b:valueAt (q::qs) k=valueAt qs k:=by simp[valueAt,aiJ,e']
   rwa[Io e,b]
def KV.any{a:List (κ×V)}{vs:List (κ×ez)}(r:KV a vs)(k:κ):(a.any λkv=>decide (kv.1=k))=vs.any λkv=>decide (kv.1=k):=by
 unfold KV at r
 induction r with
 |nil=>rfl
 |cons h t b=>rw[XP,XP,b,h.1]
def KV.ac3{a:List (κ×V)}{vs:List (κ×ez)}(r:KV a vs)(k:κ){y:V}{u:ez}(f:RelV y u):
  KV (a.map λkv=>if kv.1=k then (kv.1,y) else kv) (vs.map λkv=>if kv.1=k then (kv.1,u) else kv):=by
 unfold KV at r ⊢
 induction r with
 |nil=>exact .nil
 |@cons p q ps qs h t ih=>
  rw[tH,tH];refine .cons ?_ ih;obtain⟨b,c⟩:=h;by_cases e:p.1=k
  .rw[eT e,eT (b.symm.trans e)];exact⟨b,f⟩
  .rw[eJ e,eJ (λz=>e (b.trans z))];exact⟨b,c⟩
def KV.put{a:List (κ×V)}{vs:List (κ×ez)}(r:KV a vs)(k:κ){y:V}{u:ez}(b:RelV y u):KV (putK a k y) (stored vs k u):=by
 unfold putK stored;rw[r.any k];by_cases e:(vs.any λkv=>decide (kv.1=k))=true
 .rw[eT e,eT e];exact r.ac3 k b
 .rw[eJ e,eJ e];exact am9 r ⟨rfl,b⟩
theorem KV.length{a:List (κ×V)}{vs:List (κ×ez)}(r:KV a vs):a.length=vs.length:=alo r
end
def PB{P:hD}{w:gT}{k:Key}{u:ez}(r:RelV (kV k) u):(fE P w).is k u=true:=by
 cases k with
 |inl i=>obtain⟨t,e⟩:=(show ∃t,u=GQ i t from r);subst e;exact OI P w i t
 |inr x=>obtain⟨t,e⟩:=(show ∃t,u=F1 x t from r);subst e;exact OL P w x t
theorem KI{P:hD}{w:gT}:∀{a:List Key} {us:List ez},Vals (a.map kV) us->ItemsAre (fE P w) a us
 |[],_,r=>by rw[aiT] at r;cases r;exact .nil
 |k::a,_,r=>by
  rw[tH] at r;cases r with
  |cons h t=>exact .cons (PB h) (KI t)
abbrev KT(H:Hp):List (List Key×V)->List (List Key×eh×ez)->Prop:=ak1 λp q=>p.1=q.1/\H q.2.1=some (.tup (p.1.map kV))/\RelV p.2 q.2.2
def KT.val{H:Hp}{a:List (List Key×V)}{xs:List (List Key×eh×ez)}(r:KT H a xs)(k:List Key):y9 (yY a k) ((atKey xs k).map (·.2)):=by
 induction r with
 |nil=>exact zw
 |@cons p q ps qs h t ih=>
  obtain⟨c,_,f⟩:=h;by_cases e:p.1=k
  .have e':q.1=k:=c.symm.trans e;have b:atKey (q::qs) k=some q.2:=by simp[atKey,aiJ,e']
   rwa[GK e,b]
  .have e':¬q.1=k:=λz=>e (c.trans z);have b:atKey (q::qs) k=atKey qs k:=by simp[atKey,aiJ,e']
   rwa[Io e,b]
def KT.ac3{H:Hp}{a:List (List Key×V)}{xs:List (List Key×eh×ez)}(r:KT H a xs)(k:List Key){y:V}{u:ez}(g:RelV y u):
  KT H (a.map λkv=>if kv.1=k then (kv.1,y) else kv) (xs.map (putAt k u)):=by
 induction r with
 |nil=>exact .nil
 |@cons p q ps qs h t ih=>
  rw[tH,tH];refine .cons ?_ ih;obtain⟨b,c,f⟩:=h;unfold putAt;by_cases e:p.1=k
  .rw[eT e,eT (b.symm.trans e)];exact⟨b,c,g⟩
  .rw[eJ e,eJ (λz=>e (b.trans z))];exact⟨b,c,f⟩
def KT.put{H:Hp}{a:List (List Key×V)}{xs:List (List Key×eh×ez)}(r:KT H a xs)(k:List Key){b:eh}{y:V}{u:ez}(f:H b=some (.tup (k.map kV)))(c:RelV y u):
  KT H (putK a k y) (storedH xs k b u):=by
 have e:(a.any λkv=>decide (kv.1=k))=(atKey xs k).isSome:=by
  rw[Og,(r.val k).Dg,al0]
 unfold putK storedH;rw[e];by_cases q:(atKey xs k).isSome=true
 .rw[eT q,eT q];exact r.ac3 k c
 .rw[eJ q,eJ q];exact am9 r ⟨rfl,f,c⟩
theorem KT.keeps{H H':Hp}{a:List (List Key×V)}{xs:List (List Key×eh×ez)}(r:KT H a xs)(c:∀b ys,H b=some (.tup ys)->H' b=some (.tup ys)):KT H' a xs:=
 Paired.adP r λ_ _ z=>⟨z.1,c _ _ z.2.1,z.2.2⟩
section
variable{P:hD}{w:gT}{H:Hp}{h:gm}{a:eh}
theorem ab5{u:HO}(ok:mh P w H h)(e:Rd H a u):eK P w H h a u:=e.ok ok
theorem TK{b:List (Key×V)}(ok:mh P w H h)(e:Rd H a (.dK b)):b.length<=sizeLine/\(a==sysModules)=false/\∃vs,KV b vs/\h.DictOf (fE P w) a vs:=
 show eK P w H h a (.dK b) from ab5 ok e
theorem abI{b:List (Key×V)}(ok:mh P w H h)(e:H a=some (.dK b)):b.length<=sizeLine/\(a==sysModules)=false/\∃vs,KV b vs/\h.DictOf (fE P w) a vs:=TK ok (.inl e)
def Mx{b:List Key}(ok:mh P w H h)(e:H a=some (.tup (b.map kV))):(tupleKind (fE P w)).is h b a:=by
 obtain⟨_,its,r,o,g,c,n,f⟩:=(show eK P w H h a (.tup (b.map kV)) from ok a _ e);exact⟨o,its.toArray,n,g,c,f,by simpa using KI r⟩
def Tb{b:List (List Key×V)}(ok:mh P w H h)(e:Rd H a (.dT b)):b.length<=sizeLine/\(a==sysModules)=false∧
  ∃xs,KT H b xs/\h.DictOfH (tupleKind (fE P w)) a xs:=by
 obtain⟨z,y,xs,r,o,es,j,s,f,n,g,i⟩:=(show eK P w H h a (.dT b) from ab5 ok e);refine⟨z,y,xs,r,o,es,j,s,f,n,g,λx c=>?_,i⟩
 have all:∀{l:List (List Key×V)} {m:List (List Key×eh×ez)},KT H l m->∀x∈m,(tupleKind (fE P w)).is h x.1 x.2.1:=by
  intro l m q
  induction q with
  |nil=>intro x c;exact nomatch c
  |@cons p q ps qs hq t ih=>
   intro x c;rcases qJ.mp c with e|c
   .subst e;exact Mx ok (by rw[<- hq.1];exact hq.2.1)
   .exact ih x c
 exact all r x c
theorem aeH{b:List (List Key×V)}(ok:mh P w H h)(e:H a=some (.dT b)):b.length<=sizeLine/\(a==sysModules)=false∧
  ∃xs,KT H b xs/\h.DictOfH (tupleKind (fE P w)) a xs:=Tb ok (.inl e)
end
def rL(H:Hp)(a:eh)(y:V)(r:Option V):Prop:=
 (∃c k,Rd H a (.dK c)/\y=kV k/\r=yY c k)\/∃c k b,Rd H a (.dT c)/\y=.ref b/\H b=some (.tup (k.map kV))/\r=yY c k
def ML(H:Hp)(a:eh)(y v:V)(H':Hp):Prop:=
 (∃c k,H a=some (.dK c)/\y=kV k/\c.length<sizeLine/\H'=upd H a (.dK (putK c k v)))∨
 ∃c k b,H a=some (.dT c)/\y=.ref b/\H b=some (.tup (k.map kV))/\c.length<sizeLine/\H'=upd H a (.dT (putK c k v))
theorem rL.k{H:Hp}{a:eh}{b:List (Key×V)}{k:Key}(e:H a=some (.dK b)):rL H a (kV k) (yY b k):= .inl ⟨b,k,.inl e,rfl,rfl⟩
theorem ML.k{H:Hp}{a:eh}{b:List (Key×V)}{k:Key}{v:V}(e:H a=some (.dK b))(c:b.length<sizeLine):ML H a (kV k) v (upd H a (.dK (putK b k v))):= .inl ⟨b,k,e,rfl,c,rfl⟩
section
variable{X:Cx}{et:List (eh×Obj)}{σ:St}{H:Hp}{s:eW}{a:eh}{y v:V}{u r:ez}{o:Option V}{A:ie}{E:ez->eW->Prop}
def Inv.big(I:Inv X et σ H s):sysModules<s.heap.objs.size:=by
 have h:mainGlobals<s.heap.objs.size:=(I.mod.glob.keeps I.bk).lt;exact IH ∅ h
def Vq{Q:ez->eW->Prop}(D:A.units+1<cLine)(I:Inv X et σ H s)(g:rL H a y (some v))(x:RelV y u)(h:∀i t,Inv X et σ H t->RelV v i->Q i t):
  wpAny (model X.prog X.w) A (getItem (.ref a) u) Q E s:=by
 rcases g with⟨q,k,e,j,l⟩|⟨q,k,b,e,j,C,l⟩
 .subst j;obtain⟨z,hd,vs,f,dd⟩:=TK I.hok e;obtain⟨i,n,c⟩:=y9.some_of (v:=v) (o:=valueAt vs k) (by rw[l];exact f.val k);exact wpAny_getItem_of (PB x) dd.mapOf n (h i _ (I.tok _) c)
 .subst j;cases (show u=kO b from x);obtain⟨z,hd,xs,f,dd⟩:=Tb I.hok e;obtain⟨i,n,c⟩:=y9.some_of (v:=v) (o:=(atKey xs k).map (·.2)) (by rw[l];exact f.val k);obtain⟨p,B,m⟩:=Option.map_eq_some_iff.mp n;refine wpAny_getItem_heap (aj5 D) (Mx I.hok C) dd B ?_;rw[m];exact h i _ (I.tok _) c
def aar{Q:ez->eW->Prop}(p:A.units+1<cLine)(I:Inv X et σ H s)(g:rL H a y o)(m:RelV y u)(h:∀j,Inv X et σ H j->Q (.bool (!o.isSome)) j):
  wpAny (model X.prog X.w) A (compareOp .NotIn u (.ref a)) Q E s:=by
 rcases g with⟨i,k,e,f,l⟩|⟨i,k,b,e,f,n,l⟩
 .subst f;obtain⟨z,hd,vs,c,dd⟩:=TK I.hok e;refine wpAny_notIn_of (PB m) hd dd.mapOf ?_;rw[<- (c.val k).Dg,<-l];exact h _ (I.tok _)
 .subst f;cases (show u=kO b from m);obtain⟨z,hd,xs,c,dd⟩:=Tb I.hok e;refine wpAny_notIn_heap (aj5 p) (Mx I.hok n) hd dd ?_;have q:=(c.val k).Dg;rw[al0] at q;rw[<- q,<-l];exact h _ (I.tok _)
theorem iW{h':gm}{t':Nat}{c:HO}(I:Inv X et σ H s)(f:Mut (H a))(hs:akv a s.heap h')(g:∃q,h'.get? a=some q)(new:eK X.prog X.w (upd H a c) h' a c):
  Inv X et σ (upd H a c) {s with heap:=h',toks:=t'}:=
 I.write (x:=a) (e:=a) f (.inl rfl) (λb q h z=>(hs.2 b h).trans z) g new
theorem Yz{P:hD}{w:gT}{H':Hp}{h':gm}{b:List (Key×V)}{vs:List (Key×ez)}(z:b.length<=sizeLine)(hd:(a==sysModules)=false)(c:KV b vs)(dd:h'.DictOf (fE P w) a vs):
  eK P w H' h' a (.dK b):=⟨z,hd,vs,c,dd⟩
def VB{H':Hp}{Q:Unit->eW->Prop}(P:A.units+1<cLine)(I:Inv X et σ H s)(g:ML H a y v H')(D:RelV y u)(G:RelV v r)(h:∀B,Inv X et σ H' B->Q .unit B):
  wpAny (model X.prog X.w) A (setItem (.ref a) u r) Q E s:=by
 rcases g with⟨f,k,e,p,l,x⟩|⟨f,k,b,e,p,C,l,x⟩
 .subst p x;obtain⟨z,hd,vs,i,dd⟩:=abI I.hok e;have t:vs.length<=sizeLine:=by rwa[<- i.length]
  have n:(putK f k v).length<=sizeLine:=by have:=xA f k v;lia
  refine wpAny_setItem_pairs (hsz:=t) (PB D) dd λh' j hs=>h _ ?_;have L:∃q,h'.get? a=some q:=let ⟨q,_,_,m,_⟩:=j;⟨q,m⟩;exact iW I (by rw[e];exact zw) hs L (Yz n hd (i.put k G) j)
 .subst p x;cases (show u=kO b from D);obtain⟨z,hd,xs,i,dd⟩:=aeH I.hok e;have t:xs.length<=sizeLine:=by rwa[<- alo i]
  have n:(putK f k v).length<=sizeLine:=by have:=xA f k v;lia
  refine wpAny_setItem_heap (hsz:=t) (aj5 P) (Mx I.hok C) dd λh' j hs=>h _ ?_;obtain⟨q,es,M,m,O,N,J,_,K⟩:=j;refine iW I (by rw[e];exact zw) hs ⟨q,m⟩ ⟨n,hd,_,(i.put k C G).keeps λc ys F=>?_,q,es,M,m,O,N,J,K⟩;rw[ai (Xb F e (λz=>nomatch z))];exact F
end
section
variable{X:Cx}{et:List (eh×Obj)}{σ:St}{H:Hp}{s:eW}{a:eh}{Fw:List (Key×V)}{k:Key}{u:ez}{A:ie}{E:ez->eW->Prop}
end
def adC(i:fU):Prop:=∀b a,subscripted i false b a=operate [b,a] (getItem b a)
def Zw{prog:hD}{w:gT}{A:ie}{E:ez->eW->Prop}{s:eW}{env:Env}{b a:fU}{n:Pos}{T id:String}{Q:ez->eW->Prop}
  (q:typeLookup (.type T) "__getitem__"=pure (some (.builtin id))) (hs:adC a)
  (h:wpAny (model prog w) A (eval b env) (λo g=>wpAny (model prog w) A (eval a env) (λi c=>c.TypeIs o T/\wpAny (model prog w) A (getItem o i) Q E c) E g) E s):
  wpAny (model prog w) A (eval (.Subscript b a n) env) Q E s:=by
 refine alh (ro h (λo g l=>ro l (λi c e=>?_) λ_ _ x=>x) λ_ _ x=>x);obtain⟨p,e⟩:=e;unfold subscriptTail;refine iV ?_;rw[getitemInPython_of_ne p.not_modules];refine iV (wpAny_specialOf p q ?_)
 have j:wpAny (model prog w) A (subscripted a false o i) (λr f=>wpAny (model prog w) A (letTemporaryGo b o r >>= λ_=>pure r) Q E f) E c:=by
  rw[hs o i];exact wpAny_operating (ro e (λr f m=>iV (wpAny_letTemporaryGo (nr m))) λ_ _ x=>x)
 first
  |exact nr (iV j)
  |exact iV (nr (iV j))
  |exact iV j
def Oq{X:Cx}{c:List (eh×Obj)}{h:St}{H:Hp}{s:eW}{a:eh}{y:V}{o:Option V}(I:Inv X c h H s)(g:rL H a y o):s.TypeIs (.ref a) "dict":=by
 rcases g with⟨f,k,e,_,_⟩|⟨f,k,b,e,_,_,_⟩
 .obtain ⟨_,_,vs,_,dd⟩:=TK I.hok e;exact dd.typeIs
 .obtain ⟨_,_,xs,_,dd⟩:=Tb I.hok e;exact dd.typeIs
def aci(f ty:TE):TE:=λc H Q=>f c H λx e=>ty c e λy b=>∃a v,x=.ref a/\rL b a y (some v)/\Q v b
def ZX(ty f:TE):TE:=λc H Q=>ty c H λy e=>f c e λx b=>∃a o,x=.ref a/\rL b a y o/\Q (.bl (!o.isSome)) b
def aeq(g ty i:TE):TS:=λD b H=>i b H λv e=>g b e λx h=>ty b h λy f=>∃a c,x=.ref a/\ML f a y v c/\D.nx b c
section
variable{X:Cx}{o i e value:fU}{pos pos' tpos:Pos}{td ty tv:TE}
def TF(t:X.A.units+1<cLine)(r:PE X o td)(n:PE X i ty)(hs:adC i):PE X (.Subscript o i pos) (aci td ty):=by
 intro f s G H Q I h;refine Zw PySem.F.slot_dict_getitem.lookup hs (r.th I h λu L x E p l j=>n.th p j λJ C y m c w B=>?_);obtain⟨a,v,ex,g,z⟩:=B;subst ex;obtain rfl:u=kO a:=l;exact⟨Oq c g,Vq t c g w λD K q b=>⟨v,m,q,b,z⟩⟩
def Ly(t:X.A.units+1<cLine)(l:PE X i ty)(r:PE X o td):PC X .NotIn i o (ZX ty td):=by
 intro b s D H Q I h;refine l.th I h λE G y C n v c=>r.th n c λu B x f m j z=>?_;obtain⟨a,q,ex,g,w⟩:=z;subst ex;obtain rfl:u=kO a:=j;exact aar t m g v λF p=>⟨.bl (!q.isSome),f,p,rfl,w⟩
def FZ(G:X.A.units+1<cLine)(l:PE X o td)(w:PE X i ty)(F:PE X value tv)(hs:swapsWith value (some (.Subscript o i pos')) pos.line X.env=pure false):
  PS X (.Assign [.Subscript o i pos'] value pos) (aeq td ty tv):=by
 intro b s f H D I h;refine wpAny_Assign_Subscript (F.th I h λr O v L B E q=>l.th B q λu K x R c t n=>w.th c n λM N y P C m p=>?_) hs;obtain⟨a,z,ex,g,j⟩:=p;subst ex;obtain rfl:u=kO a:=t;exact VB G C g m E λQ J=>⟨f,z,J,j⟩
end
theorem Qr{P:hD}{w:gT}{H:Hp}(h:gm)(a:sysModules<h.objs.size):eK P w H (h.push {cls:= .type "dict",data:= .dict #[]}) h.objs.size (.dK []):=
 ⟨pI _,aic.mpr (Ne.symm (kx a)),[],.nil,Heap.DictOf.new h⟩
def aco:TE:=λ_ H Q=>∀p,H p=none->Q (.ref p) (upd H p (.dK []))
section
variable{X:Cx}{pos:Pos}
theorem X9:PE X (.Dict [] [] pos) aco:=λb s c H Q I h=>
 wpAny_Dict_empty ⟨.ref s.heap.objs.size,_,I.laid (a:=s.heap.objs.size) (o:= .dK []) (t':=s.toks) (λ_ _ q=>nc _ q) (fx _) (Qr s.heap I.big),rfl,h _ (I.hok.fresh (fx _))⟩
end
def Ri:List (TE×TE)->St->Hp->(List (V×V)->Hp->Prop)->Prop
 |[],_,H,Q=>Q [] H
 |(tk,tv)::r,σ,H,Q=>tk σ H λx a=>tv σ a λy c=>Ri r σ c λps b=>Q ((x,y)::ps) b
abbrev VV:List (V×V)->List (ez×ez)->Prop:=ak1 λp q=>RelV p.1 q.1/\RelV p.2 q.2
def PPs(X:Cx)(e:Pos)(c:List (Option fU))(a:List fU)(f:List (TE×TE)):Prop:=
 ∀(b:List (eh×Obj)) (s:eW) (g:St) (H:Hp) (Q:List (V×V)->Hp->Prop),Inv X b g H s->Ri f g H Q→
  wpAny (model X.prog X.w) X.A (evalPairs (pairTrees c a X.env e)) (λvs h=>∃ps H',Inv X b g H' h/\VV ps vs/\Q ps H') X.xe s
theorem abk{X:Cx}{a:Pos}:PPs X a [] [] []:=λb s c H Q I h=>pairTrees_nil_walk ⟨[],H,I,.nil,h⟩
theorem B5{X:Cx}{a:Pos}{k v:fU}{f:List (Option fU)}{vs:List fU}{tk g:TE}{b:List (TE×TE)}(w:PE X k tk)(z:PE X v g)(t:PPs X a f vs b):
  PPs X a (some k::f) (v::vs) ((tk,g)::b):=λc s q H Q I h=>
 pairTrees_cons_walk (w.th I h λu K x G o j i=>z.th o i λF m y l n B C=>
  jG (t c m q l _ n C) λE J D=>by obtain⟨ps,A,p,e,r⟩:=D;exact⟨(x,y)::ps,A,p,.cons ⟨j,B⟩ e,r⟩)
def D8(a more:List (Key×V)):List (Key×V):=more.foldl (λb kv=>putK b kv.1 kv.2) a
def KV.merge:∀{more:List (Key×V)} {b:List (Key×ez)} {a:List (Key×V)} {vs:List (Key×ez)},KV more b->KV a vs->KV (D8 a more) (merged vs b):=by
 intro more b a vs r;unfold KV at r
 induction r generalizing a vs with
 |nil=>intro q;exact q
 |@cons p q ps qs h t ih=>
  intro c
  have e:KV (putK a p.1 p.2) (stored vs q.1 q.2):=by
   have:=c.put p.1 h.2;rwa[<- h.1]
  exact ih e
theorem zE:∀(more a:List (Key×V)),(D8 a more).length<=a.length+more.length
 |[],a=>by show a.length<=a.length+0;lia
 |p::r,a=>by
  have c:=zE r (putK a p.1 p.2);have b:=xA a p.1 p.2;show(D8 (putK a p.1 p.2) r).length<=_;rw[qV];lia
theorem Jb{P:hD}{w:gT}:∀{e:List (Key×V)} {g:List (ez×ez)},VV (e.map λkv=>(kV kv.1,kv.2)) g->∃f,Carries (fE P w) g f/\KV e f
 |[],_,r=>by rw[aiT] at r;cases r;exact⟨[],zw,.nil⟩
 |p::e,_,r=>by
  rw[tH] at r;cases r with
  |@cons a b as bs h t=>
   obtain⟨f,c,q⟩:=Jb (P:=P) (w:=w) t;obtain⟨j,i⟩:=b;exact⟨(p.1,i)::f,⟨PB h.1,rfl,c⟩,.cons ⟨rfl,h.2⟩ q⟩
def aeU(b:List (TE×TE)):TE:=λe H Q=>∀p,H p=none->Ri b e (upd H p (.dK [])) λps c=>c p=some (.dK [])/\∃a:List (Key×V),ps=a.map (λkv=>(kV kv.1,kv.2))/\a.length<=15/\Q (.ref p) (upd c p (.dK (D8 [] a)))
def ZL{X:Cx}{l:Pos}{b:List (Option fU)}{f:List fU}{m:List (TE×TE)}(h:PPs X l b f m)(j:b.all (·.isSome)=true)(J:b.length=f.length)(A:b≠[])
  (r:b.length<=15):PE X (.Dict b f l) (aeU m):=by
 intro n s C H Q I q;have E:=I.hok.fresh (fx s.heap.objs.size);have x:=I.laid (a:=s.heap.objs.size) (o:= .dK []) (h':=s.heap.push {cls:= .type "dict",data:= .dict #[]}) (t':=s.toks) (λ_ _ q=>nc _ q) (fx _) (Qr s.heap I.big);refine wpAny_Dict_walk (knd:=fE X.prog X.w) j J A r (jG (h n _ C _ _ x (q _ E)) λN R L=>?_);obtain⟨ps,O,t,p,e,i,F,lk,K⟩:=L;subst F;obtain⟨y,c,u⟩:=Jb (P:=X.prog) (w:=X.w) p;obtain⟨z,hd,v,G,dd⟩:=abI t.hok e;cases G;refine⟨y,c,dd,λh' g hs=>⟨.ref s.heap.objs.size,_,?_,rfl,K⟩⟩
 have D:(D8 [] i).length<=sizeLine:=by
  have M:=zE i [];rw[ai8] at M;rw[GX];lia
 have B:∃q,h'.get? s.heap.objs.size=some q:=let ⟨q,_,_,hq,_⟩:=g;⟨q,hq⟩;exact iW t (by rw[e];exact zw) hs B (Yz D hd (u.merge .nil) g)
section
variable{X:Cx}{et:List (eh×Obj)}{σ:St}{H:Hp}{s:eW}{a:eh}{y d:V}{u r:ez}{o:Option V}{A:ie}{E:ez->eW->Prop}
end
section
variable{X:Cx}{o e f:fU}{apos cpos:Pos}{td ty tx:TE}
end
section
variable{X:Cx}{et:List (eh×Obj)}{σ:St}{H:Hp}{s:eW}{a:eh}{Fw:List (Key×V)}{A:ie}{E:ez->eW->Prop}
end
section
variable{X:Cx}{et:List (eh×Obj)}{σ:St}{H:Hp}{s:eW}{a:eh}{y:V}{u:ez}{A:ie}{E:ez->eW->Prop}
end
end L2
namespace Att
open PySem PySem.W PySem.Calls PyProof.Rows
def Fq{P:Params}{h:gm}:∀(ns:List Int) (vs:List ez),WellAll P h vs (ns.map ane)->alV vs ns:=by
 intro ns
 induction ns with
 |nil=>
  intro vs w;rw[aiT] at w;cases w;exact .nil
 |cons n ns c=>
  intro vs w;rw[tH] at w;cases w with
  |cons a b=>
   cases a;exact .cons _ _ (c _ b)
def Vl{l:OpenLaw}{n:Nat}(x:l.most=some n){P:Params}{h:gm}{args:List WData}{c:List ez}
  (b:l.row.toRowW.claim.pre args=true) (j:WellAll P h c args):
  ∃a vs ns,c=[kO a]/\args=[WData.list (ns.map ane)]/\h.get? a=some {cls:= .type "list",data:= .seq vs.toArray}/\alV vs ns/\ns.length<=n:=by
 have m:WShape.hasAll [] args [.list .int]=true:=(pre_splitW b).1;have o:l.pre.holds [] {args:=args}=true:=(pre_splitW b).2;obtain⟨d,r,rfl,y,u⟩:=hasAllW_cons m;obtain rfl:=hasAllW_nil u;obtain⟨xs,rfl,t⟩:=hasW_list y;obtain⟨ns,rfl⟩:=items_int t
 have e:ns.length<=n:=by
  unfold OpenLaw.pre at o
  have g:(WTm.not (.lt (.lit (.int (n:Int))) (.len (.arg 0)))).holds [] {args:=[.list (ns.map .int)]}=true:=by
   have g:=(holds_andW o).1;rw[x] at g;exact g
  have i:=condW_of g (w_not (w_lt w_lit (w_len_list (w_arg rfl))));rw[fC] at i;refine Nat.le_of_not_lt λq=>?_;have s:(n:Int)<((ns.length:Nat):Int):=by lia
  first
   |(rw[fK s] at i;exact absurd i ∅)
   |(simp at i;lia)
 cases j with
 |cons w p=>
  cases p;cases w with
  |list v f=>exact⟨_,_,ns,rfl,rfl,v,Fq ns _ f,e⟩
theorem Vu(l:OpenLaw)(args:List WData):l.row.toRowW.claim.post args (.bool true) args=true:=
 postW_of (r:=l.row.toRowW) (X:=(true==true))
  (show WShape.has [] (.bool true) .bool=true by first|rfl|decide|simp[WShape.has,WShape.arms,WShape.armsAll])
  (show(WTm.eq .res (.lit (.bool true))).value [] {args:=args,res:=some (.bool true),after:=args}=some (.bool (true==true)) from w_eq_bool (w_res rfl) w_lit) rfl
def PD{l:OpenLaw}{n:Nat}{q:hD}{c:List Str}{z:(Str->Option ez)->gm->Prop}{A:gT->gm->Prop}{d:DefRec}
  (P:l.most=some n) (y:d.params.defaults=[])
  (call:∀(w:gT) (s₀ b:eW) (mg t:Str->Option ez) (fa:eh) (o:Obj) (v p e:ez) (a:eh) (vs:List ez) (ns:List Int),
   Ground q c [] z w s₀ mg t b.heap->A w b.heap→
   b.heap.get? fa=some o->o.data=.func (docDef d.name d.params d.body d.scope v p e)->b.heap.CodeRec p d.name->mg d.name=some (.ref fa)→
   b.heap.get? a=some {cls:= .type "list",data:= .seq vs.toArray}->alV vs ns->ns.length<=n->b.gens=#[]→
   codeAny (model l.prog w) callerA (.call (.ref fa) ⟨[.ref a],[]⟩) (λr m=>r=.ok (.ret (.bool true))/\OldK b.heap m.heap/\m.os=b.os/\Hq m.gens) b):
  WalkO q c z A l.row.toRowW d [] (λf vs=>PySem.call f vs):=by
 intro w s₀ b mg t G Y fa o v p e L kV H hd s D u I args C Q i B F x M;obtain rfl:L=.none:=Dflts.none D y;obtain rfl:kV=.none:=Dflts.noKw D;obtain⟨a,vs,ns,rfl,rfl,h,g,j⟩:=Vl P i x;refine enter_call (aja (call w s₀ b mg t fa o v p e a vs ns G Y H (fd_plain hd) s u h g j I) λr m J=>?_);obtain⟨rfl,N,K,E⟩:=J;exact⟨.inl ⟨.bool true,.bool true,[],rfl,λ_=>rfl,.bool true,Vu l _,λ_=>⟨List.Pairwise.nil,λ_ O=>(nomatch O)⟩⟩,N,K,E⟩
section
variable{prog:hD}{w:gT}{A:ie}{E:ez->eW->Prop}{s:eW}{K:Frag}
end
end Att
namespace L2
open PySem PySem.Spec PyProof.Rows
theorem Lu:∀{vs:List ez} {ns:List Int},alV vs ns->Vals (ns.map V.int) vs
 |_,_,.nil=>.nil
 |_,_,.cons n t h=>.cons ⟨t,rfl⟩ (Lu h)
def adK(H:Hp):Prop:=∀b,H b=none\/∃o xs,H b=some (.frz o (.lst xs))
def YK{P:hD}{w:gT}{K:fD}{mg L:Str->Option ez}{CX:tI}{k:Nat}{fa a:eh}{fd:oT}{x:Str}{sp:Sp}{c:eW}{vs:List ez}{ns:List Int}
  (R:K.In c.heap) (t:c.heap.Ns mainGlobals mg) (g:c.heap.Ns builtinsNs L) (O:∀x:Str,x≠"__name__"->L x=bootBuiltins x) (y:c.heap.NoLimit) (Z:c.gens=#[])
  (G:c.heap.get? a=some {cls:= .type "list",data:= .seq vs.toArray}) (U:alV vs ns) (S:ns.length<=sizeLine) (hr:eO cm k callerA)
  (F:∀dX:gm,K.In dX->dX.Ns mainGlobals mg->aD P w K mg dX CX cm k fa fd [x] sp) (p:∀(s:eW) (u:ez),aku s fd ⟨[u],[]⟩ [(x,u)])
  (M:∀H:Hp,adK H->eZ K H a (ns.map V.int)->sp [.ref a] H (λv _=>v=.bl true) λ_ _ _=>False)
  (J:∀H e i,CX [] H c (λ_ _ _=>False) e i->False):
  codeAny (model P w) callerA (.call (.ref fa) ⟨[.ref a],[]⟩) (λr i=>r=.ok (.ret (.bool true))/\OldK c.heap i.heap/\i.os=c.os/\Hq i.gens) c:=by
 have W:=Lu U;have A:=U.length
 have l:∀H:Hp,adK H->eZ K H a (ns.map V.int)->mh P w H c.heap->(∀b,H b≠none->b=a)->(H a≠none->K.lookup a=none)→
   codeAny (model P w) callerA (.call (.ref fa) ⟨[.ref a],[]⟩) (λr i=>r=.ok (.ret (.bool true))/\OldK c.heap i.heap/\i.os=c.os/\Hq i.gens) c:=by
  intro H T hS hok Q hK;have f:∀{b:eh} {o:Obj},c.heap.get? b=some o->H b=none->(N2 c.heap H).get? b=some o:=λe n=>Yj e n
  have N:∀{b:eh} {o:Obj} {es:Array DictEntry} {C:Nat},c.heap.get? b=some o->o.data=.dict es C->H b=none:=λ{b o es C} e d=>by
   cases q:H b with
   |none=>rfl
   |some u=>
    have I:b=a:=Q b (by rw[q];simp);subst I;rw[G] at e;cases e;have d':Data.seq vs.toArray _=Data.dict es C:=d;cases d'
  have j:∀{b:eh} {m:Str->Option ez},c.heap.Ns b m->(N2 c.heap H).Ns b m:=λ{b m} ⟨o,es,C,e,d,r⟩=>⟨o,es,C,f e (N e d),d,r⟩
  have B:K.In (N2 c.heap H):=λb o e=>f (R b o e) (by
   cases q:H b with
   |none=>rfl
   |some u=>
    have I:b=a:=Q b (by rw[q];simp);subst I;rw[hK (by rw[q];simp)] at e;cases e)
  have hM:Mod K mg (N2 c.heap H):=⟨B,j t,⟨L,j g,O⟩,let ⟨mc,h1,h2⟩:=y;⟨mc,j h1,h2⟩⟩;have e0:QG P w K mg (N2 c.heap H) callerA [] c H:=⟨rfl,hM,λb o e=>aaq e,alF (VC _ _),trivial,λb g=>absurd (show b∈([]:List eh) from g) (by simp),hok,.of_eq Z⟩;refine aja ((F _ B (j t)).run callerA [] c H ⟨[.ref a],[]⟩ [.ref a] [.ref a] _ _ hr e0 (p c (.ref a)) (.cons rfl .nil) (M H T hS)) λr i h=>?_;cases r with
  |error e=>exact(J H e i h).elim
  |ok fl=>
   cases fl with
   |next=>exact zl h
   |brk=>exact zl h
   |cont=>exact zl h
   |ret u=>
    obtain⟨v,H',os,bare,un,D,r',q⟩:=h;have X:v=.bl true:=q;subst X;obtain rfl:u=ajF true:=r';refine⟨rfl,OldK.of_keep λb o e=>?_,os,bare⟩;cases q:H b with
    |none=>exact un.keep b o e q (by intro z;exact absurd (show b∈([]:List eh) from z) (by simp)) (by simp)
    |some u=>
     rcases T b with z|⟨Y,xs,z⟩
     .rw[q] at z;cases z
     .have z2:=un.GR b Y _ z;obtain⟨e1,_⟩:=hok b _ z;obtain⟨e2,_⟩:=D b _ z2;rw[e] at e1;cases e1;exact e2
 cases hk:K.lookup a with
 |some o=>
  have e:=R a o hk;rw[G] at e;cases e;refine l (λ_=>none) (λ_=>.inl rfl) (.inr ⟨_,vs.toArray,_,hk,rfl,rfl,rfl,by rwa[iB,A],by simpa using W⟩) (λb u z=>by have E:(none:Option HO)=some u:=z;cases E) (λb z=>absurd rfl z) λz=>absurd rfl z
 |none=>
  refine l (λb=>if b=a then some (.frz {cls:= .type "list",data:= .seq vs.toArray} (.lst (ns.map V.int))) else none) (λb=>?_) (.inl (.inr ⟨{cls:= .type "list",data:= .seq vs.toArray},eT rfl⟩)) (λb u z=>?_) (λb z=>?_) λ_=>hk
  .by_cases g:b=a
   .exact .inr ⟨_,_,eT g⟩
   .exact .inl (eJ g)
  .by_cases g:b=a
   .have E:=(eT g).symm.trans z;cases E;subst g;exact⟨G,by rwa[fC],vs,_,W,G⟩
   .have E:=(eJ g).symm.trans z;cases E
  .by_cases g:b=a
   .exact g
   .exact absurd (eJ g) z
def aba{l:akM}{n k:Nat}{q:hD}{i:List Str}{E:(Str->Option ez)->gm->Prop}{C:gT->gm->Prop}{d:DefRec}{K:Params->fD}{CX:gT->tI}{sp:gT->Sp}{x:Str}
  (S:l.most=some n) (A:n<=sizeLine) (B:d.params.defaults=[]) (Q:eO cm k callerA)
  (J:∀(w:gT) (h:gm),C w h->(K w.params).In h)
  (F:∀(w:gT) (mg:Str->Option ez) (fa:eh) (h:gm),(K w.params).In h->h.Ns mainGlobals mg->mg d.name=some (.ref fa)→
   ∃fd:oT,(∀(s:eW) (u:ez),aku s fd ⟨[u],[]⟩ [(x,u)])∧
    ∀dX:gm,(K w.params).In dX->dX.Ns mainGlobals mg->aD l.prog w (K w.params) mg dX (CX w) cm k fa fd [x] (sp w))
  (z:∀(w:gT) (H:Hp) (a:eh) (ns:List Int),ns.length<=n->adK H->eZ (K w.params) H a (ns.map V.int)->sp w [.ref a] H (λv _=>v=.bl true) λ_ _ _=>False)
  (t:∀(w:gT) (H:Hp) (s:eW) (e:ez) (r:eW),CX w [] H s (λ_ _ _=>False) e r->False):
  amP q i E C l.row.toRowW d [] (λf vs=>PySem.call f vs):=by
 refine Att.PD S B λw s₀ p mg W fa o X Z N a vs ns G Y U hd I y m j c L=>?_;have D:=J w _ Y;obtain⟨fd,P,M⟩:=F w mg fa _ D G.T.g y;exact YK D G.T.g G.T.b G.T.builtins G.T.nolimit L m j (je c A) Q M P (λH O R=>z w H a ns c O R) λH e r=>t w H p e r
def nW(s:fy):Arguments:=match s with
 |.FunctionDef _ a _ _ _ _ _ _ _ _=>a
 |_=>{posonlyargs:=[],args:=[],vararg:=none,kwonlyargs:=[],kw_defaults:=[],kwarg:=none,defaults:=[]}
def cR(s:fy):List fy:=match s with
 |.FunctionDef _ _ b _ _ _ _ _ _ _=>b
 |_=>[]
def ah(s:fy):sZ:=match s with
 |.FunctionDef _ _ _ _ _ _ a _ _ _=>a
 |_=>{kind:= .function,names:=[],isGenerator:=false,isCoroutine:=false}
section
variable{P:hD}{w:gT}{K:fD}{mg:Str->Option ez}{dX:gm}
end
theorem CC{A:ie}{k:Nat}(a:eO cm k A):A.units+1<cLine:=ry (als (by decide:1<=64) _) a.units
theorem aP{n:Nat}(h:n<=1000):n<sizeLine:=ry h ∅
section
variable{X:Cx}
theorem pv(i:Nat){x:Str}{b:Pos}(c:X.N[i]? =some x:=by rfl)(e:Vis X.env.scope x:=by first|exact amX rfl|exact amu (amX rfl)|exact amu (amu rfl))(hd:(x==("__debug__":Str))=false:=by decide)
  (a:(x==("__classdict__":Str))=false:=by decide):PE X (.Name x b) (acZ i):=adu c e hd a
end
def aeS{A B:Prop}(h:B):if false=true then A else B:=by
 rwa[eJ jt]
def ae1{A B:Prop}(h:A):if true=true then A else B:=by
 rwa[eT rfl]
def bA{c A B:Prop}[Decidable c](b:c->A)(a:¬c->B):if c then A else B:=by
 by_cases h:c
 .rw[eT h];exact b h
 .rw[eJ h];exact a h
def aL(H H':Hp):Prop:=∀b o,H b=some o->H' b=some o
theorem aL.refl(H:Hp):aL H H:=λ_ _ h=>h
theorem aL.trans{H e f:Hp}(a:aL H e)(b:aL e f):aL H f:=λc o h=>b c o (a c o h)
def aL.free{H H':Hp}(e:aL H H'){l:eh}(h:H' l=ana):H l=ana:=by
 cases q:H l with
 |none=>rfl
 |some o=>
  rw[e l o q] at h;cases h
def aL.seq{K:fD}{H H':Hp}{a:eh}{xs:List V}(e:aL H H')(h:eZ K H a xs):eZ K H' a xs:=by
 rcases h with(h|⟨o,h⟩)|h
 .exact .inl (.inl (e _ _ h))
 .exact .inl (.inr ⟨o,e _ _ h⟩)
 .exact .inr h
section
variable{κ:Type}[DecidableEq κ]
end
theorem ix{b:Sort _}{p r:b->Prop}{a:b}(e:p a)(h:r a):∃c,p c/\r c:=⟨a,e,h⟩
theorem hY{e:Sort _}{c:Sort _}{R:e->c->Prop}(a:e)(b:c)(f:R a b):∃a b,R a b:=⟨a,b,f⟩
theorem ml{g:Sort _}{e:Sort _}{f:Sort _}{R:g->e->f->Prop}(a:g)(b:e)(c:f)(h:R a b c):∃a b c,R a b c:=⟨a,b,c,h⟩
theorem hh{f:Sort _}{h:Sort _}{g:Sort _}{e:Sort _}{R:f->h->g->e->Prop}(a:f)(b:h)(c:g)(d:e)(i:R a b c d):∃a b c d,R a b c d:=⟨a,b,c,d,i⟩
theorem m8{g:Sort _}{i:Sort _}{h:Sort _}{f:Sort _}{j:Sort _}{R:g->i->h->f->j->Prop}(a:g)(b:i)(c:h)(d:f)(e:j)(l:R a b c d e):∃a b c d e,R a b c d e:=⟨a,b,c,d,e,l⟩
theorem iJ{h:Sort _}{j:Sort _}{i:Sort _}{g:Sort _}{l:Sort _}{m:Sort _}{R:h->j->i->g->l->m->Prop}(a:h)(b:j)(c:i)(d:g)(e:l)(f:m)(n:R a b c d e f):∃a b c d e f,R a b c d e f:=⟨a,b,c,d,e,f,n⟩
theorem l9{j:Sort _}{m:Sort _}{l:Sort _}{h:Sort _}{n:Sort _}{o:Sort _}{i:Sort _}{R:j->m->l->h->n->o->i->Prop}(a:j)(b:m)(c:l)(d:h)(e:n)(f:o)(g:i)(p:R a b c d e f g):∃a b c d e f g,R a b c d e f g:=⟨a,b,c,d,e,f,g,p⟩
theorem Ow{l:Sort _}{n:Sort _}{m:Sort _}{i:Sort _}{o:Sort _}{q:Sort _}{j:Sort _}{p:Sort _}{R:l->n->m->i->o->q->j->p->Prop}(a:l)(b:n)(c:m)(d:i)(e:o)(f:q)(g:j)(h:p)(r:R a b c d e f g h):∃a b c d e f g h,R a b c d e f g h:=⟨a,b,c,d,e,f,g,h,r⟩
theorem ex9{j:Sort _}{p:Sort _}{l:Sort _}{n:Sort _}{r:Sort _}{s:Sort _}{o:Sort _}{m:Sort _}{q:Sort _}{R:j->p->l->n->r->s->o->m->q->Prop}(a:j)(b:p)(c:l)(d:n)(e:r)(f:s)(g:o)(h:m)(i:q)(t:R a b c d e f g h i):∃a b c d e f g h i,R a b c d e f g h i:=⟨a,b,c,d,e,f,g,h,i,t⟩
theorem ZA{l:Sort _}{r:Sort _}{m:Sort _}{o:Sort _}{t:Sort _}{u:Sort _}{p:Sort _}{n:Sort _}{s:Sort _}{q:Sort _}{R:l->r->m->o->t->u->p->n->s->q->Prop}(a:l)(b:r)(c:m)(d:o)(e:t)(f:u)(g:p)(h:n)(i:s)(j:q)(v:R a b c d e f g h i j):∃a b c d e f g h i j,R a b c d e f g h i j:=⟨a,b,c,d,e,f,g,h,i,j,v⟩
theorem jl{a b c:Prop}(e:a)(f:b)(g:c):a/\b/\c:=⟨e,f,g⟩
theorem kb{a b c d:Prop}(e:a)(f:b)(g:c)(hd:d):a/\b/\c/\d:=⟨e,f,g,hd⟩
theorem fT{a b c d e:Prop}(g:a)(i:b)(f:c)(hd:d)(h:e):a/\b/\c/\d/\e:=⟨g,i,f,hd,h⟩
theorem ot{a b c d e f:Prop}(i:a)(l:b)(h:c)(hd:d)(j:e)(g:f):a/\b/\c/\d/\e/\f:=⟨i,l,h,hd,j,g⟩
theorem jm{a b c d e f g:Prop}(l:a)(n:b)(i:c)(hd:d)(m:e)(h:f)(j:g):a/\b/\c/\d/\e/\f/\g:=⟨l,n,i,hd,m,h,j⟩
theorem an8{a b c d e f g h:Prop}(n:a)(p:b)(j:c)(hd:d)(o:e)(i:f)(m:g)(l:h):a/\b/\c/\d/\e/\f/\g/\h:=⟨n,p,j,hd,o,i,m,l⟩
theorem BS{a b c d e f g h i:Prop}(p:a)(r:b)(l:c)(hd:d)(q:e)(j:f)(o:g)(n:h)(m:i):a/\b/\c/\d/\e/\f/\g/\h/\i:=⟨p,r,l,hd,q,j,o,n,m⟩
theorem R3{a b c d e f g h i j:Prop}(n:a)(t:b)(q:c)(hd:d)(s:e)(o:f)(r:g)(m:h)(l:i)(p:j):a/\b/\c/\d/\e/\f/\g/\h/\i/\j:=⟨n,t,q,hd,s,o,r,m,l,p⟩
section
variable{K:fD}{H:Hp}{f:Str}{a C dx:eh}{fs:List (Str×V)}{v:V}
theorem a8{R:eh->eh->V->Prop}(h:H a=some (.ins C dx fs))(c:pJ K C)(n:bb K C f)(l:fs.lookup f=some v)(r:R a C v):∃b C dx fs v,V.ref a=.ref b/\H b=some (.ins C dx fs)/\pJ K C/\bb K C f/\fs.lookup f=some v/\R b C v:=⟨a,C,dx,fs,v,rfl,h,c,n,l,r⟩
theorem cb{R:eh->eh->eh->List (Str×V)->Prop}(h:H a=some (.ins C dx fs))(c:pJ K C)(n:bb K C f)(l:fs.length<1000)(r:R a C dx fs):∃b C dx fs,V.ref a=.ref b/\H b=some (.ins C dx fs)/\pJ K C/\bb K C f/\fs.length<1000/\R b C dx fs:=⟨a,C,dx,fs,rfl,h,c,n,l,r⟩
theorem eF{Dt:eh->Sp->List V->Prop}{sp:Sp}{b:List V}{R:eh->Sp->List V->Prop}(h:H a=some (.ins C dx fs))(d:Dt C sp b)(l:fs.lookup f=none)(r:R a sp b):∃c C dx fs sp b,V.ref a=.ref c/\H c=some (.ins C dx fs)/\Dt C sp b/\fs.lookup f=none/\R c sp b:=⟨a,C,dx,fs,sp,b,rfl,h,d,l,r⟩
theorem kc{R:V->Prop}{p:eh}{xs:List V}{i:Int}{v:V}(s:eZ K H p xs)(e:oK xs i=some v)(r:R v):∃c xs b v,V.ref p=.ref c/\V.int i=.int b/\eZ K H c xs/\oK xs b=some v/\R v:=⟨p,xs,i,v,rfl,rfl,s,e,r⟩
theorem kA{R:V->Prop}{p:eh}{xs:List V}{i:Int}{v:V}(s:iq K H p xs)(e:oK xs i=some v)(r:R v):∃c xs b v,V.ref p=.ref c/\V.int i=.int b/\iq K H c xs/\oK xs b=some v/\R v:=⟨p,xs,i,v,rfl,rfl,s,e,r⟩
theorem mu{R:V->Prop}{y v:V}(d:rL H a y (some v))(r:R v):∃b v,V.ref a=.ref b/\rL H b y (some v)/\R v:=⟨a,v,rfl,d,r⟩
theorem abu{R:eh->List V->Nat->Prop}{p:eh}{xs:List V}{k:Int}{j:Nat}(h:H p=some (.lst xs))(e:Cj xs.length k=some j)(r:R p xs j):∃b xs c j,V.ref p=.ref b/\V.int k=.int c/\H b=some (.lst xs)/\Cj xs.length c=some j/\R b xs j:=⟨p,xs,k,j,rfl,rfl,h,e,r⟩
end
def Inv.abD{X:Cx}{f:List (eh×Obj)}{j:St}{H:Hp}{s:eW}{a:eh}{o:HO}(I:Inv X f j H s)(g:H a=none)(t:X.s₀.heap.get? a=none)(l:a≠X.env.locals)
  (v:∀x c,X.env.cells.lookup x=some c->c≠a) (r:∀p∈X.pn++f,p.1≠a) (new:eK X.prog X.w (upd H a o) s.heap a o):Inv X f j (upd H a o) s:=by
 refine⟨I.ok,I.os,I.bare,⟨I.dX.keep,I.dX.slot,λb i q n m=>?_,I.dX.there,λb xs q=>?_,λb i u q=>?_,λb ps q=>?_⟩,I.loc,I.cell,?_,λx c e=>?_,λp h=>?_,λb u e=>?_,I.len⟩
 .rw[ai λz=>by rw[z,t] at q;cases q];exact I.dX.free b i q n m
 .have z:=I.dX.KG b xs q;rwa[ai (ao z g)]
 .have z:=I.dX.GR b i u q;rwa[ai (ao z g)]
 .obtain ⟨more,z⟩:=I.dX.Kq b ps q;exact⟨more,by rwa[ai (ao z g)]⟩
 .rw[ai (Ne.symm l)];exact I.free
 .rw[ai (v x c e)];exact I.lL x c e
 .obtain ⟨h1,h2,h3⟩:=I.pin p h;exact⟨h1,by rwa[ai (r p h)],h3⟩
 .by_cases hb:b=a
  .subst hb;rw[af] at e;cases e;exact new
  .rw[ai hb] at e;exact(I.hok b u e).N6 (λ_ _ _ q=>q) (λc q=>by rwa[ai (ao q g)]) λc xs q=>by rwa[ai (ao q g)]
section
variable{prog:hD}{w:gT}{A:ie}{R:Result->eW->Prop}{s:eW}
def NB{y a o:fU}{u:List fU}{scope:sZ}{D:Pos}{it z:ez}{env:Env}(I:Nat->eW->Prop)
  (turn:∀n s,I n s->wpAny (model prog w) A (pyNext it) (λr e=>match r with
   |none=>R (.ok .next) e
   |some v=>wpAny (model prog w) A (letOwnedTupleGo a it v) (λ_ g=>wpAny (model prog w) A (assign a env v) (λ_ l=>
     wpAny (model prog w) A (forIn u true λc r=>if r=true then do let ok<-isTrue c env (eval c env);pure (ajJ ok) else pure (ajJ r)) (λok b=>
      if ok=true then wpAny (model prog w) A (eval y env) (λx j=>
       wpAny (model prog w) A (call (.builtin "list.append") [z,x]) (λ_ p=>∃m,m<n/\I m p) (λ_ _=>False) j) (λ_ _=>False) b
      else ∃m,m<n/\I m b) (λ_ _=>False) l) (λ_ _=>False) g) (λ_ _=>False) e) (λ_ _=>False) s)
  (n:Nat) (h:I n s):
  codeAny (model prog w) A (.compLoop (.ListComp y [⟨a,o,u,0⟩] scope D) 0 it z env) R s:=by
 refine codeAny_loop rfl I (λn s F=>?_) n h;show wpAny _ A ((compTurn (.ListComp y [⟨a,o,u,0⟩] scope D) 0 it z env).onRaise (λx=>do noteFrame x env;theTreesLotGoes x)) _ _ s;refine wpAny_noted ?_;rw[compTurn_list];refine iV (akb (iV (ro (turn n s F) (λr e i=>?_) λ_ _ f=>f.elim)));cases r with
 |none=>exact nr i
 |some v=>
  refine iV (ro i (λ_ g t=>?_) λ_ _ f=>f.elim);refine iV (ro t (λ_ l B=>iV (ro B (λok b q=>?_) λ_ _ f=>f.elim)) λ_ _ f=>f.elim);cases ok with
  |false=>exact nr ⟨rfl,q⟩
  |true=>
   exact iV (iV (ro q (λx j E=>iV (ro E (λ_ p C=>nr (nr ⟨rfl,C⟩)) λ_ _ f=>f.elim)) λ_ _ f=>f.elim))
end
def PF(X:Cx)(e:List fU)(t:TT):Prop:=
 ∀(a:List (eh×Obj)) (s:eW) (b:St) (H:Hp) (Q:Bool->Hp->Prop),Inv X a b H s->t b H Q→
  wpAny (model X.prog X.w) X.A (forIn e true λc r=>if r=true then do let ok<-isTrue c X.env (eval c X.env);pure (ajJ ok) else pure (ajJ r)) (TP X a b Q) X.xe s
def afm:TT:=λ_ H Q=>Q true H
theorem Di{X:Cx}:PF X [] afm:=λ_ _ _ H _ I h=>wpAny_tests_nil ⟨H,I,h⟩
theorem DF{X:Cx}{c:fU}{t:TT}(h:PT X c t):PF X [c] t:=λa s b H Q I q=>wpAny_tests_one (h a s b H Q I q)
def Cx.comp(X:Cx)(c:List Str)(scope:sZ)(cl:List (Str×eh))(C:eh)(e:List eh)(b:eW)(a:Hp):Cx:=
 {X with N:=c,s₀:=b,H₀:=a,env:=compEnvC scope cl C X.env,eD:=X.stack,ex:=e,fn:=λ_=>false,pn:=[],xe:=λ_ _=>False}
def RF{b:Type}(P:b->Prop):List b->Prop
 |[]=>True
 |a::r=>P a/\RF P r
theorem RF.mem{b:Type}{P:b->Prop}:∀{l:List b},RF P l->∀a∈l,P a
 |_::_,⟨h,_⟩,_,.head _=>h
 |_::_,⟨_,t⟩,_,.tail _ m=>RF.mem t _ m
structure Am(X:Cx)(scope:sZ)(x:Str)(fr:List (Str×Nat))(cl:List (Str×eh)):Prop where
 kind:scope.kind=.function
 aee:closureFor scope X.env=pure cl
 Yt:∀y∈scope.names,y.2≠ .cell
 names:∀y∈scope.names,y.2=.local->scope.names.lookup y.1=some .local
 own:scope.names.lookup x=some .local
 nd:(x::fr.map (·.1)).Nodup
 cells:RF (λp:Str×eh=>X.env.cells.lookup p.1=some p.2) cl
 has:RF (λy:Str×YP=>y.2=.free->∃c,cl.lookup y.1=some c) scope.names
 slot:RF (λp:Str×Nat=>X.N[p.2]? =some p.1/\(X.env.kindOf p.1=some .cell\/X.env.kindOf p.1=some .free)/\scope.names.lookup p.1=some .free/\cl.lookup p.1=X.env.cells.lookup p.1) fr
theorem Am.cell{X:Cx}{scope:sZ}{x:Str}{fr:List (Str×Nat)}{cl:List (Str×eh)}(S:Am X scope x fr cl){y:Str}{c:eh}(e:cl.lookup y=some c):X.env.cells.lookup y=some c:=
 S.cells.mem _ (ahS e)
theorem BK{scope:sZ}{env:Env}{y:Str}:∀{l:List (Str×YP)} {k:YP},
  (l.map λ(n,k)=>if (k==NameKind.free&&env.scope.kind== .function&&env.kindOf n==some .cell) then (n,NameKind.cell) else (n,k)).lookup y=some k→
  ∃k0,l.lookup y=some k0/\(k=k0\/(k0=.free/\k=.cell))
 |[],_,h=>by simp at h
 |(n,k0)::r,k,h=>by
  have b:=@BK scope env y r k;have h:C0 y ((if (k0==NameKind.free&&env.scope.kind== .function&&env.kindOf n==some .cell)=true then (n,NameKind.cell) else (n,k0))::(r.map λ(n,k)=>if (k==NameKind.free&&env.scope.kind== .function&&env.kindOf n==some .cell) then (n,NameKind.cell) else (n,k)))=some k:=h;cases hx:y==n with
  |true=>
   refine⟨k0,by simp[B6,hx],?_⟩;by_cases a:(k0==NameKind.free&&env.scope.kind== .function&&env.kindOf n==some .cell)=true
   .rw[eT a] at h;simp only[B6,hx] at h;simp only[kE,rz] at a;exact .inr ⟨a.1.1,(hH h).symm⟩
   .rw[eJ a] at h;simp only[B6,hx] at h;exact .inl (hH h).symm
  |false=>
   have h':C0 y (r.map λ(n,k)=>if (k==NameKind.free&&env.scope.kind== .function&&env.kindOf n==some .cell) then (n,NameKind.cell) else (n,k))=some k:=by
    by_cases a:(k0==NameKind.free&&env.scope.kind== .function&&env.kindOf n==some .cell)=true
    .rw[eT a] at h;simpa only[B6,hx] using h
    .rw[eJ a] at h;simpa only[B6,hx] using h
   obtain⟨k1,e1,e2⟩:=b h';exact⟨k1,by simpa[B6,hx] using e1,e2⟩
theorem Bf{scope:sZ}{env:Env}{y:Str}:∀{l:List (Str×YP)},l.lookup y=some .free→
  (l.map λ(n,k)=>if (k==NameKind.free&&env.scope.kind== .function&&env.kindOf n==some .cell) then (n,NameKind.cell) else (n,k)).lookup y=some .free∨
  (l.map λ(n,k)=>if (k==NameKind.free&&env.scope.kind== .function&&env.kindOf n==some .cell) then (n,NameKind.cell) else (n,k)).lookup y=some .cell
 |[],h=>by simp at h
 |(n,k0)::r,h=>by
  have b:=@Bf scope env y r;show C0 y ((if (k0==NameKind.free&&env.scope.kind== .function&&env.kindOf n==some .cell)=true then (n,NameKind.cell) else (n,k0))::_)=_\/C0 y ((if (k0==NameKind.free&&env.scope.kind== .function&&env.kindOf n==some .cell)=true then (n,NameKind.cell) else (n,k0))::_)=_;cases hx:y==n with
  |true=>
   simp only[B6,hx] at h;cases h;by_cases a:(NameKind.free==NameKind.free&&env.scope.kind== .function&&env.kindOf n==some .cell)=true
   .rw[eT a];exact .inr (by simp[B6,hx])
   .rw[eJ a];exact .inl (by simp[B6,hx])
  |false=>
   simp only[B6,hx] at h;by_cases a:(k0==NameKind.free&&env.scope.kind== .function&&env.kindOf n==some .cell)=true
   .rw[eT a];simpa only[B6,hx] using b h
   .rw[eJ a];simpa only[B6,hx] using b h
def inner(a:St)(fr:List (Str×Nat))(v:Option V):St:=v::fr.map λp=>(a[p.2]?).join
section
variable{X:Cx}{et:List (eh×Obj)}{σ:St}{H2:Hp}{s2:eW}{scope:sZ}{x:Str}{fr:List (Str×Nat)}{cl:List (Str×eh)}{C:eh}{fp:List eh}
theorem Sl(S:Am X scope x fr cl)(I:Inv X et σ H2 s2)(p:s2.heap.objs.size<=C)(i:∀b∈fp,ky X et H2 b)(n:∀b∈fp,b<s2.heap.objs.size):
  (X.comp (x::fr.map (·.1)) scope cl C fp s2 H2).Ok where
 mod:=I.mod
 kind:=S.kind
 glob:=I.ok.glob
 blt:=I.ok.blt
 above:=p
 inj:=λy z c t r=>I.ok.inj y z c (S.cell t) (S.cell r)
 has:=λy m=>by
  have m:(relabel scope X.env).names.lookup y=some .cell\/(relabel scope X.env).names.lookup y=some .free:=m
  have f:∀k,(relabel scope X.env).names.lookup y=some k->(k=.cell\/k=.free)->∃c,cl.lookup y=some c:=λk s l=>by
   obtain⟨k0,e1,e2⟩:=BK (scope:=scope) s;have g:=ahS e1
   have j:k0=.free:=by
    rcases e2 with e2|e2
    .subst e2;rcases l with z|z
     .exact absurd z (S.Yt _ g)
     .exact z
    .exact e2.1
   exact S.has.mem _ g j
  rcases m with z|z
  .exact f _ z (.inl rfl)
  .exact f _ z (.inr rfl)
 cab:=λy c h _=>absurd (show(false:Bool)=true from h) ∅
 hd:=I.ok.hd
 frames:=I.ok.frames
 stk:= .inl rfl
 exf:=λb a=>⟨kx (pD (n b a) p),λy c e=>(i b a).2.2.2.2.1 y c (S.cell e)⟩
 bs:=I.bs
 bsz:=je I.ok.bsz I.sz
 LR:=λb o e a=>by
  rcases(i b a).2.2.2.1 with z|z
  .exact I.ok.LR b o e z
  .have q:=(I.ok.bs b o e).1;rw[z] at q;cases q
 Nf:=λb a g=>by
  rcases qJ.mp (I.RX b g) with z|z
  .exact (i b a).2.1 z
  .exact (i b a).2.2.1 z
 w6:=I.stack
 frf:=I.LV
theorem YC{j:gm}{t1:Nat}(S:Am X scope x fr cl)(I:Inv X et σ H2 s2)(B:s2.heap.objs.size<=C)(M:∀b∈fp,ky X et H2 b)(A:∀b∈fp,b<s2.heap.objs.size)
  (a:∀b o,s2.heap.get? b=some o->j.get? b=some o) (L:j.Ns C λ_=>none) {D:eh} {h:Obj} (Q:j.get? D=some h) (g:s2.heap.objs.size<=D) (t:D≠C) (l:∀v,h.data≠ .cell v):
  Inv (X.comp (x::fr.map (·.1)) scope cl C fp s2 H2) [(D,h)] (inner σ fr none) H2 {s2 with heap:=j,toks:=t1} where
 ok:=Sl S I B M A
 os:=rfl
 bare:=I.bare
 dX:=Un.kept a
 loc:=by
  refine⟨_,L,λi y v e1 e2 e3=>?_⟩;obtain⟨m,E,P⟩:=I.loc;cases i with
  |zero=>simp[inner] at e2
  |succ i=>
   have e1:(fr.map (·.1))[i]? =some y:=e1;have e2:(fr.map λp=>(σ[p.2]?).join)[i]? =some (some v):=e2;rw[hV] at e1 e2;cases q:fr[i]? with
   |none=>rw[q] at e1;cases e1
   |some p=>
    rw[q] at e1 e2;have e1:p.1=y:=hH e1;have e2:(σ[p.2]?).join=some v:=hH e2;subst e1;obtain⟨H,F,G,K⟩:=S.slot.mem p (S4 q)
    have w:σ[p.2]? =some (some v):=by
     cases r:σ[p.2]? with
     |none=>rw[r] at e2;cases e2
     |some N=>
      rw[r] at e2;cases N with
      |none=>cases e2
      |some J=>rw[show J=v from hH e2]
    have n:Vis X.env.scope p.1:=by
     rcases F with z|z
     .exact .inr (.inl z)
     .exact .inr (.inr z)
    obtain⟨u,O,lk⟩:=P p.2 p.1 v H w n;refine⟨u,O,.inr ⟨?_,?_⟩⟩
    .have:=Bf (scope:=scope) (env:=X.env) G;rcases this with z|z
     .exact .inr z
     .exact .inl z
    .rcases lk with⟨k,_⟩|⟨_,c,ec,ic⟩
     .rcases F with z|z<;>(rw[z] at k;cases k)
     .refine ⟨c,K.trans ec,?_⟩;obtain⟨o,f,hd⟩:=ic;exact⟨o,a _ _ f,hd⟩
 cell:=λy c e=>by
  obtain⟨v,o,f,hd⟩:=I.cell y c (S.cell e);exact⟨v,o,a _ _ f,hd⟩
 free:=I.hok.fresh B
 lL:=λy c e=>I.lL y c (S.cell e)
 pin:=λp s=>by
  have s:p=(D,h):=by simpa[Cx.comp] using s
  subst s;refine⟨Q,I.hok.fresh g,t,λE=>?_,l⟩;obtain⟨_,o,f,_⟩:=I.stack.mem (show D∈X.stack.filterMap (·.frame) from E);exact absurd (pD (ko f) g) (F6 _)
 hok:=I.hok.kept a
 len:=by simp[inner,Cx.comp]
end
abbrev N3(its:List ez)(n:Nat):Obj:={cls:= .type "list",data:= .seq its.toArray n}
def Po(J:It)(g:St)(fr:List (Str×Nat))(h:TT)(n:TE)(l:Hp)(Q:VK):Prop:=∃W:Nat->Nat->List V->Hp->Prop,(∃m,W 0 m [] l)/\∀i m ys H',W i m ys H'→
 (J.stop i H'/\ys.length<=sizeLine/\∀p,H' p=none->Q (.ref p) (upd H' p (.lst ys)))∨
 (J.go i H'/\∃N:List V->Hp->Prop,(∀f a,N f a->∃e,e<m/\W (i+1) e f a)/\∀v b,J.yld i H' v b->h (inner g fr (some v)) b λok c=>
  if ok=true then n (inner g fr (some v)) c λy j=>ys.length<sizeLine/\N (ys++[y]) j else N ys c)
def acn(e:TI)(fr:List (Str×Nat))(f:TT)(c:TE):TE:=λa H Q=>e a H λJ b=>Po J a fr f c b Q
section
variable{X:Cx}{scope:sZ}{x:Str}{fr:List (Str×Nat)}{cl:List (Str×eh)}{px pos:Pos}{iter elt:fU}{ifs:List fU}{wi:TI}{tf:TT}{te:TE}
def Of(S:Am X scope x fr cl)(hc:X.calm=true)
  (hf:∀C t j H,PF (X.comp (x::fr.map (·.1)) scope cl C t j H) ifs tf) (he:∀C t j H,PE (X.comp (x::fr.map (·.1)) scope cl C t j H) elt te)
  {s:List (eh×Obj)} {G:St} {j:eW} {H:Hp} {it:eh} {t:List eh} {tn:Nat->gm->Prop} {J:It} {Q:V->Hp->Prop} {E:ez->eW->Prop} {RR:ez->eh->Result->eW->Prop}
  (I:Inv X s G H j) (T:Turn X.prog X.w X.K (.Name x px) J t it tn) (st:tn 0 j.heap) (fo:∀b∈t,ky X s H b)
  (h:Po J G fr tf te H Q)
  (a0:∀D C m L H',Inv X s G H' L->L.heap.Ns C m->ky X s H' C->Q (.ref D) H'->RR (.ref D) C (.ok .next) L):
  wpAny (model X.prog X.w) X.A (newList []) (λas ay=>wpAny (model X.prog X.w) X.A (newFunctionEnv scope X.env.globals cl [] X.env.qual none .none (some X.env)) (λad an=>
   codeAny (model X.prog X.w) X.A (.compStart (.ListComp elt [⟨.Name x px,iter,ifs,0⟩] scope pos) 0 (.ref it) as {ad with scope:=relabel scope X.env}) (RR as ad.locals) an) E ay) E j:=by
 obtain⟨W,⟨m0,w0⟩,turn⟩:=h;refine al1 (wpAny_newFunctionEnv S.Yt (by intro y hy;simp at hy) (λB g l=>?_) S.kind);dsimp only at g l ⊢;generalize hH2:j.heap.push {cls:= .type "list",dict:=none,data:= .seq ([]:List ez).toArray}=G2 at g l ⊢;have hC:G2.objs.size=j.heap.objs.size+1:=by rw[<- hH2,aiS]
 have O:j.heap.objs.size≠G2.objs.size:=by rw[hC];exact kx (EU _)
 have F:j.heap.objs.size<=G2.objs.size:=by rw[hC];exact HY _
 have below:∀b,b<j.heap.objs.size->b≠G2.objs.size:=λb f=>by rw[hC];exact kx (al2 f)
 have aF:∀b o,j.heap.get? b=some o->B.get? b=some o:=λb o e=>l.extBut b o (below b (ko e)) (nc _ (hH2 ▸ nc _ e));have aN:B.get? j.heap.objs.size=some (N3 [] 0):=l.extBut _ _ O (nc _ (hH2 ▸ rx _ rfl))
 have Z:∀b∈t,b<j.heap.objs.size:=λb f=>by
  obtain⟨o,e,_⟩:=T.obj _ _ st b f;exact ko e
 generalize hDD:j.heap.objs.size=D at *;generalize hCC:G2.objs.size=C at *;have bn:(λy:Str=>([]:List (Str×ez)).reverse.lookup y)=λ_=>none:=rfl;have g:B.Ns C λ_=>none:=g;have IY:=YC (t1:=j.toks+([]:List (Str×ez)).length) S I (C:=C) (by rwa[hDD]) fo (λb f=>by rw[hDD];exact Z b f) aF g aN (by rw[hDD];exact fx _) O (λv z=>by cases z);have M:tn 0 B:=T.keep _ _ _ st λb f o e=>aF b o e
 let Y:Cx:=X.comp (x::fr.map (·.1)) scope cl C t j H
 have al:∀{H':Hp} {oD:Obj},(∀b∈t,H' b=none)->∀b∈t,ky Y [(D,oD)] H' b:=λ{H' oD} hn b f=>
  ⟨hn b f,below b (Z b f),λhm=>(Sl S I (C:=C) (by rwa[hDD]) fo (λb f=>by rw[hDD];exact Z b f)).Nf b f hm,.inl f,λy c e=>(fo b f).2.2.2.2.1 y c (S.cell e),λp P=>by
   have P:p=(D,oD):=by simpa[Y,Cx.comp] using P
   subst P;exact ai9 (Z b f)⟩
 have bg:Y.N.Nodup:=S.nd;have pg:PG Y (.Name x px) (Bo 0):=cG (i:=0) bg rfl (.inl (alk S.own)) (.inr (alk S.own))
 have ac:∀s3:eW,s3={j with heap:=B,toks:=j.toks+([]:List (Str×ez)).length}→
   codeAny (model X.prog X.w) X.A (.compLoop (.ListComp elt [⟨.Name x px,iter,ifs,0⟩] scope pos) 0 (.ref it) (.ref D) (compEnvC scope cl C X.env)) (RR (.ref D) C) s3:=by
  rintro s3 rfl;refine NB (λn L=>∃i v H' ys its k,Inv Y [(D,N3 its k)] (inner G fr v) H' L/\tn i L.heap/\(∀b∈t,H' b=none)/\Vals ys its/\W i n ys H') ?_ m0 ⟨0,none,H,[],[],0,IY,M,λb f=>(fo b f).1,.nil,w0⟩;rintro n s3 ⟨i,v0,H3,ys,its,k,I3,ax,aK,ab,w3⟩;rcases turn i n ys H3 w3 with⟨stop,hz,qn⟩|⟨go,N,hN,step⟩
  .refine jG (T.done Y rfl rfl rfl hc i _ s3 _ H3 _ I3 (al aK) ax stop) λr s4 U=>?_;obtain⟨hr,I4⟩:=U;subst hr;have R:=I4.pin (D,N3 its k) (wb _ (oi.mpr rfl));obtain⟨mC,a9,_⟩:=I4.loc;have nC:H3 C=none:=I4.free;have IX:Inv X s G H3 s4:=I.abT I4.os I4.dX I4.hok I4.bare λb f=>⟨(fo b f).2.2.2.1,(fo b f).2.1,(fo b f).2.2.2.2.1,(fo b f).2.2.2.2.2⟩;have bm:∀{b:eh},b<D->b<j.heap.objs.size:=λh=>by rwa[hDD]
   have nL:∀a,D<=a->a≠X.env.locals/\(∀y c,X.env.cells.lookup y=some c->c≠a)/\(∀p∈X.pn++s,p.1≠a)/\a∉X.fs:=λa ha=>by
    have az:j.heap.objs.size<=a:=by rwa[hDD]
    have z:=I.QI (H':=H) az (I.hok.fresh az);exact⟨z.2.1,z.2.2.2.2.1,z.2.2.2.2.2,z.2.2.1⟩
   have sz:∀a,D<=a->X.s₀.heap.get? a=none:=λa ha=>ait (je I.sz (by rwa[hDD]));obtain⟨d1,d2,d3,d4⟩:=nL D (fx _);have IT:=IX.abD (a:=D) (o:= .lst ys) R.2.1 (sz D (fx _)) d1 d2 d3 ⟨hz,its,k,ab,R.1⟩;obtain⟨c1,c2,c3,c4⟩:=nL C F;exact a0 D C mC s4 _ IT a9 ⟨by rwa[ai (Ne.symm O)],c1,c4,.inr (sz C F),c2,c3⟩ (qn D R.2.1)
  .refine jG (T.item Y rfl rfl rfl hc i _ s3 _ H3 _ I3 (al aK) ax go) λr s4 U=>?_;obtain⟨u,hr,h4⟩:=U;subst hr;refine jG h4 λ_ s5 U=>?_;obtain⟨v,H5,I5,r5,y5,am,be⟩:=U;have bd:=I5.pinned (al be) (T.obj _ _ am);have ev:(inner G fr v0).set 0 (some v)=inner G fr (some v):=rfl;refine jG (pg _ s5 _ H5 v u _ bd r5 (show Bo 0 v (inner G fr v0) H5 (λap H6=>ap=inner G fr (some v)/\H6=H5) from⟨ev,rfl⟩)) λ_ s6 U=>?_;obtain⟨ap,H6,I6,e6,a6⟩:=U;subst e6;subst a6;refine jG (hf C t j H _ s6 _ _ _ I6 (step v _ y5)) λok s7 U=>?_;obtain⟨H7,I7,q7⟩:=U
   have back:∀{vv:Option V} {H':Hp} {L:eW} {its':List ez} {k':Nat},Inv Y ([(D,N3 its' k')]++uS t s5.heap) (inner G fr vv) H' L->Inv Y [(D,N3 its' k')] (inner G fr vv) H' L/\tn (i+1) L.heap/\∀b∈t,H' b=none:=λ{vv H' L its' k'} J'=>by
    refine⟨J'.Cd,T.keep _ _ _ am λb f o e=>(J'.pin (b,o) (wb _ (wb _ (uY f e)))).1,λb f=>?_⟩;obtain⟨o,e,d⟩:=T.obj _ _ am b f;exact(J'.pin (b,o) (wb _ (wb _ (uY f e)))).2.1
   cases ok with
   |false=>
    obtain⟨m',hm,w7⟩:=hN _ _ q7;obtain⟨J1,J2,J3⟩:=back I7;exact⟨m',hm,i+1,some v,H7,ys,its,k,J1,J2,J3,ab,w7⟩
   |true=>
    refine jG (he C t j H _ s7 _ _ _ I7 q7) λuy s8 U=>?_;obtain⟨y,H8,I8,r8,q8⟩:=U;obtain⟨hz,q8⟩:=q8;obtain⟨m',hm,w8⟩:=hN _ _ q8;have R:=I8.pin (D,N3 its k) (wb _ (aiu _ (oi.mpr rfl)));have bi:=ab.length;refine ajk alJ ⟨_,R.1,rfl⟩ alr (alj _ _) (alZ D its.toArray k uy (by rw[iB];lia)) ⟨R.1,?_⟩;have q:=amj R.1 (·.push uy);have a3:its.toArray.push uy=(its++[uy]).toArray:=by simp
    rw[a3] at q;obtain⟨k',q⟩:∃k',(s8.heap.update D (T1 (·.push uy))).get? D=some (N3 (its++[uy]) k'):=⟨_,q⟩;have a4:∀b o,b≠D->s8.heap.get? b=some o->(s8.heap.update D (T1 (·.push uy))).get? b=some o:=λb o f e=>(aiL s8.heap _ (Ne.symm f)).trans e;have a5:Inv Y (uS t s5.heap) (inner G fr (some v)) H8 s8:=I8.Gh λp P=>I8.pin p (wb _ (wb _ P))
    have a2:∀p∈Y.pn++uS t s5.heap,p.1≠D:=λp P=>by
     have P:p∈uS t s5.heap:=by simpa[Y,Cx.comp] using P
     exact kx (Z _ (Lk P).1)
    have a7:∀y c,Y.env.cells.lookup y=some c->c≠D:=λy c e z=>by
     obtain⟨vv,o,ho,hd⟩:=I8.cell y c e;rw[z,R.1] at ho;cases ho;cases hd
    have I9:=a5.turned (t':=s8.toks) (it:=D) a4 R.2.1 O (.inr (by show j.heap.get? D=none;exact ait (by rw[hDD];exact fx _))) a7 a2
    have a1:Inv Y ([(D,N3 (its++[uy]) k')]++uS t s5.heap) (inner G fr (some v)) H8 {s8 with heap:=s8.heap.update D (T1 (·.push uy)),toks:=s8.toks}:=I9.Gh λp P=>by
     rcases ql.mp P with z|z
     .have z:p=(D,N3 (its++[uy]) k'):=oi.mp z;subst z;exact⟨q,R.2.1,O,R.2.2.2.1,λvv z=>by cases z⟩
     .exact I9.pin p (wb _ z)
    obtain⟨J1,J2,J3⟩:=back a1;exact⟨m',hm,i+1,some v,H8,ys++[y],its++[uy],k',J1,J2,J3,ab.append (.cons r8 .nil),w8⟩
 exact codeAny_compStart_list (ac _ rfl) (T.self _ 0 _ _ _ M (ac _ rfl))
def nM(S:Am X scope x fr cl)(M:X.calm=true)(B:PI X (.Name x px) iter wi)
  (K:∀C g f i,PF (X.comp (x::fr.map (·.1)) scope cl C g f i) ifs tf) (y:∀C g f i,PE (X.comp (x::fr.map (·.1)) scope cl C g f i) elt te)
  (hs:∀v,foldedSetIterable iter X.env v=pure v:=by intro _;rfl):PE X (.ListComp elt [⟨.Name x px,iter,ifs,0⟩] scope pos) (acn wi fr tf te):=by
 intro a s p H Q I h;rw[eval_ListComp];refine akz (use:=none) rfl hs S.aee S.kind S.names (jG (B a s p H _ I h) λv O N=>jG N λr f l=>?_);obtain⟨it,g,P,J,i,e,u,T,j,L,l⟩:=l;subst e;refine Of (Q:=Q) (RR:=λn C=>compPost (model X.prog X.w) X.A X.xe none (EP X a p Q) n C) S M K y u T j L l ?_;intro D C m t H' z G c q;refine⟨m,G,λh' F=>?_⟩;exact⟨.ref D,H',z.turned (t':=t.toks) (λb o E e=>(F.2 b E).trans e) c.1 c.2.1 c.2.2.2.1 c.2.2.2.2.1 c.2.2.2.2.2,rfl,q⟩
def A8{y:Str}{i f:Pos}{j:Nat}(M:X.N.Nodup)(W:X.N[j]? =some y)(Z:Loc X.env.scope y)(S:Am X scope x fr cl)(hc:X.calm=true)(O:PI X (.Name x px) iter wi)
  (hf:∀C r p n,PF (X.comp (x::fr.map (·.1)) scope cl C r p n) ifs tf) (he:∀C r p n,PE (X.comp (x::fr.map (·.1)) scope cl C r p n) elt te)
  (E:swapsWith (.ListComp elt [⟨.Name x px,iter,ifs,0⟩] scope pos) (some (.Name y i)) f.line X.env=pure true:=by rfl)
  (K:X.fn y=true\/X.env.scope.names.lookup y=some .local:=by first|exact .inl rfl|exact .inr rfl|assumption)
  (hs:∀v,foldedSetIterable iter X.env v=pure v:=by intro _;rfl):PS X (.Assign [.Name y i] (.ListComp elt [⟨.Name x px,iter,ifs,0⟩] scope pos) f) (aaM (acn wi fr tf te) (Bo j)):=by
 intro c s L H D I h;rw[exec_Assign_Name_used _ _ _ _ E];refine iV (akb (iV ?_));show wpAny _ X.A (do let _<-comprehension (.ListComp elt [⟨.Name x px,iter,ifs,0⟩] scope pos) scope X.env _ (newList []) false (eval iter X.env) (some (assign (.Name y i) X.env))) _ _ s
 refine iV (ro (akz (use:=some (assign (.Name y i) X.env)) (Q:=λ_ l=>SP X c D .next l) rfl hs S.aee S.kind S.names
  (jG (O c s L H _ I h) λv s1 h1=>jG h1 λP p B=>?_)) (λ_ l R=>nr (nr R)) λ_ _ e=>e)
 obtain⟨it,r,tn,J,n,e,U,T,u,f2,B⟩:=B;subst e;refine Of (Q:=λv H'=>Bo j v L H' D.nx) (RR:=λG C=>compPost (model X.prog X.w) X.A X.xe (some (assign (.Name y i) X.env)) (λ_ l=>SP X c D .next l) G C) S hc hf he U T u f2 B ?_;intro D' C m l H' I' hm g q;show wpAny _ X.A (assign (.Name y i) X.env (.ref D')) _ _ _;refine alW (K6 I' M W Z (show RelV (.ref D') (.ref D') from rfl) (λs3 Y zz=>?_) K);obtain⟨a,sb,ha⟩:=zz
 have t:C≠a:=by
  rcases ha with z|z
  .rw[z];exact g.2.1
  .exact λw=>g.2.2.2.2.1 y a z w.symm
 refine⟨m,hm.sameBut sb t,λh' F=>?_⟩;exact⟨_,H',Y.turned (t':=s3.toks) (λb o hb e=>(F.2 b hb).trans e) g.1 g.2.1 g.2.2.2.1 g.2.2.2.2.1 g.2.2.2.2.2,q⟩
end
def dq{J:It}{n:Nat}{g:St}{fr:List (Str×Nat)}{l:TT}{h:TE}{H:Hp}{Q:VK}(a:Nat->List V->Hp->Prop)(u:a 0 [] H)(w:∀i ys H',i<n->a i ys H'->J.go i H')(stop:∀ys H',a n ys H'->J.stop n H')
  (step:∀i ys H' v b,i<n->a i ys H'->J.yld i H' v b->l (inner g fr (some v)) b λok o=>if ok=true then h (inner g fr (some v)) o λy t=>ys.length<sizeLine/\a (i+1) (ys++[y]) t else a (i+1) ys o)
  (f:∀ys H',a n ys H'->ys.length<=sizeLine/\∀p,H' p=none->Q (.ref p) (upd H' p (.lst ys))):
  Po J g fr l h H Q:=by
 refine⟨λi m ys H'=>a i ys H'/\i<=n/\m=n-i,⟨n,u,pI _,rfl⟩,?_⟩;rintro i m ys H' ⟨c,s,rfl⟩;by_cases e:i=n
 .subst e;obtain⟨x,z⟩:=f ys H' c;exact .inl ⟨stop ys H' c,x,z⟩
 .have hlt:i<n:=Nat.lt_of_le_of_ne s e;exact .inr ⟨w i ys H' hlt c,λr j=>a (i+1) r j,λr j q=>⟨n-(i+1),by omega,q,hlt,rfl⟩,λv b y=>step i ys H' v b hlt c y⟩
def NQ(h:gm)(e:eh)(cls:ez)(d:Option eh):Option (eh×ez)->Prop
 |none=>∃a vs,h.get? e=some a/\a.cls=cls/\a.dict=d/\a.data=.fields vs/\vs[1]? =some .none
 |some (T,fl)=>T≠e/\(∃a vs,h.get? e=some a/\a.cls=cls/\a.dict=d/\a.data=.fields vs/\vs[1]? =some (.ref T))/\∃b ts,h.get? T=some b/\b.data=.fields ts/\ts[3]? =some fl
structure Nt(fs ch:List eh)(h h':gm):Prop where
 keep:∀b o,b∉fs->b∉ch->h.get? b=some o->h'.get? b=some o
 slot:∀b o,b∉ch->h.get? b=some o->∃sl,h'.get? b=some {o with slots:=sl}
theorem Nt.refl(fs ch:List eh)(h:gm):Nt fs ch h h:=⟨λ_ _ _ _ e=>e,λ_ o _ e=>⟨o.slots,e⟩⟩
theorem Nt.trans{fs ch:List eh}{h g f:gm}(a:Nt fs ch h g)(b:Nt fs ch g f):Nt fs ch h f:=
 ⟨λc o g f e=>b.keep c o g f (a.keep c o g f e),λc o i e=>by
  obtain⟨_,e1⟩:=a.slot c o i e;obtain⟨j,e2⟩:=b.slot c _ i e1;exact⟨j,e2⟩⟩
theorem Nt.mono{fs ch f:List eh}{h h':gm}(a:Nt fs ch h h')(s:∀b∈ch,b∈f):Nt fs f h h':=
 ⟨λc o j g e=>a.keep c o j (λz=>g (s c z)) e,λc o i e=>a.slot c o (λz=>i (s c z)) e⟩
section
variable{M:xl}{A:ie}{E:ez->eW->Prop}{s:eW}{dX:gm}{env:Env}{eD:List Env}{L e:eh}
def Ea{T:eh}{a:Obj}{ts:Array ez}{k:Nat}{v:ez}{Q:Unit->eW->Prop}(c:s.heap.get? T=some a)(hd:a.data=.fields ts)(f:k<ts.size)
  (h:∀h',h'.get? T=some (a.mapFields (·.setIfInBounds k v))->(∀b,b≠T->h'.get? b=s.heap.get? b)->h'.objs.size=s.heap.objs.size->Q .unit {s with heap:=h'}):wpAny M A (setField (.ref T) k v) Q E s:=by
 refine wpAny_setField c hd f (h _ ?_ (λb g=>aiL _ _ (Ne.symm g)) (Heap.size_after_update ..));exact ak3 _ c (Obj.isFreed_of_fields (ajc hd _))
def IP{i:Obj}{vs:Array ez}{f:ez}{l:Bool}{Q:Unit->eW->Prop}(j:A.frames=some (env::eD))(w:s.heap.FunFrames dX (env::eD))(G:env.frame=some L)
  (u:s.heap.get? e=some i) (hd:i.data=.fields vs) (hsz:1<vs.size)
  (h:∀h' T t ts,Nt (rP (env::eD)) [e] s.heap h'->s.heap.get? T=none->s.heap.objs.size<=T->h'.get? e=some (i.mapFields (·.setIfInBounds 1 (.ref T)))->h'.get? T=some t->t.data=.fields ts→
   ts[3]? =some (rawInt L)->Q .unit {s with heap:=h'}):
  wpAny M A (do let a<-frameOf env;let pl<-entryPlaceOf L l;let b<-alu f a .none (rawInt L) .none pl;setField (.ref e) 1 b) Q E s:=by
 have ne:e∉rP (env::eD):=λF=>by
  obtain⟨_,o,v,y⟩:=w.mem F;rw[u] at v;cases v;exact y vs hd
 refine iV (wpAny_frameOf_fun j w G λr g=>iV (wpAny_entryPlaceOf λpl c=>?_));unfold alu newFields;refine iV (al1 ?_ (c.sizeOk5 _ _ _ _ _));have e1:r.get? e=some i:=(g.2.1 e ne).trans u;have n:r.objs.size≠e:=ai9 (ko e1);refine Ea (nc _ e1) hd hsz λD B m _=>?_;refine h D r.objs.size _ _ ⟨λb o C p q=>?_,λb o p q=>?_⟩ (ait (by rw[g.1];exact fx _)) (by rw[g.1];exact fx _) B ((m _ n).trans (rx _ rfl)) rfl ?_
 .have hb':b≠e:=λz=>p (by rw[z];exact oi.mpr rfl);rw[m b hb'];exact nc _ ((g.2.1 b C).trans q)
 .have hb':b≠e:=λz=>p (by rw[z];exact oi.mpr rfl);obtain⟨x,z⟩:=g.2.2 b o q;exact⟨x,by rw[m b hb'];exact nc _ z⟩
 .first|(simp;done)|(rcases c with rfl|⟨_,_,_,_,_,_,_,rfl⟩<;>simp)
def Xe(L:eh):Option (eh×ez)->Prop
 |none=>True
 |some (_,fl)=>fl=.none\/fl=rawInt L
def Ve:Option (eh×ez)->List eh
 |none=>[]
 |some (T,_)=>[T]
def Wz{cls:ez}{d:Option eh}{v:Option (eh×ez)}{Q:Unit->eW->Prop}(t:A.frames=some (env::eD))(U:s.heap.FunFrames dX (env::eD))(B:env.frame=some L)
  (x:NQ s.heap e cls d v) (X:Xe L v)
  (h:∀h' i,Nt (rP (env::eD)) (e::Ve v) s.heap h'->(i∈Ve v\/(s.heap.get? i=none/\s.heap.objs.size<=i))->NQ h' e cls d (some (i,rawInt L))->Q .unit {s with heap:=h'}):
  wpAny M A (noteFrame (.ref e) env) Q E s:=by
 cases v with
 |none=>
  obtain⟨C,vs,a,D,f,hd,m⟩:=x;have hsz:1<vs.size:=(air.mp m).1;unfold noteFrame;simp only[B];refine iV (aj3 a hd m ?_);rw[eJ ∅];refine IP t U B a hd hsz λh' T H ts n g l N R r K=>h h' T n (.inr ⟨g,l⟩) ⟨?_,⟨_,_,N,?_,?_,ajc hd _,by simp[hsz]⟩,H,ts,R,r,K⟩
  .intro z;rw[z,a] at g;cases g
  .rwa[al3]
  .obtain ⟨c,dd,dt,sl⟩:=C;cases dt<;>exact f
 |some p=>
  obtain⟨T,Y⟩:=p;obtain⟨j,⟨C,vs,a,D,f,hd,m⟩,H,ts,y,u,r⟩:=x;have hsz:1<vs.size:=(air.mp m).1;have w:3<ts.size:=(air.mp r).1;rcases X with rfl|rfl
  .unfold noteFrame;simp only[B];refine iV (aj3 a hd m ?_);rw[eT (show(kO T != K2)=true from by simp)];refine iV (aj3 y u r ?_);rw[eJ (show ¬((K2==rawInt L)=true) from by simp[rawInt])];refine iV (Ea y u w λP k1 k2 k3=>?_);have F:Nt (rP (env::eD)) [e,T] s.heap P:=⟨λb o _ O q=>by rw[k2 b λz=>O (by simp[z])];exact q,λb o O q=>⟨o.slots,by rw[k2 b λz=>O (by simp[z])];exact q⟩⟩;have S:P.FunFrames dX (env::eD):=U.of_keeps λb o q W=>⟨o,by rw[k2 b λz=>by rw[z,y] at q;cases q;exact W ts u];exact q,rfl⟩;refine IP (s:={s with heap:=P}) t S B ((k2 e (Ne.symm j)).trans a) hd hsz λh' i G J n g l N R I K=>h h' i (F.trans (n.mono (by simp))) (.inr ⟨?_,?_⟩) ⟨?_,⟨_,_,N,?_,?_,ajc hd _,by simp[hsz]⟩,G,J,R,I,K⟩
   .by_cases z:i=T
    .rw[z,k1] at g;cases g
    .rwa[<- k2 i z]
   .exact k3 ▸ l
   .intro z;rw[z,k2 e (Ne.symm j),a] at g;cases g
   .rwa[al3]
   .obtain ⟨c,dd,dt,sl⟩:=C;cases dt<;>exact f
  .refine wpAny_noteFrame_inFlight B a hd m y u r ?_;exact h s.heap T (Nt.refl _ _ _) (.inl (by simp[Ve])) ⟨j,⟨C,vs,a,D,f,hd,m⟩,H,ts,y,u,r⟩
def EB{T:eh}{cls t:ez}{d:Option eh}{Q:Unit->eW->Prop}(x:NQ s.heap e cls d (some (T,t)))
  (h:∀h',Nt [] [T] s.heap h'->NQ h' e cls d (some (T,.none))->Q .unit {s with heap:=h'}):wpAny M A (setFlight (.ref e) none) Q E s:=by
 obtain⟨c,⟨r,vs,j,p,f,hd,l⟩,u,ts,m,i,n⟩:=x;have a:3<ts.size:=(air.mp n).1;unfold setFlight;refine iV (aj3 j hd l ?_);rw[eT (show(kO T != K2)=true from by simp)];refine Ea m i a λh' k1 k2 _=>h h' ⟨λb o _ g q=>by rw[k2 b λz=>g (by simp[z])];exact q,λb o g q=>⟨o.slots,by rw[k2 b λz=>g (by simp[z])];exact q⟩⟩ ?_;exact⟨c,⟨r,vs,(k2 e (Ne.symm c)).trans j,p,f,hd,l⟩,_,_,k1,ajc i _,by simp[a]⟩
end
theorem Nt.abS{fs f ch:List eh}{h h':gm}(a:Nt fs ch h h')(s:∀b∈fs,b∈f):Nt f ch h h':=⟨λc o i g e=>a.keep c o (λz=>i (s c z)) g e,a.slot⟩
section
variable{X:Cx}{et:List (eh×Obj)}{σ:St}{H:Hp}{s:eW}
def Inv.Sk{h':gm}{ch:List eh}{t':Nat}(I:Inv X et σ H s)(n:Nt (rP X.stack) ch s.heap h')(a:∀b∈ch,ky X et H b):Inv X et σ H {s with heap:=h',toks:=t'}:=by
 refine I.call (g':=s.gens) (d':=s.drawn) (t':=t') (ch:=ch) ⟨λb o q _ f g=>n.keep b o f g q,λb o q _ _ g=>n.slot b o g q,λ_ _ _ z _=>z,λb o q g=>?_,λ_ _ z=>z,λ_ _ _ z=>z,λb ps z=>⟨#[],by rw[z];simp⟩⟩ ?_ I.bare
  λb f=>⟨(a b f).2.2.2.1,(a b f).2.1,(a b f).2.2.2.2.1,(a b f).2.2.2.2.2⟩
 .obtain ⟨sl,z⟩:=n.slot b o g q;exact⟨_,z⟩
 .intro b u e;refine(I.hok b u e).N6 (λc v i q=>?_) (λ_ z=>z) λ_ _ z=>z
  have h:H c≠none:=by
   rcases i with z|z
   .rw[z,e];intro q;cases q
   .rw[z];intro q;cases q
  exact n.keep c v (λz=>h (I.LV c z)) (λz=>h (a c z).1) q
def Inv.Sq{H':Hp}{b:eh}(I:Inv X et σ H s)(a:s.heap.get? b=none)(h:H' b=none):ky X et H' b:=by
 have ne:∀c o,s.heap.get? c=some o->c≠b:=λc o e z=>by rw[z,a] at e;cases e
 refine⟨h,?_,λg=>?_,?_,λx c e=>?_,λp f=>?_⟩
 .obtain ⟨m,⟨o,_,_,ho,_⟩,_⟩:=I.loc;exact Ne.symm (ne _ o ho)
 .obtain ⟨_,o,ho,_⟩:=I.w6.mem g;exact ne _ o ho rfl
 .by_cases hx:b∈X.ex
  .exact .inl hx
  .refine .inr ?_;cases q:X.s₀.heap.get? b with
   |none=>rfl
   |some o=>
    obtain⟨i,z⟩:=I.dX.there b o q hx;rw[a] at z;cases z
 .obtain ⟨v,o,ho,_⟩:=I.cell x c e;exact ne _ o ho
 .exact ne _ _ (I.pin p f).1
def Inv.KZ{b:eh}(I:Inv X et σ H s)(g:s.heap.get? b=none):H b=none:=by
 cases q:H b with
 |none=>rfl
 |some o=>
  have z:=I.hok b o q
  have:∃a,s.heap.get? b=some a:=by
   cases o with
   |lst xs=>obtain⟨_,_,_,_,e⟩:=z;exact⟨_,e⟩
   |tup xs=>obtain⟨_,_,_,a,e,_⟩:=z;exact⟨_,e⟩
   |dK c=>obtain⟨_,_,_,_,a,_,_,e,_⟩:=z;exact⟨_,e⟩
   |dT c=>obtain⟨_,_,_,_,a,_,_,e,_⟩:=z;exact⟨_,e⟩
   |set S n=>obtain⟨a,_,_,_,e,_⟩:=z;exact⟨_,e⟩
   |ins C h fs=>obtain⟨_,_,_,e,_⟩:=z;exact⟨_,e⟩
   |own y=>obtain⟨_,e⟩:=z;exact⟨_,e⟩
   |xd fs=>obtain⟨_,⟨_,_,_,e,_⟩,_⟩:=z;exact⟨_,e⟩
   |rng lo i=>obtain⟨_,_,_,e⟩:=z;exact⟨_,e⟩
   |frz a u=>obtain⟨e,_⟩:=z;exact⟨_,e⟩
   |tbl ps=>exact⟨_,show s.heap.get? b=some _ from z⟩
   |met f y=>exact⟨_,show s.heap.get? b=some _ from z⟩
   |ext j=>obtain⟨_,⟨_,e⟩,_⟩:=z;exact⟨_,e⟩
  obtain⟨a,e⟩:=this;rw[g] at e;cases e
end
def fm(P:hD)(w:gT):tI:=λeD H s E b a=>∃(e:eh) (cls:ez) (d:Option eh) (T:eh) (H':Hp),b=.ref e/\a.os=s.os/\Hq a.gens/\Un (rP eD) [] H H' s.heap a.heap/\mh P w H' a.heap∧
 NQ a.heap e cls d (some (T,.none))/\(H' e=none/\s.heap.get? e=none)/\(H' T=none/\s.heap.get? T=none)/\E cls d H'
structure Arr(X:Cx)(et:List (eh×Obj))(σ:St)(H:Hp)(s:eW)(e:eh)(cls:ez)(d:Option eh):Prop where
 inv:Inv X et σ H s
 tr:∃tr,NQ s.heap e cls d tr/\Xe X.env.locals tr/\∀T∈Ve tr,ky X et H T
 fp:ky X et H e
def Throws(X:Cx)(E:St->XK):Prop:=∀(a:List (eh×Obj)) (b:St) (H:Hp) (s:eW) (e:eh) (cls:ez) (d:Option eh),Arr X a b H s e cls d->E b cls d H->X.xe (.ref e) s
def Pt(X:Cx):Prop:=X.stack=X.env::X.eD/\X.env.frame=some X.env.locals/\X.ex=[]
section
variable{X:Cx}{et:List (eh×Obj)}{σ:St}{H:Hp}{s:eW}{e:eh}{cls:ez}{d:Option eh}
def Arr.land{M:xl}{E:ez->eW->Prop}{Q:Unit->eW->Prop}(a:Arr X et σ H s e cls d)(hd:Pt X)
  (h:∀h' T,Inv X et σ H {s with heap:=h'}->NQ h' e cls d (some (T,.none))->ky X et H T->Q .unit {s with heap:=h'}):
  wpAny M X.A (noteFrame (.ref e) X.env) (λ_ m=>wpAny M X.A (setFlight (.ref e) none) Q E m) E s:=by
 obtain⟨t,x,l,j⟩:=a.tr;refine Wz (dX:=X.dX) (by rw[<- hd.1];exact a.inv.ok.frames) (by rw[<- hd.1];exact a.inv.stack) hd.2.1 x l λv f n p u=>?_
 have i:ky X et H f:=by
  rcases p with z|⟨z,_⟩
  .exact j f z
  .exact a.inv.Sq z (a.inv.KZ z)
 refine EB u λg r o=>h g f ?_ o i
 have q:Nt (rP X.stack) (e::f::Ve t) s.heap g:=by
  rw[hd.1];refine(n.mono λb c=>?_).trans ((r.mono λb c=>?_).abS λb c=>absurd c (by simp))
  .rcases qJ.mp c with z|z
   .rw[z];exact ll
   .exact mD _ (mD _ z)
  .rw[oi.mp c];exact mD _ ll
 refine a.inv.Sk (t':=s.toks) q λb c=>?_;rcases qJ.mp c with z|z
 .rw[z];exact a.fp
 .rcases qJ.mp z with z|z
  .rwa[z]
  .exact j b z
theorem passes{E:St->XK}(j:Throws X E):Passes (fm X.prog X.w) X E:=λet σ H s p a I h=>by
 obtain⟨e,cls,d,T,H',rfl,os,bare,un,hok,x,⟨c,g⟩,⟨n,l⟩,q⟩:=h;have f:Inv X et σ H' a:=I.abT os un hok bare λb i=>absurd i (by simp);exact j et σ H' a e cls d ⟨f,⟨_,x,.inl rfl,λo m=>by rw[oi.mp m];exact I.Sq l n⟩,I.Sq g c⟩ q
end
theorem dE{P:hD}{w:gT}{K:fD}{mg:Str->Option ez}{dX:gm}{N:List Str}{b:Str}{scope:sZ}{f:eh}{h:ez}{A:ie}{eD:List Env}{g:eW}{l:Hp}{E:XK}{cm:Bool}:
  Throws (vL cm (fm P w) P w K mg dX N b scope f h A eD g l E) λ_=>E:=λi n H s e cls d a q=>by
 show wpAny (model P w) (A.deeper (envOfC b scope g.heap.objs.size f h)) (leaving (envOfC b scope g.heap.objs.size f h) (.ref e)) _ _ s;unfold leaving;refine iV (a.land ⟨rfl,rfl,rfl⟩ λh' T c m j=>⟨e,cls,d,T,H,rfl,c.os,c.bare,c.dX,c.hok,m,⟨a.fp.1,?_⟩,⟨j.1,?_⟩,q⟩)
 .rcases a.fp.2.2.2.1 with z|z
  .exact absurd (show e∈([]:List eh) from z) (by simp)
  .exact z
 .rcases j.2.2.2.1 with z|z
  .exact absurd (show T∈([]:List eh) from z) (by simp)
  .exact z
abbrev bmV:List ez:=[.type "ValueError",.type "Exception",.type "BaseException",.type "object"]
abbrev Ec(K:fD)(C:eh):Prop:=ai2 K C bmV "ValueError.__new__"=true
def Ec.obj{K:fD}{C:eh}{h:gm}(q:Ec K C)(k:K.In h):∃bm N nm c bs hdct sn sub ab col dd k0 k1 k2 k3 k5 mN,
  h.get? C=some (excClassObj nm c C N bs bm hdct sn sub ab col dd k0 k1 k2 k3 k5 "ValueError.__new__")/\h.Ns N mN/\mN "__init__"=none/\OwnTail h bmV bm:=by
 unfold Ec ai2 at q
 split at q
 .rename_i dd cd sl ho
  split at q
  .rename_i C' bm k0 k1 k2 k3 n k5 hm hs
   simp only[kE,rz,aib] at q;obtain⟨⟨⟨⟨⟨rfl,rfl⟩,a⟩,e⟩,hok⟩,b⟩:=q;obtain⟨nm,bs,g,ns,c,hd,sn,sub,ab,col,f⟩:=cd;dsimp only at hm a hok b;subst hm a;obtain⟨l⟩:=sl;dsimp only at hs;subst hs;exact⟨bm,ns,nm,c,bs,hd,sn,sub,ab,col,dd,k0,k1,k2,k3,k5,_,k _ _ ho,.of_isNs (PySem.W.isNs_of_in k hok),PySem.W.nsMap_none_of_in k hok b,PySem.W.tail_of_in k e⟩
  .cases q
 .cases q
def acy(C:eh)(E:St->XK)(c:TA):TS:=λ_ a H=>c a H λvs b=>vs.length<=sizeLine/\E a (.ref C) none b
section
variable{X:Cx}{x:Str}{C:eh}{np cpos pos:Pos}{a:fU}{es:List fU}{ta:TA}{E:St->XK}
def Rz{b:List (eh×Obj)}{c:St}{H:Hp}{s:eW}{h':gm}{e:eh}{vs:List ez}(f:Throws X E)(I:Inv X b c H s)(m:Heap.MadeExcOf s.heap h' e (.ref C) vs)(q:E c (.ref C) none H):
  X.xe (.ref e) {s with heap:=h'}:=by
 obtain⟨t,h,_,_⟩:=m.there;exact f b c H _ e (.ref C) none ⟨I.kept (t':=s.toks) m.keeps,⟨none,⟨_,_,h,rfl,rfl,rfl,rfl⟩,trivial,λT g=>absurd g (by simp[Ve])⟩,I.Sq m.new (I.KZ m.new)⟩ q
def Iv(B:X.calm=true)(p:Throws X E)(n:Ec X.K C)(G:Gl X x)(z:X.mg x=some (.ref C))(u:PA X (a::es) ta)(hd:(x==("__debug__":Str))=false:=by decide)
  (i:starEach (a::es) X.env=(false,eval a X.env)::starEach es X.env:=by rfl) (f:(backTo cpos (starEach es X.env)).any (·.1)=false:=by rfl):
  PS X (.Raise (some (.Call (.Name x np) (a::es) [] cpos)) none pos) (acy C E ta):=by
 intro b s o H D I h;obtain⟨bm,N,nm,t,bs,hdct,sn,sub,ab,col,dd,k0,k1,k2,k3,k5,mN,v,j,g,T⟩:=n.obj I.mod.kin
 refine wpAny_Raise_call_subT (C:=C) (nm:=nm) (q:=t) (N:=N) (bs:=bs) (bm:=bm) (hdct:=hdct) (sn:=sn) (sub:=sub) (ab:=ab) (col:=col) (dd:=dd) (k0:=k0) (k1:=k1) (k2:=k2) (k3:=k3) (k5:=k5)
  PySem.F.excBase_ValueError (mN:=mN) (T.hasType PySem.F.excBase_ValueError.hasBase) (I.ok.hd B) (by rw[i];show(false||(backTo cpos (starEach es X.env)).any (·.1))=false;rw[f];rfl) g (yM I G z ⟨rfl,?_⟩ hd)
 have w:=u cpos b s o H _ I h;rw[i] at w ⊢;refine ali (ro w (λus L r=>?_) λ_ _ y=>y);obtain⟨vs,J,c,l,A,q⟩:=r;exact⟨rfl,by rwa[<- l.length],c.bk _ _ v,j.keeps c.bk,T.keeps c.bk,λh' e m=>Rz p c m q⟩
end
end L2
namespace Cut
open PySem PySem.Builtin PySem.Builtin.Str
end Cut
namespace L2
open PySem PySem.Spec PyProof.Rows
section
variable{X:Cx}
def zF:sg X (.type "int") (λxs H Q=>∃z n,xs=[.str z]/\ak5 z=some n/\z.length<=640/\Q (.int n) H):=by
 intro a s f H xs us Q I r h;obtain⟨z,n,rfl,e,c,q⟩:=h;obtain⟨u,rfl,b⟩:=vals1 r;obtain⟨t,rfl⟩:=(show ∃t,u=F1 z t from b);exact PySem.W.KIN.call_text e c ⟨.int n,H,I.tok _,⟨_,rfl⟩,q⟩
def Its(z:Str):It:=⟨λi _=>i<z.cps.size,λi H x H'=>H'=H/\∃c,z.cps[i]? =some c/\x=.str ⟨#[c]⟩,λi _=>i=z.cps.size⟩
def Wi{P:hD}{w:gT}{K:fD}{x:Str}{N:Pos}{it:eh}{ty:String}{z:Str}{t:Tok}(W:∀A:ie,A.handled=none->Walks P w A it [it] [it] z.cps.size (SignAt z) (λi h=>h.IsStrIter it ty z t i))
  (self:∀(A:ie) (i:Nat) (s:eW) (Q:ez->eW->Prop) (E:ez->eW->Prop),s.heap.IsStrIter it ty z t i->Q (.ref it) s->wpAny (model P w) A (pyIter (.ref it)) Q E s):
  Turn P w K (.Name x N) (Its z) [it] it (λi h=>h.IsStrIter it ty z t i) where
 mem:=by simp
 obj:=λi h st b f=>by
  have e:b=it:=by simpa using f
  subst e;obtain⟨o,e,c,d⟩:=st;exact⟨o,e,λv q=>by rw[d] at q;cases q⟩
 keep:=λi h h' st k=>let ⟨o,ho,r⟩:=st;⟨o,k it (by simp) o ho,r⟩
 item:=by
  intro X p m y F i a s J H E I j st g;subst p m y;obtain⟨C,B,M,G,l,n⟩:=j it (by simp);refine(W X.A (I.ok.hd F)).item i s _ _ g st λv h' tk pv D k=>?_;obtain⟨c,u,e,rfl⟩:=pv;have L:Inv X a J H {s with heap:=h',toks:=tk}:=I.turned (t':=tk) (λb o f q=>k b o (by simpa using f) q) C B G l n;exact⟨_,rfl,nr ⟨.str ⟨#[c]⟩,H,L,⟨u,rfl⟩,⟨rfl,c,e,rfl⟩,D,λb f=>(j b f).1⟩⟩
 done:=by
  intro X p m y F i a s J H E I j st g;subst p m y;have g:i=z.cps.size:=g;subst g;obtain⟨C,B,M,G,l,n⟩:=j it (by simp);exact(W X.A (I.ok.hd F)).done s _ _ st λh' tk k=>⟨rfl,I.turned (t':=tk) (λb o f q=>k b o (by simpa using f) q) C B G l n⟩
 self:=self
def afJ(b:TE):TI:=λc H R=>b c H λx a=>∃z,x=.str z/\R (Its z) a
def acr{l:fU}{n:TE}{x:Str}{p:Pos}(B:PE X l n):PI X (.Name x p) l (afJ n):=by
 intro c s m H R I h;refine jG (B c s m H _ I h) λv a C=>?_;obtain⟨y,r,j,u,D⟩:=C;obtain⟨z,rfl,q⟩:=D;obtain⟨t,rfl⟩:=(show ∃t,v=F1 z t from u)
 have f:∀{ty:String} {o:Obj},(∀A:ie,A.handled=none->Walks X.prog X.w A a.heap.objs.size [a.heap.objs.size] [a.heap.objs.size] z.cps.size (SignAt z) (λi h=>h.IsStrIter a.heap.objs.size ty z t i))→
   (∀(A:ie) (i:Nat) (s:eW) (Q:ez->eW->Prop) (E:ez->eW->Prop),s.heap.IsStrIter a.heap.objs.size ty z t i->Q (.ref a.heap.objs.size) s->wpAny (model X.prog X.w) A (pyIter (.ref a.heap.objs.size)) Q E s)→
   (a.heap.push o).IsStrIter a.heap.objs.size ty z t 0->PIE X c m (.Name x p) R (.ref a.heap.objs.size) {a with heap:=a.heap.push o}:=λ{ty o} W self st=>by
  refine⟨a.heap.objs.size,[a.heap.objs.size],_,_,r,rfl,j.kept (t':=a.toks) λb G e=>nc _ e,Wi W self,st,λb F=>?_,q⟩;have e:b=a.heap.objs.size:=by simpa using F
  subst e;exact j.QI (fx _) (j.hok.fresh (fx _))
 cases ha:z.cps.all (·<128)
 .exact wpAny_pyIter_wide ha (f (λA g=>Walks.strWide g _ z t) (λ_ _ _ _ _ st q=>wpAny_pyIter_striter_wide st q) ⟨_,rx _ rfl,rfl,rfl⟩)
 .exact wpAny_pyIter_ascii ha (f (λA g=>Walks.strAscii g _ z t) (λ_ _ _ _ _ st q=>wpAny_pyIter_striter_ascii st q) ⟨_,rx _ rfl,rfl,rfl⟩)
theorem ae9{bs:List Bool}:∀{its:List ez} {i:Nat} {v:ez},Vals (bs.map V.bl) its->its[i]? =some v->∃b,bs[i]? =some b/\v=.bool b:=λ{its i v} r e=>by
 have g:=r.length
 have h:i<bs.length:=by
  have:=(pE.mp e).1;rw[fC] at g
  lia
 have c:bs[i]? =some bs[i]:=gx h;obtain⟨u,a,f⟩:=r.get (show(bs.map V.bl)[i]? =some (V.bl bs[i]) by rw[hV,c];rfl);rw[e] at a;cases a;exact⟨_,c,f⟩
def QQ(bs:List Bool):((gG bs.length).all λi=>(bs[i]?).getD true)=bs.all id:=by
 rw[qj,vc,vc]
 constructor
 .intro h b hb;obtain⟨i,a,e⟩:=alv hb;have:=h i (pf.mpr a);rw[gx a,e] at this;exact this
 .intro h i a;have a:=pf.mp a;rw[gx a];exact h _ (ve a)
def Zf(z:X.calm=true):sg X (.builtin "all") (λxs H Q=>∃(p:eh) (bs:List Bool),xs=[.ref p]/\eZ X.K H p (bs.map V.bl)/\Q (.bl (bs.all id)) H):=by
 intro g s E H xs us Q I r h;obtain⟨p,bs,rfl,m,q⟩:=h;obtain⟨u,rfl,n⟩:=vals1 r;cases n;obtain⟨its,l,w,F⟩:=I.list m;have c:=w.isList;have f:p<s.heap.objs.size:=by obtain⟨_,e,_⟩:=c;exact ko e
 have a:its.length=bs.length:=by have:=l.length;rw[fC] at this;lia
 refine call_all_walk (ais c ?_)
 refine⟨s.heap.objs.size,[s.heap.objs.size,p],[s.heap.objs.size],its.toArray.size,_,_,λi=>(bs[i]?).getD true,rfl,anc (A:=X.A.in1) (I.ok.hd z) _ p (kx f) its.toArray,
  ⟨⟨_,rx _ rfl,rfl,rfl⟩,c.push _⟩,λi v B C D t j=>?_,λh' tk x=>?_⟩
 .obtain ⟨b,e,rfl⟩:=ae9 l (by simpa using t);simp only[e,Option.getD_some] at j;exact NW j
 .rw[iB,a,QQ];refine⟨.bl (bs.all id),H,I.kept (t':=tk) λb o e=>x b o (λy=>?_) (nc _ e),rfl,q⟩;rw[oi.mp y] at e;exact F6 _ (ko e)
def PJ(X:Cx)(es:List fU)(t:St->Hp->Str->(Str->Hp->Prop)->Prop):Prop:=∀(a:List (eh×Obj)) (s:eW) (c:St) (H:Hp) (b:Str) (Q:Str->Hp->Prop),Inv X a c H s->t c H b Q→
 wpAny (model X.prog X.w) X.A (joinParts b (evalEach es X.env)) (EP X a c λx H'=>∃z,x=.str z/\Q z H') X.xe s
theorem Zd:PJ X [] (λ_ H a Q=>a.length<=sizeLine/\Q a H):=λb s c H a Q I h=>joinParts_nil ⟨.str a,H,I.tok _,⟨_,rfl⟩,a,rfl,h.2⟩ h.1
def Gi{e:fU}{es:List fU}{g:TE}{t:St->Hp->Str->(Str->Hp->Prop)->Prop}(p:PE X e g)(j:PJ X es t)(hs:evalEach (e::es) X.env=eval e X.env::evalEach es X.env:=by rfl):
  PJ X (e::es) (λc H a Q=>g c H λx f=>∃y,x=.str y/\(a++y).length<=sizeLine/\t c f (a++y) Q):=by
 intro b s c H a Q I h;rw[hs];refine joinParts_cons (p.th I h λv n x f m o i=>?_);obtain⟨y,rfl,l,q⟩:=i;obtain⟨t,rfl⟩:=(show ∃t,v=F1 y t from o);exact⟨l,j b n c f _ Q m q⟩
def TJ{f c:fU}{a:List fU}{g:Pos}{t:St->Hp->Str->(Str->Hp->Prop)->Prop}(h:PJ X (f::c::a) t)(hs:evalEach (f::c::a) X.env=eval f X.env::eval c X.env::evalEach a X.env:=by rfl):
  PE X (.JoinedStr (f::c::a) g) (λi H Q=>t i H aj4 λz H'=>Q (.str z) H'):=by
 intro b s i H Q I q;have w:=h b s i H aj4 _ I q;rw[hs] at w;exact JoinedStr_many (jG w λv p o=>by obtain⟨x,m,l,n,z,e,j⟩:=o;exact⟨x,m,l,n,by rwa[e]⟩)
def ab4{e:fU}{c:Pos}{g:TE}(h:PE X e g):PE X (.FormattedValue e (-1) none c) (λl H Q=>g l H λx b=>(∃i,x=.int i/\i.natAbs.log2<1920/\Q (.str (toString i)) b)\/∃y,x=.str y/\y.length<=sizeLine/\Q (.str y) b):=by
 intro m s l H Q I q;refine FormattedValue_plain (h.th I q λv p x b f j a=>?_);rcases a with⟨i,rfl,n,a⟩|⟨y,rfl,o,a⟩
 .obtain ⟨t,rfl⟩:=(show ∃t,v=GQ i t from j);exact formatField_int_small n ⟨.str _,b,f.tok _,⟨_,rfl⟩,a⟩
 .obtain ⟨t,rfl⟩:=(show ∃t,v=F1 y t from j);exact formatField_str (λt' tk=>⟨.str y,b,f.tok tk,⟨t',rfl⟩,a⟩) o
end
section
variable{X:Cx}{et pins':List (eh×Obj)}{σ:St}{H:Hp}{s:eW}{pn':List (eh×Obj)}{E':ez->eW->Prop}
abbrev Cx.tJ(X:Cx)(pn':List (eh×Obj))(E':ez->eW->Prop):Cx:={X with pn:=pn',xe:=E'}
theorem Cx.Ok.tJ(ok:X.Ok)(pn':List (eh×Obj))(E':ez->eW->Prop):(X.tJ pn' E').Ok:=
 ⟨ok.mod,ok.kind,ok.glob,ok.blt,ok.above,ok.inj,ok.has,ok.cab,ok.hd,ok.frames,ok.stk,ok.exf,ok.bs,ok.bsz,ok.LR,ok.Nf,ok.w6,ok.frf⟩
theorem Cx.Ok.gH(ok:(X.tJ pn' E').Ok):X.Ok:=
 ⟨ok.mod,ok.kind,ok.glob,ok.blt,ok.above,ok.inj,ok.has,ok.cab,ok.hd,ok.frames,ok.stk,ok.exf,ok.bs,ok.bsz,ok.LR,ok.Nf,ok.w6,ok.frf⟩
theorem Inv.tJ(I:Inv X et σ H s)(E':ez->eW->Prop):Inv (X.tJ (X.pn++et) E') [] σ H s:=
 ⟨I.ok.tJ _ _,I.os,I.bare,I.dX,I.loc,I.cell,I.free,I.lL,λp a=>I.pin p (by simpa using a),I.hok,I.len⟩
theorem Inv.gH(I:Inv (X.tJ (X.pn++et) E') pins' σ H s):Inv X et σ H s:=
 ⟨I.ok.gH,I.os,I.bare,I.dX,I.loc,I.cell,I.free,I.lL,λp a=>I.pin p (aiu _ a),I.hok,I.len⟩
theorem ky.gH{b:eh}(f:ky (X.tJ (X.pn++et) E') pins' H b):ky X et H b:=
 ⟨f.1,f.2.1,f.2.2.1,f.2.2.2.1,f.2.2.2.2.1,λp a=>f.2.2.2.2.2 p (aiu _ a)⟩
theorem Arr.gH{e:eh}{cls:ez}{d:Option eh}(a:Arr (X.tJ (X.pn++et) E') pins' σ H s e cls d):Arr X et σ H s e cls d:=
 ⟨a.inv.gH,let ⟨tr,x,hk,ft⟩:=a.tr;⟨tr,x,hk,λT b=>(ft T b).gH⟩,a.fp.gH⟩
def PH(X:Cx)(hs:List ajv)(t:Ends->St->XK):Prop:=∀(et:List (eh×Obj)) (s:eW) (σ:St) (H:Hp) (e:eh) (cls:ez) (d:Option eh) (T:eh) (D:Ends),
 Inv X et σ H s->NQ s.heap e cls d (some (T,.none))->ky X et H e->ky X et H T->t D σ cls d H->wpAny (model X.prog X.w) X.A (handleBy (.ref e) X.env hs) (SP X et D) X.xe s
def QK{i c:List fy}{p:ajv}{hs:List ajv}{t:Pos}{y:Ends->TS}{x:TS}{th:Ends->St->XK}(m:Pt X)
  (E:∀D pn' E',Throws (X.tJ pn' E') (th D)->amJ (model X.prog X.w) X.A X.env E'->nh (X.tJ pn' E') i (y D)) (F:nh X c x) (z:PH X (p::hs) th):
  PS X (.Try i (p::hs) c [] t) (λD σ H=>y D {D with nx:=x D} σ H):=by
 intro et s σ H D I h;refine wpAny_Try_except ?_
 let E':ez->eW->Prop:=λo n=>wpAny (model X.prog X.w) X.A (noteFrame o X.env) (λ_ B=>wpAny (model X.prog X.w) X.A (setFlight o none) (λ_ G=>wpAny (model X.prog X.w) X.A (handleBy o X.env (p::hs)) (SP X et D) X.xe G) X.xe B) X.xe n
 have J:Throws (X.tJ (X.pn++et) E') (th D):=λpins' b g n e cls d a q=>(a.gH).land m λh' T C K L=>z et _ b g e cls d T D C K a.gH.fp L q;refine ro (E D _ E' J PassesOwn.looking [] s σ H _ (I.tJ E') h) (λf n l=>?_) λo n l=>l;cases f with
 |next=>obtain⟨b,g,j,q⟩:=l;exact F et n b g D j.gH q
 |brk=>obtain⟨b,g,j,q⟩:=l;exact⟨b,g,j.gH,q⟩
 |cont=>obtain⟨b,g,j,q⟩:=l;exact⟨b,g,j.gH,q⟩
 |ret u=>obtain⟨v,b,g,j,r,q⟩:=l;exact⟨v,b,g,j.gH,r,q⟩
end
section
variable{M:xl}{A:ie}{E:ez->eW->Prop}
def EM{K:fD}{s:eW}{e C a:eh}{c:Obj}{b:Bool}{Q:Bool->eW->Prop}(k:K.In s.heap)(l:s.heap.get? e=some c)(p:c.cls=.ref C)(j:Ec K a)(m:su K C (.ref a)=some b)(h:Q b s):
  wpAny M A (excMatches (.ref e) (.ref a)) Q E s:=by
 obtain⟨bm,N,nm,u,bs,hdct,sn,sub,ab,col,dd,k0,k1,k2,k3,k5,mN,i,q,o,T⟩:=j.obj k;have n:(kO a::bm).contains (.type "BaseException")=true:=by rw[List.contains_cons,T.hasType (show bmV.contains (.type "BaseException")=true from rfl),Bool.or_true]
 have L:=alw (M:=M) k m;obtain⟨r,g,d,t,os⟩:=s;have f:=tc_notTuple;unfold excMatches
 repeat (first|(with_reducible refine aiP l ?_;rw[p])|with_reducible refine aiP i ?_|(with_reducible refine wpAny_isSubtype_exc i ?_;rw[n])|(with_reducible refine L.at ?_)|wp_step)
 cases b<;>(wp_walk;exact h)
end
def vr(e C:eh)(d:Option eh):HO:= .ext λh=>∃o vs,h.get? e=some o/\o.cls=.ref C/\o.dict=d/\o.data=.fields vs
def vr.ok{P:hD}{w:gT}{H:Hp}{h:gm}{e C:eh}{d:Option eh}(x:∃o vs,h.get? e=some o/\o.cls=.ref C/\o.dict=d/\o.data=.fields vs):eK P w H h e (vr e C d):=by
 refine⟨x,?_,λb a p k=>?_⟩
 .obtain ⟨o,_,e1,_⟩:=x;exact⟨o,e1⟩
 .obtain ⟨o,vs,e1,r⟩:=p;exact⟨o,vs,k o e1,r⟩
section
variable{X:Cx}{et:List (eh×Obj)}{σ:St}{H:Hp}{s:eW}{e:eh}
abbrev Cx.eY(X:Cx)(e:eh):Cx:={X with A:=X.A.mark (some (.ref e)),calm:=false,xe:=λ_ _=>False}
theorem Cx.Ok.eY(ok:X.Ok)(e:eh):(X.eY e).Ok:=
 ⟨ok.mod,ok.kind,ok.glob,ok.blt,ok.above,ok.inj,ok.has,ok.cab,λz=>absurd (show(false:Bool)=true from z) ∅,ok.frames,ok.stk,ok.exf,ok.bs,ok.bsz,ok.LR,ok.Nf,ok.w6,ok.frf⟩
theorem Inv.eY(I:Inv X et σ H s)(e:eh):Inv (X.eY e) et σ H s:=⟨I.ok.eY e,I.os,I.bare,I.dX,I.loc,I.cell,I.free,I.lL,I.pin,I.hok,I.len⟩
theorem Inv.jf(I:Inv (X.eY e) et σ H s)(ok:X.Ok):Inv X et σ H s:=⟨ok,I.os,I.bare,I.dX,I.loc,I.cell,I.free,I.lL,I.pin,I.hok,I.len⟩
def SP.jf{D:Ends}{f:Flow}(h:SP (X.eY e) et D f s)(ok:X.Ok):SP X et D f s:=by
 cases f with
 |next=>obtain⟨a,c,b,q⟩:=h;exact⟨a,c,b.jf ok,q⟩
 |brk=>obtain⟨a,c,b,q⟩:=h;exact⟨a,c,b.jf ok,q⟩
 |cont=>obtain⟨a,c,b,q⟩:=h;exact⟨a,c,b.jf ok,q⟩
 |ret u=>obtain⟨v,a,c,b,r,q⟩:=h;exact⟨v,a,c,b.jf ok,r,q⟩
def aeY(i:Nat)(D:Ends):Ends:={nx:=λσ H=>D.nx (σ.set i none) H,rt:=D.rt,bk:=λσ H=>D.bk (σ.set i none) H,ct:=λσ H=>D.ct (σ.set i none) H}
def Inv.Wv{M:xl}{A:ie}{E:ez->eW->Prop}{i:Nat}{n:Str}{l:Pos}{Q:Unit->eW->Prop}(I:Inv X et σ H s)(C:X.N.Nodup)(t:X.N[i]? =some n)(J:X.env.kindOf n=some .local)
  (h:∀x,Inv X et (σ.set i none) H x->Q .unit x):wpAny M A (do bindName X.env n .none;unbindBehindTheSuite X.env n l) Q E s:=by
 obtain⟨m,B,lo⟩:=I.loc;have f:(X.env.scope.kind== .class||(X.env.scope.kind== .module&&X.env.locals != X.env.globals))=false:=by rw[I.ok.kind];rfl
 refine wpAny_nameGoes_keeps J B f λh' v G hs=>h _ ?_;obtain⟨L,es,O,D,_⟩:=id B;refine⟨I.ok,I.os,I.bare,⟨λb o e n g a=>?_,λb o e n g a=>?_,I.dX.free,λb o e a=>?_,I.dX.KG,I.dX.GR,I.dX.Kq⟩,⟨_,G,λj y w e1 e2 e3=>?_⟩,λy c e=>?_,I.free,I.lL,λp F=>?_,?_,by simpa using I.len⟩
 .exact (hs.2 b (kx (pD (ko e) I.ok.above))).trans (I.dX.keep b o e n g a)
 .obtain ⟨sl,q⟩:=I.dX.slot b o e n g a;exact⟨sl,(hs.2 b (kx (pD (ko e) I.ok.above))).trans q⟩
 .obtain ⟨o',q⟩:=I.dX.there b o e a;exact⟨o',(hs.2 b (kx (pD (ko e) I.ok.above))).trans q⟩
 .by_cases hj:j=i
  .subst hj;have z:j<σ.length:=by rw[I.len];exact(pE.mp t).1
   rw[ajq z] at e2;cases e2
  .rw[ajG (Ne.symm hj)] at e2;obtain⟨u,r,q⟩:=lo j y w e1 e2 e3;refine⟨u,r,?_⟩;rcases q with⟨k,q⟩|⟨k,c,e,z⟩
   .refine .inl ⟨k,?_⟩;have:y≠n:=λq=>hj (Hg C e1 (q ▸ t));simp[this,q]
   .exact .inr ⟨k,c,e,z.sameBut hs (I.Ma y c e)⟩
 .obtain ⟨w,z⟩:=I.cell y c e;exact⟨w,z.sameBut hs (I.Ma y c e)⟩
 .obtain ⟨e,n,ne,nf,d⟩:=I.pin p F;exact⟨(hs.2 p.1 ne).trans e,n,ne,nf,d⟩
 .intro b u e;refine(I.hok b u e).N6 (λc w K q=>(hs.2 c λz=>?_).trans q) (λ_ z=>z) λ_ _ z=>z;subst z;rcases K with z|z
  .rw[<- z] at e;rw[I.free] at e;cases e
  .rw[I.free] at z;cases z
end
section
variable{X:Cx}{x n:Str}{C':eh}{np pos:Pos}{b0:fy}{suite:List fy}{rest:List ajv}{ts:TS}{tr:Ends->St->XK}
def JI{a:List (eh×Obj)}{s:eW}{g:St}{H:Hp}{e:eh}{cls:ez}{d:Option eh}{T:eh}(f:Pt X)(I:Inv X a g H s)(l:NQ s.heap e cls d (some (T,.none)))(c:ky X a H e)(r:ky X a H T){C:eh}(m:cls=.ref C)
  {Q:Unit->eW->Prop} {M:xl} {A:ie} {E:ez->eW->Prop} (h:∀h',Inv X a g (upd H e (vr e C d)) {s with heap:=h'}->Q .unit {s with heap:=h'}):wpAny M A (setFlight (.ref e) none) Q E s:=by
 subst m;refine EB l λh' j o=>h h' ?_;have p:Inv X a g H {s with heap:=h'}:=I.Sk (t':=s.toks) (j.abS λb i=>absurd i (by simp)) λb i=>by rwa[oi.mp i]
 obtain⟨_,⟨q,vs,e1,e2,e3,e4,_⟩,_⟩:=o;rcases c.2.2.2.1 with z|z
 .rw[f.2.2] at z;exact absurd z (by simp)
 .exact p.abD c.1 z c.2.1 c.2.2.2.2.1 c.2.2.2.2.2 (vr.ok ⟨q,vs,e1,e2,e3,e4⟩)
def aeG{i:Nat}(r:Pt X)(G:X.N.Nodup)(J:X.N[i]? =some n)(F:X.env.kindOf n=some .local)(hg:Gl X x)(Z:X.mg x=some (.ref C'))(S:Ec X.K C')(hs:∀e,nh (X.eY e) (b0::suite) ts)(Y:PH X rest tr)
  (hd:(x==("__debug__":Str))=false:=by decide):
  PH X (.ExceptHandler (some (.Name x np)) (some n) (b0::suite) pos::rest) (λD y cls d H=>∃C b,cls=.ref C/\su X.K C (.ref C')=some b∧
   if b=true then ∀e,H e=none->ts (aeY i D) (y.set i (some (.ref e))) (upd H e (vr e C d)) else tr D y cls d H):=by
 intro c s y H e cls d T D I B E M h;obtain⟨C,b,rfl,m,q⟩:=h;refine alx (ak6 (aip I.ok.kind hg (ajm (by rw[I.ok.glob];exact I.mod.glob.keeps I.bk) Z ?_) hd)) (by intro z;cases z);obtain⟨oe,vs,e1,e2,_⟩:=id B.2.1;refine EM I.ma e1 e2 S m ?_;cases b with
 |false=>exact Y c s y H e _ d T D I B E M q
 |true=>
  refine codeAny_handlers_suite_as ?_;refine JI r I B E M rfl λh' W=>?_;have R:=W.eY e;refine IA (X:=X.eY e) R G J (.inl F) (show RelV (.ref e) (.ref e) from rfl) (λO P=>?_) (.inr F);refine ro (hs e c O _ _ _ P (q e E.1)) (λf L t=>?_) λ_ _ z=>z.elim;have done:∀{a:St} {g:Hp} {Q:Unit->eW->Prop},Inv (X.eY e) c a g L->(∀p,Inv X c (a.set i none) g p->Q .unit p)->wpAny (model X.prog X.w) X.A (do bindName X.env n .none;unbindBehindTheSuite X.env n pos) Q X.xe L:=λ{a g Q} j k=>Inv.Wv (j.jf I.ok) G J F k;cases f with
  |next=>obtain⟨a,g,j,l⟩:=t;exact done j λp o=>⟨_,g,o,l⟩
  |brk=>obtain⟨a,g,j,l⟩:=t;exact done j λp o=>⟨_,g,o,l⟩
  |cont=>obtain⟨a,g,j,l⟩:=t;exact done j λp o=>⟨_,g,o,l⟩
  |ret u=>obtain⟨v,a,g,j,U,l⟩:=t;exact done j λp o=>⟨v,_,g,o,U,l⟩
def XH(c:Pt X)(u:Gl X x)(p:X.mg x=some (.ref C'))(t:Ec X.K C')(hs:∀e,nh (X.eY e) (b0::suite) ts)(o:PH X rest tr)(hd:(x==("__debug__":Str))=false:=by decide):
  PH X (.ExceptHandler (some (.Name x np)) none (b0::suite) pos::rest) (λD g cls d H=>∃C b,cls=.ref C/\su X.K C (.ref C')=some b∧
   if b=true then ∀e,H e=none->ts D g (upd H e (vr e C d)) else tr D g cls d H):=by
 intro a s g H e cls d T D I i j l h;obtain⟨C,b,rfl,m,q⟩:=h;refine alx (ak6 (aip I.ok.kind u (ajm (by rw[I.ok.glob];exact I.mod.glob.keeps I.bk) p ?_) hd)) (by intro z;cases z);obtain⟨y,vs,e1,e2,_⟩:=id i.2.1;refine EM I.ma e1 e2 t m ?_;cases b with
 |false=>exact o a s g H e _ d T D I i j l q
 |true=>
  refine codeAny_handlers_suite ?_;refine JI c I i j l rfl λh' v=>?_;exact ro (hs e a _ _ _ _ (v.eY e) (q e j.1)) (λf w r=>SP.jf r I.ok) λ_ _ z=>z.elim
end
structure Jx(K:fD)(C:eh):Prop where
 ga:pq K (.ref C) "__getattribute__"=some (some (.builtin "BaseException.__getattribute__"))
 gt:pq K (.ref C) "__getattr__"=some none
 cl:pq K (.ref C) "__class__"=some (some (.builtin "object.__class__"))
 mb:su K C (.type "BaseException")=some true
 mo:su K C (.type "object")=some true
section
variable{prog:hD}{w:gT}{A:ie}{E:ez->eW->Prop}{K:fD}{C a:eh}{o:Obj}{vs:Array ez}{h:gm}{g:Array amU}{d:Drawn}{t:Nat}{os:OsState}
theorem aaU{h:gm}(b:h.get? a=some o)(f:o.cls=.ref C)(hd:o.data=.fields vs)(e:o.dict=none):amB h a o C none:=
 ⟨b,f,by obtain⟨c,dd,j,i⟩:=o;cases hd;rfl,by rw[e];trivial⟩
def WE{tk:Tok}{Q:Fin->eW->Prop}(X:K.In h)(x:Jx K C)(b:h.get? a=some o)(c:o.cls=.ref C)(hd:o.data=.fields vs)(f:o.dict=none)(m:Q (.done (.ret (.ref C))) ⟨h,g,d,t,os⟩):
  wpAny (model prog w) A (amE.«object.__getattribute__» ⟨[.ref a,.str "__class__" tk],[]⟩) Q E ⟨h,g,d,t,os⟩:=by
 have e:(⟨h,g,d,t,os⟩:eW).TypeIs (.builtin "object.__class__") "getset_descriptor":=ak7;have L:=aiX (M:=model prog w) X x.cl;have j:=ak7;have l:=F.slot_gs_get.lookup;have i:=F.slot_gs_set.lookup
 repeat (any_goals (first|assumption|(with_reducible refine aiP b ?_;rw[c])|(with_reducible refine L.at ?_)|wp_step))
 refine PySem.W.class_get X (aaU b c hd f) x.mo ?_
 repeat (any_goals (first|assumption|wp_step))
def Ye{M:xl}{b:ez}{Q:Unit->eW->Prop}(X:K.In h)(x:Jx K C)(c:h.get? a=some o)(f:o.cls=.ref C)(e:Q .unit ⟨h,g,d,t,os⟩):
  wpAny M A (checkBuiltinCall "BaseException.__getattribute__" ⟨[.ref a,b],[]⟩) Q E ⟨h,g,d,t,os⟩:=by
 have k1:builtinKind "BaseException.__getattribute__"=some .slot:=by decide +kernel
 have k2:splitId "BaseException.__getattribute__"=some ("BaseException","__getattribute__"):=by decide +kernel
 have L:=alw (M:=M) X x.mb;have i:=F.args_bexc_ga (.ref a) b;simp only[checkBuiltinCall,k1,k2];refine iV ?_;unfold isInstance
 repeat (first|(with_reducible refine aiP c ?_;rw[f])|(with_reducible refine L.at ?_)|wp_step)
 exact e
def aed{tk:Tok}{Q:ez->eW->Prop}(X:K.In h)(x:Jx K C)(b:h.get? a=some o)(c:o.cls=.ref C)(hd:o.data=.fields vs)(m:o.dict=none)(n:Q (.ref C) ⟨h,g,d,t,os⟩):
  wpAny (model prog w) A (getAttrBy (.ref a) (.str "__class__" tk) false) Q E ⟨h,g,d,t,os⟩:=by
 have f:=PySem.F.attrBase_ValueError;have p:=f.ga.bind (.ref a);have e:(ake "BaseException.__getattribute__"==ake "object.__getattribute__")=false:=by decide +kernel
 have i:(onTheHeap (kO C)&&ake "BaseException.__getattribute__"==ake "object.__getattribute__")=false:=by rw[e];rfl
 have j:=aiX (M:=model prog w) X x.ga;have l:=aiX (M:=model prog w) X x.gt
 repeat (any_goals (first|assumption|(with_reducible refine aiP b ?_;rw[c])|(with_reducible refine j.at ?_)|(with_reducible refine l.at ?_)|wp_step))
 refine ajK f.ga.plain F.entry_bexc_ga (Ye X x b c (WE X x b c hd m ?_))
 repeat (any_goals (first|assumption|wp_step))
def abh{Q:Option ez->eW->Prop}(X:K.In h)(x:Jx K C)(b:h.get? a=some o)(c:o.cls=.ref C)(hd:o.data=.fields vs)(e:o.dict=none)(f:Q (some (.ref C)) ⟨h,g,d,t+1,os⟩):
  wpAny (model prog w) A (getAttr? (.ref a) "__class__") Q E ⟨h,g,d,t,os⟩:=by
 unfold getAttr? getAttrBy?
 repeat (any_goals (first|assumption|with_reducible apply aed X x b c hd e|wp_step))
end
structure aG(K:fD)(x qual:Str)(st:fy)(dV:ez)(f:eh)(fd:oT):Prop where
 ex:∃(oc:ez) (od:Option eh) (kV doc pm:ez) (an:Option eh) (cdv ct:ez) (osl:Array (Option ez)),
  fd=Fd x qual (nW st) (cR st) (ah st) dV kV doc pm an cdv ct/\K.lookup f=some ⟨oc,od,.func fd,osl⟩/\aj1 K cdv qual=true
 kp:KX K (.ref f)=true
abbrev XNo:St->XK:=λ_ _ _ _=>False
theorem QT{X:Cx}:Throws X.ib XNo:=λ_ _ _ _ _ _ _ _ q=>q
theorem cy{X:Cx}:Passes (fm X.ib.prog X.ib.w) X.ib XNo:=passes QT
section
variable{P:hD}{w:gT}{K:fD}{mg:Str->Option ez}{dX:gm}{x qual:Str}{st:fy}{dV:ez}{f:eh}{fd:oT}{N ps:List Str}{k:Nat}{cm:Bool}{sp:Sp}
def aG.ok(F:aG K x qual st dV f fd)(S:ak N ps (ah st))(len:∀vs H Q E,sp vs H Q E->vs.length=ps.length)
  (b:∀(a:ez) (A:ie) (eD:List Env) (s:eW) (H:Hp) (vs:List V) (Q:VK) (E:XK),eO cm k (A.deeper (envOfC qual (ah st) s.heap.objs.size f a))->sp vs H Q E→
   ∃t,nh (vL cm (fm P w) P w K mg dX N qual (ah st) f a A eD s H E) (cR st) t/\t {nx:=λ_ H'=>Q .non H',rt:=Q} (start N vs) H):aD P w K mg dX (fm P w) cm (k+1) f fd ps sp:=by
 obtain⟨m,j,kV,i,l,n,a,ct,h,rfl,lk,c⟩:=F.ex;exact afa lk c S len λA eD s H vs Q E g e=>b a A eD s H vs Q E g e
theorem aG.okN(F:aG K x qual st dV f fd)(S:ak N ps (ah st))(len:∀vs H Q E,sp vs H Q E->vs.length=ps.length)
  (b:∀(a:ez) (A:ie) (eD:List Env) (s:eW) (H:Hp) (vs:List V) (Q:VK) (E:XK),eO cm k (A.deeper (envOfC qual (ah st) s.heap.objs.size f a))->sp vs H Q E→
   ∃t,nh (vL cm (fm P w) P w K mg dX N qual (ah st) f a A eD s H E).ib (cR st) t/\t {nx:=λ_ H'=>Q .non H',rt:=Q} (start N vs) H):aD P w K mg dX (fm P w) cm (k+1) f fd ps sp:=
 F.ok S len λa A eD s H vs Q E e c=>let ⟨t,h,q⟩:=b a A eD s H vs Q E e c;⟨t,h.ib,q⟩
theorem aG.ok1(F:aG K x qual st dV f fd)(S:ak N ps (ah st))(h:∀vs H Q E,sp vs H Q E->vs.length=ps.length∧
   ∀(a:ez) (A:ie) (eD:List Env) (s:eW),eO cm k (A.deeper (envOfC qual (ah st) s.heap.objs.size f a))→
   ∃t,nh (vL cm (fm P w) P w K mg dX N qual (ah st) f a A eD s H E) (cR st) t/\t {nx:=λ_ H'=>Q .non H',rt:=Q} (start N vs) H):aD P w K mg dX (fm P w) cm (k+1) f fd ps sp:=
 F.ok S (λvs H Q E q=>(h vs H Q E q).1) λa A eD s H vs Q E b q=>(h vs H Q E q).2 a A eD s b
theorem aG.Cv(F:aG K x qual st dV f fd)(S:ak N ps (ah st))(h:∀vs H Q E,sp vs H Q E->vs.length=ps.length∧
   ∀(a:ez) (A:ie) (eD:List Env) (s:eW),eO cm k (A.deeper (envOfC qual (ah st) s.heap.objs.size f a))→
   ∃t,nh (vL cm (fm P w) P w K mg dX N qual (ah st) f a A eD s H E).ib (cR st) t/\t {nx:=λ_ H'=>Q .non H',rt:=Q} (start N vs) H):aD P w K mg dX (fm P w) cm (k+1) f fd ps sp:=
 F.okN S (λvs H Q E q=>(h vs H Q E q).1) λa A eD s H vs Q E b q=>(h vs H Q E q).2 a A eD s b
def aG.binds(F:aG K x qual st dV f fd)
  (h:∀(kV b e:ez) (c:Option eh) (a ct:ez) (us:List ez),us.length=ps.length->bindArgs (Fd x qual (nW st) (cR st) (ah st) dV kV b e c a ct) ⟨us,[]⟩=pure (ps.zip us)):Binds K fd ps []:=by
 obtain⟨j,l,kV,b,e,c,a,ct,i,rfl,lk,g⟩:=F.ex;exact .all (h kV b e c a ct)
def aG.M1{T:eh}{o:Obj}{items:Array ez}{n:Nat}{ds:List ez}(F:aG K x qual st (.ref T) f fd)(lt:K.lookup T=some o)(hs:o.data=.seq items n)
  (h:∀(kV b c:ez) (e:Option eh) (a ct:ez) (us:List ez),(us++ds).length=ps.length→
   ∃k,bindArgs (Fd x qual (nW st) (cR st) (ah st) (.ref T) kV b c e a ct) ⟨us,[]⟩=seqItems? (.ref T) >>= k/\k (some items)=pure (ps.zip (us++ds))):Binds K fd ps ds:=by
 obtain⟨r,q,kV,b,c,e,a,ct,l,rfl,lk,j⟩:=F.ex;intro s us g m;obtain⟨kk,p,i⟩:=h kV b c e a ct us m;exact BindsTo.of_defaults (fd:=Fd x qual (nW st) (cR st) (ah st) (.ref T) kV b c e a ct) rfl (g _ _ lt) hs p i
theorem ZV{i:ez}{j g:Option eh}{e:Array (Option ez)}{kV b h a ct:ez}(l:K.lookup f=some ⟨i,j,.func (Fd x qual (nW st) (cR st) (ah st) dV kV b h g a ct),e⟩)
  (c:aj1 K a qual=true) (k:KX K (.ref f)=true):aG K x qual st dV f (Fd x qual (nW st) (cR st) (ah st) dV kV b h g a ct):=⟨⟨i,j,kV,b,h,g,a,ct,e,rfl,l,c⟩,k⟩
end
def VO(K:fD)(C:eh):Prop:=∃dd b a,K.lookup C=some ⟨.type "type",dd,.cls b,a⟩
def FX{K:fD}{C D:eh}{b:Bool}(f:VO K D)(m:su K C (.ref D)=some b)(ne:C=D->b=true):tW K (.ref C) (.ref D)=some b:=by
 obtain⟨dd,c,h,l⟩:=f;unfold tW;by_cases e:C=D
 .rw[eT (by rw[e];exact ajy _),ne e]
 .rw[eJ (by rw[rz];intro z;exact e (amQ z))];unfold ajl;have g:amR K D=some c:=by unfold amR;rw[l]
  have a:amD K (.ref D)=some (.type "type"):=by
   show(K.lookup D).map (·.cls)=_;rw[l]
   rfl
  dsimp only;rwa[g,a]
theorem Y9{K:fD}{e C:eh}(x:Jx K C)(f:VO K C):PySem.W.KitX K (.ref e) (.ref C) (λh=>∃o vs,h.get? e=some o/\o.cls=.ref C/\o.dict=none/\o.data=.fields vs) where
 ty:=λM h _ p=>by
  obtain⟨o,vs,c,b,_⟩:=p;exact b ▸ (PySem.W.Looks.ld c).andThen .now
 it:=λM h X _=>by
  obtain⟨dd,y,j,l⟩:=f;intro H D F B k q;unfold isType loadHead;exact iV (amC (k _ _ (X _ _ l)) (nr q))
 ne:=λh m dd its n j X a=>by
  obtain⟨u,y,r,l⟩:=f;refine akn.mpr λq=>?_;have e:C=m:=amQ (rz.mp q);subst e;have z:=hI (λo:Obj=>o.data) (hH ((X _ _ l).symm.trans a));cases z
 ca:=λ{prog w A E Q s} X p q=>by
  obtain⟨o,vs,c,b,v,i⟩:=p;obtain⟨G,g,d,t,os⟩:=s;exact abh X x c b i v q
section
variable{X:Cx}
def XI:sg X (.builtin "isinstance") (λxs H Q=>∃(e C:eh) (c:V) (f:ez) (b:Bool),xs=[.ref e,c]/\H e=some (vr e C none)/\Jx X.K C/\VO X.K C/\RelV c f/\tW X.K (.ref C) f=some b/\Q (.bl b) H):=by
 intro m s w H xs us Q I r h;obtain⟨e,C,c,f,b,rfl,u,xi,p,rc,j,q⟩:=h;obtain⟨v,g,rfl,o,l⟩:=vals2 r;cases o
 have e2:g=f:=by
  cases c with
  |ref a=>exact(show g=kO a from l).trans (show f=kO a from rc).symm
  |ty n=>exact(show g=akq n from l).trans (show f=akq n from rc).symm
  |non=>exact(show g=K2 from l).trans (show f=K2 from rc).symm
  |bl y=>exact(show g=ajF y from l).trans (show f=ajF y from rc).symm
  |int i=>obtain⟨t,rfl⟩:=rc;simp[tW,ajl] at j
  |str y=>obtain⟨t,rfl⟩:=rc;simp[tW,ajl] at j
  |byt y=>obtain⟨t,rfl⟩:=rc;simp[tW,ajl] at j
  |flt y=>obtain⟨t,rfl⟩:=rc;simp[tW,ajl] at j
 subst e2;have ok:=(I.hok e _ u).1;exact Cm (Y9 xi p) I.ma ok j (λz=>nomatch z) λtk=>⟨.bl b,H,I.tok tk,rfl,q⟩
def Pr:sg X (.builtin "isinstance") (λxs H Q=>∃(x c:V) (t e:ez) (b:Bool),xs=[x,c]/\Ei X.K H x t/\(∃n,c=.ty n/\e=.type n\/∃a,c=.ref a/\e=.ref a)/\tW X.K t e=some b/\Q (.bl b) H):=by
 intro g s o H xs us Q I r h;obtain⟨x,c,t,e,b,rfl,ty,rc,j,q⟩:=h;obtain⟨m,i,rfl,l,f⟩:=vals2 r
 have e2:i=e:=by
  obtain⟨n,⟨rfl,rfl⟩|⟨a,rfl,rfl⟩⟩:=rc
  .exact f
  .exact f
 subst e2;exact UZ I l ty j λtk=>⟨.bl b,H,I.tok tk,rfl,q⟩
theorem uj{x:Str}{i:Int}{t:Tok}{a:Pos}(b:Gl X x)(c:X.mg x=some (.int i t))(hd:(x==("__debug__":Str))=false:=by decide):PE X (.Name x a) (tC (.int i)):=Mi b c ⟨t,rfl⟩ hd
theorem MJ{x z:Str}{t:Tok}{a:Pos}(b:Gl X x)(c:X.mg x=some (.str z t))(hd:(x==("__debug__":Str))=false:=by decide):PE X (.Name x a) (tC (.str z)):=Mi b c ⟨t,rfl⟩ hd
theorem yL{x:Str}{a:eh}{b:Pos}(c:Gl X x)(e:X.mg x=some (.ref a))(hd:(x==("__debug__":Str))=false:=by decide):PE X (.Name x b) (tC (.ref a)):=Mi c e (v:= .ref a) rfl hd
theorem X2{x:Str}{n:String}{a:Pos}(b:Gl X x)(c:X.mg x=none)(f:bootBuiltins x=some (.type n))(e:x≠"__name__":=by decide)(hd:(x==("__debug__":Str))=false:=by decide):PE X (.Name x a) (tC (.ty n)):=aaO b c f (v:= .ty n) rfl e hd
end
section
variable{X:Cx}{x:Str}{C:eh}{np cpos pos:Pos}{E:St->XK}
end
def MethAt(P:hD)(w:gT)(K:fD)(mg:Str->Option ez)(dX:gm)(CX:tI)(cm:Bool)(k:Nat)(m:Str)(C:eh)(sp:Sp)(a:List V):Prop:=
 ∃f fd ps ds,pJ K C/\Meth K C m f/\aD P w K mg dX CX cm k f fd ps sp/\Binds K fd ps ds/\Vals a ds
def Nl(Dt:eh->Sp->List V->Prop)(m:Str)(E:St->XK)(h:TE)(t:TA):TE:=λc H Q=>h c H λx e=>∃a C f fs sp b,x=.ref a/\e a=some (.ins C f fs)/\Dt C sp b/\fs.lookup m=none∧
 t c e λvs g=>sp (x::(vs++b)) g Q (E c)
section
variable{X:Cx}{CX:tI}{k:Nat}{cm:Bool}{E:St->XK}{m:Str}{pos apos:Pos}{e o:fU}{es:List fU}{ta:TE}{t:TA}{Dt:eh->Sp->List V->Prop}
def xR{pl:Sem Bool}(D:PE X o ta)(S:∀C sp b,Dt C sp b->MethAt X.prog X.w X.K X.mg X.dX CX cm k m C sp b)(N:eO cm k X.A)(M:Passes CX X E)(O:PA X (e::es) t)
  (i:starEach (e::es) X.env=(false,eval e X.env)::starEach es X.env:=by rfl) (g:(backTo pos (starEach es X.env)).any (·.1)=false:=by rfl)
  (L:eval (.Call (.Attribute o m apos) (e::es) [] pos) X.env=(do
   let p<-eval o X.env
   standAt apos.atName
   let (f,first)<-holding [p] (getMethod p m pl)
   callWith pos f first (backTo pos (starEach (e::es) X.env)) (backToKw pos (keywordEach [] X.env))):=by rfl):
  PE X (.Call (.Attribute o m apos) (e::es) [] pos) (Nl Dt m E ta t):=by
 intro y s Y H Q I h;refine ajC (pl:=pl) (D.th I h λu s1 x W n z B=>?_) L;obtain⟨a,C,Z,fs,sp,b,ex,G,P,l,q⟩:=B;subst ex;obtain rfl:u=kO a:=z;obtain⟨f,fd,ps,ds,c,v,F,J,hd⟩:=S C sp b P;refine Hv n G c v l ?_;refine ajb (first:=[.ref a]) (h₀:=X.dX) I.ok.mod.kin v.kp (O.th n q λus U vs T j r R=>⟨j.ma,?_⟩) i g;exact N4 (us:= .ref a::us) (vs:= .ref a::vs) F N J hd M j (.cons rfl r) R
def gL{pl:Sem Bool}(p:PE X o ta)(L:∀C sp b,Dt C sp b->MethAt X.prog X.w X.K X.mg X.dX CX cm k m C sp b)(J:eO cm k X.A)(v:Passes CX X E)
  (G:eval (.Call (.Attribute o m apos) [] [] pos) X.env=(do
   let j<-eval o X.env
   standAt apos.atName
   let (f,first)<-holding [j] (getMethod j m pl)
   callWith pos f first (backTo pos (starEach [] X.env)) (backToKw pos (keywordEach [] X.env))):=by rfl):
  PE X (.Call (.Attribute o m apos) [] [] pos) (Nl Dt m E ta Yo):=by
 intro i s N H Q I h;refine ajC (pl:=pl) (p.th I h λu P x M g B z=>?_) G;obtain⟨a,C,O,fs,sp,b,ex,r,y,l,q⟩:=z;subst ex;obtain rfl:u=kO a:=B;obtain⟨f,fd,ps,ds,c,n,F,D,hd⟩:=L C sp b y;refine Hv g r c n l ?_;exact alq (first:=[.ref a]) g.ma n.kp (N4 (us:=[.ref a]) (vs:=[.ref a]) F J D hd v g (.cons rfl .nil) q)
end
structure Xa(K:fD)(C:eh)(m:Str)(f:eh):Prop where
 sp:akm K (.ref C) "__getattribute__"=some (some (.builtin "type.__getattribute__"))
 rd:amv K C (.type "type")=true
 fc:amw K (.ref C) (.type "type") m=some (.val (.ref f))
 kp:KX K (.ref f)=true
section
variable{X:Cx}{CX:tI}{k:Nat}{cm:Bool}{f C:eh}{fd:oT}{ps:List Str}{sp:Sp}{kR:List V}{ds:List ez}{E:St->XK}{x m:Str}{p pos apos:Pos}{e:fU}{es:List fU}{t:TA}
def Yr{pl:Sem Bool}(F:aD X.prog X.w X.K X.mg X.dX CX cm k f fd ps sp)(v:eO cm k X.A)(B:Gl X x)(z:X.mg x=some (.ref C))(bc:Xa X.K C m f)(o:Binds X.K fd ps ds)(hd:Vals kR ds)(u:Passes CX X E)(y:PA X (e::es) t)
  (g:(x==("__debug__":Str))=false:=by decide)
  (c:starEach (e::es) X.env=(false,eval e X.env)::starEach es X.env:=by rfl) (b:(backTo pos (starEach es X.env)).any (·.1)=false:=by rfl)
  (q:eval (.Call (.Attribute (.Name x p) m apos) (e::es) [] pos) X.env=(do
   let j<-eval (.Name x p) X.env
   standAt apos.atName
   let (f,first)<-holding [j] (getMethod j m pl)
   callWith pos f first (backTo pos (starEach (e::es) X.env)) (backToKw pos (keywordEach [] X.env))):=by rfl):
  PE X (.Call (.Attribute (.Name x p) m apos) (e::es) [] pos) (O6 sp kR E t):=by
 intro a s n H Q I h;refine ajC (pl:=pl) (yM I B z ?_ g) q;refine PySem.W.method_cls I.ma bc.sp (PySem.W.cls_value I.ma bc.rd bc.fc rfl ?_);have l:Inv X a n H {s with toks:=s.toks+1}:=I.tok _;refine ajb (first:=[]) (h₀:=X.dX) I.ok.mod.kin bc.kp (y.th l h λus J vs G i r D=>⟨i.ma,?_⟩) c b;exact N4 F v o hd u i r D
end
def yS:List V->List V->Bool
 |[],[]=>true
 |x::xs,y::ys=>nt x y&&yS xs ys
 |_,_=>false
theorem Gm:∀{xs ys:List V},xs.length≠ys.length->yS xs ys=false
 |[],[],h=>absurd rfl h
 |[],_::_,_=>rfl
 |_::_,[],_=>rfl
 |x::xs,y::ys,h=>by
  have:=Gm (xs:=xs) (ys:=ys) λz=>h (by rw[qV,qV,z]);show(nt x y&&yS xs ys)=false;rw[this,aiU]
theorem AF:∀{xs ys:List V},xs.length=ys.length->((gG xs.length).all λj=>match xs[j]?,ys[j]? with|some a,some b=>nt a b|_,_=>true)=yS xs ys
 |[],[],_=>rfl
 |x::xs,y::ys,h=>by
  have c:=AF (xs:=xs) (ys:=ys) (by simpa using h);rw[qV,ajr,akc,ajL];show(nt x y&&(gG xs.length).all λj=>match xs[j]?,ys[j]? with|some a,some b=>nt a b|_,_=>true)=(nt x y&&yS xs ys);rw[c]
theorem GL:∀(ns a:List Str),yS (ns.map V.str) (a.map V.str)=decide (ns=a)
 |[],[]=>rfl
 |[],_::_=>rfl
 |_::_,[]=>rfl
 |n::ns,m::a=>by
  show((n==m)&&yS (ns.map V.str) (a.map V.str))=_;rw[GL ns a,qj];simp
def B8(ns:List Str):(ns.map V.str).all fX=true:=by rw[ajL,vc];intro _ _;rfl
section
variable{X:Cx}
def items_eqAt{A:ie}{s:eW}{xs ys:List V}{is c:List ez}(g:Vals xs is)(f:Vals ys c)(n:xs.all fX=true)(o:ys.all fX=true)(j:Nat)(l:j<is.toArray.size)(i:j<c.toArray.size):
  ajj A s is.toArray[j] c.toArray[j] (match xs[j]?,ys[j]? with|some a,some b=>nt a b|_,_=>true):=by
 rw[iB] at l i;have t:=g.length;have u:=f.length;have e1:xs[j]? =some xs[j]:=gx (by omega);have e2:ys[j]? =some ys[j]:=gx (by omega);obtain⟨q,e,p⟩:=g.get e1;obtain⟨r,h,m⟩:=f.get e2;rw[gx l] at e;rw[gx i] at h;cases e;cases h;rw[e1,e2];simp only[ajM];exact MU p m (vc.mp n _ (ve _)) (vc.mp o _ (ve _))
def adI(K:fD)(c:Bool):R2:=λx y H Q=>∃(a b:eh) (xs ys:List V),x=.ref a/\y=.ref b/\eZ K H a xs/\eZ K H b ys/\xs.all fX=true/\ys.all fX=true/\Q (.bl (if c=true then !yS xs ys else yS xs ys)) H
def GS(m:X.A.units<cLine):kM X (compareOp .Eq) (adI X.K false):=by
 intro n s D H x y v u Q I o z h;obtain⟨a,b,xs,ys,rfl,rfl,B,p,r,w,q⟩:=h;cases o;cases z;obtain⟨is,f,i,E⟩:=I.list B;obtain⟨C,c,g,G⟩:=I.list p;have t:=f.length;have F:=c.length;have q:Q (.bl (yS xs ys)) H:=q;by_cases l:xs.length=ys.length
 .refine SeqAt.eq_listAt (e:=λj=>match xs[j]?,ys[j]? with|some a,some b=>nt a b|_,_=>true) i.isList g.isList (by rw[iB,iB];lia) m (items_eqAt f c r w) ?_;rw[iB,<-t,AF l];exact⟨.bl _,H,I,rfl,q⟩
 .refine SeqAt.eq_list_lengthsAt i.isList g.isList (by rw[iB,iB,alm];lia) m ?_;rw[Gm l] at q;exact⟨.bl _,H,I,rfl,q⟩
def Ep(m:X.A.units<cLine):kM X (compareOp .NotEq) (adI X.K true):=by
 intro n s D H x y v u Q I o z h;obtain⟨a,b,xs,ys,rfl,rfl,B,p,r,w,q⟩:=h;cases o;cases z;obtain⟨is,f,i,E⟩:=I.list B;obtain⟨C,c,g,G⟩:=I.list p;have t:=f.length;have F:=c.length;have q:Q (.bl (!yS xs ys)) H:=q;by_cases l:xs.length=ys.length
 .refine alK (e:=λj=>match xs[j]?,ys[j]? with|some a,some b=>nt a b|_,_=>true) i.isList g.isList (by rw[iB,iB];lia) m (items_eqAt f c r w) _ _ _ _ ?_;rw[iB,<-t,AF l];exact⟨.bl _,H,I,rfl,q⟩
 .refine akf i.isList g.isList (by rw[iB,iB,alm];lia) m _ _ _ _ ?_;rw[Gm l] at q;exact⟨.bl _,H,I,rfl,q⟩
end
def iu(P:hD)(w:gT)(K:fD)(mg:Str->Option ez)(dX:gm)(cm:Bool)(k:Nat)(x:Str)(sp:Sp)(a:List V):Prop:=
 ∃f fd ps ds,aD P w K mg dX (fm P w) cm k f fd ps sp/\mg x=some (.ref f)/\KX K (.ref f)=true/\Binds K fd ps ds/\Vals a ds
def zk(P:hD)(w:gT)(K:fD)(mg:Str->Option ez)(dX:gm)(cm:Bool)(k:Nat)(x:Str)(C:eh)(sp:Sp)(a:List V):Prop:=
 ∃f fd ps ds,Mk K C f/\aD P w K mg dX (fm P w) cm k f fd ps sp/\mg x=some (.ref C)/\Binds K fd ps ds/\Vals a ds
def K4(P:hD)(w:gT)(K:fD)(mg:Str->Option ez)(dX:gm)(cm:Bool)(k:Nat)(x m:Str)(sp:Sp)(a:List V):Prop:=
 ∃C f fd ps ds,Xa K C m f/\aD P w K mg dX (fm P w) cm k f fd ps sp/\mg x=some (.ref C)/\Binds K fd ps ds/\Vals a ds
section
variable{X:Cx}{k:Nat}{cm:Bool}{C:eh}{sp:Sp}{kR:List V}{E:St->XK}{x m:Str}{p pos apos:Pos}{e:fU}{es:List fU}{t:TA}
def Il(c:iu X.prog X.w X.K X.mg X.dX cm k x sp kR)(h:eO cm k X.A)(n:Gl X x)(g:Passes (fm X.prog X.w) X E)
  (i:PA X (e::es) t) (b:(x==("__debug__":Str))=false:=by decide) (o:starEach (e::es) X.env=(false,eval e X.env)::starEach es X.env:=by rfl) (a:(backTo pos (starEach es X.env)).any (·.1)=false:=by rfl):
  PE X (.Call (.Name x p) (e::es) [] pos) (O6 sp kR E t):=by
 obtain⟨f,fd,ps,ds,F,l,j,q,hd⟩:=c;exact ZK F h n l j q hd g i b o a
def uz(c:zk X.prog X.w X.K X.mg X.dX cm k x C sp kR)(h:eO cm (k+1) X.A)(l:Gl X x)(g:Passes (fm X.prog X.w) X E)
  (i:PA X (e::es) t) (b:(x==("__debug__":Str))=false:=by decide) (n:starEach (e::es) X.env=(false,eval e X.env)::starEach es X.env:=by rfl) (a:(backTo pos (starEach es X.env)).any (·.1)=false:=by rfl):
  PE X (.Call (.Name x p) (e::es) [] pos) (Tx C sp kR E t):=by
 obtain⟨f,fd,ps,ds,M,F,j,o,hd⟩:=c;exact ZJ M F h l j o hd g i b n a
def GA{pl:Sem Bool}(c:K4 X.prog X.w X.K X.mg X.dX cm k x m sp kR)(n:eO cm k X.A)(r:Gl X x)(l:Passes (fm X.prog X.w) X E)(o:PA X (e::es) t)
  (g:(x==("__debug__":Str))=false:=by decide)
  (b:starEach (e::es) X.env=(false,eval e X.env)::starEach es X.env:=by rfl) (a:(backTo pos (starEach es X.env)).any (·.1)=false:=by rfl)
  (j:eval (.Call (.Attribute (.Name x p) m apos) (e::es) [] pos) X.env=(do
   let h<-eval (.Name x p) X.env
   standAt apos.atName
   let (f,first)<-holding [h] (getMethod h m pl)
   callWith pos f first (backTo pos (starEach (e::es) X.env)) (backToKw pos (keywordEach [] X.env))):=by rfl):
  PE X (.Call (.Attribute (.Name x p) m apos) (e::es) [] pos) (O6 sp kR E t):=by
 obtain⟨C,f,fd,ps,ds,bc,F,q,i,hd⟩:=c;exact Yr F n r q bc i hd l o g b a j
end
theorem sk{X:Cx}{c:List Str}{scope:sZ}{cl:List (Str×eh)}{C:eh}{e:List eh}{b:eW}{a:Hp}:Passes (fm (X.comp c scope cl C e b a).prog (X.comp c scope cl C e b a).w) (X.comp c scope cl C e b a) XNo:=passes λ_ _ _ _ _ _ _ _ q=>q
section
variable{X:Cx}
end
def isStar:fU->Bool
 |.Starred .. =>true
 |_=>false
def Sv{e:fU}{es:List fU}{env:Env}(h:isStar e=false):starEach (e::es) env=(false,eval e env)::starEach es env:=by
 cases e<;>first|rfl|cases h
theorem afO{X:Cx}{e:fU}{es:List fU}{a:TE}{t:TA}(b:PE X e a)(c:PA X es t)(h:isStar e=false:=by rfl):PA X (e::es) (abG a t):=S5 b c (Sv h)
def isConst:fU->Bool
 |.Constant (.str _) _ _=>true
 |.Constant (.int _) _ _=>true
 |_=>false
def XN:fU->V
 |.Constant (.str x) _ _=>.str x
 |.Constant (.int x) _ _=>.int x
 |_=>.non
def aan(vs:List V):TA:=λ_ H Q=>Q vs H
def Yg{e:fU}(h:isConst e=true):(∃x j p,e=.Constant (.str x) j p)\/∃x j p,e=.Constant (.int x) j p:=by
 unfold isConst at h
 split at h
 .exact .inl ⟨_,_,_,rfl⟩
 .exact .inr ⟨_,_,_,rfl⟩
 .cases h
theorem LM{X:Cx}:∀{es:List fU},es.all isConst=true->PA X es (aan (es.map XN))
 |[],_=>λb a s c H Q I h=>cS b a s c H Q I h
 |e::es,h=>by
  rw[akc,kE] at h;have f:=LM (X:=X) (es:=es) h.2;intro b a s c H Q I q
  have hs:PE X e (tC (XN e))/\isStar e=false:=by
   rcases Yg h.1 with⟨x,j,p,rfl⟩|⟨x,j,p,rfl⟩
   .exact ⟨aj,rfl⟩
   .exact ⟨ag,rfl⟩
  exact S5 hs.1 f (Sv hs.2) b a s c H Q I q
theorem oh{A:ie}{k:Nat}{cm:Bool}(a:eO cm k A):A.units<cLine:=Nat.lt_of_succ_lt (CC a)
def aT(c:fy)(j:Nat):fy:=match c with
 |.ClassDef _ _ _ body .. =>body.getD j (.Pass ⟨0,0,0,0⟩)
 |_=>.Pass ⟨0,0,0,0⟩
def cg:bootBuiltins "len"=some (.builtin "len"):=by decide +kernel
def fN:bootBuiltins "isinstance"=some (.builtin "isinstance"):=by decide +kernel
def adf:bootBuiltins "min"=some (.builtin "min"):=by decide +kernel
def acz:bootBuiltins "all"=some (.builtin "all"):=by decide +kernel
def Y0:bootBuiltins "int"=some (.type "int"):=by decide +kernel
def k7:bootBuiltins "str"=some (.type "str"):=by decide +kernel
def SE:bootBuiltins "list"=some (.type "list"):=by decide +kernel
def Zb:bootBuiltins "tuple"=some (.type "tuple"):=by decide +kernel
def Pe{K:fD}{t:ez}:tW K t t=some true:=by
 unfold tW;rw[eT (ajy _)]
def ae5{i j:Int}(h:(decide (0<j)&&decide (j<1073741824))=true):ae3 i j:=by
 rw[kE,kP,kP] at h;exact h
theorem IJ:∀{ys:List Str} {its:List ez},Vals (ys.map V.str) its->StrsAre its ys
 |[],[],_=>.nil
 |[],_::_,r=>by cases r
 |_::_,[],r=>by cases r
 |y::ys,_::its,r=>by
  cases r with
  |cons a b=>
   obtain⟨t,rfl⟩:=a;exact .cons _ _ (IJ b)
section
variable{X:Cx}
theorem Tt{a:List (eh×Obj)}{s:eW}{b:St}{H:Hp}{Q:VK}{z:Str}(I:Inv X a b H s)(q:Q (.str z) H):∀(t':Tok) (k:Nat),EP X a b Q (.str z t') {s with toks:=k}:=λ_ _=>⟨.str z,H,I.tok _,⟨_,rfl⟩,q⟩
def EW:JQ X "str.join" (λx vs H Q=>∃(a:Str) (p:eh) (ys:List Str),x=.str a/\vs=[.ref p]/\eZ X.K H p (ys.map V.str)/\(ys.map (·.length)).sum+ys.length*a.length<=16777216/\Q (.str (aln a ys)) H):=by
 intro b s j H x vs v us Q I c g h;obtain⟨a,p,ys,rfl,rfl,f,e,q⟩:=h;obtain⟨t,rfl⟩:=c;obtain⟨u,rfl,i⟩:=g.one;cases i;obtain⟨its,r,pl,_⟩:=I.list f;exact join_list pl.isList (IJ r) e (Tt I q)
def xy:JQ X "str.lstrip" (λx vs H Q=>∃z y:Str,x=.str z/\vs=[.str y]/\z.length<=sizeLine/\Q (.str (aio z y)) H):=by
 intro a s g H x vs v us Q I b f h;obtain⟨z,y,rfl,rfl,e,q⟩:=h;obtain⟨t,rfl⟩:=b;obtain⟨u,rfl,⟨c,rfl⟩⟩:=f.one;exact call_gives F.slot_str_lstrip (aji _ _ _) F.entry_str_lstrip (F.args_str_lstrip_2 _ _) (gives_str_lstrip_chars z y t c) (post_val_or_made (λ_=>fits_stripped _ _ _ e) (Tt I q))
def BP:JQ X "str.startswith" (λx vs H Q=>∃z y:Str,x=.str z/\vs=[.str y]/\Q (.bl (ak8 z y)) H):=by
 intro a s f H x vs v us Q I b e h;obtain⟨z,y,rfl,rfl,q⟩:=h;obtain⟨t,rfl⟩:=b;obtain⟨u,rfl,⟨c,rfl⟩⟩:=e.one;exact call_gives F.slot_str_startswith (aji _ _ _) F.entry_str_startswith (F.args_str_startswith_2 _ _) (gives_str_startswith z y t c) ⟨.bl _,H,I,rfl,q⟩
theorem K7:∀(tk:Nat) (ys:List Str),Vals (ys.map V.str) (strsFrom tk ys)
 |_,[]=>.nil
 |tk,_::ys=>.cons ⟨_,rfl⟩ (K7 (tk+1) ys)
def zL:JQ X "str.split" (λx vs H Q=>∃z y:Str,x=.str z/\vs=[.str y]/\z.length<=sizeLine/\(y.length==0)=false/\(Builtin.Str.partsBetween z (aiB z y 0 z.length (z.length+1)) y.length).length<=sizeLine∧
  (Txt.split z y).length<=sizeLine/\∀p,H p=none->Q (.ref p) (upd H p (.lst ((Txt.split z y).map V.str)))):=by
 intro b s j H x vs v us Q I i n h;obtain⟨z,y,rfl,rfl,l,g,m,c,q⟩:=h;obtain⟨t,rfl⟩:=i;obtain⟨u,rfl,⟨f,rfl⟩⟩:=n.one;have q:=q _ I.fresh
 have one:∀(q:Q (.ref s.heap.objs.size) (upd H s.heap.objs.size (.lst [V.str z]))),EP X b j Q (.ref s.heap.objs.size) {s with heap:=s.heap.push {cls:= .type "list",data:= .seq [F1 z t].toArray}}:=λq=>
  ⟨.ref _,_,I.ada (t':=s.toks) (its:=[.str z t]) (ys:=[V.str z]) (.cons ⟨_,rfl⟩ .nil) (by rw[ak4,GX];lia),rfl,q⟩
 unfold Txt.split at q c;by_cases a:(decide (z.length<y.length)||decide (ahT z<ahT y))=true
 .rw[eT a] at q;exact ajk akA (aji _ _ _) ako (aj7 _ _) (meets_str_split_cannot_occur z y t f a) (one q)
 .rw[eJ a] at q c;have a:=akn.mpr a;by_cases e:(aiB z y 0 z.length (z.length+1)).isEmpty=true
  .rw[eT e] at q;exact ajk akA (aji _ _ _) ako (aj7 _ _) (meets_str_split_not_found z y t f a g e) (one q)
  .rw[eJ e] at q c;refine ajk akA (aji _ _ _) ako (aj7 _ _) (meets_str_split_sep z y t f a g (akn.mpr e) l m) ?_;exact⟨.ref _,_,I.ada (its:=strsFrom s.toks _) (ys:=_) (K7 _ _) (by rwa[fC]),rfl,q⟩
def A4:kM X (binaryOp .Mult) (λx y H Q=>∃(z:Str) (n:Nat),x=.str z/\y=.int n/\z.length*n<=100000/\n<=100000/\z.length<=100000/\Q (.str ⟨(jb n z.cps).foldl (·++·) #[]⟩) H):=by
 intro j s A H x y v u Q I l o h;obtain⟨z,n,rfl,rfl,g,p,r,q⟩:=h;obtain⟨t,rfl⟩:=l;obtain⟨w,rfl⟩:=o;have hs:(100000:Nat)<=sizeLine:=by decide
 refine P.mul_str ?_ ?_ ?_ ?_
 .rw[ik (),ik ()];rfl
 .intro a b;have:(0:Int)<n:=by lia
  rw[Int.not_lt,Int.le_ediv_iff_mul_le this];have g:((z.length*n:Nat):Int)<=((100000:Nat):Int):=Int.ofNat_le.mpr g;rw[Int.natCast_mul] at g
  lia
 .intro a b;rw[M0];unfold Builtin.Str.tooLong;exact ik ()
 .by_cases a:(n:Int)<1
  .rw[eT a];obtain rfl:n=0:=by lia
   exact⟨∅,.str _,H,I.tok _,⟨_,rfl⟩,q⟩
  .rw[eJ a];by_cases b:((n:Int)==1||z.length==0)=true
   .rw[eT b]
    have e:(⟨(jb n z.cps).foldl (·++·) #[]⟩:Str)=z:=by
     rw[xk,rz,rz] at b;rcases b with b|b
     .obtain rfl:n=1:=by lia
      show(⟨#[]++z.cps⟩:Str)=z;rw[Array.empty_append]
     .have z0:z.cps=#[]:=Array.size_eq_zero_iff.mp b
      have f:∀m:Nat,(jb m (#[]:Array Nat)).foldl (·++·) #[]=#[]:=λm=>by
       induction m with
       |zero=>rfl
       |succ m i=>exact i
      rw[z0,f];cases z;exact hI Str.mk z0.symm
    rw[e] at q;exact⟨.str _,H,I,⟨_,rfl⟩,q⟩
   .rw[eJ b,M0];refine⟨?_,.str _,H,I.tok _,⟨_,rfl⟩,q⟩
    have sz:∀(m:Nat) (c:Array Nat),((jb m z.cps).foldl (·++·) c).size=c.size+m*z.cps.size:=λm=>by
     induction m with
     |zero=>intro c;simp
     |succ m i=>intro c;rw[Fs,ajN,i,Array.size_append,Nat.succ_mul];lia
    show((jb n z.cps).foldl (·++·) #[]).size<=sizeLine;rw[sz,amY];have:z.cps.size*n<=100000:=g;simp only[iB,ai8]
    lia
end
def tG(K:fD)(H:Hp):Nat->V->V->Bool->Prop
 |0,x,y,b=>fX x=true/\fX y=true/\b=nt x y
 |n+1,x,y,b=>(fX x=true/\fX y=true/\b=nt x y)\/∃(a c:eh) (xs ys:List V),x=.ref a/\y=.ref c∧
   ((eZ K H a xs/\eZ K H c ys/\xs.length≠ys.length/\b=false)\/(((eZ K H a xs/\eZ K H c ys)\/(iq K H a xs/\iq K H c ys))/\xs.length=ys.length/\∃e:Nat->Bool,(∀(j:Nat) (f g:V),xs[j]? =some f->ys[j]? =some g->tG K H n f g (e j))/\b=(gG xs.length).all e))
def ON{x:V}(h:fX x=true):nt x x=true:=by
 cases x<;>first|rfl|exact ajy _|cases h
section
variable{X:Cx}{et:List (eh×Obj)}{σ:St}{H:Hp}{s:eW}
def tG.refl(I:Inv X et σ H s):∀{n:Nat} {x:V} {b:Bool},tG X.K H n x x b->b=true
 |0,x,b,h=>by rw[h.2.2];exact ON h.1
 |n+1,x,b,h=>by
  rcases h with h|⟨a,c,xs,ys,ex,l,h⟩
  .rw[h.2.2];exact ON h.1
  .subst ex;cases l;rcases h with⟨g,f,h,_⟩|⟨hs,_,e,m,o⟩
   .exact absurd (hI List.length (I.BE g f)) h
   .have ee:xs=ys:=by
     rcases hs with⟨g,f⟩|⟨g,f⟩
     .exact I.BE g f
     .exact I.US g f
    subst ee;rw[o,vc];intro j i;have i:=pf.mp i;have e1:xs[j]? =some xs[j]:=gx i;exact tG.refl I (m j _ _ e1 e1)
def zQ{e:Nat->Bool}{n m:Nat}(h:n=m):((gG (min n m)).all e&&n==m)=(gG n).all e:=by
 subst h;rw[Nat.min_self,ajy,amS]
def Sw{xs ys:List V}{is a:List ez}(e:Vals xs is)(c:Vals ys a){j:Nat}(l:j<is.length)(h:j<a.length):∃x y,xs[j]? =some x/\ys[j]? =some y/\RelV x is[j]/\RelV y a[j]:=by
 have o:=e.length;have p:=c.length;have e1:xs[j]? =some xs[j]:=gx (by omega);have e2:ys[j]? =some ys[j]:=gx (by omega);obtain⟨m,b,i⟩:=e.get e1;obtain⟨n,f,g⟩:=c.get e2;rw[gx l] at b;rw[gx h] at f;cases b;cases f;exact⟨_,_,e1,e2,i,g⟩
def tG.rc(I:Inv X et σ H s):∀{n:Nat} {A:ie} {a c:eh} {b:Bool},A.units+n<cLine->tG X.K H n (.ref a) (.ref c) b->SeqAt.RcAt A s (.ref a) (.ref c) b
 |0,A,a,c,b,hu,h=>by cases h.1
 |n+1,A,a,c,b,hu,h=>by
  have p:A.units<cLine:=by lia
  rcases h with h|⟨Q,R,xs,ys,ex,D,h⟩
  .cases h.1
  cases ex;cases D
  have item:∀{is i:List ez} (g:Vals xs is) (f:Vals ys i) {e:Nat->Bool},(∀(j:Nat) (J F:V),xs[j]? =some J->ys[j]? =some F->tG X.K H n J F (e j))->∀j (m:j<is.toArray.size) (l:j<i.toArray.size),ajj A.in1 s is.toArray[j] i.toArray[j] (e j):=by
   intro is i g f e u j m l;rw[iB] at m l;obtain⟨x,y,e1,e2,C,v⟩:=Sw g f m l;simp only[ajM];have hd:=u j x y e1 e2
   have o:fX x=true/\fX y=true/\e j=nt x y->ajj A.in1 s is[j] i[j] (e j):=λz=>by
    rw[z.2.2];exact MU C v z.1 z.2.1
   cases n with
   |zero=>exact o hd
   |succ n=>
    have r:=hd;rcases hd with z|⟨G,E,N,P,ex,D,_⟩
    .exact o z
    .subst ex D;have C:is[j]=kO G:=C;have v:i[j]=kO E:=v;rw[C,v];by_cases q:G=E
     .subst q;rw[tG.refl I r];exact akL _
     .exact alL q (tG.rc I (by show A.units+1+(n+1)<cLine;lia) r)
  rcases h with⟨m,l,O,w⟩|⟨hs,O,e,u,w⟩
  .obtain ⟨is,g,p1,z1⟩:=I.list m;obtain⟨i,f,t,M⟩:=I.list l;have B:=g.length;have L:=f.length;rw[w];exact SeqAt.RcAt.lists_lengths p1.isList t.isList (by rw[iB,iB,alm];lia) p
  rcases hs with⟨m,l⟩|⟨m,l⟩
  .obtain ⟨is,g,p1,z1⟩:=I.list m;obtain⟨i,f,t,M⟩:=I.list l;have B:=g.length;have L:=f.length;have:=SeqAt.RcAt.lists (e:=e) p1.isList t.isList (by rw[iB,iB];lia) p (item g f u);rw[iB,<-B,<-w] at this;exact this
  .obtain ⟨is,g,p1,z1⟩:=I.tuple m;obtain⟨i,f,t,M⟩:=I.tuple l;have B:=g.length;have L:=f.length;have:=SeqAt.RcAt.tuples (e:=e) p1 t p (item g f u);rw[iB,iB,zQ (),<-B,<-w] at this;exact this
def tG.ne(I:Inv X et σ H s){n:Nat}{A:ie}{a c:eh}{b:Bool}(S:A.units+n<cLine)(h:tG X.K H n (.ref a) (.ref c) b):SeqAt.RcNeAt A s (.ref a) (.ref c) (!b):=by
 cases n with
 |zero=>cases h.1
 |succ n=>
  have p:A.units<cLine:=by lia
  rcases h with h|⟨Q,R,xs,ys,ex,D,h⟩
  .cases h.1
  cases ex;cases D
  have item:∀{is i:List ez} (g:Vals xs is) (f:Vals ys i) {e:Nat->Bool},(∀(j:Nat) (J F:V),xs[j]? =some J->ys[j]? =some F->tG X.K H n J F (e j))->∀j (m:j<is.toArray.size) (l:j<i.toArray.size),ajj A.in1 s is.toArray[j] i.toArray[j] (e j):=by
   intro is i g f e u j m l;rw[iB] at m l;obtain⟨x,y,e1,e2,C,v⟩:=Sw g f m l;simp only[ajM];have hd:=u j x y e1 e2
   have o:fX x=true/\fX y=true/\e j=nt x y->ajj A.in1 s is[j] i[j] (e j):=λz=>by
    rw[z.2.2];exact MU C v z.1 z.2.1
   cases n with
   |zero=>exact o hd
   |succ n=>
    have r:=hd;rcases hd with z|⟨G,E,N,P,ex,D,_⟩
    .exact o z
    .subst ex D;have C:is[j]=kO G:=C;have v:i[j]=kO E:=v;rw[C,v];by_cases q:G=E
     .subst q;rw[tG.refl I r];exact akL _
     .exact alL q (tG.rc I (by show A.units+1+(n+1)<cLine;lia) r)
  rcases h with⟨m,l,O,w⟩|⟨hs,O,e,u,w⟩
  .obtain ⟨is,g,p1,z1⟩:=I.list m;obtain⟨i,f,t,M⟩:=I.list l;have B:=g.length;have L:=f.length;rw[w];exact akf p1.isList t.isList (by rw[iB,iB,alm];lia) p
  rcases hs with⟨m,l⟩|⟨m,l⟩
  .obtain ⟨is,g,p1,z1⟩:=I.list m;obtain⟨i,f,t,M⟩:=I.list l;have B:=g.length;have L:=f.length;have:=alK (e:=e) p1.isList t.isList (by rw[iB,iB];lia) p (item g f u);rw[iB,<-B,<-w] at this;exact this
  .obtain ⟨is,g,p1,z1⟩:=I.tuple m;obtain⟨i,f,t,M⟩:=I.tuple l;have B:=g.length;have L:=f.length;have:=SeqAt.RcNeAt.tuples (e:=e) p1 t p (item g f u);rw[iB,iB,zQ (),<-B,<-w] at this;exact this
end
def afQ(K:fD)(e:Bool):R2:=λx y H Q=>∃(a c:eh) (n:Nat) (b:Bool),x=.ref a/\y=.ref c/\n<=8/\tG K H n (.ref a) (.ref c) b/\Q (.bl (if e=true then !b else b)) H
section
variable{X:Cx}
def Wr(l:X.A.units+64<cLine):kM X (compareOp .NotEq) (afQ X.K true):=by
 intro e s i H x y v u Q I f g h;obtain⟨a,c,n,b,rfl,rfl,j,hd,q⟩:=h;cases f;cases g;exact tG.ne I () hd _ _ _ _ ⟨.bl (!b),H,I,rfl,q⟩
end
def Te{A:ie}{k:Nat}{cm:Bool}(a:eO cm k A):A.units+64<cLine:=by have:=a.un;lia
theorem MP{X:Cx}{hs:List ajv}:PH X hs (λ_ _ _ _ _=>False):=λ_ _ _ _ _ _ _ _ _ _ _ _ _ z=>z.elim
def Mg{X:Cx}{K0:fD}(h:X.K=K0:=by rfl):JQ X "str.join" (λx vs H Q=>∃(a:Str) (p:eh) (ys:List Str),x=.str a/\vs=[.ref p]/\eZ K0 H p (ys.map V.str)/\(ys.map (·.length)).sum+ys.length*a.length<=16777216/\Q (.str (aln a ys)) H):=by
 subst h;exact EW
section
variable{X:Cx}{K0:fD}
def adV{T id:String}{name:Str}{r:V->List V->Hp->VK->Prop}{o e:fU}{es:List fU}{j:TE}{t:TA}{c a:Pos}(q:X.K=K0)(p:amt T)(slot:Slot T name id)(i:typeOf (.builtin id)=pure (.type "method_descriptor"))(n:MtR X id r)(l:PE X o j)(m:PA X (e::es) t)
  (g:attributeBase o name X.env (eval o X.env)=eval o X.env:=by rfl)
  (h:((backTo a (starEach (e::es) X.env)).all (λx=> !x.1)&&(backToKw a (keywordEach [] X.env)).all (λx=>x.1.isSome)
   && decide ((e::es).length+([]:List alU).length+(if ([]:List alU).isEmpty then 0 else 1)<30))=true:=by rfl)
  (f:(c.endLine==a.line)=true:=by rfl) (hs:starEach (e::es) X.env=(false,eval e X.env)::starEach es X.env:=by rfl) (b:(backTo a (starEach es X.env)).any (·.1)=false:=by rfl):
  PE X (.Call (.Attribute o name c) (e::es) [] a) (tBM K0 T r j t):=by
 subst q;exact fI p slot i n l m g h f hs b
end
section
variable{X:Cx}{K0:fD}
def yj(h:X.K=K0):IxR X (aev K0):=by
 subst h;exact aA
def abA(h:X.K=K0):IxR X (aeO K0):=by
 subst h;exact bW
end
end L2
namespace Shp
open PySem L2
structure Sh where
 kind:Nat
 keep:Str
 many:Int
 bK:Int
 cC:Int
 name:Str
structure C4(s:Sh):Prop where
 kd:s.kind<=5
 kp:s.keep="always"\/s.keep="fallen"\/s.keep="never"
 m0:0<=s.many
 m1:s.many<=1000001
 g0:0<=s.bK
 g1:s.bK<=1000001
 s0:0<=s.cC
 s1:s.cC<=1000001
abbrev dM(i:Int):Str:=KP (toString i)
def words(s:Sh):List Str:=match s.kind with
 |0=>["leaf",s.keep,dM s.bK,dM s.cC,"idle"]
 |1=>["leaf",s.keep,dM s.bK,dM s.cC,"steady",dM s.many]
 |2=>["leaf",s.keep,dM s.bK,dM s.cC,"falls",dM s.many]
 |3=>["minder",s.keep,"one",dM s.bK,dM s.cC]
 |4=>["minder",s.keep,"all",dM s.bK,dM s.cC]
 |_=>["minder",s.keep,"rest",dM s.bK,dM s.cC]
def begun(s:Sh)(wd:Str):Bool:=decide (s.keep="always")||(decide (s.keep="fallen")&&(decide (wd="fallen")||decide (wd="gave up")))
def endAt(s:Sh)(n:Int):Str:=if s.kind=1/\n=s.many then "done" else if s.kind=2/\n=s.many then "fallen" else ""
abbrev Rep:=Hp->eh->Sh->Prop
def JW(R:Rep)(C:eh)(mk:List V->Sh->Prop):Sp:=λvs H Q _=>∃(x b:eh) (a:Hp) (us:List V) (s:Sh),vs=.ref x::us/\mk us s/\a x=none/\a b=none/\b≠x∧
 H=upd (upd a b (.own x)) x (.ins C b [])/\∀H',aL a H'->R H' x s->Q .non H'
def WO(us:List V)(s:Sh):Prop:=∃(nm a:Str) (g l:Int),us=[.str nm,.str a,.int g,.int l]/\s=⟨0,a,0,g,l,nm⟩/\C4 s
def Px(us:List V)(s:Sh):Prop:=∃(nm a:Str) (m g l:Int),us=[.str nm,.str a,.int m,.int g,.int l]/\s=⟨1,a,m,g,l,nm⟩/\C4 s
def OJ(us:List V)(s:Sh):Prop:=∃(nm a:Str) (m g l:Int),us=[.str nm,.str a,.int m,.int g,.int l]/\s=⟨2,a,m,g,l,nm⟩/\C4 s
def BZ(b:Nat)(us:List V)(s:Sh):Prop:=∃(nm a:Str) (g l:Int),us=[.str nm,.str a,.int g,.int l]/\s=⟨b,a,0,g,l,nm⟩/\C4 s
def Nb(R:Rep)(C:eh):Sp:=λvs H Q _=>∃(a b:eh) (fs:List (Str×V)) (s:Sh),vs=[.ref a]/\R H a s/\H a=some (.ins C b fs)∧
 ∀(q:eh) (H':Hp),aL H H'->H q=none->H' q=some (.lst ((words s).map V.str))->Q (.ref q) H'
def wJ(R:Rep)(C:eh):Sp:=λvs H Q _=>∃(a b:eh) (fs:List (Str×V)) (s:Sh),vs=[.ref a]/\R H a s/\H a=some (.ins C b fs)/\∀H',aL H H'->Q (.bl (decide (s.kind<3))) H'
def isWord(wd:Str):Prop:=wd="done"\/wd="fallen"\/wd="gave up"\/wd="ended"\/wd="cut"
def NA(R:Rep)(C:eh):Sp:=λvs H Q _=>∃(a b:eh) (fs:List (Str×V)) (s:Sh) (wd:Str),vs=[.ref a,.str wd]/\R H a s/\H a=some (.ins C b fs)/\isWord wd/\∀H',aL H H'->Q (.bl (begun s wd)) H'
def Lv(R:Rep)(C:eh):Sp:=λvs H Q _=>∃(a b:eh) (fs:List (Str×V)) (s:Sh) (n:Int),vs=[.ref a,.int n]/\R H a s/\H a=some (.ins C b fs)/\s.kind<3/\0<=n/\(s.kind≠0->n<=s.many)/\∀H',aL H H'->Q (.str (endAt s n)) H'
def cJ(f:Nat->Bool):Nat->Nat
 |0=>0
 |n+1=>cJ f n+if f n=true then 2^n else 0
def gN(a pl ct:Nat)(f:Nat->Bool):Nat:=match a with
 |3=>0
 |4=>cJ f ct
 |_=>cJ (λk=>f k&&decide (pl<k)) ct
def anew(a pl ct:Nat)(g:Nat->Bool):Nat:=match a with
 |3=>cJ (λk=>decide (k=pl)) ct
 |4=>cJ (λk=> !g k) ct
 |_=>cJ (λk=>decide (pl<=k)&& !g k) ct
def yk(R:Rep)(C:eh):Sp:=λvs H Q _=>∃(a b:eh) (fs:List (Str×V)) (s:Sh) (pl ct:Nat) (f g:Nat->Bool),vs=[.ref a,.int pl,.int ct,.int (cJ f ct:Nat),.int (cJ g ct:Nat)]/\R H a s/\H a=some (.ins C b fs)∧
 3<=s.kind/\pl<ct/\ct<=64/\f pl=false/\g pl=false∧
 ∀(q:eh) (H':Hp),aL H H'->H q=none->H' q=some (.tup [.int (gN s.kind pl ct f:Nat),.int (anew s.kind pl ct g:Nat)])->Q (.ref q) H'
structure If(P:hD)(w:gT)(K:fD)(mg:Str->Option ez)(dX:gm)(k:Nat)(R:Rep)(Cl:Nat->eh->Prop):Prop where
 mono:∀{H H':Hp} {a:eh} {s:Sh},aL H H'->R H a s->R H' a s
 ok:∀{H:Hp} {a:eh} {s:Sh},R H a s->C4 s
 inst:∀{H:Hp} {a:eh} {s:Sh},R H a s->∃C dx fs,H a=some (.ins C dx fs)/\Cl s.kind C/\fs.lookup ("words":Str)=none/\fs.lookup ("leaf":Str)=none/\fs.lookup ("begun_again":Str)=none/\fs.lookup ("end_at":Str)=none/\fs.lookup ("chosen":Str)=none
 words:∀{C j},Cl j C->MethAt P w K mg dX (fm P w) true k "words" C (Nb R C) []
 leaf:∀{C j},Cl j C->MethAt P w K mg dX (fm P w) true k "leaf" C (wJ R C) []
def aR(P:hD)(w:gT)(K:fD)(mg:Str->Option ez)(dX:gm)(k:Nat)(m:Str)(sp:eh->Sp)(a:eh->Prop):Prop:=∀C,a C->MethAt P w K mg dX (fm P w) true k m C (sp C) []
def Dt(sp:eh->Sp)(b:eh->Prop)(C:eh)(s:Sp)(a:List V):Prop:=b C/\s=sp C/\a=[]
def aR.d{P:hD}{w:gT}{K:fD}{mg:Str->Option ez}{dX:gm}{k:Nat}{m:Str}{sp:eh->Sp}{b:eh->Prop}(h:aR P w K mg dX k m sp b):
  ∀C s a,Dt sp b C s a->MethAt P w K mg dX (fm P w) true k m C s a:=by
 rintro C s a ⟨c,rfl,rfl⟩;exact h C c
theorem oO(f:Nat->Bool):∀n,cJ f n<2^n
 |0=>amx
 |n+1=>by
  have:=oO f n;unfold cJ;rw[amZ]
  split<;>lia
theorem aU(f:Nat->Bool):∀(n k:Nat),(cJ f n).testBit k=(decide (k<n)&&f k)
 |0,k=>by
  show hX 0 k=_;rw[aie];simp
 |n+1,k=>by
  have b:=oO f n;have a:=aU f n k;unfold cJ;by_cases h:f n=true
  .have e0:2^n+cJ f n=2^n ||| cJ f n:=by
    have:=Nat.two_pow_add_eq_or_of_lt b 1;rwa [amc] at this
   rw[eT h,Nat.add_comm,e0,ak9,a,ajZ];by_cases e:n=k
   .subst e;simp[h]
   .have:decide (k<n+1)=decide (k<n):=by rw[qj,kP,kP];lia
    rw[this,ik e,akd]
  .rw[eJ h,am0,a];by_cases e:n=k
   .subst e;simp[h]
   .have:decide (k<n+1)=decide (k<n):=by rw[qj,kP,kP];lia
    rw[this]
theorem Bd{m:Nat}{f:Nat->Bool}{n:Nat}(h:∀k,m.testBit k=(decide (k<n)&&f k)):m=cJ f n:=
 ah8 λk=>by rw[h,aU]
def T8(a b:Nat):(a ^^^ b)+2*(a &&& b)=a+b:=by
 induction a using ajO generalizing b with
 |ind a i=>
  by_cases h:a=0
  .subst h;simp
  .have:=i (a/2) () (b/2);rw[<- Nat.xor_div_two,<-Nat.and_div_two] at this
   have j:(a ^^^ b)%2=(a%2+b%2)%2:=by
    rcases aho a with e|e<;>rcases aho b with c|c <;>
     .have t:=RN a b 0;simp only[amk,e,c] at t;rcases aho (a ^^^ b) with f|f<;>simp_all
   have g:(a &&& b)%2=(a%2)*(b%2):=by
    rcases aho a with e|e<;>rcases aho b with c|c <;>
     .have t:=yp a b 0;simp only[amk,e,c] at t;rcases aho (a &&& b) with f|f<;>simp_all
   rcases aho a with e|e<;>rcases aho b with c|c<;>rw[e,c] at j g<;>lia
def JB(a b:Nat):wh (a:Int) (b:Int)=((a &&& b:Nat):Int):=by
 unfold wh;rw[fK (ajd a),fK (ajd b)]
 rfl
def adN(a b:Nat):(a ||| b)+(a &&& b)=a+b:=by
 have h:(a ||| b)=(a ^^^ b)+(a &&& b):=by
  have e1:=T8 (a ^^^ b) (a &&& b)
  have z:(a ^^^ b) &&& (a &&& b)=0:=ah8 λk=>by
   rw[yp,RN,yp,aie];cases a.testBit k<;>cases b.testBit k<;>rfl
  have y:(a ^^^ b) ^^^ (a &&& b)=a ||| b:=ah8 λk=>by
   rw[RN,RN,yp,ak9];cases a.testBit k<;>cases b.testBit k<;>rfl
  rw[z,y] at e1
  lia
 have:=T8 a b
 lia
def VE(a b:Nat):aju (a:Int) (b:Int)=((a ||| b:Nat):Int):=by
 unfold aju wh aiv;rw[ik (),ik ()];have e1:(-(-(a:Int)-1)-1).toNat=a:=by lia
 have e2:(-(-(b:Int)-1)-1).toNat=b:=by lia
 dsimp only;rw[e1,e2]
 lia
def Ks(a b:Nat):wh (a:Int) (aiv (b:Int))=((a &&& (a ^^^ b):Nat):Int):=by
 unfold wh;rw[fK (ajd a),ik (by unfold aiv;lia)];dsimp only;have e:(aiv (aiv (b:Int))).toNat=b:=by unfold aiv;lia
 rw[e];have e3:(alM (a:Int))=a:=by lia
 rw[e3];have h:=adN (a &&& b) (a &&& (a ^^^ b))
 have z:(a &&& b) &&& (a &&& (a ^^^ b))=0:=ah8 λk=>by
  simp only[yp,RN,aie];cases a.testBit k<;>cases b.testBit k<;>rfl
 have y:(a &&& b) ||| (a &&& (a ^^^ b))=a:=ah8 λk=>by
  simp only[yp,ak9,RN];cases a.testBit k<;>cases b.testBit k<;>rfl
 rw[z,y] at h
 lia
def Si(k:Nat):(1:Int)*2^((k:Int)).toNat=((2^k:Nat):Int):=by
 rw[Int.one_mul,M0,Int.natCast_pow]
 rfl
def U9(n:Nat):(1:Int)*2^((n:Int)).toNat-1=((2^n-1:Nat):Int):=by
 rw[Si];have:=akN n;omega
end Shp
namespace Nm
open PySem PySem.NumText PySem.StrLaws
abbrev fw(x:Str):List Nat:=x.cps.toList
def xc(l:List Nat):Str:=⟨l.toArray⟩
theorem Bl(l:List Nat):fw (xc l)=l:=rfl
theorem uq{x y:Str}(h:fw x=fw y):x=y:=PyProof.Rows.ext_toList h
theorem Tu(x:Str):xc (fw x)=x:=uq rfl
theorem bJ(x:Str):(fw x).length=x.length:=ajX
theorem k8(x y:Str):fw (x++y)=fw x++fw y:=PySem.W.KT.app_list x y
def TN(x y:Str):(x++y).length=x.length+y.length:=by rw[<- bJ,k8,iv,bJ,bJ]
def adR(x:Str)(c:Nat):(!(aiB x ⟨#[c]⟩ 0 x.length 1).isEmpty)=(fw x).contains c:=by
 rw[qj,found_iff]
 constructor
 .rintro ⟨i,h⟩;exact aiV.mpr (S4 ((subAt_one x c i).mp h))
 .intro h;obtain⟨i,a⟩:=List.mem_iff_getElem?.mp (aiV.mp h);exact⟨i,(subAt_one x c i).mpr a⟩
def dg(m:Nat):List Nat:=(Nat.toDigits 10 m).map Char.toNat
def TV(m:Nat):dg m≠[]:=by
 unfold dg;intro e;exact Nat.toDigits_ne_nil (ai3.mp e)
def adO(m:Nat):(dg m).length<=7↔m<10^7:=by
 unfold dg;rw[fC];exact Nat.length_toDigits_le_iff ∅ ∅
def VL{c:Char}(h:c.isDigit=true):48<=c.toNat/\c.toNat<=57:=by
 unfold Char.isDigit at h;simp only[kE,decide_eq_true_eq] at h;exact⟨h.1,h.2⟩
def X8{m c:Nat}(h:c∈dg m):48<=c/\c<=57:=by
 obtain⟨ch,a,e⟩:=ri.mp h;rw[<- e];exact VL (Nat.isDigit_of_mem_toDigits ∅ ∅ a)
def OA{d:Nat}(h:d<10):(Nat.digitChar d).toNat=d+48:=by
 revert h;revert d;decide
def O5{m:Nat}(h:m<10):dg m=[m+48]:=by
 unfold dg;rw[Nat.toDigits_of_lt_base h,tH,aiT,OA h]
def Xd{m:Nat}(h:10<=m):dg m=dg (m/10)++[m%10+48]:=by
 unfold dg;rw[Nat.toDigits_eq_if (n:=m) ∅,eJ (),js,tH,aiT,OA ()]
def IL(a:List Nat)(c:Nat):digitsVal (a++[c])=digitsVal a*10+(c-48):=by
 unfold digitsVal;rw[aiQ];rfl
def acK(m:Nat):digitsVal (dg m)=m:=by
 induction m using ajO with
 |_ m a=>
  by_cases h:m<10
  .rw[O5 h];show 0*10+(m+48-48)=m
   lia
  .rw[Xd (),IL,a (m/10) ()]
   lia
def ZT(m:Nat):∀t,dg m=48::t->m=0/\t=[]:=by
 induction m using ajO with
 |_ m b=>
  intro t e;by_cases h:m<10
  .rw[O5 h] at e;injection e with e1 e2;exact⟨(),e2.symm⟩
  .rw[Xd ()] at e;cases q:dg (m/10) with
   |nil=>exact absurd q (TV _)
   |cons a r=>
    rw[q] at e;injection e with e1 e2;subst e1;have:=(b (m/10) () r q).1
    lia
def DC{v:Int}(a:0<=v):fw (PySem.Str.ofString (toString v))=dg v.toNat:=by
 obtain⟨m,rfl⟩:=ahP a;exact PySem.W.KIN.signs_num m
def wO(c:Nat):Bool:=decide (48<=c/\c<=57)
def L9(c:Nat):Bool:=decide (97<=c/\c<=122)||decide (48<=c/\c<=57)
def Uh:fw "0123456789"=[48,49,50,51,52,53,54,55,56,57]:=by decide +kernel
def aaH(c:Nat):(fw "0123456789").contains c=wO c:=by
 rw[Uh,qj,aiV];unfold wO;rw[kP];simp only[qJ,akB,or_false];omega
def XQ:fw "abcdefghijklmnopqrstuvwxyz0123456789"=[97,98,99,100,101,102,103,104,105,106,107,108,109,110,111,112,113,114,115,116,117,118,119,120,121,122,48,49,50,51,52,53,54,55,56,57]:=by decide +kernel
def acx(c:Nat):(fw "abcdefghijklmnopqrstuvwxyz0123456789").contains c=L9 c:=by
 rw[XQ];by_cases h:c<128
 .have q:∀c,c<128->[97,98,99,100,101,102,103,104,105,106,107,108,109,110,111,112,113,114,115,116,117,118,119,120,121,122,48,49,50,51,52,53,54,55,56,57].contains c=L9 c:=by decide +kernel
  exact q c h
 .have e:L9 c=false:=by
   unfold L9;rw[ik (),ik ()]
   rfl
  rw[e,<-Bool.not_eq_true,aiV];intro m;have q:∀x∈[97,98,99,100,101,102,103,104,105,106,107,108,109,110,111,112,113,114,115,116,117,118,119,120,121,122,48,49,50,51,52,53,54,55,56,57],x<128:=by decide +kernel
  exact h (q c m)
def abw(m k:Nat):(jb k 48++dg m).all wO=true:=by
 rw[vc];intro c a;unfold wO;rw[kP];rcases ql.mp a with h|h
 .rw[(ah3.mp h).2]
  lia
 .exact X8 h
def kD(c:List Nat):List (List Nat)->List Nat
 |[]=>[]
 |[a]=>a
 |a::b::r=>a++c++kD c (b::r)
theorem zR(c:Str):∀ys:List Str,fw (Str.join c ys)=kD (fw c) (ys.map fw)
 |[]=>rfl
 |[_]=>rfl
 |a::b::r=>by
  show fw (a++c++Str.join c (b::r))=fw a++fw c++kD (fw c) ((b::r).map fw);rw[k8,k8,zR c (b::r)]
def GF(a:Str)(ys:List Str):fw (aln a ys)=kD (fw a) (ys.map fw):=by
 show fw (Builtin.Str.glued a ys)=_;rw[StrLaws.glued_eq_join,zR]
theorem ZG{x:Str}(b:fw x≠[])(hd:(fw x).all wO=true)(e:x.length<=60):ak5 x=some ((digitsVal (fw x):Nat):Int):=
 intText_digits (λc a=>by have:=vc.mp hd c a;unfold wO at this;exact gD this) b ()
end Nm
namespace Tr
open PySem Shp Nm PySem.NumText
def lW(x:Str):Prop:=1<=x.length/\x.length<=12/\(fw x).all L9=true
structure Row where
 dep:Nat
 sh:Sh
def Row.zW(r:Row):Bool:=decide (3<=r.sh.kind)
instance:Inhabited Row:=⟨⟨0,⟨0,"",0,0,0,""⟩⟩⟩
abbrev Path:=List (Nat×Bool)
def II(p:Path)(k:Nat)(r:Row):Path:=p.take r.dep++[(k,r.zW)]
def cq(a:List Row):Nat->Path
 |0=>[]
 |k+1=>II (cq a k) k (a.getD k default)
def fits(p:Path)(k:Nat)(r:Row):Prop:=if k=0 then r.dep=0/\r.zW=true else 1<=r.dep/\r.dep<=8/\∃j,p[r.dep-1]? =some (j,true)
instance(p:Path)(k:Nat)(r:Row):Decidable (fits p k r):=by
 unfold fits;refine @instDecidableIte _ _ _ _ inferInstance ?_;refine @instDecidableAnd _ _ inferInstance (@instDecidableAnd _ _ inferInstance ?_);cases h:p[r.dep-1]? with
 |none=>exact isFalse λa=>by obtain⟨j,e⟩:=a;cases e
 |some x=>
  obtain⟨j,b⟩:=x;cases b with
  |true=>exact isTrue ⟨j,rfl⟩
  |false=>exact isFalse λa=>by obtain⟨j,e⟩:=a;cases e
def bz(a:List Row)(k:Nat):Int:=match (cq a k)[(a.getD k default).dep-1]? with
 |some x=>if k=0 then -1 else (x.1:Int)
 |none=> -1
def oy{a:Type}(xs ys:List a)(d:a){k:Nat}(h:k<xs.length):(xs++ys).getD k d=xs.getD k d:=by
 rw[nN,nN,yh h]
theorem dj(a more:List Row):∀k,k<=a.length->cq (a++more) k=cq a k
 |0,_=>rfl
 |k+1,h=>by
  unfold cq;rw[dj a more k (),oy _ _ _ ()]
def KW(a more:List Row){k:Nat}(h:k<a.length):bz (a++more) k=bz a k:=by
 unfold bz;rw[dj a more k (by omega),oy _ _ _ (by omega)]
structure sq(s:Sh):Prop where
 kd:s.kind<=5
 kp:s.keep="always"\/s.keep="fallen"\/s.keep="never"
 m0:0<=s.many
 m1:s.many<=1000000
 m2:¬(s.kind=1\/s.kind=2)->s.many=0
 g0:0<=s.bK
 g1:s.bK<=1000000
 s0:0<=s.cC
 s1:s.cC<=1000000
 s2:3<=s.kind->1<=s.cC
 nm:lW s.name
theorem sq.okS{s:Sh}(h:sq s):C4 s:=⟨h.kd,h.kp,h.m0,by have:=h.m1;lia,h.g0,by have:=h.g1;lia,h.s0,by have:=h.s1;lia⟩
structure fO(rows:List Row):Prop where
 ne:rows≠[]
 len:rows.length<=64
 fit:∀k,k<rows.length->fits (cq rows k) k (rows.getD k default)
 sh:∀r∈rows,sq r.sh
 nd:(rows.map (·.sh.name)).Nodup
def l7(c:Nat):List Nat->List (List Nat)
 |[]=>[[]]
 |a::r=>if a=c then []::l7 c r else match l7 c r with
  |[]=>[[a]]
  |w::ws=>(a::w)::ws
theorem xS(c a:Nat)(r:List Nat):l7 c (a::r)=if a=c then []::l7 c r else match l7 c r with
  |[]=>[[a]]
  |w::ws=>(a::w)::ws:=rfl
theorem QU(c:Nat):∀l,l7 c l≠[]
 |[]=>Q4 _ _
 |a::r=>by
  unfold l7
  split
  .exact Q4 _ _
  .cases l7 c r<;>exact Q4 _ _
theorem NT(c:Nat)(y:List Nat):∀x,l7 c (x++c::y)=l7 c x++l7 c y
 |[]=>by
  show(if c=c then []::l7 c y else _)=_;rw[eT rfl]
  rfl
 |a::r=>by
  have b:=NT c y r;rw[ah0,xS,xS];by_cases h:a=c
  .rw[eT h,eT h,b]
   rfl
  .rw[eJ h,eJ h,b];cases z:l7 c r with
   |nil=>exact absurd z (QU c r)
   |cons w e=>rfl
theorem FV(c:Nat):∀x,c∉x->l7 c x=[x]
 |[],_=>rfl
 |a::r,h=>by
  have b:a≠c:=λe=>h (by rw[e];exact ll);unfold l7;rw[eJ b,FV c r (λz=>h (mD _ z))]
theorem OX(c:Nat):∀ls:List (List Nat),ls≠[]->(∀l∈ls,c∉l)->l7 c (kD [c] ls)=ls
 |[],h,_=>absurd rfl h
 |[a],_,h=>FV c a (h a ll)
 |a::b::r,_,h=>by
  have f:=OX c (b::r) (Q4 _ _) λl e=>h l (mD _ e);show l7 c (a++[c]++kD [c] (b::r))=_;rw[wH,ajD,NT,f,FV c a (h a ll)]
  rfl
def cW(l:List Nat):List (List Nat):=(l7 32 l).filter λw=> !w.isEmpty
def Ay(x y:List Nat):cW (x++32::y)=cW x++cW y:=by
 unfold cW;rw[NT,qH]
theorem Rb:cW []=[]:=rfl
def V9(y:List Nat):cW (32::y)=cW y:=by
 have:=Ay [] y;rwa [Rb,wg,wg] at this
def uG(n:Nat)(y:List Nat):cW (jb n 32++y)=cW y:=by
 induction n with
 |zero=>rfl
 |succ n a=>rw[Fs,ah0,V9,a]
def AX{w:List Nat}(h:w≠[])(b:32∉w):cW w=[w]:=by
 unfold cW;rw[FV 32 w b];cases w with
 |nil=>exact absurd rfl h
 |cons a r=>rfl
theorem Eu(n m:Nat):∀f:List (List Nat),(∀w∈f,w≠[]/\32∉w)->cW (kD (jb (n+1) 32) f++jb m 32)=f
 |[],_=>by
  show cW ([]++_)=[];rw[wg];have:=uG m [];rwa [ov] at this
 |[a],h=>by
  show cW (a++_)=[a];obtain⟨e,c⟩:=h a ll;cases m with
  |zero=>rw[ai4,ov];exact AX e c
  |succ m=>
   rw[Fs,Ay,AX e c];have:=uG m [];rw[ov] at this;rw[this]
   rfl
 |a::b::r,h=>by
  obtain⟨e,c⟩:=h a ll;have g:=Eu n m (b::r) λw i=>h w (mD _ i);show cW (a++jb (n+1) 32++kD _ (b::r)++_)=_;rw[Fs] at g ⊢;rw[wH,wH,ah0,Ay,uG,AX e c];rw[g]
  rfl
def numOf(x:Str):Option Int:=if fw x≠[]/\(fw x).all wO=true/\((fw x).head? =some 48->fw x=[48])/\digitsVal (fw x)<=1000000 then some ((digitsVal (fw x):Nat):Int) else none
def eA(x:Str):Prop:=x="always"\/x="fallen"\/x="never"
instance(x:Str):Decidable (eA x):=inferInstanceAs (Decidable (_\/_))
instance(x:Str):Decidable (lW x):=inferInstanceAs (Decidable (_/\_))
def Qy(x:Str):Option Nat:=if x="one" then some 3 else if x="all" then some 4 else if x="rest" then some 5 else none
def rowOf:List Str->Option Sh
 |[a,kp,g,s,wk,nm]=>if a="leaf"/\eA kp/\wk="idle"/\lW nm then (numOf g).bind λg=>(numOf s).bind λs=>some ⟨0,kp,0,g,s,nm⟩
   else if a="minder"/\eA kp/\lW nm then (Qy g).bind λk=>(numOf s).bind λm=>(numOf wk).bind λp=>if p=0 then none else some ⟨k,kp,0,m,p,nm⟩ else none
 |[a,kp,g,s,wk,m,nm]=>if a="leaf"/\eA kp/\lW nm then (if wk="steady" then some 1 else if wk="falls" then some 2 else none).bind λk=>(numOf g).bind λg=>(numOf s).bind λs=>(numOf m).bind λm=>some ⟨k,kp,m,g,s,nm⟩ else none
 |_=>none
def lead(l:List Nat):Nat:=(l.takeWhile (·==32)).length
def lY(l:List Nat):Bool:=match l.dropWhile (·==32) with
 |[]=>true
 |c::_=>c==35
def rV(l:List Nat):Option Row:=if lead l%2=0 then (rowOf ((cW l).map xc)).map λs=>⟨lead l/2,s⟩ else none
inductive Res
 |ok (rows:List Row)
 |bad (n:Nat)
 |many
 |abP
def scan(a:List Row)(n:Nat):List (List Nat)->Res
 |[]=>if a=[] then .abP else .ok a
 |l::ls=>if lY l=true then scan a (n+1) ls else match rV l with
  |none=>.bad (n+1)
  |some r=>if fits (cq a a.length) a.length r/\r.sh.name∉a.map (·.sh.name) then (if a.length=64 then .many else scan (a++[r]) (n+1) ls) else .bad (n+1)
theorem DJ(a:List Row)(n:Nat)(l:List Nat)(ls:List (List Nat)):scan a n (l::ls)=if lY l=true then scan a (n+1) ls else match rV l with
  |none=>.bad (n+1)
  |some r=>if fits (cq a a.length) a.length r/\r.sh.name∉a.map (·.sh.name) then (if a.length=64 then .many else scan (a++[r]) (n+1) ls) else .bad (n+1):=rfl
def parse(x:List Nat):Res:=scan [] 0 (l7 10 x)
def Rg{i:Int}(b:0<=i)(f:i<=1000000):numOf (dM i)=some i:=by
 have c:fw (dM i)=dg i.toNat:=DC b;unfold numOf;rw[c,acK,eT]
 .rw[Int.toNat_of_nonneg b]
 .refine ⟨TV _,?_,?_,()⟩
  .have:=abw i.toNat 0;rwa [ai4,wg] at this
  .intro e;cases z:dg i.toNat with
   |nil=>exact absurd z (TV _)
   |cons a r=>
    rw[z] at e;obtain rfl:a=48:=by simpa using e
    rw[(ZT _ _ z).2]
def QA(a w m p nm:Str)(c:eA a)(b:lW nm):rowOf ["minder",a,w,m,p,nm]=(Qy w).bind λk=>(numOf m).bind λm=>(numOf p).bind λp=>if p=0 then none else some ⟨k,a,0,m,p,nm⟩:=by
 unfold rowOf;dsimp only;rw[eJ (λz=>absurd z.1 ∅),eT ⟨rfl,c,b⟩]
def Uz{s:Sh}(h:sq s):rowOf (words s++[s.name])=some s:=by
 obtain⟨f,i,m,g,l,nm⟩:=s;have q:f=0\/f=1\/f=2\/f=3\/f=4\/f=5:=by have:=h.kd;dsimp only at this;lia
 have c:=Rg h.g0 h.g1;have hs:=Rg h.s0 h.s1;have o:=Rg h.m0 h.m1;have b:eA i:=h.kp;have a:lW nm:=h.nm;have j:=h.m2;have p:=h.s2;dsimp only at c hs o j p;rcases q with rfl|rfl|rfl|rfl|rfl|rfl
 .have e:m=0:=j ∅;subst e;show(if ("leaf":Str)="leaf"/\eA i/\("idle":Str)="idle"/\lW nm then _ else _)=_;rw[eT ⟨rfl,b,rfl,a⟩,c,rr,hs,rr]
 .show (if ("leaf":Str)="leaf"/\eA i/\lW nm then _ else _)=_;rw[eT ⟨rfl,b,a⟩,eT rfl,rr,c,rr,hs,rr,o,rr]
 .show (if ("leaf":Str)="leaf"/\eA i/\lW nm then _ else _)=_;rw[eT ⟨rfl,b,a⟩,eJ ∅,eT rfl,rr,c,rr,hs,rr,o,rr]
 all_goals
  have e:m=0:=j ∅;subst e;have n:l≠0:=by have:=p ∅;lia
  show rowOf ["minder",i,_,dM g,dM l,nm]=_;rw[QA _ _ _ _ _ b a];dsimp only[Qy]
 .rw[eT rfl,rr,c,rr,hs,rr,eJ n]
 .rw[eJ ∅,eT rfl,rr,c,rr,hs,rr,eJ n]
 .rw[eJ ∅,eJ ∅,eT rfl,rr,c,rr,hs,rr,eJ n]
def okW(w:List Nat):Prop:=w≠[]/\∀c∈w,33<=c/\c<=126
def N1{i:Int}(h:0<=i):okW (fw (dM i)):=by
 rw[show fw (dM i)=dg i.toNat from DC h];exact⟨TV _,λc a=>by have:=X8 a;lia⟩
def adM{x:Str}(h:lW x):okW (fw x):=by
 refine⟨λe=>?_,λc a=>?_⟩
 .have:=bJ x;rw[e] at this;have:=h.1;simp at *
  lia
 .have:=vc.mp h.2.2 c a;unfold L9 at this;rw[xk,kP,kP] at this
  lia
def Sr(l:List Nat)(h:(!l.isEmpty&&l.all λc=>decide (33<=c/\c<=126))=true):okW l:=by
 rw[kE] at h;refine⟨λe=>?_,λc a=>gD (vc.mp h.2 c a)⟩;rw[e] at h;exact absurd h.1 ∅
def WL{x:Str}(h:eA x):okW (fw x):=by
 rcases h with rfl|rfl|rfl<;>exact Sr _ (by decide +kernel)
def LJ{s:Sh}(h:sq s):∀w∈(words s++[s.name]).map fw,okW w:=by
 intro w f;obtain⟨x,a,rfl⟩:=ri.mp f;rcases ql.mp a with a|a
 .have hl:∀x:Str,x="leaf"\/x="minder"\/x="idle"\/x="steady"\/x="falls"\/x="one"\/x="all"\/x="rest"->okW (fw x):=by
   rintro x (rfl|rfl|rfl|rfl|rfl|rfl|rfl|rfl)<;>exact Sr _ (by decide +kernel)
  have b:=N1 h.g0;have hs:=N1 h.s0;have e:=N1 h.m0;have c:=WL h.kp;unfold words at a
  split at a<;>simp only[qJ,akB,or_false] at a
  .rcases a with rfl|rfl|rfl|rfl|rfl
   .exact hl _ (by simp)
   .exact c
   .exact b
   .exact hs
   .exact hl _ (by simp)
  .rcases a with rfl|rfl|rfl|rfl|rfl|rfl
   .exact hl _ (by simp)
   .exact c
   .exact b
   .exact hs
   .exact hl _ (by simp)
   .exact e
  .rcases a with rfl|rfl|rfl|rfl|rfl|rfl
   .exact hl _ (by simp)
   .exact c
   .exact b
   .exact hs
   .exact hl _ (by simp)
   .exact e
  all_goals
   rcases a with rfl|rfl|rfl|rfl|rfl
   .exact hl _ (by simp)
   .exact c
   .exact hl _ (by simp)
   .exact b
   .exact hs
 .obtain rfl:x=s.name:=by simpa using a
  exact adM h.nm
def Y5(s:Sh):∃a r,words s++[s.name]=a::r/\(a="leaf"\/a="minder"):=by
 unfold words
 split
 .exact ⟨_,_,rfl,.inl rfl⟩
 .exact ⟨_,_,rfl,.inl rfl⟩
 .exact ⟨_,_,rfl,.inl rfl⟩
 .exact ⟨_,_,rfl,.inr rfl⟩
 .exact ⟨_,_,rfl,.inr rfl⟩
 .exact ⟨_,_,rfl,.inr rfl⟩
def HK(e:List Nat){a:List Nat}{c:Nat}{t:List Nat}(r:List (List Nat))(h:a=c::t):∃u,kD e (a::r)=c::u:=by
 subst h;cases r with
 |nil=>exact⟨t,rfl⟩
 |cons b r=>exact⟨t++e++kD e (b::r),rfl⟩
def z8(d n m:Nat)(s:Sh):List Nat:=jb (2*d) 32++(kD (jb (n+1) 32) ((words s++[s.name]).map fw)++jb m 32)
def PM(d n m:Nat)(s:Sh):∃c u,(c=108\/c=109)/\z8 d n m s=jb (2*d) 32++c::u:=by
 obtain⟨a,r,e,b⟩:=Y5 s;unfold z8;rw[e,tH];rcases b with rfl|rfl
 .obtain ⟨u,hu⟩:=HK (jb (n+1) 32) (r.map fw) (show fw "leaf"=108::[101,97,102] by decide +kernel);exact⟨108,_,.inl rfl,by rw[hu,ah0]⟩
 .obtain ⟨u,hu⟩:=HK (jb (n+1) 32) (r.map fw) (show fw "minder"=109::[105,110,100,101,114] by decide +kernel);exact⟨109,_,.inr rfl,by rw[hu,ah0]⟩
def ac4(k:Nat){c:Nat}(u:List Nat)(h:c≠32):(jb k 32++c::u).takeWhile (·==32)=jb k 32:=by
 rw[List.takeWhile_append_of_pos (λa b=>by rw[(ah3.mp b).2];rfl),akg (by simpa using h),ov]
def acE(k:Nat){c:Nat}(u:List Nat)(h:c≠32):(jb k 32++c::u).dropWhile (·==32)=c::u:=by
 rw[List.dropWhile_append_of_pos (λa b=>by rw[(ah3.mp b).2];rfl),akh (by simpa using h)]
def Rv(d n m:Nat)(s:Sh):lY (z8 d n m s)=false:=by
 obtain⟨c,u,a,e⟩:=PM d n m s;unfold lY;rw[e,acE _ _ ()];show(c==35)=false;rw[aic]
 lia
def WZ(d n m:Nat){s:Sh}(h:sq s):rV (z8 d n m s)=some ⟨d,s⟩:=by
 obtain⟨c,u,i,e⟩:=PM d n m s
 have f:lead (z8 d n m s)=2*d:=by
  unfold lead;rw[e,ac4 _ _ (),M5]
 have a:cW (z8 d n m s)=(words s++[s.name]).map fw:=by
  unfold z8;rw[uG,Eu];intro w a;obtain⟨g,b⟩:=LJ h w a;exact⟨g,λz=>by have:=b 32 z;lia⟩
 unfold rV;rw[f,a,eT (),aiw,show xc∘fw=id from funext Tu,anb,Uz h];show some (⟨2*d/2,s⟩:Row)=_;rw[show 2*d/2=d by lia]
def ad9(d n m:Nat){s:Sh}(h:sq s):10∉z8 d n m s:=by
 unfold z8;intro z;rcases ql.mp z with z|z
 .have:=(ah3.mp z).2;lia
 rcases ql.mp z with z|z
 .have hj:∀c:List (List Nat),(∀w∈c,okW w)->10∉kD (jb (n+1) 32) c:=by
   intro c
   induction c with
   |nil=>intro _ z;cases z
   |cons a r i=>
    intro f z;have e:=(f a ll).2;cases r with
    |nil=>have:=e 10 z;lia
    |cons b r=>
     have z:10∈a++jb (n+1) 32++kD (jb (n+1) 32) (b::r):=z;rcases ql.mp z with z|z
     .rcases ql.mp z with z|z
      .have:=e 10 z;lia
      .have:=(ah3.mp z).2;lia
     .exact i (λw g=>f w (mD _ g)) z
  exact hj _ (LJ h) z
 .have:=(ah3.mp z).2;lia
inductive ET:List (List Nat)->List Row->Prop
 |nil:ET [] []
 |skip {l:List Nat} {ls:List (List Nat)} {rows:List Row}:lY l=true->ET ls rows->ET (l::ls) rows
 |row {l:List Nat} {ls:List (List Nat)} {r:Row} {rows:List Row}:lY l=false->rV l=some r->ET ls rows->ET (l::ls) (r::rows)
def iR{c:Type}(a:List c)(r:c)(b:List c)(d:c):(a++r::b).getD a.length d=r:=by
 rw[nN,Bj (fx _),zy]
 rfl
def fO.next{a:List Row}{r:Row}{b:List Row}(h:fO (a++r::b)):fits (cq a a.length) a.length r/\r.sh.name∉a.map (·.sh.name)/\a.length<64:=by
 refine⟨?_,?_,?_⟩
 .have:=h.fit a.length (by rw[iv,qV];lia);rwa [dj a _ _ (fx _),iR] at this
 .have:=h.nd;rw[js,tH,List.nodup_append] at this;exact λz=>this.2.2 _ z _ ll rfl
 .have:=h.len;rw[iv,qV] at this
  lia
def RK{ls:List (List Nat)}{b:List Row}(L:ET ls b):∀(a:List Row) (n:Nat) (more:List (List Nat)),(∀(q:List Row) (r:Row) (t:List Row),a++b=q++r::t->a.length<=q.length->fits (cq q q.length) q.length r/\r.sh.name∉q.map (·.sh.name)/\q.length<64)→
  scan a n (ls++more)=scan (a++b) (n+ls.length) more:=by
 induction L with
 |nil=>intro a n more _;rw[ov];rfl
 |skip p _ c=>
  intro a n more h;rw[ah0,DJ];rw[eT p,c a (n+1) more h,qV,alN]
  rfl
 |row p q _ c=>
  rename_i l ls r b _
  intro a n more h;obtain⟨g,f,i⟩:=h a r b rfl (fx _);rw[ah0,DJ];rw[eJ (by rw[p];decide),q];dsimp only;rw[eT ⟨g,f⟩,eJ (),c (a++[r]) (n+1) more ?_,qV,wH,ajD,alN]
  .rfl
  .intro q' r' t e hl;rw[wH,ajD] at e;exact h q' r' t e (by rw[iv] at hl;lia)
def fO.all{a:List Row}(h:fO a):∀(q:List Row) (r:Row) (t:List Row),[]++a=q++r::t->([]:List Row).length<=q.length->fits (cq q q.length) q.length r/\r.sh.name∉q.map (·.sh.name)/\q.length<64:=by
 intro q r t e _;rw[wg] at e;subst e;exact h.next
def aaW{ls:List (List Nat)}{a:List Row}(L:ET ls a)(h:fO a):scan [] 0 ls=.ok a:=by
 have:=RK L [] 0 [] h.all;rw[ov,wg] at this;rw[this];unfold scan;rw[eJ h.ne]
open L2
def se(H:Hp)(p:eh)(a:List (List Str)):Prop:=∃b:List eh,H p=some (.lst (b.map V.ref))/\b.length=a.length/\∀(i:Nat) (x:eh) (c:List Str),b[i]? =some x->a[i]? =some c->H x=some (.lst (c.map V.str))
def se.mono{H H':Hp}{p:eh}{a:List (List Str)}(e:aL H H')(h:se H p a):se H' p a:=by
 obtain⟨g,m,b,j⟩:=h;exact⟨g,e _ _ m,b,λi x c l f=>e _ _ (j i x c l f)⟩
structure LB(H:Hp)(dp ep wp np:eh)(rows:List Row):Prop where
 d:H dp=some (.lst (rows.map λr=>V.int (r.dep:Int)))
 e:H ep=some (.lst ((gG rows.length).map λk=>V.int (bz rows k)))
 w:se H wp (rows.map λr=>words r.sh)
 n:H np=some (.lst (rows.map λr=>V.str r.sh.name))
theorem LB.mono{H H':Hp}{dp f b c:eh}{a:List Row}(e:aL H H')(h:LB H dp f b c a):LB H' dp f b c a:=⟨e _ _ h.d,e _ _ h.e,h.w.mono e,e _ _ h.n⟩
def oG(i:Int):Str:=if i=0 then "always" else if i=1 then "fallen" else if i=2 then "always" else "never"
def YH(i:Int):Str:=if i=0 then "one" else if i=1 then "all" else "rest"
def CG(i:Int):Int:=if i=0 then 9 else if i=1 then 2 else if i=2 then 30 else if i=3 then 1 else if i=4 then 3 else if i=5 then 0 else if i=6 then 9 else 2
def Ll(i:Int):Str:=if i=0 then "falls" else if i=1 then "idle" else if i=2 then "steady" else "falls"
def bC(cell other:Int)(nm:Str):Sh:=⟨3+(cell/20%3).toNat,oG (cell/5%4),0,if other%29=7 then other%1000001 else CG (other%8),if other%29=7 then 1+other/3%1000000 else 1+other/8%5,nm⟩
def EJ(i:Int):Nat:=if i=1 then 0 else if i=2 then 1 else 2
def leafOf(cell other:Int)(nm:Str):Sh:=⟨EJ (cell/20%4),oG (cell/5%4),if cell/20%4=1 then 0 else if other%29=7 then other/7%1000001 else other/16%5,if other%29=7 then other%1000001 else other%4,if other%29=7 then other/3%1000001 else other/4%4,nm⟩
theorem de(x:Int){n:Int}(h:0<n):0<=x%n/\x%n<n:=⟨akO _ (),aje _ h⟩
def Pu(i:Int):oG i="always"\/oG i="fallen"\/oG i="never":=by
 unfold oG
 repeat' split
 all_goals simp
def C1{cell other:Int}{nm:Str}(h:lW nm):sq (bC cell other nm):=by
 have a:=de (cell/20) (n:=3) ∅;have e:0<=CG (other%8)/\CG (other%8)<=1000000:=by unfold CG;(repeat' split)<;>decide
 have f:=de other (n:=1000001) ∅;have b:=de (other/3) (n:=1000000) ∅;have c:=de (other/8) (n:=5) ∅;refine⟨?_,Pu _,by show(0:Int)<=0;decide,by show(0:Int)<=1000000;decide,λ_=>rfl,?_,?_,?_,?_,λ_=>?_,h⟩
 .show 3+(cell/20%3).toNat<=5;lia
 .show 0<=ite _ _ _;split<;>lia
 .show ite _ _ _<=(1000000:Int);split<;>lia
 .show 0<=ite _ _ _;split<;>lia
 .show ite _ _ _<=(1000000:Int);split<;>lia
 .show 1<=ite _ _ _;split<;>lia
def Tc{cell other:Int}{nm:Str}(h:lW nm):sq (leafOf cell other nm):=by
 have i:=de other (n:=1000001) ∅;have b:=de (other/3) (n:=1000001) ∅;have f:=de (other/7) (n:=1000001) ∅;have a:=de other (n:=4) ∅;have c:=de (other/4) (n:=4) ∅;have g:=de (other/16) (n:=5) ∅;refine⟨?_,Pu _,?_,?_,?_,?_,?_,?_,?_,?_,h⟩
 .show EJ _<=5;unfold EJ;(repeat' split)<;>lia
 .show 0<=ite _ _ _;(repeat' split)<;>lia
 .show ite _ _ _<=(1000000:Int);(repeat' split)<;>lia
 .intro z;show ite _ _ _=(0:Int);rw[eT];have z:¬(EJ (cell/20%4)=1\/EJ (cell/20%4)=2):=z;unfold EJ at z;by_cases e:cell/20%4=1
  .exact e
  .rw[eJ e] at z;by_cases e2:cell/20%4=2
   .rw[eT e2] at z;simp at z
   .rw[eJ e2] at z;simp at z
 .show 0<=ite _ _ _;split<;>lia
 .show ite _ _ _<=(1000000:Int);split<;>lia
 .show 0<=ite _ _ _;split<;>lia
 .show ite _ _ _<=(1000000:Int);split<;>lia
 .intro z;have z:3<=EJ (cell/20%4):=z;unfold EJ at z
  (repeat' split at z)<;>lia
def SG:List Nat:=fw "abcdefghijklmnopqrstuvwxyz0123456789"
def sgn(i:Nat):Nat:=SG.getD i 0
def Rf{i:Nat}(h:i<36):L9 (sgn i)=true:=by
 revert h;revert i;decide +kernel
def MS{i j:Nat}(h:i<36)(g:j<36)(e:sgn i=sgn j):i=j:=by
 have:∀i<36,∀j<36,sgn i=sgn j->i=j:=by decide +kernel
 exact this i h j g e
def QX{i:Nat}(h:i<36):("abcdefghijklmnopqrstuvwxyz0123456789":Str).cps[i]? =some (sgn i):=by
 revert h;revert i;decide +kernel
def vG(k:Nat)(mark:Int):List Nat:=if mark%11=5/\k<36 then [sgn k] else jb (mark%7).toNat 113++[sgn (k%36),sgn ((((k/36:Nat):Int)+mark)%36).toNat]++jb (mark/7%5).toNat 113
def Vh(k:Nat)(mark:Int):1<=(vG k mark).length/\(vG k mark).length<=12:=by
 have a:=de mark (n:=7) ∅;have b:=de (mark/7) (n:=5) ∅;unfold vG
 split
 .exact ⟨fx _,by show 1<=12;decide⟩
 .rw[iv,iv,M5,M5];show 1<=_+2+_/\_+2+_<=12
  lia
def Xi{k:Nat}{mark:Int}(h:k<64):(vG k mark).all L9=true:=by
 have b:=de (((k/36:Nat):Int)+mark) (n:=36) ∅;rw[vc];intro c a;unfold vG at a
 split at a
 .rename_i g
  obtain rfl:c=sgn k:=by simpa using a
  exact Rf g.2
 .simp only[ql,ah3,qJ,akB,or_false] at a;rcases a with(⟨_,rfl⟩|rfl|rfl)|⟨_,rfl⟩
  .decide
  .exact Rf ()
  .exact Rf ()
  .decide
def nameOf(k:Nat)(mark:Int):Str:=xc (vG k mark)
def F9{k:Nat}{mark:Int}(h:k<64):lW (nameOf k mark):=by
 have a:=Vh k mark;have e:(nameOf k mark).length=(vG k mark).length:=by rw[<- bJ];rfl
 exact⟨(),(),Xi h⟩
def Va{k j:Nat}{mark:Int}(h:k<64)(g:j<64)(e:vG k mark=vG j mark):k=j:=by
 have l:=de (((k/36:Nat):Int)+mark) (n:=36) ∅;have c:=de (((j/36:Nat):Int)+mark) (n:=36) ∅;unfold vG at e;by_cases b:mark%11=5/\k<36
 .rw[eT b] at e;by_cases a:mark%11=5/\j<36
  .rw[eT a] at e;exact MS b.2 a.2 (ajw e).1
  .rw[eJ a] at e;have:=hI List.length e;rw[iv,iv] at this;have:1=_+2+_:=this
   lia
 .rw[eJ b] at e;by_cases a:mark%11=5/\j<36
  .rw[eT a] at e;have:=hI List.length e;rw[iv,iv] at this;have:_+2+_=1:=this
   lia
  .rw[eJ a,wH,wH] at e;have e:=List.append_cancel_left e;have e1:=(ajw e).1;have e2:=(ajw (ajw e).2).1;have f:=MS () () e1;have i:=MS () () e2;omega
theorem QP{k j:Nat}{mark:Int}(h:k<64)(g:j<64)(e:nameOf k mark=nameOf j mark):k=j:=Va h g (hI fw e)
def yA(z:Str)(n:Nat):fw ⟨(jb n z.cps).foldl (·++·) #[]⟩=(jb n (fw z)).flatten:=by
 have:∀(m:Nat) (a:Array Nat),((jb m z.cps).foldl (·++·) a).toList=a.toList++(jb m (fw z)).flatten:=λm=>by
  induction m with
  |zero=>intro a;simp
  |succ m b=>intro a;rw[Fs,ajN,b,Fs,akp,Array.toList_append,wH]
 have:=this n #[];rwa [show (#[]:Array Nat).toList=[] from rfl,wg] at this
def PL(n c:Nat):(jb n [c]).flatten=jb n c:=by
 induction n with
 |zero=>rfl
 |succ n a=>rw[Fs,akp,a,Fs];rfl
def Oz(n c:Nat):(jb n [c,c]).flatten=jb (2*n) c:=by
 induction n with
 |zero=>rfl
 |succ n a=>rw[Fs,akp,a,show 2*(n+1)=(2*n+1)+1 by lia,Fs,Fs];rfl
structure fj(rows:List Row)(lp:List Nat):Prop where
 l1:1<=lp.length
 l8:lp.length<=8
 eq:∃ex:Path,cq rows rows.length=lp.map (λj=>(j,true))++ex
def fj.first{r:Row}(h:r.zW=true):fj [r] [0]:=by
 refine⟨fx _,∅,[],?_⟩;show II [] 0 r=_;unfold II;rw[h,List.take_nil]
 rfl
def fj.fits{a:List Row}{b:List Nat}{r:Row}(P:fj a b)(c:a.length≠0)(f:1<=r.dep)(g:r.dep<=b.length):fits (cq a a.length) a.length r:=by
 obtain⟨ex,e⟩:=P.eq;have:=P.l8;unfold Tr.fits;rw[eJ c];refine⟨f,(),b[r.dep-1]'(),?_⟩;rw[e,yh (by rw[fC];lia),hV,gx ()]
 rfl
def fj.bz{a:List Row}{b:List Nat}{r:Row}(P:fj a b)(c:a.length≠0)(g:1<=r.dep)(f:r.dep<=b.length):bz (a++[r]) a.length=((b[r.dep-1]'():Nat):Int):=by
 obtain⟨ex,e⟩:=P.eq;unfold Tr.bz;rw[dj a _ _ (fx _),iR,e,yh (by rw[fC];lia),hV,gx ()];show(if a.length=0 then _ else _)=_;rw[eJ c]
def fj.next{a:List Row}{b:List Nat}{r:Row}(P:fj a b)(f:1<=r.dep)(c:r.dep<=b.length):fj (a++[r]) (b.take r.dep):=by
 obtain⟨ex,e⟩:=P.eq;have:=P.l8;refine⟨by rw[uU];lia,by rw[uU];lia,[(a.length,r.zW)],?_⟩;rw[iv];show II (cq (a++[r]) a.length) a.length ((a++[r]).getD a.length default)=_;rw[dj a _ _ (fx _),iR,e];unfold II;rw[ajV (by rwa[fC]),aki]
def fj.more{a:List Row}{b:List Nat}{r:Row}(P:fj a b)(h:1<=r.dep)(c:r.dep<=b.length)(g:r.dep<8)(f:r.zW=true):fj (a++[r]) (b.take r.dep++[a.length]):=by
 obtain⟨ex,e⟩:=P.eq;refine⟨by rw[iv];show 1<=_+1;lia,by rw[iv,uU];show _+1<=8;lia,[],?_⟩;rw[iv];show II (cq (a++[r]) a.length) a.length ((a++[r]).getD a.length default)=_;rw[dj a _ _ (fx _),iR,e];unfold II;rw[ajV (by rwa[fC]),js,aki,f,ov]
 rfl
structure mH(rows:List Row)(mark:Int):Prop where
 ne:1<=rows.length
 len:rows.length<=64
 fit:∀k,k<rows.length->fits (cq rows k) k (rows.getD k default)
 sh:∀r∈rows,sq r.sh
 nm:∀k,k<rows.length->(rows.getD k default).sh.name=nameOf k mark
def mH.next{a:List Row}{mark:Int}{r:Row}(h:mH a mark)(i:a.length<64)(g:fits (cq a a.length) a.length r)(c:sq r.sh)(f:r.sh.name=nameOf a.length mark):mH (a++[r]) mark:=by
 have b:(a++[r]).length=a.length+1:=iv;refine⟨(),(),?_,?_,?_⟩
 .intro k hk;by_cases e:k=a.length
  .subst e;rwa[dj a _ _ (fx _),iR]
  .rw[dj a _ _ (),oy _ _ _ ()];exact h.fit k ()
 .intro x hx;rcases ql.mp hx with z|z
  .exact h.sh x z
  .obtain rfl:x=r:=by simpa using z
   exact c
 .intro k hk;by_cases e:k=a.length
  .subst e;rwa[iR]
  .rw[oy _ _ _ ()];exact h.nm k ()
def mH.ok{a:List Row}{mark:Int}(h:mH a mark):fO a:=by
 refine⟨λe=>by have:=h.ne;rw[e] at this;exact absurd this ∅,h.len,h.fit,h.sh,?_⟩;rw[List.Nodup,List.pairwise_iff_getElem];intro i j c b f e;rw[fC] at c b;rw[ajz,ajz] at e;have e1:=h.nm i c;have e2:=h.nm j b;rw[nN,gx c] at e1;rw[nN,gx b] at e2;have e1:a[i].sh.name=nameOf i mark:=e1;have e2:a[j].sh.name=nameOf j mark:=e2;rw[e1,e2] at e;have:=h.len;have:=QP () () e
 lia
def mH.names{a:List Row}{mark:Int}(h:mH a mark):a.map (λr=>V.str r.sh.name)=(gG a.length).map λk=>V.str (nameOf k mark):=by
 refine List.ext_getElem (by rw[fC,fC,mq]) λi b c=>?_;rw[fC] at b;rw[ajz,ajz,alO];have:=h.nm i b;rw[nN,gx b] at this;exact hI V.str this
def fj.take{a:List Row}{b:List Nat}(P:fj a b){m:Nat}(f:1<=m)(c:m<=b.length):fj a (b.take m):=by
 obtain⟨ex,e⟩:=P.eq;have:=P.l8;refine⟨by rw[uU];lia,by rw[uU];lia,(b.drop m).map (λj=>(j,true))++ex,?_⟩;rwa[<- wH,<-js,ajE]
def XE{a:Type}{xs:List a}(h:1<=xs.length):oK xs (-1)=xs[xs.length-1]? :=by
 unfold oK Cj;rw[eJ ∅,eT ()];show xs[(-1+(xs.length:Int)).toNat]? =_
 congr 1
 lia
theorem oq{H a:Hp}{d:eh}{o:HO}(h:aL H a)(hd:H d=none):aL H (upd a d o):=λb u e=>by rw[ai (ao e hd)];exact h b u e
def se.ne{H:Hp}{p d:eh}{b:List (List Str)}{i:Int}{xs:List V}(h:se H p b)(g:H d=some (.lst (V.int i::xs)))(f:b≠[]):p≠d:=by
 obtain⟨c,e1,e2,e3⟩:=h;intro e;subst e;rw[g] at e1;cases c with
 |nil=>cases b with
  |nil=>exact f rfl
  |cons _ _=>cases e2
 |cons a r=>cases e1
def se.upd{H:Hp}{p d:eh}{b:List (List Str)}{i:Int}{xs:List V}{o:HO}(h:se H p b)(j:H d=some (.lst (V.int i::xs)))(s:b≠[])(m:∀c∈b,c≠[]):se (upd H d o) p b:=by
 have l:=h.ne j s;obtain⟨n,e1,e2,e3⟩:=h;refine⟨n,(ai l).trans e1,e2,λk x c q g=>?_⟩;have f:=e3 k x c q g;rw[ai]
 .exact f
 .intro e;subst e;rw[j] at f;cases c with
  |nil=>exact m [] (S4 g) rfl
  |cons a r=>cases f
def se.push{H:Hp}{p q:eh}{c:List (List Str)}{g:List Str}(h:se H p c)(n:H q=some (.lst (g.map V.str)))(v:c≠[])(s:∀g∈c,g≠[])(m:g≠[]):
  ∃f:List eh,H p=some (.lst (f.map V.ref))/\f.length=c.length/\se (L2.upd H p (.lst (f.map V.ref++[.ref q]))) p (c++[g]):=by
 obtain⟨f,e1,e2,e3⟩:=h
 have o:∀(x:eh) (us:List Str),us≠[]->H x=some (.lst (us.map V.str))->x≠p:=λx us w j e=>by
  subst e;rw[e1] at j;cases f with
  |nil=>cases c with
   |nil=>exact v rfl
   |cons _ _=>cases e2
  |cons a r=>cases us with
   |nil=>exact w rfl
   |cons b t=>cases j
 refine⟨f,e1,e2,f++[q],by rw[af,js];rfl,by rw[iv,iv,e2];rfl,λk x us i l=>?_⟩;by_cases u:k<f.length
 .rw[yh u] at i;rw[yh ()] at l;have j:=e3 k x us i l;rwa[ai (o x us (s us (S4 l)) j)]
 .have ek:k=f.length:=by
   have:=(pE.mp i).1;rw[iv] at this;have:k<f.length+1:=this
   lia
  subst ek;rw[Bj (fx _),zy] at i;rw[Bj (),e2,zy] at l;obtain rfl:q=x:=hH i;obtain rfl:g=us:=hH l;rwa[ai (o q g m n)]
def Df(s:Sh):words s≠[]:=by
 unfold words
 split<;>exact Q4 _ _
theorem MC(a:List Row):∀b∈a.map (λr=>words r.sh),b≠[]:=λb h=>by
 obtain⟨r,_,rfl⟩:=ri.mp h;exact Df _
def yd{a:List Row}{r:Row}{j:Int}(h:bz (a++[r]) a.length=j):(gG (a++[r]).length).map (λk=>V.int (bz (a++[r]) k))=(gG a.length).map (λk=>V.int (bz a k))++[V.int j]:=by
 rw[iv];show(gG (a.length+1)).map _=_;rw[zB,js,tH,aiT,h]
 congr 1
 refine ai5 λk b=>?_;rw[KW a [r] (pf.mp b)]
def LD{a:List Row}(h:1<=a.length)(g:Row->Int):∃i xs,a.map (λr=>V.int (g r))=V.int i::xs:=by
 cases a with
 |nil=>cases h
 |cons r t=>exact⟨_,_,rfl⟩
def Jz{n:Nat}(h:1<=n)(g:Nat->Int):∃i xs,(gG n).map (λk=>V.int (g k))=V.int i::xs:=by
 cases n with
 |zero=>cases h
 |succ n=>rw[ajr];exact⟨_,_,rfl⟩
def acv{a:List Row}(h:1<=a.length):a.map (λr=>words r.sh)≠[]:=by
 cases a with
 |nil=>cases h
 |cons r t=>exact Q4 _ _
def aao(xs:List V)(b:Nat):DR xs none (some (b:Int))=xs.take b:=by
 unfold DR;have e1:HT.pA xs.length 0 none=0:=rfl
 have e2:HT.pA xs.length xs.length (some (b:Int))=min b xs.length:=by
  unfold HT.pA;dsimp only
  split
  .lia
  .rw[M0]
 rw[e1,e2,ala,am1];by_cases h:b<=xs.length
 .rw[Nat.min_eq_left h]
 .rw[Nat.min_eq_right (),aiM (fx _),aiM ()]
def md(a:List Row):List (List Nat):=a.map λr=>z8 r.dep 0 0 r.sh
theorem EY:∀{a:List Row},(∀r∈a,sq r.sh)->ET (md a) a
 |[],_=>.nil
 |r::t,h=>.row (Rv _ _ _ _) (WZ _ _ _ (h r ll)) (EY λx b=>h x (mD _ b))
def W4{a:List Row}(h:∀r∈a,sq r.sh):∀l∈md a,10∉l:=by
 intro l c;obtain⟨r,b,rfl⟩:=ri.mp c;exact ad9 _ _ _ (h r b)
theorem plain_len(a:List Row):(md a).length=a.length:=fC _
def written(a:List Row):List Nat:=kD [10] (md a)
def JS{a:List Row}(h:fO a):parse (written a)=.ok a:=by
 unfold parse written;rw[OX 10 (md a) (λe=>h.ne (ai3.mp e)) (W4 h.sh)];exact aaW (EY h.sh) h
def Me{i:Int}(a:0<=i)(b:i<=1000000):(fw (dM i)).length<=7:=by
 rw[show fw (dM i)=dg i.toNat from DC a];exact(adO _).mpr ()
def EE{s:Sh}(h:sq s):((words s++[s.name]).map (·.length)).sum<=60/\(words s++[s.name]).length<=7:=by
 have i:=Me h.g0 h.g1;have hs:=Me h.s0 h.s1;have c:=Me h.m0 h.m1;rw[bJ] at i hs c;have n:s.keep.length<=6:=by rcases h.kp with e|e|e<;>rw[e]<;>decide
 have o:=h.nm.2.1;have g:("leaf":Str).length=4:=by decide
 have m:("idle":Str).length=4:=by decide
 have b:("steady":Str).length=6:=by decide
 have l:("falls":Str).length=5:=by decide
 have a:("minder":Str).length=6:=by decide
 have f:("one":Str).length=3:=by decide
 have j:("all":Str).length=3:=by decide
 have l8:("rest":Str).length=4:=by decide
 unfold words
 split<;>simp only[js,tH,aiT,ajP,akj,List.sum_nil,iv,qV,ai8,g,m,b,l,a,f,j,l8]<;>lia
theorem Dj(c:List Nat):∀ls:List (List Nat),(kD c ls).length<=(ls.map (·.length)).sum+ls.length*c.length
 |[]=>pI _
 |[a]=>by simp[kD]
 |a::b::r=>by
  have e:=Dj c (b::r);show(a++c++kD c (b::r)).length<=_;rw[iv,iv,tH,akj,qV,M6]
  lia
def Ml{s:Sh}(h:sq s)(d:Nat):(z8 d 0 0 s).length<=2*d+67:=by
 have b:=EE h;have a:=Dj (jb 1 32) ((words s++[s.name]).map fw);rw[aiw,fC,M5,show(λx:List Nat=>x.length)∘fw=λx:Str=>x.length from funext bJ] at a;unfold z8;rw[iv,iv,M5,ai4];show 2*d+((kD (jb 1 32) ((words s++[s.name]).map fw)).length+0)<=_
 lia
def Xf(d:Nat)(s:Sh):fw ((⟨(jb d ("  ":Str).cps).foldl (·++·) #[]⟩:Str)++aln " " (words s++[s.name]))=z8 d 0 0 s:=by
 rw[k8,yA,GF];unfold z8;rw[ai4,ov]
 congr 1
 exact Oz d 32
theorem RL{n:Nat}:∀{l:List Nat},(∀x∈l,x<=n)->l.sum<=n*l.length
 |[],_=>pI _
 |a::r,h=>by
  have e:=h a ll;have c:=RL λx b=>h x (mD _ b);rw[akj,qV,Nat.mul_succ]
  lia
end Tr
namespace Hs
open PySem L2 Shp
abbrev FS:=eh->Prop
abbrev Ent:=Int×Str×Str
def QB(e:Ent):List V:=[.int e.1,.str e.2.1,.str e.2.2]
def iq.same{K:fD}{H H':Hp}{a:eh}{xs:List V}(e:aL H H')(h:iq K H a xs):iq K H' a xs:=by
 rcases h with(h|⟨o,h⟩)|h
 .exact .inl (.inl (e _ _ h))
 .exact .inl (.inr ⟨o,e _ _ h⟩)
 .exact .inr h
def Keeps(F:FS)(H H':Hp):Prop:=∀b o,¬F b->H b=some o->H' b=some o
abbrev HR(S:Type):=Hp->eh->S->FS->Prop
structure uu{S:Type}(R:HR S)(Cl:eh->Prop):Prop where
 own:∀{H:Hp} {x:eh} {s:S} {F:FS} {b:eh},R H x s F->F b->H b≠none
 mono:∀{H H':Hp} {x:eh} {s:S} {F:FS},(∀b o,F b->H b=some o->H' b=some o)->R H x s F->R H' x s F
 inst:∀{H:Hp} {x:eh} {s:S} {F:FS},R H x s F->∃C dx fs,H x=some (.ins C dx fs)/\Cl C/\fs.lookup ("rows":Str)=none/\fs.lookup ("doing":Str)=none/\fs.lookup ("on":Str)=none/\fs.lookup ("turn":Str)=none/\fs.lookup ("stop":Str)=none/\fs.lookup ("trip":Str)=none
section
variable{S:Type}{R:HR S}{Cl:eh->Prop}{H H':Hp}{x:eh}{s:S}{F:FS}
theorem uu.same(I:uu R Cl)(e:aL H H')(h:R H x s F):R H' x s F:=I.mono (λb o _ z=>e b o z) h
end
def Moved{S:Type}(R:HR S)(H:Hp)(F:FS)(x:eh)(s:S)(H':Hp)(a:FS):Prop:=Keeps F H H'/\(∀b,a b->F b\/H b=none)/\R H' x s a
def TM{S:Type}(R:HR S)(a:S->Str->Option Str)(C:eh):Sp:=λvs H Q _=>∃(x:eh) (nm wd:Str) (s:S) (F:FS) (b:eh) (fs:List (Str×V)),vs=[.ref x,.str nm]/\R H x s F/\H x=some (.ins C b fs)/\a s nm=some wd∧
 ∀H':Hp,aL H H'->Q (.str wd) H'
def afb{S:Type}(R:HR S)(on:S->List Str)(C:eh):Sp:=λvs H Q _=>∃(x:eh) (s:S) (F:FS) (a:eh) (fs:List (Str×V)),vs=[.ref x]/\R H x s F/\H x=some (.ins C a fs)∧
 ∀(q:eh) (H':Hp),aL H H'->H q=none->H' q=some (.lst ((on s).map V.str))->Q (.ref q) H'
end Hs
namespace Nm
open PySem PySem.NumText PySem.StrLaws PySem.Builtin.Str Tr
theorem Er(x:Str)(i j:Nat):fw (strSub x i j)=((fw x).drop i).take (j-i):=strSub_toList x i j
theorem So(p:Nat->Bool):∀l:List Nat,l.drop (l.takeWhile p).length=l.dropWhile p
 |[]=>rfl
 |a::r=>by
  by_cases h:p a=true
  .rw[List.takeWhile_cons_of_pos h,List.dropWhile_cons_of_pos h];exact So p r
  .rw[akg h,akh h]
   rfl
def Bc(x:Str)(c:Nat):fw (aio x ⟨#[c]⟩)=(fw x).dropWhile (·==c):=by
 unfold aio;rw[PyProof.Rows.stripBy_eq,Er]
 have e:(⟨#[c]⟩:Str).cps.contains=(·==c):=by
  funext d
  show(#[c]:Array Nat).contains d=_;rw[qj];simp
 rw[e];show List.take (x.length-(amF (·==c) (fw x)).length) (List.drop (amF (·==c) (fw x)).length (fw x))=_;rw[aiM (by rw[aid,bJ];exact fx _),So]
theorem RO(x y:Str):(aio x y).length<=x.length:=PyProof.Rows.len_lstripChars x y
theorem MI(x:Str)(c:Nat):∀(k a:Nat) (st:Array Nat×Nat),a+k=x.length+1->st.fst.size<=a->st.snd<=a→
  (forIn (iH a k) st (occBody x ⟨#[c]⟩ x.length (x.length+1))).run.fst.toList=st.fst.toList++(iH a k).filter λi=>decide ((fw x)[i]? =some c)
 |0,a,st,_,_,_=>by
  rw[aml,FH,ov]
  rfl
 |k+1,a,st,h,hs,hf=>by
  rw[SU,List.forIn_cons,rj];unfold occBody;by_cases e:(fw x)[a]? =some c
  .have z:=(subAt_one x c a).mpr e;rw[eT ⟨⟨⟨(),hf⟩,z.1⟩,z.2⟩,eT (fK e)];have b:=MI x c k (a+1) (st.fst.push a,a+1) () (by rw[Array.size_push];lia) (fx _);unfold occBody at b;refine Eq.trans b ?_;rw[Array.toList_push,wH]
   rfl
  .rw[eJ (λz=>e ((subAt_one x c a).mp ⟨z.1.2,z.2⟩)),eJ (λz=>e (gD z))];have b:=MI x c k (a+1) (st.fst,st.snd) () (by show st.fst.size<=_;lia) (by show st.snd<=_;lia);unfold occBody at b;exact b
theorem DN(x:Str)(c:Nat):∀(k a b:Nat),a<=b->b+k=x.length→
  (partsFrom x 1 a ((iH b k).filter λi=>decide ((fw x)[i]? =some c))).map fw=match l7 c ((fw x).drop b) with
   |[]=>[]
   |h::t=>(((fw x).drop a).take (b-a)++h)::t
 |0,a,b,h,hb=>by
  have n:(fw x).drop b=[]:=List.drop_of_length_le (by rw[bJ];lia);rw[aml,FH,n];show [fw (strSub x a x.length)]=_;rw[Er,show l7 c ([]:List Nat)=[[]] from rfl,show b=x.length by lia];show _=[_++[]];rw[ov]
 |k+1,a,b,h,hb=>by
  have f:b<(fw x).length:=by rw[bJ];lia
  have hd:(fw x).drop b=(fw x)[b]::(fw x).drop (b+1):=ah4 f;have g:(fw x)[b]? =some (fw x)[b]:=gx f;rw[SU,rj,hd,xS];by_cases e:(fw x)[b]=c
  .rw[eT (fK (by rw[g,e])),eT e];show fw (strSub x a b)::(partsFrom x 1 (b+1) _).map fw=_;rw[DN x c k (b+1) (b+1) (fx _) (),Er];show _=(_++[])::l7 c _;rw[ov]
   congr 1
   cases hz:l7 c ((fw x).drop (b+1)) with
   |nil=>rfl
   |cons h t=>
    show(_++h)::t=h::t;rw[zy,amG,wg]
  .rw[eJ (λz=>e (by have:=gD z;rw[g] at this;exact hH this)),eJ e];rw[DN x c k a (b+1) () ()];cases hz:l7 c ((fw x).drop (b+1)) with
   |nil=>exact absurd hz (QU c _)
   |cons h t=>
    show(_++h)::t=(_++((fw x)[b]::h))::t
    congr 1
    have e1:b+1-a=(b-a)+1:=by lia
    rw[e1,Cb,aj8,show a+(b-a)=b by lia,g,wH]
    rfl
theorem abm(c:Nat):l7 c []=[[]]:=rfl
def qe(x:Str){c:Nat}(j:c<256):(Txt.split x ⟨#[c]⟩).map fw=l7 c (fw x):=by
 have l:¬ahT x<ahT ⟨#[c]⟩:=by
  have:ahT ⟨#[c]⟩=1:=by
   unfold ahT;rw[eT (by show(#[c]:Array Nat).all _=true;simp[j])]
  rw[this];unfold ahT
  split
  .lia
  .split<;>lia
 unfold Txt.split;by_cases g:x.length<1
 .rw[eT (by rw[xk];exact .inl (fK g))];have:fw x=[]:=ahE.mp (by rw[bJ];lia);show [fw x]=_;rw[this]
  rfl
 .rw[eJ (by rw[xk];exact λz=>z.elim (λz=>g (gD z)) (λz=>l (gD z)))]
  have f:occurrences x ⟨#[c]⟩ 0 x.length (x.length+1)=(iH 0 x.length).filter λi=>decide ((fw x)[i]? =some c):=by
   rw[occ_eq,MI x c _ 0 _ () (pI _) (pI _),am1,alP,qH];show []++(_++amd _ [0+1*x.length])=_
   rw[rj,eJ (by
    intro z;have z:=gD z;rw[ahN (by rw[bJ];lia)] at z;cases z),FH,ov,wg]
  have b:=DN x c x.length 0 0 (fx _) ();rw[<- f,ala] at b
  have a:(match l7 c (fw x) with
   |[]=>[]
   |h::t=>((fw x).take (0-0)++h)::t)=l7 c (fw x):=by
   cases hz:l7 c (fw x) with
   |nil=>rfl
   |cons h t=>
    show(_++h)::t=h::t;rw[zy,amG,wg]
  by_cases e:(occurrences x ⟨#[c]⟩ 0 x.length (x.length+1)).isEmpty=true
  .rw[eT e];rw[List.isEmpty_iff.mp e] at b;refine Eq.trans ?_ (b.trans a);show [fw x]=[fw (strSub x 0 x.length)];rw[sub_whole]
  .rw[eJ e,partsBetween_eq];exact b.trans a
theorem Sj(c:Nat):∀l:List Nat,(l7 c l).length<=l.length+1
 |[]=>fx _
 |a::r=>by
  have b:=Sj c r;rw[xS];by_cases e:a=c
  .rw[eT e];show(l7 c r).length+1<=r.length+1+1
   lia
  .rw[eJ e];cases hz:l7 c r with
   |nil=>show(_:Nat)<=_;exact je (alF ⋯) (by show 1<=_;lia)
   |cons h t=>
    rw[hz] at b;show t.length+1<=r.length+1+1;have b:t.length+1<=r.length+1:=b
    lia
def amK(x:Str){c:Nat}(a:c<256):(Txt.split x ⟨#[c]⟩).length<=x.length+1:=by
 rw[<- fC (f:=fw),qe x a,<-bJ];exact Sj c _
theorem Zv(x:Str)(c:Nat):(occurrences x ⟨#[c]⟩ 0 x.length (x.length+1)).length<=x.length+1:=occ_length_le _ _ _ _ _
theorem KS(x:Str)(w:Nat):∀(b:List Nat) (a:Nat),(partsFrom x w a b).length=b.length+1
 |[],_=>rfl
 |_::r,a=>hI (·+1) (KS x w r _)
def EH(x:Str)(c:Nat):(partsBetween x (occurrences x ⟨#[c]⟩ 0 x.length (x.length+1)) 1).length<=x.length+2:=by
 rw[partsBetween_eq,KS];have:=Zv x c
 lia
def MQ(x:Str)(c:Nat):ak8 x ⟨#[c]⟩=decide ((fw x).head? =some c):=by
 unfold ak8
 rw[qj,kE,kP,kP];rw[List.head?_eq_getElem?];exact subAt_one x c 0
end Nm
namespace L2
open PySem PySem.Spec PyProof.Rows
def eZ.same{K:fD}{H H':Hp}{a:eh}{xs:List V}(h:eZ K H a xs)(e:aL H H'):eZ K H' a xs:=by
 rcases h with(h|⟨o,h⟩)|h
 .exact .inl (.inl (e _ _ h))
 .exact .inl (.inr ⟨o,e _ _ h⟩)
 .exact .inr h
end L2
namespace Tr
open PySem Shp Nm PySem.NumText
def AD(x:Str):Bool:=decide (fw x≠[])&&decide (x.length<=7)&&decide ((fw x).head? =some 48->fw x=[48])&&(fw x).all wO
theorem SQ(c:Nat)(h:49<=c):∀(n:Nat) (l:List Nat),l.length=n->10^n<=digitsVal (c::l)
 |0,l,e=>by
  obtain rfl:l=[]:=ahE.mp e;have:=IL [] c;rw[wg] at this;rw[this];show 1<=_
  lia
 |n+1,l,e=>by
  rcases List.eq_nil_or_concat l with rfl|⟨r,d,rfl⟩
  .cases e
  .rw[List.concat_eq_append] at e ⊢;rw[iv] at e;have a:=SQ c h n r (by have:r.length+1=n+1:=e;lia);rw[<- ah0,IL,amZ]
   lia
def jg{x:Str}{v:Int}(h:numOf x=some v):AD x=true/\ak5 x=some v/\x.length<=7/\0<=v/\v<=1000000:=by
 unfold numOf at h;by_cases z:fw x≠[]/\(fw x).all wO=true/\((fw x).head? =some 48->fw x=[48])/\digitsVal (fw x)<=1000000
 .rw[eT z] at h;obtain⟨i,e,j,m⟩:=z
  have l:x.length<=7:=by
   obtain⟨c,r,a⟩:∃c r,fw x=c::r:=by
    cases y:fw x with
    |nil=>exact absurd y i
    |cons c r=>exact⟨c,r,rfl⟩
   rw[<- bJ,a];by_cases g:c=48
   .have:=j (by rw[a,g];rfl);rw[a] at this;rw[this]
    decide
   .have f:=vc.mp e c (by rw[a];exact ll);unfold wO at f;have f:=gD f;have b:=SQ c () _ r rfl;rw[a] at m;by_cases o:r.length<=6
    .rw[qV];lia
    .have:10^7<=10^r.length:=aiZ ∅ ()
     lia
  have n:=hH h;refine⟨?_,?_,l,(),()⟩
  .unfold AD;rw[fK i,fK l,fK j,e]
   rfl
  .rw[ZG i e (),n]
 .rw[eJ z] at h;cases h
theorem Xs(a b g s c nm:Str):rowOf [a,b,g,s,c,nm]=if a="leaf"/\eA b/\c="idle"/\lW nm then (numOf g).bind λg=>(numOf s).bind λs=>some ⟨0,b,0,g,s,nm⟩
   else if a="minder"/\eA b/\lW nm then (Qy g).bind λk=>(numOf s).bind λm=>(numOf c).bind λp=>if p=0 then none else some ⟨k,b,0,m,p,nm⟩ else none:=rfl
theorem WV(a c g s b m nm:Str):rowOf [a,c,g,s,b,m,nm]=if a="leaf"/\eA c/\lW nm then (if b="steady" then some 1 else if b="falls" then some 2 else none).bind λk=>(numOf g).bind λg=>(numOf s).bind λs=>(numOf m).bind λm=>some ⟨k,c,m,g,s,nm⟩ else none:=rfl
def DX{i:List Str}{s:Sh}(h:rowOf i=some s):(∃a b c d e f,i=[a,b,c,d,e,f])\/∃a b c d e f g,i=[a,b,c,d,e,f,g]:=by
 match i,h with
 |[a,b,c,d,e,f],_=>exact .inl ⟨a,b,c,d,e,f,rfl⟩
 |[a,b,c,d,e,f,g],_=>exact .inr ⟨a,b,c,d,e,f,g,rfl⟩
def HD{j:List Str}{s:Sh}(h:rowOf j=some s)(r:j.head? =some ("leaf":Str)):
  (∃(e g l nm:Str) (f i:Int),j=(["leaf",e,g,l,"idle",nm]:List Str)/\eA e/\lW nm/\numOf g=some f/\numOf l=some i/\s=⟨0,e,0,f,i,nm⟩)∨
  ∃(e g l b m nm:Str) (f i mi:Int) (k:Nat),j=(["leaf",e,g,l,b,m,nm]:List Str)/\eA e/\lW nm/\(b="steady"/\k=1\/b="falls"/\k=2)/\numOf g=some f/\numOf l=some i/\numOf m=some mi/\s=⟨k,e,mi,f,i,nm⟩:=by
 rcases DX h with⟨a,e,g,l,b,nm,rfl⟩|⟨a,e,g,l,b,m,nm,rfl⟩
 .obtain rfl:a="leaf":=hH r
  left
  rw[Xs] at h;by_cases c:(("leaf":Str)="leaf"/\eA e/\b="idle"/\lW nm)
  .rw[eT c] at h;obtain⟨_,q,rfl,o⟩:=c;cases eg:numOf g with
   |none=>rw[eg] at h;cases h
   |some f=>
    rw[eg] at h;cases el:numOf l with
    |none=>rw[el] at h;cases h
    |some i=>
     rw[el] at h;exact⟨e,g,l,nm,f,i,rfl,q,o,eg,el,(hH h).symm⟩
  .rw[eJ c,eJ (λz=>absurd z.1 ∅)] at h;cases h
 .obtain rfl:a="leaf":=hH r
  right
  rw[WV] at h;by_cases c:(("leaf":Str)="leaf"/\eA e/\lW nm)
  .rw[eT c] at h;obtain⟨_,q,o⟩:=c
   have p:∃k,(if b="steady" then some 1 else if b="falls" then some 2 else none:Option Nat)=some k/\(b="steady"/\k=1\/b="falls"/\k=2):=by
    by_cases n:b="steady"
    .exact ⟨1,by rw[eT n],.inl ⟨n,rfl⟩⟩
    .by_cases w2:b="falls"
     .exact ⟨2,by rw[eJ n,eT w2],.inr ⟨w2,rfl⟩⟩
     .rw[eJ n,eJ w2] at h;cases h
   obtain⟨k,t,u⟩:=p;rw[t] at h;cases eg:numOf g with
   |none=>rw[eg] at h;cases h
   |some f=>
    rw[eg] at h;cases el:numOf l with
    |none=>rw[el] at h;cases h
    |some i=>
     rw[el] at h;cases em:numOf m with
     |none=>rw[em] at h;cases h
     |some mi=>
      rw[em] at h;exact⟨e,g,l,b,m,nm,f,i,mi,k,rfl,q,o,u,eg,el,em,(hH h).symm⟩
  .rw[eJ c] at h;cases h
def BW{j:List Str}{s:Sh}(h:rowOf j=some s)(p:j.head? ≠some ("leaf":Str)):
  ∃(f b m sp nm:Str) (mi e:Int) (k:Nat),j=(["minder",f,b,m,sp,nm]:List Str)/\eA f/\lW nm/\(b="one"/\k=3\/b="all"/\k=4\/b="rest"/\k=5)/\numOf m=some mi/\numOf sp=some e/\e≠0/\s=⟨k,f,0,mi,e,nm⟩:=by
 rcases DX h with⟨a,f,b,m,sp,nm,rfl⟩|⟨a,f,g,l,o,m,nm,rfl⟩
 .have na:a≠"leaf":=λz=>p (hI some z);rw[Xs,eJ (λz=>na z.1)] at h;by_cases c:(a="minder"/\eA f/\lW nm)
  .rw[eT c] at h;obtain⟨rfl,t,q⟩:=c
   have o:∃k,Qy b=some k/\(b="one"/\k=3\/b="all"/\k=4\/b="rest"/\k=5):=by
    unfold Qy;by_cases i:b="one"
    .exact ⟨3,by rw[eT i],.inl ⟨i,rfl⟩⟩
    .by_cases w2:b="all"
     .exact ⟨4,by rw[eJ i,eT w2],.inr (.inl ⟨w2,rfl⟩)⟩
     .by_cases w3:b="rest"
      .exact ⟨5,by rw[eJ i,eJ w2,eT w3],.inr (.inr ⟨w3,rfl⟩)⟩
      .unfold Qy at h;rw[eJ i,eJ w2,eJ w3] at h;cases h
   obtain⟨k,r,u⟩:=o;rw[r] at h;cases em:numOf m with
   |none=>rw[em] at h;cases h
   |some mi=>
    rw[em] at h;cases es:numOf sp with
    |none=>rw[es] at h;cases h
    |some e=>
     rw[es] at h;have h:(if e=0 then none else some (⟨k,f,0,mi,e,nm⟩:Sh))=some s:=h;by_cases n:e=0
     .rw[eT n] at h;cases h
     .rw[eJ n] at h;exact⟨f,b,m,sp,nm,mi,e,k,rfl,t,q,u,em,es,n,(hH h).symm⟩
  .rw[eJ c] at h;cases h
 .have na:a≠"leaf":=λz=>p (hI some z);rw[WV,eJ (λz=>na z.1)] at h;cases h
def X1{e:List Str}{s:Sh}(h:rowOf e=some s):sq s:=by
 by_cases z:e.head? =some ("leaf":Str)
 .rcases HD h z with⟨kp,g,l,nm,gi,li,_,c1,c2,eg,el,rfl⟩|⟨kp,g,l,wk,m,nm,gi,li,mi,kd,_,c1,c2,ck,eg,el,em,rfl⟩
  .obtain ⟨_,_,_,g0,g1⟩:=jg eg;obtain⟨_,_,_,l0,a⟩:=jg el;exact⟨pI _,c1,Jn _,by show(0:Int)<=1000000;decide,λ_=>rfl,g0,g1,l0,a,λz=>absurd (show 3<=0 from z) ∅,c2⟩
  .obtain ⟨_,_,_,g0,g1⟩:=jg eg;obtain⟨_,_,_,l0,a⟩:=jg el;obtain⟨_,_,_,b,c⟩:=jg em;have f:kd=1\/kd=2:=ck.elim (λz=>.inl z.2) (λz=>.inr z.2);exact⟨by show kd<=5;lia,c1,b,c,λz=>absurd f z,g0,g1,l0,a,λz=>absurd (show 3<=kd from z) (),c2⟩
 .obtain ⟨kp,wy,m,sp,nm,mi,si,k,_,c1,c2,ck,em,es,e0,rfl⟩:=BW h z;obtain⟨_,_,_,b,c⟩:=jg em;obtain⟨_,_,_,j,i⟩:=jg es
  have f:k=3\/k=4\/k=5:=by
   rcases ck with z|z|z
   .exact .inl z.2
   .exact .inr (.inl z.2)
   .exact .inr (.inr z.2)
  exact⟨by show k<=5;lia,c1,Jn _,by show(0:Int)<=1000000;decide,λ_=>rfl,b,c,j,i,λ_=>by show 1<=si;lia,c2⟩
theorem NJ(a:List Row):∀(k:Nat),(∀i,i<k->(a.getD i default).dep<=(cq a i).length)->∀(d j:Nat) (b:Bool),(cq a k)[d]? =some (j,b)→
  j<k/\(a.getD j default).dep=d/\(a.getD j default).zW=b/\∀i,j<i->i<k->d<(a.getD i default).dep
 |0,_,d,j,b,h=>by cases h
 |k+1,wf,d,j,b,h=>by
  have r:=wf k (EU k);have h:((cq a k).take (a.getD k default).dep++[(k,(a.getD k default).zW)])[d]? =some (j,b):=h;have q:((cq a k).take (a.getD k default).dep).length=(a.getD k default).dep:=by rw[uU];lia
  by_cases hd:d<(a.getD k default).dep
  .rw[yh (),akx hd] at h;obtain⟨s,f,n,l⟩:=NJ a k (λi e=>wf i ()) d j b h;refine⟨(),f,n,λi c g=>?_⟩;by_cases e:i=k
   .rwa[e]
   .exact l i c ()
  .rw[Bj (),q] at h
   have p:d-(a.getD k default).dep=0:=by
    have:=(pE.mp h).1;have:d-(a.getD k default).dep<1:=this
    lia
   rw[p] at h;have h:=hH h;have m:k=j:=hI Prod.fst h;have o:(a.getD k default).zW=b:=hI Prod.snd h;subst m;exact⟨EU _,(),o,λi c g=>absurd c ()⟩
def Qg{p:Path}{k:Nat}{r:Row}(h:fits p k r):r.dep<=p.length:=by
 unfold fits at h
 split at h
 .lia
 .obtain ⟨h1,_,j,hj⟩:=h;have:=(pE.mp hj).1
  lia
def OkP(a:List Row):Prop:=∀i,i<a.length->fits (cq a i) i (a.getD i default)
def OkP.snoc{a:List Row}{r:Row}(h:OkP a)(c:fits (cq a a.length) a.length r):OkP (a++[r]):=by
 intro i b;rw[iv] at b;by_cases e:i<a.length
 .rw[dj a [r] i (),oy _ _ _ e];exact h i e
 .have e:i=a.length:=by have:i<a.length+1:=b;lia
  subst e;rw[dj a [r] _ (fx _),iR a r [] default];exact c
def abC{a:List Row}{r:Row}(h:OkP a)(p:a≠[])(b:fits (cq a a.length) a.length r):
  ∃j,j<a.length/\(a.getD j default).dep+1=r.dep/\(a.getD j default).zW=true/\(∀i,j<i->i<a.length->r.dep<=(a.getD i default).dep)/\r.dep<=8/\bz (a++[r]) a.length=(j:Int):=by
 have s:=b;unfold fits at b;have e:a.length≠0:=λz=>p (ahE.mp z);rw[eJ e] at b;obtain⟨u,o,j,c⟩:=b;obtain⟨q,t,f,n⟩:=NJ a a.length (λi l=>Qg (h i l)) _ j true c;refine⟨j,q,(),f,λi m g=>by have:=n i m g;lia,o,?_⟩;unfold bz;rw[dj a [r] _ (fx _),iR a r [] default,c];show(if a.length=0 then (-1:Int) else (j:Int))=j;rw[eJ e]
def VF{a b:List Row}{n:Nat}{l:List Nat}{ls:List (List Nat)}(h:scan a n (l::ls)=.ok b):(lY l=true/\scan a (n+1) ls=.ok b)∨
  (lY l=false/\∃r,rV l=some r/\fits (cq a a.length) a.length r/\r.sh.name∉a.map (·.sh.name)/\a.length≠64/\scan (a++[r]) (n+1) ls=.ok b):=by
 rw[DJ] at h;by_cases f:lY l=true
 .rw[eT f] at h;exact .inl ⟨f,h⟩
 .right
  rw[eJ f] at h;refine⟨by cases z:lY l with|false=>rfl|true=>exact absurd z f,?_⟩;cases hl:rV l with
  |none=>rw[hl] at h;cases h
  |some r=>
   rw[hl] at h;have h:(if fits (cq a a.length) a.length r/\r.sh.name∉a.map (·.sh.name) then (if a.length=64 then Res.many else scan (a++[r]) (n+1) ls) else .bad (n+1))=.ok b:=h;by_cases e:fits (cq a a.length) a.length r/\r.sh.name∉a.map (·.sh.name)
   .rw[eT e] at h;by_cases c:a.length=64
    .rw[eT c] at h;cases h
    .rw[eJ c] at h;exact⟨r,rfl,e.1,e.2,c,h⟩
   .rw[eJ e] at h;cases h
def XJ{l:List Nat}{r:Row}(h:rV l=some r):lead l=2*r.dep/\rowOf ((cW l).map xc)=some r.sh:=by
 unfold rV at h;by_cases e:lead l%2=0
 .rw[eT e] at h;cases hr:rowOf ((cW l).map xc) with
  |none=>rw[hr] at h;cases h
  |some s=>
   rw[hr] at h;have h:=hH h;subst h;exact⟨by show lead l=2*(lead l/2);lia,rfl⟩
 .rw[eJ e] at h;cases h
def Za{a b:List Row}{n:Nat}(h:scan a n []=.ok b):a≠[]/\b=a:=by
 have h:(if a=[] then Res.abP else .ok a)=.ok b:=h;by_cases e:a=[]
 .rw[eT e] at h;cases h
 .rw[eJ e] at h;injection h with h;exact⟨e,h.symm⟩
end Tr
namespace Hm
open PySem Shp Tr Hs
structure Nd where
 st:Str
 asked:Bool
 beg:Int
 steps:Int
 need:Int
 ja:Int
 ay:List Int
 good:Nat
 wait:List Nat
 cw:Nat
 com:Nat
 rD:Bool
structure HS where
 clk:Int
 book:List Ent
 ends:List (Nat×Str)
 nd:Nat->Nd
def sh(T:List Row)(i:Nat):Sh:=(T.getD i default).sh
def fk(T:List Row)(i:Nat):Bool:=decide ((sh T i).kind<3)
def par(T:List Row)(i:Nat):Option Nat:=if bz T i<0 then none else some (bz T i).toNat
def kids(T:List Row)(m:Nat):List Nat:=(gG T.length).filter λj=>decide (par T j=some m)
def f7(T:List Row)(j:Nat):Nat:=((gG j).filter λi=>decide (par T i=par T j)).length
def up(S:HS)(i:Nat)(g:Nd->Nd):HS:={S with nd:=λj=>if j=i then g (S.nd j) else S.nd j}
theorem av(S:HS)(i:Nat)(g:Nd->Nd):(up S i g).nd i=g (S.nd i):=eT rfl
theorem bG{S:HS}{i j:Nat}(g:Nd->Nd)(h:j≠i):(up S i g).nd j=S.nd j:=eJ h
section
variable(T:List Row)
def write(wd:Str)(i:Nat)(S:HS):HS:={S with book:=S.book++[(S.clk,wd,(sh T i).name)]}
def cK(S:HS)(i:Nat):Bool:=decide ((S.nd i).st="off")
def forget(d:Nd):Nd:={d with ay:=[],good:=0,wait:=[],cw:=0,com:=0,rD:=false}
def oF(i:Nat)(S:HS):HS:=up S i λd=>if fk T i then {d with st:="on",asked:=false,beg:=S.clk,steps:=0} else forget {d with st:="on",asked:=false}
def bf:Nat->Nat->HS->HS
 |0,_,S=>S
 |d+1,i,S=>(kids T i).foldl (λS j=>bf d j S) (write T "begun" i (oF T i S))
def aX(i:Nat)(wd:Str)(S:HS):HS:=if wd="" then S else {write T wd i (up S i λd=>{d with st:="off"}) with ends:=S.ends++[(i,wd)]}
def d0(d:Nd):Str:=if d.need=0 then "ended" else if d.ja=0 then "cut" else ""
def bh(m:Nat)(S:HS):Nat:=cJ (λk=>match (kids T m)[k]? with|some j=> !cK S j|none=>false) (kids T m).length
def goDown(m:Nat)(d:Nd):Nd:={d with st:="down",wait:=[],cw:=2^(kids T m).length-1,com:=0}
def bj(i:Nat)(S:HS):HS:=up S i λd=>if fk T i then {d with st:="told",asked:=true,need:=(sh T i).cC,ja:=(sh T i).bK} else goDown T i {d with asked:=true}
def bL(m:Nat)(S:HS):Option Nat:=if (S.nd m).cw &&& bh T m S=0 then none else (kids T m)[aj2 ((S.nd m).cw &&& bh T m S)]?
def eR(d:Nd):Str:=if d.rD then "gave up" else "ended"
def aV(d:Nd):Nd:={d with st:="on",cw:=0,com:=0}
def bu(m:Nat)(S:HS):List Nat:=(kids T m).filter λj=>hX (S.nd m).com (f7 T j)&& !Nat.testBit (S.nd m).good (f7 T j)
def aS(m:Nat)(S:HS):HS:=if (S.nd m).st="down" then aX T m (eR (S.nd m)) S else (bu T m S).foldl (λS j=>bf T 9 j S) (up S m aV)
def cP:Nat->Nat->HS->HS
 |0,_,S=>S
 |d+1,i,S=>
  let a:=bj T i (write T "told" i S)
  if fk T i then aX T i (d0 (a.nd i)) a else match bL T i a with
   |none=>aS T i a
   |some j=>if (a.nd j).asked then a else cP d j a
def gN(m:Nat)(S:HS):HS:=match bL T m S with
 |none=>aS T m S
 |some j=>if (S.nd j).asked then S else cP T 9 j S
def lB(m i:Nat)(wd:Str)(S:HS):HS:=if begun (sh T i) wd=false then up S m λd=>{d with good:=d.good ||| 2^f7 T i}
 else if (S.nd m).st≠"down"/\hX (S.nd m).com (f7 T i)=false then up S m λd=>{d with wait:=d.wait++[i]} else S
def bT(c sp:Int)(l:List Int):List Int:=l.filter λx=>decide (c-x<sp)
def aJ(m:Nat)(S:HS):Bool×HS:=if ((S.nd m).ay.length:Int)<(sh T m).bK then (false,S) else
 let l:=bT S.clk (sh T m).cC (S.nd m).ay
 (decide ((sh T m).bK<(l.length:Int)+1),up S m λd=>{d with ay:=l})
def EV(m i:Nat)(S:HS)(d:Nd):Nd:=
 let a:=Shp.gN (sh T m).kind (f7 T i) (kids T m).length (λk=>hX (bh T m S) k)
 let b:=anew (sh T m).kind (f7 T i) (kids T m).length (λk=>hX (S.nd m).good k)
 {d with ay:=d.ay++[S.clk],st:="turning",cw:=a,com:=b}
def iZ(m i:Nat)(S:HS):HS:=up S m (EV T m i S)
def giveUp(m:Nat)(S:HS):HS:=up S m λd=>goDown T m {d with rD:=true}
def answer(m i:Nat)(S:HS):HS:=let e:=aJ T m S
 gN T m (if e.1 then giveUp T m (write T "gives up" m e.2) else iZ T m i (write T "answers" i e.2))
def toBe(m i:Nat)(S:HS):Bool:=cK S i&& !Nat.testBit (S.nd m).good (f7 T i)
def bt:Nat->Nat->HS->HS
 |0,_,S=>S
 |f+1,m,S=>if (S.nd m).st="on" then (match (S.nd m).wait with
  |[]=>S
  |i::r=>let a:=up S m λd=>{d with wait:=r}
   bt f m (if toBe T m i a then answer T m i a else a)) else S
def pV(i:Nat)(wd:Str)(S:HS):HS:=match par T i with
 |none=>S
 |some m=>
  let a:=if (S.nd i).asked then S else lB T m i wd S
  let b:=if (a.nd m).st="on" then a else gN T m a
  bt T (b.nd m).wait.length m b
def aZ:Nat->HS->Option HS
 |0,S=>if S.ends=[] then some S else none
 |f+1,S=>match S.ends with
  |[]=>some S
  |(i,wd)::r=>aZ f (pV T i wd {S with ends:=r})
def bO(i:Nat)(S:HS):Bool:=fk T i&& !cK S i&&decide ((S.nd i).beg<S.clk)
def cB(i:Nat)(S:HS):Str×HS:=if (S.nd i).st="told" then
  let a:=up S i λd=>{d with need:=d.need-1,ja:=d.ja-1}
  (d0 (a.nd i),a)
 else (endAt (sh T i) (S.nd i).steps,up S i λd=>{d with steps:=d.steps+1})
def eI(f i:Nat)(S:HS):Option HS:=if bO T i S then aZ T f (aX T i (cB T i S).1 (cB T i S).2) else some S
def By(f:Nat)(S:HS):Option HS:=(gG T.length).foldlM (λS i=>eI T f i S) {S with clk:=S.clk+1}
def HX(f i:Nat)(S:HS):Option HS:=aZ T f (aX T i "fallen" S)
def EA(f:Nat)(S:HS):Option HS:=if (S.nd 0).asked then some S else aZ T f (cP T 10 0 S)
def tV:Nd:=⟨"off",false,0,0,0,0,[],0,[],0,0,false⟩
def new:HS:=bf T 10 0 ⟨0,[],[],λ_=>tV⟩
end
theorem Tj(p:Nat->Bool):∀(n k j:Nat),((gG n).filter p)[k]? =some j->((gG j).filter p).length=k/\p j=true/\j<n
 |0,k,j,h=>by cases h
 |n+1,k,j,h=>by
  rw[zB,qH] at h;by_cases f:k<((gG n).filter p).length
  .rw[yh f] at h;obtain⟨a,b,c⟩:=Tj p n k j h;exact⟨a,b,()⟩
  .rw[Bj ()] at h;by_cases e:p n=true
   .rw[rj,eT e,FH] at h
    have k0:k-((gG n).filter p).length=0:=by
     have:=(pE.mp h).1;have:k-((gG n).filter p).length<1:=this
     lia
    rw[k0] at h;have h:n=j:=hH h;subst h;exact⟨(),e,EU _⟩
   .rw[rj,eJ e,FH] at h;cases h
def JA{T:List Row}{m k j:Nat}(h:(kids T m)[k]? =some j):f7 T j=k/\par T j=some m/\j<T.length:=by
 obtain⟨a,b,c⟩:=Tj _ _ _ _ h;have b:=gD b;refine⟨?_,b,c⟩;unfold f7;rwa[b]
theorem O2(p:Nat->Bool):∀(n j:Nat),j<n->p j=true->((gG n).filter p)[((gG j).filter p).length]? =some j
 |0,j,h,_=>absurd h (y4 _)
 |n+1,j,h,hp=>by
  rw[zB,qH];by_cases a:j<n
  .have ih:=O2 p n j a hp;rwa[yh (pE.mp ih).1]
  .obtain rfl:j=n:=by lia
   rw[Bj (fx _),zy,rj,eT hp]
   rfl
def xv{T:List Row}{m i:Nat}(b:i<T.length)(a:par T i=some m):(kids T m)[f7 T i]? =some i:=by
 have:=O2 (λj=>decide (par T j=some m)) T.length i b (fK a);unfold kids f7;rwa[a]
theorem Se(T:List Row):par T 0=none:=rfl
def abe(T:List Row)(m:Nat):(kids T m).length<=T.length-1:=by
 unfold kids;cases T.length with
 |zero=>exact fx _
 |succ n=>
  rw[ajr,rj,eJ (λz=>by rw[Se] at z;exact absurd (gD z) (λy=>by cases y))];refine je (AL _ _) ?_;rw[fC,mq];exact fx _
def cj(T:List Row):Nat->Nat->Prop
 |0,_=>False
 |d+1,i=>∀j∈kids T i,cj T d j
theorem gO{T:List Row}:∀{d i:Nat},cj T d i->cj T (d+1) i
 |0,_,h=>h.elim
 |_+1,_,h=>λj a=>gO (h j a)
structure jB(T:List Row):Prop where
 n0:0<T.length
 n64:T.length<=64
 bV:∀{j m:Nat},j<T.length->par T j=some m->m<j/\fk T m=false
 top:fk T 0=false
 up:∀j,0<j->j<T.length->∃m,par T j=some m
 deep:∀i,i<T.length->cj T 9 i
 ok:∀i,i<T.length->C4 (sh T i)
structure Wf(T:List Row)(S:HS):Prop where
 wt:∀m j,j∈(S.nd m).wait->j<T.length/\par T j=some m
 gd:∀m,(S.nd m).good<2^(kids T m).length
 fl:∀m,(S.nd m).ay.length<=S.book.length
 wl:∀m,(S.nd m).wait.length+S.ends.length<=S.book.length
 en:∀e∈S.ends,e.1<T.length/\isWord e.2
 st:∀i,fk T i=true->(S.nd i).st≠"off"->(S.nd i).st≠"told"->0<=(S.nd i).steps/\((sh T i).kind≠0->(S.nd i).steps<=(sh T i).many)
section
variable{T:List Row}{S:HS}
def cY{m j:Nat}(h:j∈kids T m):j<T.length/\par T j=some m:=by
 unfold kids at h;rw[yq,pf,kP] at h;exact h
def Wf.up{i:Nat}{g:Nd->Nd}(h:Wf T S)(q:∀j∈(g (S.nd i)).wait,j<T.length/\par T j=some i)(f:(g (S.nd i)).good<2^(kids T i).length)(o:(g (S.nd i)).ay.length<=S.book.length)(l:(g (S.nd i)).wait.length+S.ends.length<=S.book.length)
  (n:fk T i=true->(g (S.nd i)).st≠"off"->(g (S.nd i)).st≠"told"->0<=(g (S.nd i)).steps/\((sh T i).kind≠0->(g (S.nd i)).steps<=(sh T i).many)):Wf T (Hm.up S i g):=by
 have c:∀(p:Nat->Nd->Prop),(∀j,p j (S.nd j))->p i (g (S.nd i))->∀j,p j ((Hm.up S i g).nd j):=λp a b j=>by
  by_cases e:j=i
  .subst e;rwa[av]
  .rw[bG g e];exact a j
 exact⟨c (λm d=>∀j,j∈d.wait->j<T.length/\par T j=some m) h.wt q,c (λm d=>d.good<2^(kids T m).length) h.gd f,c (λ_ d=>d.ay.length<=S.book.length) h.fl o,c (λ_ d=>d.wait.length+S.ends.length<=S.book.length) h.wl l,h.en,
  c (λi d=>fk T i=true->d.st≠"off"->d.st≠"told"->0<=d.steps/\((sh T i).kind≠0->d.steps<=(sh T i).many)) h.st n⟩
def df(wd:Str)(i:Nat)(S:HS):(write T wd i S).book.length=S.book.length+1:=by
 show(S.book++_).length=_;rw[iv]
 rfl
def Wf.write(h:Wf T S)(wd:Str)(i:Nat):Wf T (Hm.write T wd i S):=by
 have e:=df (T:=T) wd i S;refine⟨h.wt,h.gd,λm=>?_,λm=>?_,h.en,h.st⟩
 .rw[e];exact al4 (h.fl m)
 .rw[e];exact al4 (h.wl m)
def Wf.aX(h:Wf T S){i:Nat}(f:i<T.length){wd:Str}(g:wd≠""->isWord wd):Wf T (Hm.aX T i wd S):=by
 unfold Hm.aX
 split
 .exact h
 .rename_i hn
  have c:Wf T (Hm.up S i λd=>{d with st:="off"}):=h.up (h.wt i) (h.gd i) (h.fl i) (h.wl i) (λ_ z=>absurd rfl z);have a:=c.write wd i;have e:=df (T:=T) wd i (Hm.up S i λd=>{d with st:="off"});refine⟨a.wt,a.gd,a.fl,λm=>?_,λx b=>?_,a.st⟩
  .show _+(S.ends++[(i,wd)]).length<=(Hm.write T wd i (Hm.up S i λd=>{d with st:="off"})).book.length;rw[e,iv];have:=c.wl m;show((Hm.up S i λd=>{d with st:="off"}).nd m).wait.length+(S.ends.length+1)<=_;have e2:(Hm.up S i λd=>{d with st:="off"}).ends=S.ends:=rfl;rw[e2] at this
   lia
  .have b:x∈S.ends++[(i,wd)]:=b;rcases ql.mp b with z|z
   .exact h.en x z
   .rw[oi.mp z];exact⟨f,g hn⟩
def Wf.oF(ok:jB T)(h:Wf T S){i:Nat}(b:i<T.length):Wf T (Hm.oF T i S):=by
 unfold Hm.oF;cases hl:fk T i with
 |true=>
  refine h.up (h.wt i) (h.gd i) (h.fl i) (h.wl i) (λ_ _ _=>⟨Jn _,λ_=>(ok.ok i b).m0⟩)
 |false=>
  refine h.up (λj a=>(by cases a)) (akN _) (pI _) ?_ (λz=>by rw[hl] at z;cases z);have:=h.wl i;show 0+S.ends.length<=_
  lia
theorem Wf.foldl{f:HS->Nat->HS}:∀(l:List Nat) (S:HS),(∀j∈l,∀S,Wf T S->Wf T (f S j))->Wf T S->Wf T (l.foldl f S)
 |[],_,_,h=>h
 |a::r,S,hf,h=>Wf.foldl r _ (λj b=>hf j (mD _ b)) (hf a ll S h)
theorem Wf.bf(ok:jB T):∀(d i:Nat) (S:HS),i<T.length->Wf T S->Wf T (Hm.bf T d i S)
 |0,_,_,_,h=>h
 |d+1,i,S,hi,h=>Wf.foldl _ _ (λj a S h=>Wf.bf ok d j S (cY a).1 h) ((h.oF ok hi).write _ _)
theorem kT{m j:Nat}(h:j∈bu T m S):j∈kids T m:=(yq.mp h).1
def OP(d:Nd):isWord (eR d):=by
 unfold eR
 split
 .exact .inr (.inr (.inl rfl))
 .exact .inr (.inr (.inr (.inl rfl)))
def P5{d:Nd}(h:d0 d≠""):isWord (d0 d):=by
 unfold d0 at h ⊢
 split
 .exact .inr (.inr (.inr (.inl rfl)))
 .rename_i h1
  rw[eJ h1] at h
  split
  .exact .inr (.inr (.inr (.inr rfl)))
  .rename_i h2
   rw[eJ h2] at h;exact absurd rfl h
def Th{s:Sh}{n:Int}(h:endAt s n≠""):isWord (endAt s n):=by
 unfold endAt at h ⊢
 split
 .exact .inl rfl
 .rename_i h1
  rw[eJ h1] at h
  split
  .exact .inr (.inl rfl)
  .rename_i h2
   rw[eJ h2] at h;exact absurd rfl h
def Wf.aS(ok:jB T)(h:Wf T S){m:Nat}(a:m<T.length)(c:fk T m=false):Wf T (Hm.aS T m S):=by
 unfold Hm.aS
 split
 .exact h.aX a λ_=>OP _
 .refine Wf.foldl _ _ (λj b S h=>Wf.bf ok 9 j S (cY (kT b)).1 h) ?_;exact h.up (h.wt m) (h.gd m) (h.fl m) (h.wl m) (λz=>by rw[c] at z;cases z)
def Wf.bj(h:Wf T S){i:Nat}:Wf T (Hm.bj T i S):=by
 unfold Hm.bj;cases hl:fk T i with
 |true=>exact h.up (h.wt i) (h.gd i) (h.fl i) (h.wl i) (λ_ _ z=>absurd rfl z)
 |false=>
  refine h.up (λj a=>(by cases a)) (h.gd i) (h.fl i) ?_ (λz=>by rw[hl] at z;cases z);have:=h.wl i;show 0+S.ends.length<=_
  lia
def lQ{m j:Nat}(h:bL T m S=some j):j∈kids T m:=by
 unfold bL at h
 split at h
 .cases h
 .exact S4 h
def aM(T:List Row)(d m:Nat)(S:HS):HS:=match bL T m S with
 |none=>Hm.aS T m S
 |some j=>if (S.nd j).asked then S else cP T d j S
theorem Jf(m:Nat)(S:HS):Hm.gN T m S=aM T 9 m S:=rfl
theorem fA(d i:Nat)(S:HS):cP T (d+1) i S=if fk T i then Hm.aX T i (d0 ((Hm.bj T i (Hm.write T "told" i S)).nd i)) (Hm.bj T i (Hm.write T "told" i S)) else aM T d i (Hm.bj T i (Hm.write T "told" i S)):=rfl
theorem Wf.Lh(ok:jB T)(d:Nat)(a:∀(i:Nat) (S:HS),i<T.length->Wf T S->Wf T (Hm.cP T d i S)):∀(m:Nat) (S:HS),m<T.length->fk T m=false->Wf T S->Wf T (Hm.aM T d m S)
 |m,S,hm,hl,h=>by
  unfold Hm.aM
  split
  .exact h.aS ok hm hl
  .rename_i j hj
   split
   .exact h
   .exact a j S (cY (lQ hj)).1 h
theorem Wf.cP(ok:jB T):∀(d i:Nat) (S:HS),i<T.length->Wf T S->Wf T (Hm.cP T d i S)
 |0,_,_,_,h=>h
 |d+1,i,S,hi,h=>by
  have a:=(h.write (T:=T) "told" i).bj (i:=i);rw[fA]
  split
  .exact a.aX hi P5
  .rename_i hl
   exact Wf.Lh ok d (Wf.cP ok d) i _ hi (by cases z:fk T i with|true=>exact absurd z hl|false=>rfl) a
theorem Wf.aM(ok:jB T)(d:Nat):∀(m:Nat) (S:HS),m<T.length->fk T m=false->Wf T S->Wf T (Hm.aM T d m S):=Wf.Lh ok d (Wf.cP ok d)
theorem ZM{i k:Nat}(h:k≠i):(Hm.oF T i S).nd k=S.nd k:=bG _ h
theorem FU{f:HS->Nat->HS}{k:Nat}:∀(l:List Nat) (S:HS),(∀j∈l,∀S,(f S j).nd k=S.nd k)->(l.foldl f S).nd k=S.nd k
 |[],_,_=>rfl
 |a::r,S,hf=>(FU r _ λj b=>hf j (mD _ b)).trans (hf a ll S)
theorem Ed(ok:jB T):∀(d i k:Nat) (S:HS),k<i->(Hm.bf T d i S).nd k=S.nd k
 |0,_,_,_,_=>rfl
 |d+1,i,k,S,h=>by
  show((kids T i).foldl (λS j=>Hm.bf T d j S) (Hm.write T "begun" i (Hm.oF T i S))).nd k=_;rw[FU _ _ λj a S=>Ed ok d j k S (IH h (ok.bV (cY a).1 (cY a).2).1)];exact ZM (kx h)
def P1{i k:Nat}{wd:Str}(h:k≠i):(Hm.aX T i wd S).nd k=S.nd k:=by
 unfold Hm.aX
 split
 .rfl
 .exact bG (S:=S) (λd=>{d with st:="off"}) h
def Kf(ok:jB T){m k:Nat}(h:k<m):(Hm.aS T m S).nd k=S.nd k:=by
 unfold Hm.aS
 split
 .exact P1 (kx h)
 .rw[FU _ _ λj a S=>Ed ok 9 j k S (IH h (ok.bV (cY (kT a)).1 (cY (kT a)).2).1)];exact bG _ (kx h)
theorem MY(ok:jB T)(d:Nat)(a:∀(i k:Nat) (S:HS),k<i->(Hm.cP T d i S).nd k=S.nd k):∀(m k:Nat) (S:HS),k<m->(Hm.aM T d m S).nd k=S.nd k
 |m,k,S,h=>by
  unfold Hm.aM
  split
  .exact Kf ok h
  .rename_i j hj
   split
   .rfl
   .exact a j k S (IH h (ok.bV (cY (lQ hj)).1 (cY (lQ hj)).2).1)
theorem HA(ok:jB T):∀(d i k:Nat) (S:HS),k<i->(Hm.cP T d i S).nd k=S.nd k
 |0,_,_,_,_=>rfl
 |d+1,i,k,S,h=>by
  have a:(Hm.bj T i (Hm.write T "told" i S)).nd k=S.nd k:=bG _ (kx h);rw[fA]
  split
  .rwa[P1 (kx h)]
  .rwa[MY ok d (HA ok d) i k _ h]
def M3(ok:jB T)(d m:Nat)(S:HS):∃st b cm,(Hm.aM T d m S).nd m={S.nd m with st:=st,cw:=b,com:=cm}/\((S.nd m).st="down"->st≠"on"):=by
 unfold Hm.aM
 split
 .unfold Hm.aS
  split
  .unfold Hm.aX
   split
   .rename_i h1 h2
    refine⟨_,_,_,rfl,λz=>by rw[z];decide⟩
   .exact ⟨"off",(S.nd m).cw,(S.nd m).com,av S m λd=>{d with st:="off"},λ_=>∅⟩
  .rename_i h1 h2
   refine⟨"on",0,0,?_,λz=>absurd z h2⟩;rw[FU _ _ λj a S=>Ed ok 9 j m S (ok.bV (cY (kT a)).1 (cY (kT a)).2).1];exact av _ _ _
 .rename_i j a
  split
  .exact ⟨_,_,_,rfl,λz=>by rw[z];decide⟩
  .rw[HA ok d j m S (ok.bV (cY (lQ a)).1 (cY (lQ a)).2).1];exact⟨_,_,_,rfl,λz=>by rw[z];decide⟩
theorem sj{f:HS->Nat->HS}:∀(l:List Nat) (S:HS),(∀j∈l,∀S,S.book.length<=(f S j).book.length)->S.book.length<=(l.foldl f S).book.length
 |[],_,_=>fx _
 |a::r,S,hf=>je (hf a ll S) (sj r _ λj b=>hf j (mD _ b))
theorem pB:∀(d i:Nat) (S:HS),S.book.length<=(Hm.bf T d i S).book.length
 |0,_,_=>fx _
 |d+1,i,S=>by
  refine je ?_ (sj _ _ λj _ S=>pB d j S);rw[df];exact HY _
def yH(i:Nat)(wd:Str)(S:HS):S.book.length<=(Hm.aX T i wd S).book.length:=by
 unfold Hm.aX
 split
 .exact fx _
 .show S.book.length<=(S.book++_).length;rw[iv]
  lia
def HQ(m:Nat)(S:HS):S.book.length<=(Hm.aS T m S).book.length:=by
 unfold Hm.aS
 split
 .exact yH m _ S
 .exact sj _ (Hm.up S m aV) λj _ S=>pB 9 j S
theorem zH(d:Nat)(a:∀(i:Nat) (S:HS),S.book.length<=(Hm.cP T d i S).book.length):∀(m:Nat) (S:HS),S.book.length<=(Hm.aM T d m S).book.length
 |m,S=>by
  unfold Hm.aM
  split
  .exact HQ m S
  .split
   .exact fx _
   .exact a _ S
def Lp:∀(d i:Nat) (S:HS),S.book.length<=(Hm.cP T d i S).book.length
 |0,_,_=>fx _
 |d+1,i,S=>by
  have a:S.book.length<=(Hm.bj T i (Hm.write T "told" i S)).book.length:=by
   show S.book.length<=(Hm.write T "told" i S).book.length;rw[df];exact HY _
  rw[fA]
  split
  .exact je a (yH i _ _)
  .exact je a (zH d (Lp d) i _)
theorem kg(d:Nat):∀(m:Nat) (S:HS),S.book.length<=(Hm.aM T d m S).book.length:=zH d (Lp d)
def qq(m:Nat)(S:HS):(Hm.aJ T m S).2.book=S.book/\(Hm.aJ T m S).2.ends=S.ends:=by
 unfold Hm.aJ
 split<;>exact⟨rfl,rfl⟩
def sr(m:Nat)(S:HS):∃l,(Hm.aJ T m S).2=Hm.up S m (λd=>{d with ay:=l})/\l.length<=(S.nd m).ay.length:=by
 unfold Hm.aJ
 split
 .refine ⟨(S.nd m).ay,?_,fx _⟩;unfold Hm.up;show S=_
  have:(λj=>if j=m then {S.nd j with ay:=(S.nd m).ay} else S.nd j)=S.nd:=by
   funext j
   by_cases e:j=m
   .rw[eT e,e]
   .rw[eJ e]
  rw[this]
 .exact ⟨_,rfl,AL _ _⟩
def bI(T:List Row)(m i:Nat)(S:HS):HS:=if (Hm.aJ T m S).1 then giveUp T m (Hm.write T "gives up" m (Hm.aJ T m S).2) else iZ T m i (Hm.write T "answers" i (Hm.aJ T m S).2)
theorem lj(m i:Nat)(S:HS):Hm.answer T m i S=aM T 9 m (bI T m i S):=rfl
def Wf.aJ(h:Wf T S){m:Nat}:Wf T (Hm.aJ T m S).2:=by
 obtain⟨l,e,a⟩:=sr (T:=T) m S;rw[e];exact h.up (h.wt m) (h.gd m) (je a (h.fl m)) (h.wl m) (h.st m)
def Wf.giveUp(h:Wf T S){m:Nat}(b:fk T m=false):Wf T (Hm.giveUp T m S):=by
 refine h.up (λj a=>(by cases a)) (h.gd m) (h.fl m) ?_ (λz=>by rw[b] at z;cases z);have:=h.wl m;show 0+S.ends.length<=_
 lia
def Wf.bI(h:Wf T S){m i:Nat}(b:fk T m=false):Wf T (Hm.bI T m i S):=by
 have a:=h.aJ (m:=m);unfold Hm.bI
 split
 .exact (a.write _ _).giveUp b
 .have h1:=a.write (T:=T) "answers" i;refine h1.up (h1.wt m) (h1.gd m) ?_ (h1.wl m) (λz=>by rw[b] at z;cases z);have e:=df (T:=T) "answers" i (Hm.aJ T m S).2;have:=a.fl m;rw[e];show(((Hm.aJ T m S).2.nd m).ay++[_]).length<=_;rw[iv];show _+1<=_
  lia
def yb(m i:Nat)(S:HS):(bI T m i S).book.length=S.book.length+1:=by
 unfold Hm.bI
 split
 .show (Hm.write T "gives up" m (Hm.aJ T m S).2).book.length=_;rw[df,(qq m S).1]
 .show (Hm.write T "answers" i (Hm.aJ T m S).2).book.length=_;rw[df,(qq m S).1]
def OV(ok:jB T)(m i:Nat)(S:HS):((Hm.answer T m i S).nd m).wait=(S.nd m).wait\/(((Hm.answer T m i S).nd m).wait=[]/\((Hm.answer T m i S).nd m).st≠"on"):=by
 rw[lj];obtain⟨st,a,cm,e,hs⟩:=M3 ok 9 m (bI T m i S);rw[e];obtain⟨l,e1,_⟩:=sr (T:=T) m S;unfold bI at hs ⊢
 split
 .rename_i he
  rw[eT he] at hs
  right
  have e2:(Hm.giveUp T m (Hm.write T "gives up" m (Hm.aJ T m S).2)).nd m=goDown T m { (Hm.aJ T m S).2.nd m with rD:=true}:=av _ _ _;refine⟨?_,hs (by rw[e2];rfl)⟩;show((Hm.giveUp T m (Hm.write T "gives up" m (Hm.aJ T m S).2)).nd m).wait=[];rw[e2]
  rfl
 .left
  show((Hm.iZ T m i (Hm.write T "answers" i (Hm.aJ T m S).2)).nd m).wait=_
  have e2:((Hm.iZ T m i (Hm.write T "answers" i (Hm.aJ T m S).2)).nd m).wait=((Hm.aJ T m S).2.nd m).wait:=by
   show((Hm.up _ m _).nd m).wait=_;rw[av]
   rfl
  rw[e2,e1,av]
def c9(T:List Row)(m i:Nat)(r:List Nat)(S:HS):HS:=if toBe T m i (Hm.up S m λd=>{d with wait:=r}) then Hm.answer T m i (Hm.up S m λd=>{d with wait:=r}) else Hm.up S m λd=>{d with wait:=r}
theorem uk{m:Nat}{S:HS}(h:(S.nd m).st≠"on"\/(S.nd m).wait=[]):∀f,bt T f m S=S
 |0=>rfl
 |f+1=>by
  unfold bt
  split
  .rename_i h1
   rcases h with h|h
   .exact absurd h1 h
   .rw[h]
  .rfl
def NX(ok:jB T){m i:Nat}{r:List Nat}{S:HS}(f:(S.nd m).st="on")(a:(S.nd m).wait=i::r):bt T (S.nd m).wait.length m S=bt T ((c9 T m i r S).nd m).wait.length m (c9 T m i r S)/\((c9 T m i r S).nd m).wait.length<(S.nd m).wait.length:=by
 have e:bt T (S.nd m).wait.length m S=bt T r.length m (c9 T m i r S):=by
  rw[a];show bt T (r.length+1) m S=_;rw[bt,eT f,a]
  rfl
 have b:((Hm.up S m λd=>{d with wait:=r}).nd m).wait=r:=by rw[av]
 rw[e,a];by_cases c:toBe T m i (Hm.up S m λd=>{d with wait:=r})=true
 .have ew:c9 T m i r S=Hm.answer T m i (Hm.up S m λd=>{d with wait:=r}):=eT c;rw[ew];rcases OV ok m i (Hm.up S m λd=>{d with wait:=r}) with z|⟨z1,z2⟩
  .rw[z,b];exact⟨rfl,EU _⟩
  .rw[z1,uk (.inr z1) r.length];exact⟨rfl,Nat.zero_lt_succ _⟩
 .have ew:c9 T m i r S=Hm.up S m λd=>{d with wait:=r}:=eJ c;rw[ew,b];exact⟨rfl,EU _⟩
def Wf.c9(ok:jB T)(h:Wf T S){m i:Nat}{r:List Nat}(f:m<T.length)(a:fk T m=false)(c:(S.nd m).wait=i::r):Wf T (Hm.c9 T m i r S)/\Wf T (Hm.up S m λd=>{d with wait:=r}):=by
 have b:Wf T (Hm.up S m λd=>{d with wait:=r}):=by
  refine h.up (λj g=>h.wt m j (by rw[c];exact mD _ g)) (h.gd m) (h.fl m) ?_ (λz=>by rw[a] at z;cases z);have:=h.wl m;rw[c] at this;have e:(i::r).length=r.length+1:=rfl;show r.length+S.ends.length<=_
  lia
 refine⟨?_,b⟩;unfold Hm.c9
 split
 .rw[lj];exact Wf.aM ok 9 m _ f a (b.bI a)
 .exact b
def Q1(m i:Nat)(S:HS):S.book.length<(Hm.answer T m i S).book.length:=by
 rw[lj];refine pD ?_ (kg 9 m _);rw[yb];exact EU _
def Lz(m i:Nat)(r:List Nat)(S:HS):S.book.length<=(c9 T m i r S).book.length:=by
 unfold c9
 split
 .exact tL (Q1 (T:=T) m i (Hm.up S m λd=>{d with wait:=r}))
 .exact fx _
theorem qg:∀(f m:Nat) (S:HS),S.book.length<=(bt T f m S).book.length
 |0,_,_=>fx _
 |f+1,m,S=>by
  unfold bt
  split
  .split
   .exact fx _
   .rename_i i r _
    exact je (Lz m i r S) (qg f m (c9 T m i r S))
  .exact fx _
theorem Wf.bt(ok:jB T):∀(f m:Nat) (S:HS),m<T.length->fk T m=false->Wf T S->Wf T (Hm.bt T f m S)
 |0,_,_,_,_,h=>h
 |f+1,m,S,hm,hl,h=>by
  unfold Hm.bt
  split
  .split
   .exact h
   .rename_i i r e
    exact Wf.bt ok f m (Hm.c9 T m i r S) hm hl (h.c9 ok hm hl e).1
  .exact h
def bX(T:List Row)(m i:Nat)(wd:Str)(S:HS):HS:=if (S.nd i).asked then S else lB T m i wd S
def dY(T:List Row)(m i:Nat)(wd:Str)(S:HS):HS:=if ((bX T m i wd S).nd m).st="on" then bX T m i wd S else Hm.gN T m (bX T m i wd S)
def sE{i:Nat}{wd:Str}{S:HS}(h:par T i=none):pV T i wd S=S:=by
 unfold pV;rw[h]
def n9{i m:Nat}{wd:Str}{S:HS}(h:par T i=some m):pV T i wd S=Hm.bt T ((dY T m i wd S).nd m).wait.length m (dY T m i wd S):=by
 unfold pV;rw[h]
 rfl
def Ao(m i:Nat)(wd:Str)(S:HS):(bX T m i wd S).book=S.book:=by
 unfold bX lB
 split
 .rfl
 .split
  .rfl
  .split<;>rfl
def XG(i:Nat)(wd:Str)(S:HS):S.book.length<=(pV T i wd S).book.length:=by
 cases h:par T i with
 |none=>rw[sE h];exact fx _
 |some m=>
  rw[n9 h];refine je ?_ (qg _ _ _);have e:=Ao (T:=T) m i wd S;unfold dY
  split
  .rw[e];exact fx _
  .rw[<- e];exact kg 9 m _
def Wf.pop(h:Wf T S){e:Nat×Str}{r:List (Nat×Str)}(b:S.ends=e::r):Wf T {S with ends:=r}/\(∀m,(S.nd m).wait.length+r.length+1<=S.book.length)/\e.1<T.length/\isWord e.2:=by
 have a:=h.wl;rw[b] at a
 have a:∀m,(S.nd m).wait.length+r.length+1<=S.book.length:=λm=>by
  have:=a m;have e2:(e::r).length=r.length+1:=rfl;omega
 refine⟨⟨h.wt,h.gd,h.fl,λm=>?_,λx c=>h.en x (by rw[b];exact mD _ c),h.st⟩,a,h.en e (by rw[b];exact ll)⟩;have:=a m;show(S.nd m).wait.length+r.length<=S.book.length;omega
theorem adm{a n k:Nat}(h:a<2^n)(b:k<n):a ||| 2^k<2^n:=Nat.or_lt_two_pow h (Nat.pow_lt_pow_right ∅ b)
theorem ly{i m:Nat}(b:i<T.length)(a:par T i=some m):f7 T i<(kids T m).length:=(pE.mp (xv b a)).1
def Wf.bX(h:Wf T S){m i:Nat}{wd:Str}(a:i<T.length)(b:par T i=some m)(c:fk T m=false)(f:(S.nd m).wait.length+S.ends.length+1<=S.book.length):Wf T (Hm.bX T m i wd S):=by
 unfold Hm.bX lB
 split
 .exact h
 .split
  .exact h.up (h.wt m) (adm (h.gd m) (ly a b)) (h.fl m) (h.wl m) (λz=>by rw[c] at z;cases z)
  .split
   .refine h.up (λj e=>?_) (h.gd m) (h.fl m) ?_ (λz=>by rw[c] at z;cases z)
    .rcases ql.mp e with z|z
     .exact h.wt m j z
     .rw[oi.mp z];exact⟨a,b⟩
    .show ((S.nd m).wait++[i]).length+S.ends.length<=_;rw[iv];show(S.nd m).wait.length+1+_<=_
     lia
   .exact h
def Wf.dY(ok:jB T)(h:Wf T S){m i:Nat}{wd:Str}(a:i<T.length)(b:par T i=some m)(f:(S.nd m).wait.length+S.ends.length+1<=S.book.length):Wf T (Hm.dY T m i wd S):=by
 have c:=(ok.bV a b).2;have e:=h.bX (wd:=wd) a b c f;unfold Hm.dY
 split
 .exact e
 .exact Wf.aM ok 9 m _ (IH (ok.bV a b).1 a) c e
def Wf.pV(ok:jB T)(h:Wf T S){i:Nat}{wd:Str}(a:i<T.length)(b:∀m,(S.nd m).wait.length+S.ends.length+1<=S.book.length):Wf T (Hm.pV T i wd S):=by
 cases hp:par T i with
 |none=>rwa[sE hp]
 |some m=>
  rw[n9 hp];exact Wf.bt ok _ m _ (IH (ok.bV a hp).1 a) (ok.bV a hp).2 (h.dY ok a hp (b m))
theorem kN:∀(f:Nat) (S S':HS),aZ T f S=some S'->S.book.length<=S'.book.length
 |0,S,S',h=>by
  unfold aZ at h
  split at h
  .cases h;exact fx _
  .cases h
 |f+1,S,S',h=>by
  unfold aZ at h
  split at h
  .cases h;exact fx _
  .rename_i i wd r e
   exact je (XG (T:=T) i wd {S with ends:=r}) (kN f _ S' h)
theorem Wf.settle(ok:jB T):∀(f:Nat) (S S':HS),aZ T f S=some S'->Wf T S->Wf T S'/\S'.ends=[]
 |0,S,S',h,w=>by
  unfold aZ at h
  split at h
  .rename_i e
   cases h;exact⟨w,e⟩
  .cases h
 |f+1,S,S',h,w=>by
  unfold aZ at h
  split at h
  .rename_i e
   cases h;exact⟨w,e⟩
  .rename_i i wd r e
   obtain⟨b,c,a,g⟩:=w.pop e;exact Wf.settle ok f _ S' h (b.pV ok a c)
def alQ(i:Nat)(S:HS):(cB T i S).2.book=S.book/\(cB T i S).2.ends=S.ends:=by
 unfold cB
 split<;>exact⟨rfl,rfl⟩
def Zh{i:Nat}(h:(cB T i S).1≠""):isWord (cB T i S).1:=by
 unfold cB at h ⊢
 split
 .rename_i e
  rw[eT e] at h;exact P5 h
 .rename_i e
  rw[eJ e] at h;exact Th h
def fY(T:List Row)(i:Nat)(S:HS):HS:=Hm.aX T i (cB T i S).1 (cB T i S).2
def U1(i:Nat)(S:HS):S.book.length<=(fY T i S).book.length:=by
 unfold fY;refine je ?_ (yH _ _ _);rw[(alQ i S).1];exact fx _
def Wf.fY(h:Wf T S){i:Nat}(l:i<T.length)(hs:bO T i S=true):Wf T (Hm.fY T i S):=by
 unfold bO at hs;rw[kE,kE,aib] at hs;have n:=hs.1.1;have p:(S.nd i).st≠"off":=yV hs.1.2;by_cases b:(S.nd i).st="told"
 .refine Wf.aX ?_ l Zh;unfold cB;rw[eT b];exact h.up (g:=λd=>{d with need:=d.need-1,ja:=d.ja-1}) (h.wt i) (h.gd i) (h.fl i) (h.wl i) (λ_ _ z=>absurd b z)
 .-- at work: it aeY on,or it is over
  obtain⟨t,s⟩:=h.st i n p b
  have e:Hm.fY T i S=Hm.aX T i (endAt (sh T i) (S.nd i).steps) (Hm.up S i λd=>{d with steps:=d.steps+1}):=by
   unfold Hm.fY cB;rw[eJ b]
  rw[e];by_cases a:endAt (sh T i) (S.nd i).steps=""
  .unfold Hm.aX;rw[eT a];refine h.up (h.wt i) (h.gd i) (h.fl i) (h.wl i) (λ_ _ _=>⟨by show 0<=(S.nd i).steps+1;lia,λq=>?_⟩);have:=s q;have u:(sh T i).kind<3:=gD n
   have ne:(S.nd i).steps≠(sh T i).many:=λz=>by
    unfold endAt at a;by_cases k1:(sh T i).kind=1
    .rw[eT ⟨k1,z⟩] at a;exact absurd a ∅
    .rw[eJ (λy=>k1 y.1),eT ⟨(),z⟩] at a;exact absurd a ∅
   show(S.nd i).steps+1<=_
   lia
  .-- off: the steps are of no account
   have o:Wf T (Hm.up (Hm.up S i λd=>{d with steps:=d.steps+1}) i λd=>{d with st:="off"}):=by
    have e2:(Hm.up (Hm.up S i λd=>{d with steps:=d.steps+1}) i λd=>{d with st:="off"})=Hm.up S i λd=>{d with steps:=d.steps+1,st:="off"}:=by
     unfold Hm.up
     congr 1
     funext j
     show(if j=i then _ else if j=i then _ else _)=_;by_cases z:j=i
     .rw[eT z,eT z];show({ (if j=i then {S.nd j with steps:=(S.nd j).steps+1} else S.nd j) with st:="off"}:Nd)=_;rw[eT z]
     .rw[eJ z,eJ z,eJ z]
    rw[e2];exact h.up (h.wt i) (h.gd i) (h.fl i) (h.wl i) (λ_ z=>absurd rfl z)
   have c:=o.write (endAt (sh T i) (S.nd i).steps) i;have r:=df (T:=T) (endAt (sh T i) (S.nd i).steps) i (Hm.up (Hm.up S i λd=>{d with steps:=d.steps+1}) i λd=>{d with st:="off"});unfold Hm.aX;rw[eJ a];refine⟨c.wt,c.gd,c.fl,λm=>?_,λx f=>?_,c.st⟩
   .have:=o.wl m;show _+(S.ends++[(i,endAt (sh T i) (S.nd i).steps)]).length<=(Hm.write T (endAt (sh T i) (S.nd i).steps) i (Hm.up (Hm.up S i λd=>{d with steps:=d.steps+1}) i λd=>{d with st:="off"})).book.length;rw[r,iv];have e3:(Hm.up (Hm.up S i λd=>{d with steps:=d.steps+1}) i λd=>{d with st:="off"}).ends=S.ends:=rfl;rw[e3] at this;show((Hm.up (Hm.up S i λd=>{d with steps:=d.steps+1}) i λd=>{d with st:="off"}).nd m).wait.length+(S.ends.length+1)<=_
    lia
   .have f:x∈S.ends++[(i,endAt (sh T i) (S.nd i).steps)]:=f;rcases ql.mp f with z|z
    .exact h.en x z
    .rw[oi.mp z];exact⟨l,Th a⟩
theorem tT(f i:Nat)(S:HS):eI T f i S=if bO T i S then aZ T f (fY T i S) else some S:=rfl
def U7{f i:Nat}{S S':HS}(h:eI T f i S=some S'):S.book.length<=S'.book.length:=by
 rw[tT] at h
 split at h
 .exact je (U1 i S) (kN f _ _ h)
 .cases h;exact fx _
def Wf.eI(ok:jB T){f i:Nat}{S S':HS}(w:Wf T S)(a:i<T.length)(h:Hm.eI T f i S=some S'):Wf T S':=by
 rw[tT] at h
 split at h
 .rename_i hs
  exact(Wf.settle ok f _ _ h (w.fY a hs)).1
 .cases h;exact w
theorem SH{f:Nat}:∀(l:List Nat) (S S':HS),l.foldlM (λS i=>Hm.eI T f i S) S=some S'->S.book.length<=S'.book.length
 |[],S,S',h=>by
  cases h;exact fx _
 |a::r,S,S',h=>by
  rw[aif] at h;cases e:Hm.eI T f a S with
  |none=>rw[e] at h;cases h
  |some b=>
   rw[e] at h;exact je (U7 e) (SH r b S' h)
theorem Wf.run(ok:jB T){f:Nat}:∀(l:List Nat) (S S':HS),(∀i∈l,i<T.length)->l.foldlM (λS i=>Hm.eI T f i S) S=some S'->Wf T S->Wf T S'
 |[],S,S',_,h,w=>by
  cases h;exact w
 |a::r,S,S',hl,h,w=>by
  rw[aif] at h;cases e:Hm.eI T f a S with
  |none=>rw[e] at h;cases h
  |some b=>
   rw[e] at h;exact Wf.run ok r b S' (λi c=>hl i (mD _ c)) h (w.eI ok (hl a ll) e)
theorem Wf.tick(w:Wf T S)(c:Int):Wf T {S with clk:=c}:=⟨w.wt,w.gd,w.fl,w.wl,w.en,w.st⟩
theorem Wf.turn(ok:jB T){f:Nat}{S S':HS}(h:By T f S=some S')(w:Wf T S):Wf T S':=Wf.run ok _ _ _ (λi a=>pf.mp a) h (w.tick _)
theorem Wf.zero:Wf T ⟨0,[],[],λ_=>tV⟩:=⟨λm j a=>(by cases a),λm=>akN _,λm=>pI _,λm=>fx _,λe b=>(by cases b),λi _ h=>absurd rfl h⟩
theorem Wf.new(ok:jB T):Wf T (Hm.new T):=Wf.bf ok 10 0 _ ok.n0 Wf.zero
theorem Gy:∀(d i:Nat) (S:HS),(Hm.bf T d i S).ends=S.ends
 |0,_,_=>rfl
 |d+1,i,S=>by
  have b:∀(l:List Nat) (S:HS),(l.foldl (λS j=>Hm.bf T d j S) S).ends=S.ends:=λl=>by
   induction l with
   |nil=>exact λS=>rfl
   |cons a r c=>exact λS=>(c _).trans (Gy d a S)
  exact b _ _
theorem P7(ok:jB T){f:Nat}:∀(l:List Nat) (S S':HS),(∀i∈l,i<T.length)->l.foldlM (λS i=>Hm.eI T f i S) S=some S'->Wf T S->S.ends=[]->S'.ends=[]
 |[],S,S',_,h,_,e=>by
  cases h;exact e
 |a::r,S,S',hl,h,w,e=>by
  rw[aif] at h;cases e1:Hm.eI T f a S with
  |none=>rw[e1] at h;cases h
  |some b=>
   rw[e1] at h;have c:=w.eI ok (hl a ll) e1
   have e2:b.ends=[]:=by
    rw[tT] at e1
    split at e1
    .rename_i hs
     exact(Wf.settle ok f _ _ e1 (w.fY (hl a ll) hs)).2
    .cases e1;exact e
   exact P7 ok r b S' (λi g=>hl i (mD _ g)) h c e2
theorem UR(ok:jB T){f:Nat}{S S':HS}(h:By T f S=some S')(w:Wf T S)(e:S.ends=[]):S'.ends=[]:=P7 ok _ _ _ (λi a=>pf.mp a) h (w.tick _) e
end
end Hm
namespace L2
open PySem PySem.Spec PyProof.Rows
section
variable{prog:hD}{w:gT}{A:ie}{E:ez->eW->Prop}{s:eW}
def VD{T nu:String}{x:ez}{vs:List ez}{kw:List (Str×ez)}(h:typeLookup (.type T) "__init__"=pure (some (.builtin "object.__init__")))
  (f:Bind.madeBy (.type T)=pure (some nu)) (e:(some nu != some "object.__new__")=true):
  Meets (amE.«object.__init__» ⟨x::vs,kw⟩) (λ_ R z=>z.TypeIs x T/\R (.ok (.ret .none)) z):=by
 refine Meets.of_wp λprog w A R z c=>?_;obtain⟨g,b⟩:=c;cases vs with
 |nil=>
  cases kw with
  |nil=>exact nr ⟨_,rfl,b⟩
  |cons k r=>
   repeat (any_goals (first|assumption|wp_step))
   exact⟨_,rfl,b⟩
 |cons a r=>
  repeat (any_goals (first|assumption|wp_step))
  exact⟨_,rfl,b⟩
def YQ{T nu:String}{p:amE}{vs:List ez}{kw:List (Str×ez)}{S:aiD}{Q:ez->eW->Prop}(a:TypeCalled T nu "object.__init__")
  (ne:(some nu != some "object.__new__")=true) (I:checkTypeCall T ⟨vs,kw⟩=pure .unit) (v:checkBuiltinCall nu ⟨.type T::vs,kw⟩=pure .unit)
  (ok:∀b,argsOk "object.__init__" ⟨b::vs,kw⟩) (en:entryFor table nu=some p) (g:Meets (p ⟨.type T::vs,kw⟩) S)
  (h:S A.in1 (wants (λb z=>z.TypeIs b T/\Q b z) E) s):wpAny (model prog w) A (call (.type T) vs kw) Q E s:=by
 obtain⟨c,G,n⟩:=a.mro;have i:=a.made;have m:=a.sub;have J:=a.notType;have H:=a.canCreate;refine ams (codeAny_of_tree ?_);show wpAny _ _ (callAny (.type T) _) _ _ _;refine nr ⟨Code.quiet_builtin _ (by decide +kernel),codeAny_builtin F.entry_type_call ?_⟩;rw[Around.under_plain (weight_type_call_type T vs kw) (units_type_call_type T vs kw)]
 repeat (any_goals (first|assumption|wp_step))
 refine aja (ajK a.plain en (wpAny_of_eq v (g prog w A.in1 _ s h))) λr z j=>?_;cases r with
 |error e=>exact j
 |ok D=>
  cases D with
  |ret b=>
   obtain⟨o,l⟩:=j;have B:=a.init.lookup;have y:=a.init.bind b
   repeat (any_goals (first|assumption|wp_step))
   have t:=VD (x:=b) (vs:=vs) (kw:=kw) a.init.lookup a.made ne;refine aja (ajK a.init.plain F.entry_object_init (a.init.check _ _ _ _ _ _ _ _ o (ok b) (t prog w A.in1 (wants (λr q=>r=.none/\Q b q) E) z ⟨o,rfl,l⟩))) λu q f=>?_;cases u with
   |error e=>exact f
   |ok C=>
    cases C with
    |ret r=>
     obtain⟨rfl,l⟩:=f
     repeat (any_goals (first|assumption|wp_step))
    |_=>exact f.elim
  |_=>exact j.elim
end
theorem Zq(k:Int)(t:Tok)(l:eh):checkTypeCall "enumerate" ⟨[.ref l],[("start",.int k t)]⟩=pure .unit/\checkBuiltinCall "enumerate.__new__" ⟨[.type "enumerate",.ref l],[("start",.int k t)]⟩=pure .unit:=⟨by kernel_rfl,by kernel_rfl⟩
def WD(k:Int)(t:Tok)(l:eh)(a:ez):argsOk "object.__init__" ⟨[a,.ref l],[("start",.int k t)]⟩:=by
 unfold argsOk;rw[signature?_of (id:="object.__init__") (n:=['_','_','t','i','n','i','_','_']) (o:=['t','c','e','j','b','o']) (by kernel_rfl) F.owner_object];kernel_rfl
theorem ZN(l:eh)(items:Array ez)(n:Nat)(b:Option eh)(i:Array (Option ez))(t:Tok):
  Meets (amE.«enumerate.__new__» ⟨[.type "enumerate",.ref l],[("start",.int 1 t)]⟩) (λ_ R z=>z.heap.get? l=some {cls:= .type "list",dict:=b,data:= .seq items n,slots:=i}∧
   R (.ok (.ret (.ref (z.heap.push {cls:= .type "list_iterator",data:= .fields #[.ref l,.int 0 0]}).objs.size)))
    {z with heap:=(z.heap.push {cls:= .type "list_iterator",data:= .fields #[.ref l,.int 0 0]}).push {cls:= .type "enumerate",data:= .fields #[.none,.bool false,.ref z.heap.objs.size,rawInt 1,.none,.none]}}):=
 .of_wp λprog w A R z h=>by
  obtain⟨j,g,d,tk,os⟩:=z;obtain⟨a,h⟩:=h;have f:=sub_enumerate;have e:Heap.IsList (Shared.heap ⟨j,g,d,tk,os⟩) l items:=⟨_,a,rfl,n,rfl⟩
  wp_walk using aix a
  refine wpAny_stack_any λst=>nr ?_
  split
  .rename_i c _ _ _ _ _
   cases (c==akq "enumerate")
   .wp_walk using aix a,ais e
    exact⟨_,rfl,h⟩
   .wp_walk using aix a,ais e
    exact⟨_,rfl,h⟩
  .wp_walk using aix a,ais e
   exact⟨_,rfl,h⟩
section
variable{prog:hD}{w:gT}{A:ie}{E:ez->eW->Prop}{s:eW}
def Rl{l:eh}{items:Array ez}{t:Tok}{Q:ez->eW->Prop}(p:s.heap.IsList l items)
  (h:∀g,IsEnum g (s.heap.objs.size+1) s.heap.objs.size 1 .none->g.IsListIter s.heap.objs.size l 0->g.objs.size=s.heap.objs.size+2→
   (∀b o,s.heap.get? b=some o->g.get? b=some o)->Q (.ref (s.heap.objs.size+1)) {s with heap:=g}):
  wpAny (model prog w) A (call (.type "enumerate") [.ref l] [("start",.int 1 t)]) Q E s:=by
 obtain⟨⟨c,e,m,j⟩,q,f,n,hd⟩:=p
 replace f:c=.type "list":=f
 replace hd:m=.seq items n:=hd
 subst f hd;refine YQ F.called_enumerate ∅ (Zq 1 t l).1 (Zq 1 t l).2 (WD 1 t l) F.entry_enumerate_new (ZN l items n e j t) ⟨q,?_⟩;have a:(s.heap.push {cls:= .type "list_iterator",data:= .fields #[.ref l,.int 0 0]}).objs.size=s.heap.objs.size+1:=aiS ..;show _/\_;rw[a]
 have i:IsEnum ((s.heap.push {cls:= .type "list_iterator",data:= .fields #[.ref l,.int 0 0]}).push
   {cls:= .type "enumerate",data:= .fields #[.none,.bool false,.ref s.heap.objs.size,rawInt 1,.none,.none]}) (s.heap.objs.size+1) s.heap.objs.size 1 .none:=by
  have:=rx (s.heap.push {cls:= .type "list_iterator",data:= .fields #[.ref l,.int 0 0]})
   (o:={cls:= .type "enumerate",data:= .fields #[.none,.bool false,.ref s.heap.objs.size,rawInt 1,.none,.none]}) rfl
  rw[a] at this;exact this
 exact⟨⟨_,i,rfl⟩,h _ i ⟨_,nc _ (rx _ rfl),rfl,rfl⟩ (by rw[aiS,a]) λb o x=>nc _ (nc _ x)⟩
def RY{it l:eh}{items:Array ez}(k:Nat)(e:A.handled=none)(b:l≠it):
  Draws prog w A it [it,l] (k+items.size) (λi v=>items[i-k]? =some v) (λi h=>k<=i/\h.IsListIter it l (i-k)/\h.IsList l items):=by
 have D:=Draws.list (prog:=prog) (w:=w) e it l b items;refine⟨λi h st=>D.live _ h st.2,λi h h' st f=>⟨st.1,D.frame _ h h' st.2 f⟩,λi z Q E m st c=>?_,λz Q E st g=>D.done z Q E (by have:=st.2;rwa [ajn] at this) g⟩;refine D.item (i-k) z Q E (by have:=st.1;lia) st.2 λx h' tk j a hs=>c x h' tk j ⟨by have:=st.1;lia,?_⟩ hs;rwa[show i+1-k=i-k+1 by have:=st.1;lia]
end
section
variable{X:Cx}{et:List (eh×Obj)}{σ:St}{H:Hp}{s:eW}{h':gm}
def Inv.abx{t':Nat}{a b:eh}(I:Inv X et σ H s)(k:∀c o,c≠a->c≠b->s.heap.get? c=some o->h'.get? c=some o)(fa:ky X et H a)(i:ky X et H b):Inv X et σ H {s with heap:=h',toks:=t'}:=by
 have h:∀c u,H c=some u->c≠a/\c≠b:=λc u e=>⟨λz=>(by rw[z,fa.1] at e;cases e),λz=>(by rw[z,i.1] at e;cases e)⟩;have g:∀c,c∉[a,b]->c≠a/\c≠b:=λc f=>⟨λz=>f (by simp[z]),λz=>f (by simp[z])⟩
 refine I.step (g':=s.gens) (d':=s.drawn) (ch:=[a,b]) (λc f=>?_) (λc o _ _ f e _=>k c o (g c f).1 (g c f).2 e) (λc o _ _ f e _=>⟨o.slots,k c o (g c f).1 (g c f).2 e⟩) (λ_ _ _ _ n=>n)
  (λc o f e=>⟨o,k c o (g c f).1 (g c f).2 e⟩) (λ_ _ e=>e) (λ_ _ _ e=>e) (λc ps e=>⟨#[],by rw[e];simp⟩) (λm t=>?_) (λc u e=>?_) I.bare
 .obtain ⟨_,a1,_,a3,a4,a5⟩:=fa;obtain⟨_,l,_,w,j,p⟩:=i;rcases qJ.mp f with rfl|f
  .exact ⟨a3,a1,a4,a5⟩
  .rw[oi.mp f];exact⟨w,l,j,p⟩
 .obtain ⟨o,es,ep,ho,r⟩:=t;exact⟨o,es,ep,k _ o (Ne.symm fa.2.1) (Ne.symm i.2.1) ho,r⟩
 .have n:=h;refine(I.hok c u e).N6 (λd v f q=>?_) (λ_ q=>q) λ_ _ q=>q;rcases f with z|z
  .rw[z];rw[z] at q;exact k c v (n c u e).1 (n c u e).2 q
  .exact k d v (n d _ z).1 (n d _ z).2 q
end
def Itn(K:fD)(a:eh)(k:Nat):It:=
 ⟨λi H=>∃xs x,eZ K H a xs/\xs[i]? =some x,λi H x H'=>∃q y,H q=none/\x=.ref q/\(∀xs,eZ K H a xs->xs[i]? =some y)/\H'=upd H q (.tup [.int ((k+i:Nat):Int),y]),λi H=>∃xs,eZ K H a xs/\xs.length<=i⟩
def UY{P:hD}{w:gT}{K:fD}{O:List fU}{c}{tp:Pos}(a e it:eh)(k:Nat)(M:e≠it):
  Turn P w K (.Tuple O c tp) (Itn K a k) [e,it] e (λi h=>(∃m,IsEnum h e it ((k+i:Nat):Int) m)/\h.IsListIter it a i) where
 mem:=by simp
 obj:=λi h st b j=>by
  rcases qJ.mp j with rfl|j
  .obtain ⟨m,q⟩:=st.1;exact⟨_,q,λv z=>by cases z⟩
  .rw[oi.mp j];obtain⟨o,q,_,d⟩:=st.2;exact⟨o,q,λv z=>by rw[d] at z;cases z⟩
 keep:=λi h h' st kk=>⟨st.1.imp λm q=>kk e (by simp) _ q,st.2.at λo q=>kk it (by simp) o q⟩
 item:=by
  intro X t hw hK hc i f s σ H E I R st Z;subst t hw hK;obtain⟨xs,x,U,hx⟩:=Z;obtain⟨its,rv,p,hz⟩:=I.list U;obtain⟨u,hu,ru⟩:=rv.get hx;obtain⟨⟨m,G⟩,n⟩:=st;have fe:=R e (by simp);have fi:=R it (by simp);have an:i<its.length:=(pE.mp hu).1
  have Q:a≠it:=λz=>by
   obtain⟨o,q,c1,_⟩:=n;obtain⟨o2,C,B,_⟩:=p.isList;rw[z,q] at C;cases C;rw[c1] at B;exact absurd (alb B) ∅
  have al:e≠a:=λz=>by
   obtain⟨o2,C,B,_⟩:=p.isList;rw[<- z] at C;have:=hH (G.symm.trans C);rw[<- this] at B;exact absurd (alb B) ∅
  have D:=RY (prog:=X.prog) (w:=X.w) (A:=X.A.in1) (it:=it) (l:=a) (items:=its.toArray) k (I.ok.hd hc) Q;refine wpAny_pyNext_enum_itemD D G ⟨(),by rwa[ajn],p.isList⟩ (by show k+i<k+its.toArray.size;simp;lia) M (by simp;exact⟨M,al⟩) λy g tk t W hs S hsz kk=>?_
  have ey:y=u:=by
   have t:its.toArray[k+i-k]? =some y:=t;rw[ajn] at t;have ab:its.toArray[i]? =some u:=by simpa using hu
   rw[ab] at t;exact(hH t).symm
  subst ey;refine⟨_,rfl,wpAny_letOwnedTupleGo_enum W λg2 ac N=>?_⟩;have L:s.heap.objs.size≠e:=ai9 (ko G);have J:s.heap.objs.size≠it:=by obtain⟨_,q,_⟩:=n;exact ai9 (ko q)
  have f0:H s.heap.objs.size=none:=I.fresh
  have I1:Inv X f σ (upd H s.heap.objs.size (.tup [.int ((k+i:Nat):Int),x])) {s with heap:=s.heap.push {cls:= .type "tuple",data:= .seq #[.int ((k+i:Nat):Int) tk,y]},toks:=tk+1}:=
   I.laid (λb o q=>nc _ q) (fx _) ⟨tL (aP (show 2<=1000 by decide)),[_,_],.cons ⟨_,rfl⟩ (.cons ru .nil),⟨_,rx _ rfl,rfl,_,rfl⟩⟩
  have r:∀b,ky X f H b->b≠s.heap.objs.size->ky X f (upd H s.heap.objs.size (.tup [.int ((k+i:Nat):Int),x])) b:=λb fb j=>⟨by rw[ai j];exact fb.1,fb.2⟩
  have I2:=Inv.abx (h':=g2) (t':=tk+1) I1 (a:=e) (b:=it) (λb o h1 h2 q=>by
   by_cases j:b=s.heap.objs.size
   .subst j;have q':=rx s.heap (o:={cls:= .type "tuple",data:= .seq #[.int ((k+i:Nat):Int) tk,y]}) rfl;rw[q'] at q;cases q;exact(N.2 _ h1).trans S
   .refine (N.2 _ h1).trans (kk b o h1 h2 ?_);exact(Heap.get?_push_ne _ _ _ j).symm.trans q) (r e fe (Ne.symm L)) (r it fi (Ne.symm J))
  refine⟨.ref s.heap.objs.size,_,I2,rfl,⟨_,x,f0,rfl,λys hy=>by rwa[I.BE hy U],rfl⟩,⟨⟨_,by simpa[Int.add_assoc] using ac⟩,?_⟩,λb j=>?_⟩
  .have:=hs.2.1;rw[show k+i+1-k=i+1 by lia] at this;exact this.at λo q=>(N.2 it (Ne.symm M)).trans q
  .rcases qJ.mp j with rfl|j
   .exact (r _ fe (Ne.symm L)).1
   .rw[oi.mp j];exact(r _ fi (Ne.symm J)).1
 done:=by
  intro X t hw hK hc i f s σ H E I R st Z;subst t hw hK;obtain⟨xs,U,hx⟩:=Z;obtain⟨its,rv,p,hz⟩:=I.list U;obtain⟨⟨m,G⟩,n⟩:=st;obtain⟨f0,f1,f2,f3,f4,f5⟩:=R it (by simp);have hl:=rv.length
  have Q:a≠it:=λz=>by
   obtain⟨o,q,c1,_⟩:=n;obtain⟨o2,C,B,_⟩:=p.isList;rw[z,q] at C;cases C;rw[c1] at B;exact absurd (alb B) ∅
  have S:s.TypeIs (.ref e) "enumerate":=⟨_,G,rfl⟩;unfold pyNext
  refine iV (wpAny_attempt (wpAny_callSpecial?_slot (name:=KP "__next__") S alc
   (wpAny_call_entry alc S F.entry_enumerate_next ?_ (F.args_enumerate_next_1 _))))
  show wpAny _ _ (field (.ref e) 2 >>= _) _ _ _;refine iV (aj3 G rfl (x:= .ref it) rfl ?_);refine iV (wpAny_nextOf_list_end (I.ok.hd hc) n p.isList (Array.getElem?_eq_none (by simp;lia)) λg x am Y=>?_);obtain⟨o,W,ad⟩:=Y;refine iV (wpAny_isInstance (T:="StopIteration") (b:=true) ⟨o,W,ad⟩ isSubtype_stop ?_);exact nr ⟨rfl,I.turned (t':=s.toks) (λb o j q=>am b o j q) f0 f1 f3 f4 f5⟩
 self:=λ_ _ _ _ _ st h=>by
  obtain⟨⟨m,G⟩,_⟩:=st;exact al5 G h
section
variable{X:Cx}{elts:List fU}{c}{tp:Pos}
def SY{e:List (eh×Obj)}{i:St}{H:Hp}{s:eW}{R:It->Hp->Prop}{E:ez->eW->Prop}{a:eh}{g:gm}{k:Nat}(I:Inv X e i H s)(h:IsEnum g (s.heap.objs.size+1) s.heap.objs.size (k:Int) .none)(j:g.IsListIter s.heap.objs.size a 0)
  (kk:∀b o,s.heap.get? b=some o->g.get? b=some o) (q:R (Itn X.K a k) H):wpAny (model X.prog X.w) X.A (pyIter (.ref (s.heap.objs.size+1))) (PIE X e i (.Tuple elts c tp) R) E {s with heap:=g}:=by
 refine al5 h ?_;refine⟨s.heap.objs.size+1,[s.heap.objs.size+1,s.heap.objs.size],_,_,H,rfl,I.kept (t':=s.toks) kk,UY a _ _ k (Nat.succ_ne_self _),⟨⟨_,h⟩,j⟩,λb f=>?_,q⟩;rcases qJ.mp f with rfl|f
 .exact I.QI (HY _) (I.hok.fresh (HY _))
 .rw[oi.mp f];exact I.QI (fx _) (I.hok.fresh (fx _))
def abX(K:fD)(k:Nat)(e:TA):TI:=λf H R=>e f H λvs b=>∃a,vs=[.ref a]/\(∃xs,eZ K b a xs)/\R (Itn K a k) b
def Zx{l:fU}{f:TA}{p b:Pos}(u:Gl X "enumerate")(y:X.mg "enumerate"=none)(t:PA X [l] f)(hs:starEach [l] X.env=[(false,eval l X.env)]:=by rfl):
  PI X (.Tuple elts c tp) (.Call (.Name "enumerate" p) [l] [] b) (abX X.K 0 f):=by
 intro i s A H R I h;refine Call_ (xt I u y amH (ahR (t.th I h λus B vs z j m v=>?_) hs rfl));obtain⟨a,e,⟨xs,x⟩,q⟩:=v;subst e;cases m with
 |cons r o=>
  cases o;cases r;obtain⟨its,D,pl,C⟩:=j.list x;exact call_enumerate_list pl.isList λg n w hsz kk=>SY j (k:=0) n w kk q
def YL{M:xl}{A:ie}{E:ez->eW->Prop}{s:eW}{e:Pos}{T:String}{vs:List (Bool×Sem ez)}{b:List (Option Str×Sem ez)}{Q:ez->eW->Prop}(j:vs.any (·.1)=false)(f:b.any (·.1.isNone)=false)
  (h:wpAny M A (evalArgs (.type T) true vs b) (λa z=>wpAny M A (call (.type T) a.pos a.kw) Q E z) E s):wpAny M A (callWith e (.type T) [] vs b) Q E s:=by
 unfold callWith;refine iV (ajt (ro h (λa z i=>iV (akb ?_)) λ_ _ x=>x));simp only[j,f,aiC];refine iV (nr (iV (ro i (λr l g=>?_) λ_ _ x=>x)));exact iV (ajt (wpAny_point (nr g)))
def X4{l:fU}{t:TA}{p b o n:Pos}{u}(E:Gl X "enumerate")(D:X.mg "enumerate"=none)(C:PA X [l] t)(hs:starEach [l] X.env=[(false,eval l X.env)]:=by rfl):
  PI X (.Tuple elts c tp) (.Call (.Name "enumerate" p) [l] [⟨some "start",.Constant (.int 1) u n,o⟩] b) (abX X.K 1 t):=by
 intro f s A H R I h;show wpAny _ _ (do callWith b (<- eval (.Name "enumerate" p) X.env) [] (backTo b (starEach [l] X.env)) (backToKw b (keywordEach [⟨some "start",.Constant (.int 1) u n,o⟩] X.env))) _ _ _;refine iV (xt I E D amH (YL (by rw[hs];rfl) rfl ?_));rw[show backTo b (starEach [l] X.env)=(false,eval l X.env)::backTo b [] by rw[hs];rfl];refine evalArgs_kwB rfl ?_;have m:=C b f s A H _ I h;rw[show backTo b (starEach [l] X.env)=(false,eval l X.env)::backTo b [] by rw[hs];rfl] at m;refine jG m λus i ⟨vs,F,j,y,v⟩=>kws_cons ?_;obtain⟨a,e,⟨xs,x⟩,q⟩:=v;subst e;cases y with
 |cons r B=>
  cases B;cases r;refine alC (kws_nil ?_);obtain⟨its,J,pl,G⟩:=(j.tok (i.toks+1)).list x;exact Rl (s:={i with toks:=i.toks+1}) pl.isList λg z w hsz kk=>SY (j.tok (i.toks+1)) (k:=1) z w kk q
def Itd(n:Nat):It:=⟨λi _=>i<n,λi H x H'=>H'=H/\x=.int ((n:Int)-1-i),λi _=>n<=i⟩
def Um{P:hD}{w:gT}{K:fD}{G:fU}(it:eh)(n:Nat):Turn P w K G (Itd n) [it] it (λi h=>akQ h it (((n:Int)-1)+(i:Nat)*(-1)) ((n:Int)-(i:Nat)) (-1)) where
 mem:=by simp
 obj:=λi h st b f=>by
  rw[oi.mp f]
  exact⟨_,st,λv z=>by
   have N:am5 _=Data.cell v:=z;cases N⟩
 keep:=λi h h' st k=>k it (by simp) _ st
 item:=by
  intro X u q x B i a s D H E I l st m;subst u q x;obtain⟨A,y,M,C,p,r⟩:=l it (by simp);have W:=am6 (prog:=X.prog) (w:=X.w) (I.ok.hd B) it ((n:Int)-1) (-1) n;refine W.item i s _ _ m st λv g tk L j kk=>?_;obtain⟨t,rfl⟩:=L;have J:Inv X a D H {s with heap:=g,toks:=tk}:=I.turned (λb o f e=>kk b o (by simpa using f) e) A y C p r;refine⟨_,rfl,Xx (s:={s with heap:=g,toks:=tk}) (n:="range_iterator") j rfl rfl ∅ ⟨.int ((n:Int)-1-i),H,J,⟨t,?_⟩,⟨rfl,rfl⟩,j,λb f=>(l b f).1⟩⟩;rw[show (n:Int)-1+(i:Int)* -1=(n:Int)-1-i by lia]
 done:=by
  intro X u q x B i a s D H E I l st m;subst u q x;obtain⟨A,y,M,C,p,r⟩:=l it (by simp);exact akR (I.ok.hd B) st (by have:n<=i:=m;lia) λg F=>⟨rfl,I.turned (t':=s.toks) (λb o f e=>F b o f e) A y C p r⟩
 self:=λ_ _ _ _ _ st h=>akS st h
def aec(b:TA):TI:=λe H R=>b e H λvs a=>∃n:Nat,vs=[.int ((n:Int)-1),.int (-1),.int (-1)]/\n<=1000000/\R (Itd n) a
def aah{z a b c:fU}{w:TA}{p t:Pos}(K:Gl X "range")(J:X.mg "range"=none)(G:PA X [a,b,c] w)(hs:starEach [a,b,c] X.env=[(false,eval a X.env),(false,eval b X.env),(false,eval c X.env)]:=by rfl)(i:starEach [b,c] X.env=[(false,eval b X.env),(false,eval c X.env)]:=by rfl):
  PI X z (.Call (.Name "range" p) [a,b,c] [] t) (aec w):=by
 intro j s D H R I h;refine Call_ (xt I K J amr (ahR (G.th I h λus f vs v A r x=>?_) (by rw[hs,i]) (by rw[i];rfl)));obtain⟨n,e,L,q⟩:=x;subst e;cases r with
 |cons r g=>
  cases g with
  |cons y g=>
   cases g with
   |cons B g=>
    cases g;obtain⟨t1,rfl⟩:=r;obtain⟨u,rfl⟩:=y;obtain⟨l,rfl⟩:=B
    have sz:aiA ((n:Int)-1) (-1) (-1)=n:=by
     unfold aiA;rw[eJ ∅];by_cases C:n=0
     .subst C
      rfl
     .rw[eT ()];show((n:Int)-1- -1-1)/1+1=n;rw[Int.ediv_one]
      lia
    refine call_range_3 ∅ ?_ (.inl (akT ()))
    have F:aly ((n:Int)-1) (-1) (-1)=true:=by
     unfold aly;rw[sz,eJ (show ¬(-1:Int) > 0 by decide)];simp only[Builtin.Range.rangeFitsLong,kE,xk,decide_eq_true_eq,rz]
     lia
    refine alD (am7 ..) F ?_;have m:Inv X j D v {f with heap:=f.heap.push {cls:= .type "range",data:= .fields #[.int ((n:Int)-1) t1,.int (-1) u,.int (-1) l]},toks:=f.toks}:=A.kept λb o e=>nc _ e;refine⟨_,[(f.heap.push {cls:= .type "range",data:= .fields #[.int ((n:Int)-1) t1,.int (-1) u,.int (-1) l]}).objs.size],_,_,v,rfl,m.kept (t':=f.toks) λb o e=>nc _ e,Um _ n,?_,λb E=>?_,q⟩
    .show akQ _ _ ((n:Int)-1+((0:Nat):Int)* -1) ((n:Int)-((0:Nat):Int)) (-1);rw[show (n:Int)-1+((0:Nat):Int)* -1=(n:Int)-1 by lia,show(n:Int)-((0:Nat):Int)=n by lia];have:=rx (f.heap.push {cls:= .type "range",data:= .fields #[.int ((n:Int)-1) t1,.int (-1) u,.int (-1) l]}) (o:={cls:= .type "range_iterator",data:= .fields #[rawInt ((n:Int)-1),rawInt (aiA ((n:Int)-1) (-1) (-1)),rawInt (-1)]}) rfl;rw[sz] at this;rwa[sz]
    .rw[oi.mp E];exact m.QI (fx _) (m.hok.fresh (fx _))
end
section
variable{X:Cx}{k:Nat}{cm:Bool}{C:eh}{sp:Sp}{kR:List V}{E:St->XK}{x:Str}{p pos:Pos}
def Z1(c:zk X.prog X.w X.K X.mg X.dX cm k x C sp kR)(e:eO cm (k+1) X.A)(h:Gl X x)(b:Passes (fm X.prog X.w) X E)(a:(x==("__debug__":Str))=false:=by decide):
  PE X (.Call (.Name x p) [] [] pos) (Tx C sp kR E Yo):=by
 obtain⟨f,fd,ps,ds,M,F,g,i,hd⟩:=c;exact Wn M F e h g i hd b a
end
def Bz{X:Cx}{K0:fD}{e:fU}{f:Str}{a:Pos}{b:TE}(g:X.K=K0)(c:PE X e b)(h:attributeBase e f X.env (eval e X.env)=eval e X.env):PE X (.Attribute e f a) (aeF K0 b f):=by
 subst g;exact au c h
def uV{J:It}{n:Nat}{g:TG}{l:TS}{D:Ends}{a:St}{H:Hp}(b:Nat->St->Hp->Prop)(o:b 0 a H)(q:∀i a H,i<n->b i a H->J.go i H)
  (hs:∀i a H x H',i<n->b i a H->J.yld i H x H'->g x a H' λe h=>l {D with nx:=b (i+1),ct:=b (i+1),bk:=D.nx} e h) (hd:∀a H,b n a H->J.stop n H/\D.nx a H):
  ∃W:Nat->Nat->St->Hp->Prop,(∃m,W 0 m a H)/\∀i m a H,W i m a H→
   (J.stop i H/\D.nx a H)\/(J.go i H/\∃N:St->Hp->Prop,(∀f H',N f H'->∃j,j<m/\W (i+1) j f H')/\∀x H',J.yld i H x H'->g x a H' λe h=>l {D with nx:=N,ct:=N,bk:=D.nx} e h):=by
 refine⟨λi m a H=>m=n-i/\i<=n/\b i a H,⟨n,rfl,pI _,o⟩,?_⟩;rintro i m a H ⟨rfl,s,p⟩;by_cases c:i<n
 .exact .inr ⟨q i a H c p,b (i+1),λf H' r=>⟨n-(i+1),(),rfl,c,r⟩,λx H' y=>hs i a H x H' c p y⟩
 .obtain rfl:i=n:=by lia
  exact .inl (hd a H p)
def adn:bootBuiltins "sum"=some (.builtin "sum"):=by decide +kernel
def int_at{ns:List Int}{its:List ez}{i:Nat}{v:ez}(r:Vals (ns.map V.int) its)(e:its[i]? =some v):∃t,v=.int (ns.getD i 0) t:=by
 have g:=r.length
 have f:i<ns.length:=by
  have:=(pE.mp e).1;rw[fC] at g
  lia
 have b:ns[i]? =some ns[i]:=gx f;obtain⟨u,c,a⟩:=r.get (show(ns.map V.int)[i]? =some (V.int ns[i]) by rw[hV,b];rfl);rw[e] at c;cases c;obtain⟨t,a⟩:=a;refine⟨t,?_⟩;rw[a,nN,b]
 rfl
theorem qo(ns:List Int):∀k,k<=ns.length->preSum (λi=>ns.getD i 0) k=(ns.take k).sum
 |0,_=>rfl
 |k+1,h=>by
  have a:=qo ns k ();show preSum (λi=>ns.getD i 0) k+ns.getD k 0=_;rw[a,Cb,gx (),ajP,nN,gx ()];simp
def EI{ns:List Int}(h:∀n∈ns,0<=n)(k:Nat):0<=(ns.take k).sum/\(ns.take k).sum<=ns.sum:=by
 have c:∀l:List Int,(∀n∈l,0<=n)->0<=l.sum:=λl e=>by
  induction l with
  |nil=>exact Jn _
  |cons a r g=>
   rw[akj];have i:=e a ll;have f:=g λn b=>e n (mD _ b)
   lia
 have i:=c (ns.take k) λn b=>h n (ajQ b);have f:=c (ns.drop k) λn b=>h n (List.mem_of_mem_drop b);have j:ns.sum=(ns.take k).sum+(ns.drop k).sum:=by rw[<- ajP,ajE]
 lia
section
variable{X:Cx}
def WW(J:X.calm=true):sg X (.builtin "sum") (λxs H Q=>∃(p:eh) (ns:List Int),xs=[.ref p]/\eZ X.K H p (ns.map V.int)/\(∀n∈ns,0<=n)/\ns.sum<2^63/\Q (.int ns.sum) H):=by
 intro t s L H xs us Q I r h;obtain⟨p,ns,rfl,y,f,D,q⟩:=h;obtain⟨u,rfl,z⟩:=vals1 r;cases z;obtain⟨its,w,E,O⟩:=I.list y;have g:=E.isList;have c:p<s.heap.objs.size:=by obtain⟨_,e,_⟩:=g;exact ko e
 have a:its.length=ns.length:=by have:=w.length;rw[fC] at this;lia
 refine call_sum_walk (ais g ?_)
 refine⟨s.heap.objs.size,[s.heap.objs.size,p],[s.heap.objs.size],its.toArray.size,_,_,λi=>ns.getD i 0,rfl,anc (A:=X.A.in1) (I.ok.hd J) _ p (kx c) its.toArray,
  ⟨⟨_,rx _ rfl,rfl,rfl⟩,g.push _⟩,λb m=>?_,λi v C=>int_at w (by simpa using C),λj l=>?_,λh' tk t' F=>?_⟩
 .show b<(s.heap.push _).objs.size;rw[aiS];rcases qJ.mp m with rfl|m
  .exact EU _
  .rw[oi.mp m];exact al2 c
 .have l:j<ns.length:=by
   have:its.toArray.size=its.length:=iB
   lia
  have B:=EI f j;have x:=EI f (j+1);rw[<- qo ns (j+1) ()] at x;rw[<- qo ns j ()] at B;have N:preSum (λi=>ns.getD i 0) (j+1)=preSum (λi=>ns.getD i 0) j+ns.getD j 0:=rfl;have M:0<=ns.getD j 0:=by rw[nN,gx l];exact f _ (ve l)
  exact⟨⟨by show -(2^63)<=ns.getD j 0;lia,by show ns.getD j 0<2^63;lia⟩,⟨(),()⟩⟩
 .rw[iB,a,qo ns _ (fx _),Bn];refine⟨.int ns.sum,H,I.kept (t':=tk) λb o e=>F b o (λG=>?_) (nc _ e),⟨_,rfl⟩,q⟩;rw[oi.mp G] at e;exact F6 _ (ko e)
def Cg:JQ X "int.bit_length" (λx vs H Q=>∃i:Int,x=.int i/\vs=[]/\Q (.int (ai6 i:Nat)) H):=by
 intro a s e H x vs v us Q I b c h;obtain⟨i,rfl,rfl,q⟩:=h;obtain⟨t,rfl⟩:=b;cases c;exact call_int_bit_length ⟨.int _,H,I.tok _,⟨_,rfl⟩,q⟩
end
section
variable{X:Cx}{k:Nat}{cm:Bool}{sp:Sp}{kR:List V}{x m:Str}{p pos apos:Pos}{e o a b i:fU}{es:List fU}{t:TA}{ta tb te td ty:TE}{C:eh}{CX:tI}
theorem cz(c:iu X.ib.prog X.ib.w X.ib.K X.ib.mg X.ib.dX cm k x sp kR)(j:PA X.ib (e::es) t)(n:eO cm k X.ib.A:=by exact eO.mono (by assumption) ())(h:Gl X.ib x:=by rfl)
  (f:(x==("__debug__":Str))=false:=by decide) (l:starEach (e::es) X.ib.env=(false,eval e X.ib.env)::starEach es X.ib.env:=by rfl) (g:(backTo pos (starEach es X.ib.env)).any (·.1)=false:=by rfl):
  PE X.ib (.Call (.Name x p) (e::es) [] pos) (O6 sp kR XNo t):=Il c n h cy j f l g
theorem j0{Dt:eh->Sp->List V->Prop}{pl:Sem Bool}(q:PE X.ib o ta)(r:∀C sp kR,Dt C sp kR->MethAt X.ib.prog X.ib.w X.ib.K X.ib.mg X.ib.dX (fm X.ib.prog X.ib.w) cm k m C sp kR)(n:PA X.ib (e::es) t)(l:eO cm k X.ib.A:=by exact eO.mono (by assumption) ())
  (g:starEach (e::es) X.ib.env=(false,eval e X.ib.env)::starEach es X.ib.env:=by rfl) (c:(backTo pos (starEach es X.ib.env)).any (·.1)=false:=by rfl)
  (j:eval (.Call (.Attribute o m apos) (e::es) [] pos) X.ib.env=(do
   let h<-eval o X.ib.env
   standAt apos.atName
   let (f,first)<-holding [h] (getMethod h m pl)
   callWith pos f first (backTo pos (starEach (e::es) X.ib.env)) (backToKw pos (keywordEach [] X.ib.env))):=by rfl):
  PE X.ib (.Call (.Attribute o m apos) (e::es) [] pos) (Nl Dt m XNo ta t):=xR q r l cy n g c j
theorem jD{Dt:eh->Sp->List V->Prop}{pl:Sem Bool}(j:PE X.ib o ta)(l:∀C sp kR,Dt C sp kR->MethAt X.ib.prog X.ib.w X.ib.K X.ib.mg X.ib.dX (fm X.ib.prog X.ib.w) cm k m C sp kR)(h:eO cm k X.ib.A:=by exact eO.mono (by assumption) ())
  (g:eval (.Call (.Attribute o m apos) [] [] pos) X.ib.env=(do
   let c<-eval o X.ib.env
   standAt apos.atName
   let (f,first)<-holding [c] (getMethod c m pl)
   callWith pos f first (backTo pos (starEach [] X.ib.env)) (backToKw pos (keywordEach [] X.ib.env))):=by rfl):
  PE X.ib (.Call (.Attribute o m apos) [] [] pos) (Nl Dt m XNo ta Yo):=gL j l h cy g
theorem bB{i:Nat}{c:Pos}(j:X.N.Nodup)(g:PE X e te)(l:X.N[i]? =some x:=by rfl)(h:Loc X.env.scope x:=by first|exact amX rfl|exact amu rfl)(hs:swapsWith e (some (.Name x c)) pos.line X.env=pure false:=by rfl)(f:X.fn x=true\/X.env.scope.names.lookup x=some .local:=by first|exact .inl rfl|exact .inr rfl|assumption):
  PS X (.Assign [.Name x c] e pos) (aaM te (Bo i)):=acH j l h g hs f
theorem gj{r:R2}(f:IxR X r)(c:PE X a ta)(g:PE X b tb)(hs:Tz b:=by exact λ_ _=>rfl):PE X (.Subscript a b pos) (NP r ta tb):=aen f c g hs
theorem mB(c:PE X o td)(g:PE X i ty)(f:X.A.units+1<cLine:=by exact CC (by assumption))(hs:adC i:=by exact λ_ _=>rfl):PE X (.Subscript o i pos) (aci td ty):=TF f c g hs
theorem vd{c:L1}{r:R2}(g:kM X (compareOp c) r)(f:PE X a ta)(h:PE X b tb)(j:behindInMarks c b=false:=by first|exact HE _|with_unfolding_all rfl):PE X (.Compare a [c] [b] pos) (NP r ta tb):=Tf g f h j
theorem gy{c:L1}{r:R2}(g:kM X (compareOp c) r)(f:PE X a ta)(h:PE X b tb)(j:behindInMarks c b=false:=by first|exact HE _|with_unfolding_all rfl):PT X (.Compare a [c] [b] pos) (abO (NP r ta tb)):=Gd g f h j
end
section
variable{s1 s2 s3 rest t u:TS}{c:TT}{D:Ends}{σ:St}{H:Hp}
theorem W7(M:St->Hp->Prop)(e:∀N:St->Hp->Prop,(∀a H',M a H'->N a H')->s1 {D with nx:=λσ H=>s2 {D with nx:=N} σ H} σ H)(b:∀a H',M a H'->rest D a H'):vT s1 (vT s2 rest) D σ H:=e _ b
theorem Iw(M:St->Hp->Prop)(e:∀N:St->Hp->Prop,(∀a H',M a H'->N a H')->s1 {D with nx:=λσ H=>s2 {D with nx:=λσ H=>s3 {D with nx:=N} σ H} σ H} σ H)(b:∀a H',M a H'->rest D a H'):vT s1 (vT s2 (vT s3 rest)) D σ H:=e _ b
theorem Yu(b:Bool)(e:∀N:Bool->Hp->Prop,N b H->c σ H N)(a:if b=true then t D σ H else u D σ H):afj c t u D σ H:=e _ a
end
end L2
local macro_rules|`(tactic|erw[$e:term])=>`(tactic|refine $e)
namespace Hr
open PySem L2 Shp Tr Hs Hm
abbrev j8:=Hp->eh->List Row->FS->Prop
structure HC where
 cH:eh
 cL:eh
 cM:eh
structure Lo where
 x:eh
 dx:eh
 en:eh
 qu:eh
 sa:eh
 t:eh
 nd:Nat->eh
 dn:Nat->eh
 mi:Nat->eh
 ch:Nat->eh
structure Dy where
 fa:Nat->eh
 wa:Nat->eh
 bk:List eh
 qs:List eh
inductive Lb
 |hs
 |en
 |qu
 |nd (i:Nat)
 |fa (i:Nat)
 |wa (i:Nat)
def Lb.at(L:Lo)(D:Dy):Lb->eh
 |.hs=>L.x
 |.en=>L.en
 |.qu=>L.qu
 |.nd i=>L.nd i
 |.fa i=>D.fa i
 |.wa i=>D.wa i
def vl(T:List Row):Lb->Prop
 |.nd i=>i<T.length
 |.fa i=>i<T.length/\fk T i=false
 |.wa i=>i<T.length/\fk T i=false
 |_=>True
def zJ(L:Lo)(S:HS):List (Str×V):=[("tree",.ref L.t),("clock",.int S.clk),("entries",.ref L.en),("ends",.ref L.qu),("standings",.ref L.sa)]
def uI(T:List Row)(L:Lo)(i:Nat):V:=match par T i with
 |none=>.non
 |some m=>.ref (L.nd m)
def mn(T:List Row)(L:Lo)(d:Nd)(i:Nat):List (Str×V):=[("child",.ref (L.ch i)),("state",.str d.st),("asked",.bl d.asked),("minder",uI T L i),("place",.int ((f7 T i:Nat):Int)),("minded",.ref (L.mi i))]
def Sz(d:Nd):List (Str×V):=[("begun_at",.int d.beg),("steps",.int d.steps),("needed",.int d.need),("granted",.int d.ja)]
def nS(fa wa:eh)(d:Nd):List (Str×V):=[("falls",.ref fa),("good",.int ((d.good:Nat):Int)),("waiting",.ref wa),("leaving",.int ((d.cw:Nat):Int)),("coming",.int ((d.com:Nat):Int)),("gave_up",.bl d.rD)]
def jE(T:List Row)(L:Lo)(D:Dy)(d:Nd)(i:Nat):List (Str×V):=mn T L d i++if fk T i then Sz d else nS (D.fa i) (D.wa i) d
def bx(C:HC)(T:List Row)(i:Nat):eh:=if fk T i then C.cL else C.cM
def cont(C:HC)(T:List Row)(L:Lo)(D:Dy)(S:HS):Lb->HO
 |.hs=>.ins C.cH L.dx (zJ L S)
 |.en=>.lst (D.bk.map V.ref)
 |.qu=>.lst (D.qs.map V.ref)
 |.nd i=>.ins (bx C T i) (L.dn i) (jE T L D (S.nd i) i)
 |.fa i=>.lst ((S.nd i).ay.map V.int)
 |.wa i=>.lst ((S.nd i).wait.map λj=>V.ref (L.nd j))
def XB(L:Lo)(e:Nat×Str):List V:=[.ref (L.nd e.1),.str e.2]
structure Rp(R:Rep)(TR:j8)(C:HC)(T:List Row)(L:Lo)(FT:FS)(D:Dy)(S:HS)(H:Hp):Prop where
 cells:∀l,vl T l->H (l.at L D)=some (cont C T L D S l)
 inj:∀l l',vl T l->vl T l'->l.at L D=l'.at L D->l=l'
 sa:H L.sa=some (.lst ((gG T.length).map λi=>V.ref (L.nd i)))
 mi:∀i,i<T.length->H (L.mi i)=some (.lst ((kids T i).map λj=>V.ref (L.nd j)))
 ch:∀i,i<T.length->∃o,H (L.ch i)=some o/\∀H':Hp,H' (L.ch i)=some o->R H' (L.ch i) (sh T i)
 tr:TR H L.t T FT
 own:∀b,FT b->H b≠none
 bkl:D.bk.length=S.book.length
 bk:∀(k:Nat) (a:eh) (e:Ent),D.bk[k]? =some a->S.book[k]? =some e->H a=some (.tup (QB e))
 qsl:D.qs.length=S.ends.length
 qs:∀(k:Nat) (a:eh) (e:Nat×Str),D.qs[k]? =some a->S.ends[k]? =some e->H a=some (.tup (XB L e))
 tM:∀l,vl T l->l.at L D≠L.sa/\(∀i,i<T.length->l.at L D≠L.mi i/\l.at L D≠L.ch i)/\¬FT (l.at L D)
section
variable{R:Rep}{TR:j8}{C:HC}{T:List Row}{L:Lo}{FT:FS}{D D':Dy}{S S':HS}{H H':Hp}
def iA(TR:j8):Prop:=∀(H H':Hp) (t:eh) (T:List Row) (FT:FS),(∀b o,FT b->H b=some o->H' b=some o)->TR H t T FT->TR H' t T FT
def Xt(l:Lb)(xs:List V):cont C T L D S l≠ .tup xs:=by
 cases l<;>erw[λz=>by cases z]
theorem Rp.Lr(h:Rp R TR C T L FT D S H){a:eh}{xs:List V}(e:H a=some (.tup xs)):∀l,vl T l->a≠l.at L D:=λl b z=>by
 rw[z,h.cells l b] at e;erw[Xt l xs (hH e)]
def Rp.next(q:iA TR)(h:Rp R TR C T L FT D S H)(u:∀l,vl T l->H' (l.at L D')=some (cont C T L D' S' l))(j:∀b o,(∀l,vl T l->b≠l.at L D)->H b=some o->H' b=some o)
  (p:∀l,vl T l->l.at L D'=l.at L D\/H (l.at L D')=none) (t:∀l c,vl T l->vl T c->H (l.at L D')=none->H (c.at L D')=none->l.at L D'=c.at L D'->l=c) (s:D'.bk.length=S'.book.length) (x:∀(k:Nat) (a:eh) (e:Ent),D'.bk[k]? =some a->S'.book[k]? =some e->H' a=some (.tup (QB e)))
  (r:D'.qs.length=S'.ends.length) (w:∀(k:Nat) (a:eh) (e:Nat×Str),D'.qs[k]? =some a->S'.ends[k]? =some e->H' a=some (.tup (XB L e))):Rp R TR C T L FT D' S' H':=by
 erw[⟨u,λl c v m e=>?_,?_,λi f=>?_,λi f=>?_,?_,λb n=>?_,s,x,r,w,λl v=>?_⟩]
 .rcases p l v with z|z<;>rcases p c m with g|g
  .exact h.inj l c v m (by rw[<- z,<-g,e])
  .rw[<- e,z,h.cells l v] at g;cases g
  .rw[e,g,h.cells c m] at z;cases z
  .exact t l c v m z g e
 .exact j _ _ (λl v z=>(h.tM l v).1 z.symm) h.sa
 .exact j _ _ (λl v z=>((h.tM l v).2.1 i f).1 z.symm) (h.mi i f)
 .obtain ⟨o,e1,e2⟩:=h.ch i f;exact⟨o,j _ _ (λl v z=>((h.tM l v).2.1 i f).2 z.symm) e1,e2⟩
 .exact q H H' _ _ _ (λb o n e=>j b o (λl v z=>(h.tM l v).2.2 (z ▸ n)) e) h.tr
 .cases e:H b with
  |none=>erw[absurd e (h.own b n)]
  |some o=>rw[j b o (λl v z=>(h.tM l v).2.2 (z ▸ n)) e];erw[λz=>by cases z]
 .rcases p l v with z|z
  .rw[z];erw[h.tM l v]
  .refine ⟨λy=>?_,λi f=>⟨λy=>?_,λy=>?_⟩,λy=>h.own _ y z⟩
   .rw[y,h.sa] at z;cases z
   .rw[y,h.mi i f] at z;cases z
   .obtain ⟨o,e1,_⟩:=h.ch i f;rw[y,e1] at z;cases z
structure Goes0(R:Rep)(TR:j8)(C:HC)(T:List Row)(L:Lo)(FT:FS)(D:Dy)(H:Hp)(D':Dy)(S':HS)(H':Hp):Prop where
 rp:Rp R TR C T L FT D' S' H'
 kp:∀b o,(∀l,vl T l->b≠l.at L D)->H b=some o->H' b=some o
 fr:∀l,vl T l->l.at L D'=l.at L D\/H (l.at L D')=none
 al:∀b,H' b=none->H b=none
structure Goes(R:Rep)(TR:j8)(C:HC)(T:List Row)(L:Lo)(FT:FS)(D:Dy)(H:Hp)(D':Dy)(S':HS)(H':Hp):Prop extends Goes0 R TR C T L FT D H D' S' H' where
 fb:∀a,a∈D'.bk->a∈D.bk\/H a=none
theorem Goes.refl(h:Rp R TR C T L FT D S H):Goes R TR C T L FT D H D S H:=⟨⟨h,λ_ _ _ e=>e,λ_ _=>.inl rfl,λ_ e=>e⟩,λ_ e=>.inl e⟩
def Goes0.trans{h:Dy}{c:HS}{f:Hp}(g:Goes0 R TR C T L FT D H D' S' H')(a:Goes0 R TR C T L FT D' H' h c f):Goes0 R TR C T L FT D H h c f:=by
 erw[⟨a.rp,λb o i e=>a.kp b o (λl v z=>?_) (g.kp b o i e),λl v=>?_,λb e=>g.al b (a.al b e)⟩]
 .rcases g.fr l v with y|y
  .exact i l v (by rw[z,y])
  .rw[<- z,e] at y;cases y
 .rcases a.fr l v with y|y
  .rcases g.fr l v with w|w
   .exact .inl (by rw[y,w])
   .exact .inr (by rwa[y])
  .exact .inr (g.al _ y)
theorem Goes.trans{b:Dy}{e:HS}{f:Hp}(g:Goes R TR C T L FT D H D' S' H')(c:Goes R TR C T L FT D' H' b e f):Goes R TR C T L FT D H b e f:=
 ⟨g.toGoes0.trans c.toGoes0,λa h=>(c.fb a h).elim (g.fb a) λz=>.inr (g.al a z)⟩
theorem Rp.same(c:iA TR)(h:Rp R TR C T L FT D S H)(e:aL H H'):Rp R TR C T L FT D S H':=
 h.next c (λl v=>e _ _ (h.cells l v)) (λb o _ z=>e _ _ z) (λ_ _=>.inl rfl) (λl f v g z _ _=>by rw[h.cells l v] at z;cases z) h.bkl (λk a x e1 e2=>e _ _ (h.bk k a x e1 e2)) h.qsl (λk a x e1 e2=>e _ _ (h.qs k a x e1 e2))
theorem Goes0.same(a:iA TR)(h:Rp R TR C T L FT D S H)(e:aL H H'):Goes0 R TR C T L FT D H D S H':=⟨h.same a e,λb o _ z=>e _ _ z,λ_ _=>.inl rfl,λb z=>by
 cases y:H b with
 |none=>rfl
 |some o=>rw[e _ _ y] at z;cases z⟩
theorem Goes.same(a:iA TR)(h:Rp R TR C T L FT D S H)(e:aL H H'):Goes R TR C T L FT D H D S H':=⟨Goes0.same a h e,λ_ z=>.inl z⟩
def Rp.set(i:iA TR)(h:Rp R TR C T L FT D S H){l:Lb}(j:vl T l)(f:∀c:Lb,c.at L D'=c.at L D)(t:∀c,vl T c->c≠l->cont C T L D' S' c=cont C T L D S c)
  (q:D'.bk.length=S'.book.length) (n:∀(k:Nat) (a:eh) (e:Ent),D'.bk[k]? =some a->S'.book[k]? =some e->H a=some (.tup (QB e)))
  (p:D'.qs.length=S'.ends.length) (m:∀(k:Nat) (a:eh) (e:Nat×Str),D'.qs[k]? =some a->S'.ends[k]? =some e->H a=some (.tup (XB L e))):
  Goes0 R TR C T L FT D H D' S' (upd H (l.at L D) (cont C T L D' S' l)):=by
 have g:∀b o,(∀c,vl T c->b≠c.at L D)->H b=some o->(upd H (l.at L D) (cont C T L D' S' l)) b=some o:=λb o r e=>by rwa[ai (r l j)]
 have fr:∀c,vl T c->c.at L D'=c.at L D\/H (c.at L D')=none:=λc _=>.inl (f c);erw[⟨h.next i (λc v=>?_) g fr (λs w u y z _ _=>by rw[f,h.cells s u] at z;cases z) q (λk a x e1 e2=>g _ _ (h.Lr (n k a x e1 e2)) (n k a x e1 e2)) p (λk a x e1 e2=>g _ _ (h.Lr (m k a x e1 e2)) (m k a x e1 e2)),g,fr,λb z=>?_⟩]
 .rw[f];by_cases e:c.at L D=l.at L D
  .have:=h.inj c l v j e;subst this;erw[af]
  .rw[ai e,h.cells c v,t c v (λz=>e (by rw[z]))]
 .by_cases e:b=l.at L D
  .rw[e,af] at z;cases z
  .rw[ai e] at z;erw[z]
def Rp.node(a:iA TR)(h:Rp R TR C T L FT D S H){i:Nat}(b:i<T.length)(g:Nd->Nd)(m:(g (S.nd i)).ay=(S.nd i).ay)(c:(g (S.nd i)).wait=(S.nd i).wait):
  Goes R TR C T L FT D H D (up S i g) (upd H (L.nd i) (.ins (bx C T i) (L.dn i) (jE T L D (g (S.nd i)) i))):=by
 have:=h.set a (l:= .nd i) (D':=D) (S':=up S i g) b (λ_=>rfl) (λf v ne=>?_) h.bkl h.bk h.qsl h.qs
 .have e:cont C T L D (up S i g) (.nd i)=.ins (bx C T i) (L.dn i) (jE T L D (g (S.nd i)) i):=by
   show HO.ins _ _ (jE T L D ((up S i g).nd i) i)=_;rw[av]
  rw[e] at this;exact⟨this,λ_ z=>.inl z⟩
 .cases f with
  |hs=>rfl
  |en=>rfl
  |qu=>rfl
  |nd j=>
   have:j≠i:=λz=>ne (by rw[z]);show HO.ins _ _ (jE T L D ((up S i g).nd j) j)=_;rw[bG g this]
   rfl
  |fa j=>
   show HO.lst (((up S i g).nd j).ay.map V.int)=_;by_cases e:j=i
   .subst e;rw[av,m]
    rfl
   .rw[bG g e]
    rfl
  |wa j=>
   show HO.lst (((up S i g).nd j).wait.map _)=_;by_cases e:j=i
   .subst e;rw[av,c]
    rfl
   .rw[bG g e]
    rfl
def Rp.adx(c:iA TR)(h:Rp R TR C T L FT D S H){q:eh}{e:Ent}(g:H q=some (.tup (QB e))):
  Goes0 R TR C T L FT D H {D with bk:=D.bk++[q]} {S with book:=S.book++[e]} (upd H L.en (.lst ((D.bk++[q]).map V.ref))):=by
 erw[h.set c (l:= .en) (D':={D with bk:=D.bk++[q]}) (S':={S with book:=S.book++[e]}) trivial (λb=>by cases b<;>rfl) (λb v ne=>?_) (by rw[iv,iv,h.bkl];rfl) (λk a x e1 e2=>?_) h.qsl h.qs]
 .cases b with
  |en=>erw[absurd rfl ne]
  |_=>rfl
 .have e1:(D.bk++[q])[k]? =some a:=e1;have e2:(S.book++[e])[k]? =some x:=e2;by_cases f:k<D.bk.length
  .rw[yh f] at e1;rw[yh (by rwa[<- h.bkl])] at e2;erw[h.bk k a x e1 e2]
  .rw[Bj ()] at e1;rw[Bj (by rw[<- h.bkl];lia),<-h.bkl] at e2
   have k0:k-D.bk.length=0:=by
    have:=(pE.mp e1).1;have:k-D.bk.length<1:=this
    lia
   rw[k0] at e1 e2;cases e1;cases e2;erw[g]
def Rp.entry(c:iA TR)(h:Rp R TR C T L FT D S H){q:eh}(e:Ent)(f:H q=none):
  Goes R TR C T L FT D H {D with bk:=D.bk++[q]} {S with book:=S.book++[e]} (upd (upd H q (.tup (QB e))) L.en (.lst ((D.bk++[q]).map V.ref))):=by
 have j:aL H (upd H q (.tup (QB e))):=λb o z=>by rwa[ai (ao z f)]
 have g:=Goes0.same c h j;erw[⟨g.trans (g.rp.adx c (q:=q) (e:=e) af),λa i=>?_⟩];rcases ql.mp i with z|z
 .exact .inl z
 .rw[oi.mp z];erw[.inr f]
def Rp.Sk(c:iA TR)(h:Rp R TR C T L FT D S H){q:eh}{e:Nat×Str}(g:H q=some (.tup (XB L e))):
  Goes R TR C T L FT D H {D with qs:=D.qs++[q]} {S with ends:=S.ends++[e]} (upd H L.qu (.lst ((D.qs++[q]).map V.ref))):=by
 erw[⟨h.set c (l:= .qu) (D':={D with qs:=D.qs++[q]}) (S':={S with ends:=S.ends++[e]}) trivial (λb=>by cases b<;>rfl) (λb v ne=>?_) h.bkl h.bk (by rw[iv,iv,h.qsl];rfl) (λk a x e1 e2=>?_),λ_ z=>.inl z⟩]
 .cases b with
  |qu=>erw[absurd rfl ne]
  |_=>rfl
 .have e1:(D.qs++[q])[k]? =some a:=e1;have e2:(S.ends++[e])[k]? =some x:=e2;by_cases f:k<D.qs.length
  .rw[yh f] at e1;rw[yh (by rwa[<- h.qsl])] at e2;erw[h.qs k a x e1 e2]
  .rw[Bj ()] at e1;rw[Bj (by rw[<- h.qsl];lia),<-h.qsl] at e2
   have k0:k-D.qs.length=0:=by
    have:=(pE.mp e1).1;have:k-D.qs.length<1:=this
    lia
   rw[k0] at e1 e2;cases e1;cases e2;erw[g]
def fh(g:Nat->eh)(i:Nat)(q:eh):Nat->eh:=λj=>if j=i then q else g j
theorem bH(g:Nat->eh)(i:Nat)(q:eh):fh g i q i=q:=eT rfl
theorem eP{g:Nat->eh}{i j:Nat}(q:eh)(h:j≠i):fh g i q j=g j:=eJ h
def Rp.anew(p:iA TR)(h:Rp R TR C T L FT D S H){i:Nat}(n:i<T.length){q:eh}(f:H q=none){l0:Lb}(O:vl T l0)(N:l0≠ .nd i)(j:D'.bk=D.bk)(g:D'.qs=D.qs)(t:S'.book=S.book)(s:S'.ends=S.ends)
  (u:l0.at L D'=q) (r:∀l:Lb,l≠l0->l.at L D'=l.at L D) (I:∀l,vl T l->l≠l0->l≠ .nd i->cont C T L D' S' l=cont C T L D S l):
  Goes0 R TR C T L FT D H D' S' (upd (upd H q (cont C T L D' S' l0)) (L.nd i) (cont C T L D' S' (.nd i))):=by
 have w:=h.cells (.nd i) n;have E:q≠L.nd i:=λz=>by rw[z] at f;rw[show (Lb.nd i).at L D=L.nd i from rfl,f] at w;cases w
 have m:∀b o,(∀c,vl T c->b≠c.at L D)->H b=some o->(upd (upd H q (cont C T L D' S' l0)) (L.nd i) (cont C T L D' S' (.nd i))) b=some o:=λb o j e=>by
  rwa[ai (show b≠L.nd i from j (.nd i) n),ai (ao e f)]
 have fr:∀c,vl T c->c.at L D'=c.at L D\/H (c.at L D')=none:=λc _=>by
  by_cases e:c=l0
  .right
   rwa[e,u]
  .exact .inl (r c e)
 erw[⟨h.next p (λc v=>?_) m fr (λF K J A B M e=>?_) (by rw[j,t];exact h.bkl) (λk a x e1 e2=>?_) (by rw[g,s];exact h.qsl) (λk a x e1 e2=>?_),m,fr,λb z=>?_⟩]
 .by_cases e1:c=.nd i
  .rw[e1];erw[af]
  .by_cases e2:c=l0
   .rw[e2,u,ai E];erw[af]
   .rw[r c e2];have y:c.at L D≠L.nd i:=λz=>e1 (h.inj c (.nd i) v n z);have G:c.at L D≠q:=λz=>by rw[<- z,h.cells c v] at f;cases f
    rw[ai y,ai G,h.cells c v,I c v e2 e1]
 .have only:∀l,vl T l->H (l.at L D')=none->l=l0:=λl v z=>by
   by_cases e:l=l0
   .exact e
   .rw[r l e,h.cells l v] at z;cases z
  rw[only F J B,only K A M]
 .rw[j] at e1;rw[t] at e2;erw[m _ _ (h.Lr (h.bk k a x e1 e2)) (h.bk k a x e1 e2)]
 .rw[g] at e1;rw[s] at e2;erw[m _ _ (h.Lr (h.qs k a x e1 e2)) (h.qs k a x e1 e2)]
 .by_cases e1:b=L.nd i
  .rw[e1,af] at z;cases z
  .rw[ai e1] at z;by_cases e2:b=q
   .rwa[e2]
   .rw[ai e2] at z;erw[z]
def Rp.afe(a:iA TR)(h:Rp R TR C T L FT D S H){i:Nat}(b:i<T.length)(f:fk T i=false){q:eh}(m:H q=none)(g:Nd->Nd)(o:(g (S.nd i)).wait=(S.nd i).wait):
  Goes R TR C T L FT D H {D with fa:=fh D.fa i q} (up S i g) (upd (upd H q (.lst ((g (S.nd i)).ay.map V.int))) (L.nd i) (.ins (bx C T i) (L.dn i) (jE T L {D with fa:=fh D.fa i q} (g (S.nd i)) i))):=by
 have e1:cont C T L {D with fa:=fh D.fa i q} (up S i g) (.fa i)=.lst ((g (S.nd i)).ay.map V.int):=by
  show HO.lst (((up S i g).nd i).ay.map V.int)=_;rw[av]
 have e2:cont C T L {D with fa:=fh D.fa i q} (up S i g) (.nd i)=.ins (bx C T i) (L.dn i) (jE T L {D with fa:=fh D.fa i q} (g (S.nd i)) i):=by
  show HO.ins _ _ (jE T L _ ((up S i g).nd i) i)=_;rw[av]
 rw[<- e1,<-e2];erw[⟨h.anew a b m (l0:= .fa i) ⟨b,f⟩ (λz=>by cases z) rfl rfl rfl rfl (bH _ _ _) (λl p=>?_) (λl v r c=>?_),λ_ z=>.inl z⟩]
 .cases l with
  |fa j=>erw[eP q (λz=>p (by rw[z]))]
  |_=>rfl
 .cases l with
  |nd j=>
   have n:j≠i:=λz=>c (by rw[z]);show HO.ins _ _ (jE T L _ ((up S i g).nd j) j)=_;rw[bG g n];show HO.ins _ _ (mn T L (S.nd j) j++if fk T j then Sz (S.nd j) else nS (fh D.fa i q j) (D.wa j) (S.nd j))=_;rw[eP q n]
   rfl
  |fa j=>
   have n:j≠i:=λz=>r (by rw[z]);show HO.lst (((up S i g).nd j).ay.map V.int)=_;rw[bG g n]
   rfl
  |wa j=>
   show HO.lst (((up S i g).nd j).wait.map _)=_;by_cases e:j=i
   .subst e;rw[av,o]
    rfl
   .rw[bG g e]
    rfl
  |_=>rfl
def Rp.acj(a:iA TR)(h:Rp R TR C T L FT D S H){i:Nat}(b:i<T.length)(m:fk T i=false){q:eh}(c:H q=none)(g:Nd->Nd)(o:(g (S.nd i)).ay=(S.nd i).ay):
  Goes R TR C T L FT D H {D with wa:=fh D.wa i q} (up S i g) (upd (upd H q (.lst ((g (S.nd i)).wait.map λj=>V.ref (L.nd j)))) (L.nd i) (.ins (bx C T i) (L.dn i) (jE T L {D with wa:=fh D.wa i q} (g (S.nd i)) i))):=by
 have e1:cont C T L {D with wa:=fh D.wa i q} (up S i g) (.wa i)=.lst ((g (S.nd i)).wait.map λj=>V.ref (L.nd j)):=by
  show HO.lst (((up S i g).nd i).wait.map _)=_;rw[av]
 have e2:cont C T L {D with wa:=fh D.wa i q} (up S i g) (.nd i)=.ins (bx C T i) (L.dn i) (jE T L {D with wa:=fh D.wa i q} (g (S.nd i)) i):=by
  show HO.ins _ _ (jE T L _ ((up S i g).nd i) i)=_;rw[av]
 rw[<- e1,<-e2];erw[⟨h.anew a b c (l0:= .wa i) ⟨b,m⟩ (λz=>by cases z) rfl rfl rfl rfl (bH _ _ _) (λl p=>?_) (λl v r f=>?_),λ_ z=>.inl z⟩]
 .cases l with
  |wa j=>erw[eP q (λz=>p (by rw[z]))]
  |_=>rfl
 .cases l with
  |nd j=>
   have n:j≠i:=λz=>f (by rw[z]);show HO.ins _ _ (jE T L _ ((up S i g).nd j) j)=_;rw[bG g n];show HO.ins _ _ (mn T L (S.nd j) j++if fk T j then Sz (S.nd j) else nS (D.fa j) (fh D.wa i q j) (S.nd j))=_;rw[eP q n]
   rfl
  |wa j=>
   have n:j≠i:=λz=>r (by rw[z]);show HO.lst (((up S i g).nd j).wait.map _)=_;rw[bG g n]
   rfl
  |fa j=>
   show HO.lst (((up S i g).nd j).ay.map V.int)=_;by_cases e:j=i
   .subst e;rw[av,o]
    rfl
   .rw[bG g e]
    rfl
  |_=>rfl
theorem Rp.tick(a:iA TR)(h:Rp R TR C T L FT D S H)(c:Int):Goes R TR C T L FT D H D {S with clk:=c} (upd H L.x (.ins C.cH L.dx (zJ L {S with clk:=c}))):=
 ⟨h.set a (l:= .hs) (D':=D) (S':={S with clk:=c}) trivial (λ_=>rfl) (λb v ne=>by
  cases b with
  |hs=>erw[absurd rfl ne]
  |_=>rfl) h.bkl h.bk h.qsl h.qs,λ_ z=>.inl z⟩
def Rp.popped(f:iA TR)(h:Rp R TR C T L FT D S H){a:eh}{r:List eh}{e:Nat×Str}{es:List (Nat×Str)}(g:D.qs=a::r)(i:S.ends=e::es):
  Goes R TR C T L FT D H {D with qs:=r} {S with ends:=es} (upd H L.qu (.lst (r.map V.ref))):=by
 erw[⟨h.set f (l:= .qu) (D':={D with qs:=r}) (S':={S with ends:=es}) trivial (λc=>by cases c<;>rfl) (λc v ne=>?_) h.bkl h.bk ?_ (λk b x e1 e2=>?_),λ_ z=>.inl z⟩]
 .cases c with
  |qu=>erw[absurd rfl ne]
  |_=>rfl
 .have:=h.qsl;rw[g,i] at this;erw[Nat.succ.inj this]
 .exact h.qs (k+1) b x (by rwa[g]) (by rwa[i])
def Rp.ab6(a:iA TR)(h:Rp R TR C T L FT D S H){i:Nat}(b:i<T.length)(c:fk T i=false)(w:List Nat):
  Goes R TR C T L FT D H D (up S i λd=>{d with wait:=w}) (upd H (D.wa i) (.lst (w.map λj=>V.ref (L.nd j)))):=by
 have:=h.set a (l:= .wa i) (D':=D) (S':=up S i λd=>{d with wait:=w}) ⟨b,c⟩ (λ_=>rfl) (λf v ne=>?_) h.bkl h.bk h.qsl h.qs
 .have e:cont C T L D (up S i λd=>{d with wait:=w}) (.wa i)=.lst (w.map λj=>V.ref (L.nd j)):=by
   show HO.lst (((up S i _).nd i).wait.map _)=_;rw[av]
  rw[e] at this;exact⟨this,λ_ z=>.inl z⟩
 .cases f with
  |hs=>rfl
  |en=>rfl
  |qu=>rfl
  |nd j=>
   show HO.ins _ _ (jE T L D ((up S i _).nd j) j)=_;by_cases e:j=i
   .subst e;rw[av]
    rfl
   .rw[bG _ e]
    rfl
  |fa j=>
   show HO.lst (((up S i _).nd j).ay.map V.int)=_;by_cases e:j=i
   .subst e;rw[av]
    rfl
   .rw[bG _ e]
    rfl
  |wa j=>
   show HO.lst (((up S i _).nd j).wait.map _)=_;rw[bG _ (λz=>ne (by rw[z]))]
   rfl
def Rp.aep(a:iA TR)(h:Rp R TR C T L FT D S H){i:Nat}(b:i<T.length)(c:fk T i=false)(w:List Int):
  Goes R TR C T L FT D H D (up S i λd=>{d with ay:=w}) (upd H (D.fa i) (.lst (w.map V.int))):=by
 have:=h.set a (l:= .fa i) (D':=D) (S':=up S i λd=>{d with ay:=w}) ⟨b,c⟩ (λ_=>rfl) (λf v ne=>?_) h.bkl h.bk h.qsl h.qs
 .have e:cont C T L D (up S i λd=>{d with ay:=w}) (.fa i)=.lst (w.map V.int):=by
   show HO.lst (((up S i _).nd i).ay.map _)=_;rw[av]
  rw[e] at this;exact⟨this,λ_ z=>.inl z⟩
 .cases f with
  |hs=>rfl
  |en=>rfl
  |qu=>rfl
  |nd j=>
   show HO.ins _ _ (jE T L D ((up S i _).nd j) j)=_;by_cases e:j=i
   .subst e;rw[av]
    rfl
   .rw[bG _ e]
    rfl
  |wa j=>
   show HO.lst (((up S i _).nd j).wait.map _)=_;by_cases e:j=i
   .subst e;rw[av]
    rfl
   .rw[bG _ e]
    rfl
  |fa j=>
   show HO.lst (((up S i _).nd j).ay.map V.int)=_;rw[bG _ (λz=>ne (by rw[z]))]
   rfl
def Rp.aeu(s:iA TR)(h:Rp R TR C T L FT D S H){i:Nat}(p:i<T.length)(Q:fk T i=false){q:eh}(t:H q=none){g:Hp}(r:aL H g)(w:List Int)(B:g q=some (.lst (w.map V.int))):
  Goes R TR C T L FT D H {D with fa:=fh D.fa i q} (up S i λd=>{d with ay:=w}) (upd g (L.nd i) (.ins (bx C T i) (L.dn i) (jE T L {D with fa:=fh D.fa i q} {S.nd i with ay:=w} i))):=by
 have K:H (L.nd i)=_:=h.cells (.nd i) p;have I:q≠L.nd i:=Ne.symm (ao K t)
 have m:∀b o,(∀c,vl T c->b≠c.at L D)->H b=some o->(upd g (L.nd i) (.ins (bx C T i) (L.dn i) (jE T L {D with fa:=fh D.fa i q} {S.nd i with ay:=w} i))) b=some o:=λb o F e=>by
  rw[ai (show b≠L.nd i from F (.nd i) p)];erw[r _ _ e]
 have f:∀c:Lb,c≠ .fa i->c.at L {D with fa:=fh D.fa i q}=c.at L D:=λl M=>by
  cases l with
  |fa j=>erw[eP q (λz=>M (by rw[z]))]
  |_=>rfl
 have u:(Lb.fa i).at L {D with fa:=fh D.fa i q}=q:=bH _ _ _
 have fr:∀c,vl T c->c.at L {D with fa:=fh D.fa i q}=c.at L D\/H (c.at L {D with fa:=fh D.fa i q})=none:=λc _=>by
  by_cases e:c=.fa i
  .right
   rwa[e,u]
  .exact .inl (f c e)
 erw[⟨⟨h.next s (λc v=>?_) m fr (λJ O N E G P e=>?_) h.bkl (λk a x e1 e2=>m _ _ (h.Lr (h.bk k a x e1 e2)) (h.bk k a x e1 e2)) h.qsl (λk a x e1 e2=>m _ _ (h.Lr (h.qs k a x e1 e2)) (h.qs k a x e1 e2)),m,fr,λb z=>?_⟩,λ_ z=>.inl z⟩]
 .by_cases e1:c=.nd i
  .subst e1;show(upd g (L.nd i) _) (L.nd i)=some (.ins (bx C T i) (L.dn i) (jE T L {D with fa:=fh D.fa i q} ((up S i λd=>{d with ay:=w}).nd i) i));rw[av];erw[af]
  .by_cases e2:c=.fa i
   .subst e2;rw[u,ai I,B];show _=some (HO.lst (((up S i λd=>{d with ay:=w}).nd i).ay.map V.int));rw[av]
   .rw[f c e2];have A:c.at L D≠L.nd i:=λz=>e1 (h.inj c (.nd i) v p z);rw[ai A,r _ _ (h.cells c v)];cases c with
    |hs=>rfl
    |en=>rfl
    |qu=>rfl
    |nd j=>
     have n:j≠i:=λz=>e1 (by rw[z]);show some (HO.ins _ _ (jE T L D (S.nd j) j))=some (HO.ins _ _ (jE T L {D with fa:=fh D.fa i q} ((up S i _).nd j) j));rw[bG _ n];show _=some (HO.ins _ _ (mn T L (S.nd j) j++if fk T j then Sz (S.nd j) else nS (fh D.fa i q j) (D.wa j) (S.nd j)));rw[eP q n]
     rfl
    |fa j=>
     have n:j≠i:=λz=>e2 (by rw[z]);show some (HO.lst ((S.nd j).ay.map V.int))=some (HO.lst (((up S i _).nd j).ay.map V.int));rw[bG _ n]
    |wa j=>
     show some (HO.lst ((S.nd j).wait.map _))=some (HO.lst (((up S i _).nd j).wait.map _));by_cases e:j=i
     .subst e;rw[av]
     .rw[bG _ e]
 .have only:∀l,vl T l->H (l.at L {D with fa:=fh D.fa i q})=none->l=.fa i:=λl v z=>by
   by_cases e:l=.fa i
   .exact e
   .rw[f l e,h.cells l v] at z;cases z
  rw[only J N G,only O E P]
 .by_cases e1:b=L.nd i
  .rw[e1,af] at z;cases z
  .rw[ai e1] at z;cases y:H b with
   |none=>rfl
   |some o=>rw[r _ _ y] at z;cases z
end
end Hr
namespace L2
open PySem PySem.Spec PyProof.Rows
section
variable(K:fD)
def Nos:List String->Prop
 |[]=>True
 |x::r=>BR K mainGlobals (KP x)=some none/\Nos r
def Gls:List (String×eh)->Prop
 |[]=>True
 |(x,a)::r=>BR K mainGlobals (KP x)=some (some (.ref a))/\Gls r
def ES(C:eh):List (String×eh)->Prop
 |[]=>True
 |(m,f)::r=>pq K (.ref C) (KP m)=some (some (.ref f))/\ES C r
def Es(C:eh):List String->Prop
 |[]=>True
 |f::r=>pq K (.ref C) (KP f)=some none/\Es C r
def Fv(C:eh):Prop:=aiW K C aj4=true/\ajp K C=true/\akl K C=true/\pq K (.ref C) "__setattr__"=some (some (.builtin "object.__setattr__"))
def E2(C:eh):Prop:=akJ K C=true/\KX K (.ref C)=true
def ByV(C:eh)(m:Str)(f:eh):Prop:=akm K (.ref C) "__getattribute__"=some (some (.builtin "type.__getattribute__"))/\amv K C (.type "type")=true/\amw K (.ref C) (.type "type") m=some (.val (.ref f))
def adp(a:eh)(x b:Str)(st:fy)(i e:ez)(h:Option eh)(m n j:ez)(f:Option eh)(c g:ez)(l:Array (Option ez)):Prop:=
 K.lookup a=some ⟨e,h,.func (Fd x b (nW st) (cR st) (ah st) i m n j f c g),l⟩/\aj1 K c b=true/\KX K (.ref a)=true/\akw K (.ref a)=true
end
section
variable{K:fD}{a C:eh}{x qual m:Str}{st:fy}{dv vo vk vg vp vv vu:ez}{od oa:Option eh}{sl:Array (Option ez)}
theorem adp.d(h:adp K a x qual st dv vo od vk vg vp oa vv vu sl):aG K x qual st dv a (Fd x qual (nW st) (cR st) (ah st) dv vk vg vp oa vv vu):=ZV h.1 h.2.1 h.2.2.1
def aQ(K:fD)(a:eh)(x qual:Str)(st:fy)(dv:ez):Prop:=∃vo od vk vg vp oa vv vu sl,adp K a x qual st dv vo od vk vg vp oa vv vu sl
theorem aQ.d(h:aQ K a x qual st dv):∃fd,aG K x qual st dv a fd:=let ⟨_,_,_,_,_,_,_,_,_,h⟩:=h;⟨_,h.d⟩
theorem aQ.mt(h:aQ K a x qual st dv)(f:pq K (.ref C) m=some (some (.ref a))):Meth K C m a:=let ⟨_,_,_,_,_,_,_,_,_,h⟩:=h;⟨f,h.2.2.2,h.2.2.1⟩
theorem aQ.mk(h:aQ K a x qual st dv)(f:pq K (.ref C) "__init__"=some (some (.ref a)))(k:E2 K C):Mk K C a:=let ⟨_,_,_,_,_,_,_,_,_,h⟩:=h;⟨k.1,f,h.2.2.2,k.2⟩
theorem aQ.bc(h:aQ K a x qual st dv)(b:ByV K C m a):Xa K C m a:=let ⟨_,_,_,_,_,_,_,_,_,h⟩:=h;⟨b.1,b.2.1,b.2.2,h.2.2.1⟩
def abc(K:fD)(C:eh):Prop:=pq K (.ref C) "__getattribute__"=some (some (.builtin "BaseException.__getattribute__"))/\pq K (.ref C) "__getattr__"=some none/\pq K (.ref C) "__class__"=some (some (.builtin "object.__class__"))/\su K C (.type "BaseException")=some true/\su K C (.type "object")=some true
theorem abc.xi(h:abc K C):Jx K C:=⟨h.1,h.2.1,h.2.2.1,h.2.2.2.1,h.2.2.2.2⟩
def aG.bl{fd:oT}{p:oT->Prop}(F:aG K x qual st dv a fd)(h:∀kV c f e b ct,p (Fd x qual (nW st) (cR st) (ah st) dv kV c f e b ct)):p fd:=by
 obtain⟨_,_,kV,c,f,e,b,ct,_,rfl,_⟩:=F.ex;erw[h ..]
theorem Fv.d(h:Fv K C):pJ K C:=⟨h.1,h.2.1,h.2.2.1,h.2.2.2⟩
variable{P:hD}{w:gT}{mg:Str->Option ez}{dX:gm}{cm:Bool}{k:Nat}{f:eh}{fd:oT}{ps:List Str}{sp:Sp}{spC:eh->Sp}
def Wd(_:hD)(_:gT)(_:fD)(_:Str->Option ez)(_:gm):Prop:=True
theorem mkH(_:Wd P w K mg dX)(c:pJ K C)(h:Meth K C m f)(b:Binds K fd ps [])(ok:aD P w K mg dX (fm P w) true k f fd ps (spC C)):Shp.aR P w K mg dX k m spC λg=>g=C:=λg e=>by subst e;exact⟨f,fd,ps,[],c,h,ok,b,.nil⟩
theorem mkM{y:Str}(_:Wd P w K mg dX)(q:mg y=some (.ref C))(M:Mk K C f)(b:Binds K fd ps [])(ok:aD P w K mg dX (fm P w) cm k f fd ps sp):zk P w K mg dX cm k y C sp []:=⟨f,fd,ps,[],M,ok,q,b,.nil⟩
def afd{h:gm}{y:Str}(X:K.In h)(G:h.Ns mainGlobals mg)(_:Wd P w K mg dX)(q:BR K mainGlobals y=some (some (.ref f)))(v:aQ K f x qual st dv)(ok:∀fd,aG K x qual st dv f fd->aD P w K mg dX (fm P w) cm k f fd ps sp)(b:∀fd,aG K x qual st dv f fd->Binds K fd ps []):iu P w K mg dX cm k y sp []:=by
 obtain⟨fd,F⟩:=v.d;exact⟨f,fd,ps,[],ok fd F,mE X G q,F.kp,b fd F,.nil⟩
def aeW(e:Wd P w K mg dX)(c:pJ K C)(g:pq K (.ref C) m=some (some (.ref f)))(v:aQ K f x qual st dv)(ok:∀fd,aG K x qual st dv f fd->aD P w K mg dX (fm P w) true k f fd ps (spC C))(b:∀fd,aG K x qual st dv f fd->Binds K fd ps []):Shp.aR P w K mg dX k m spC λh=>h=C:=by
 obtain⟨fd,F⟩:=v.d;erw[mkH e c (v.mt g) (b fd F) (ok fd F)]
end
section
variable{α:Type}{p:List α->Prop}
theorem ti(z:∀a,p [a]):∀us:List α,us.length=1->p us
 |[a],_=>z a
theorem ln2(z:∀a b,p [a,b]):∀us:List α,us.length=2->p us
 |[a,b],_=>z a b
theorem ln3(z:∀a b c,p [a,b,c]):∀us:List α,us.length=3->p us
 |[a,b,c],_=>z a b c
theorem ln4(z:∀a b c d,p [a,b,c,d]):∀us:List α,us.length=4->p us
 |[a,b,c,d],_=>z a b c d
theorem ln5(z:∀a b c d e,p [a,b,c,d,e]):∀us:List α,us.length=5->p us
 |[a,b,c,d,e],_=>z a b c d e
theorem ln6(z:∀a b c d e f,p [a,b,c,d,e,f]):∀us:List α,us.length=6->p us
 |[a,b,c,d,e,f],_=>z a b c d e f
theorem lnD{ds:List α}{k n:Nat}(e:n+ds.length=k)(h:∀us:List α,us.length=n->p us)(us:List α)(q:(us++ds).length=k):p us:=h us (by rw[iv] at q;lia)
end
section
variable{P:hD}{w:gT}{K:fD}{mg:Str->Option ez}{dX:gm}{cm:Bool}{k:Nat}{f a C:eh}{fd:oT}{ps:List Str}{sp:Sp}{spC:eh->Sp}{x qual m:Str}{st:fy}{dv:ez}
theorem gE{h:gm}{y:Str}(X:K.In h)(G:h.Ns mainGlobals mg)(e:Wd P w K mg dX)(q:BR K mainGlobals y=some (some (.ref f)))(v:aQ K f x qual st dv)(ok:∀fd,aG K x qual st dv f fd->aD P w K mg dX (fm P w) cm k f fd ps sp)
  (b:∀fd,aG K x qual st dv f fd->Binds K fd ps []:=by intro _ F;first|exact F.binds λ_ _ _ _ _ _=>ti λ_=>rfl|exact F.binds λ_ _ _ _ _ _=>ln2 λ_ _=>rfl|exact F.binds λ_ _ _ _ _ _=>ln3 λ_ _ _=>rfl|exact F.binds λ_ _ _ _ _ _=>ln0 rfl|exact F.binds λ_ _ _ _ _ _=>ln4 λ_ _ _ _=>rfl|exact F.binds λ_ _ _ _ _ _=>ln5 λ_ _ _ _ _=>rfl|exact F.binds λ_ _ _ _ _ _=>ln6 λ_ _ _ _ _ _=>rfl|exact F.binds λ_ _ _ _ _ _=>ln7 λ_ _ _ _ _ _ _=>rfl|erw[F.binds λ_ _ _ _ _ _=>ln8 λ_ _ _ _ _ _ _ _=>rfl]):iu P w K mg dX cm k y sp []:=afd X G e q v ok b
theorem i9(e:Wd P w K mg dX)(c:pJ K C)(h:pq K (.ref C) m=some (some (.ref f)))(v:aQ K f x qual st dv)(ok:∀fd,aG K x qual st dv f fd->aD P w K mg dX (fm P w) true k f fd ps (spC C))
  (b:∀fd,aG K x qual st dv f fd->Binds K fd ps []:=by intro _ F;first|exact F.binds λ_ _ _ _ _ _=>ti λ_=>rfl|exact F.binds λ_ _ _ _ _ _=>ln2 λ_ _=>rfl|exact F.binds λ_ _ _ _ _ _=>ln3 λ_ _ _=>rfl|exact F.binds λ_ _ _ _ _ _=>ln0 rfl|exact F.binds λ_ _ _ _ _ _=>ln4 λ_ _ _ _=>rfl|exact F.binds λ_ _ _ _ _ _=>ln5 λ_ _ _ _ _=>rfl|exact F.binds λ_ _ _ _ _ _=>ln6 λ_ _ _ _ _ _=>rfl|exact F.binds λ_ _ _ _ _ _=>ln7 λ_ _ _ _ _ _ _=>rfl|erw[F.binds λ_ _ _ _ _ _=>ln8 λ_ _ _ _ _ _ _ _=>rfl]):Shp.aR P w K mg dX k m spC λg=>g=C:=aeW e c h v ok b
end
end L2
namespace Hm
open PySem Shp Tr Hs
def dp(T:List Row)(i:Nat):Nat:=(T.getD i default).dep
def uL{T:List Row}(h:fO T){k:Nat}(r:0<k)(g:k<T.length):∃j,par T k=some j/\j<k/\dp T j+1=dp T k/\fk T j=false/\∀x,j<x->x<k->dp T k<=dp T x:=by
 have a:=h.fit k g;unfold fits at a;rw[eJ ()] at a;obtain⟨s,q,j,b⟩:=a;obtain⟨n,p,c,l⟩:=NJ T k (λi o=>Qg (h.fit i ())) _ j true b
 have m:bz T k=(j:Int):=by
  unfold bz;rw[b];show(if k=0 then (-1:Int) else (j:Int))=j;rw[eJ ()]
 erw[⟨j,?_,n,?_,?_,λx f e=>?_⟩]
 .unfold par;rw[m,eJ (),M0]
 .unfold dp
  lia
 .unfold fk sh;have:=gD c;erw[ik ()]
 .have:=l x f e;unfold dp
  lia
def Yw{T:List Row}(h:fO T):dp T 0=0/\fk T 0=false:=by
 have b:0<T.length:=ai7.mpr h.ne;have a:=h.fit 0 b;unfold fits at a;rw[eT rfl] at a;erw[⟨a.1,?_⟩];have:=gD a.2;unfold fk sh;erw[ik ()]
def Ub{T:List Row}(h:fO T){k:Nat}(b:k<T.length):dp T k<=8:=by
 have a:=h.fit k b;unfold fits at a
 split at a
 .have:dp T k=0:=a.1
  lia
 .exact a.2.1
def LA(p:Nat->Bool):Nat->Nat->Nat
 |0,a=>a
 |f+1,a=>if p a=true then LA p f (a+1) else a
theorem XA(p:Nat->Bool):∀f a,a<=LA p f a/\LA p f a<=a+f/\(∀x,a<=x->x<LA p f a->p x=true)/\(LA p f a=a+f\/p (LA p f a)=false)
 |0,a=>⟨fx _,fx _,λx c b=>absurd (ry c b) (F6 _),.inl rfl⟩
 |f+1,a=>by
  unfold LA;by_cases h:p a=true
  .rw[eT h];obtain⟨l,j,i,g⟩:=XA p f (a+1);refine⟨(),(),λx c b=>?_,?_⟩
   .by_cases e:x=a
    .rwa[e]
    .exact i x () b
   .rcases g with z|z
    .left;lia
    .exact .inr z
  .rw[eJ h];erw[⟨fx _,(),λx c b=>absurd (ry c b) (F6 _),.inr ?_⟩];cases z:p a with
   |true=>erw[absurd z h]
   |false=>rfl
def en(T:List Row)(i:Nat):Nat:=LA (λk=>decide (dp T i<dp T k)) (T.length-(i+1)) (i+1)
def eS{T:List Row}{i:Nat}(h:i<T.length):i<en T i/\en T i<=T.length/\(∀x,i<x->x<en T i->dp T i<dp T x)/\(en T i=T.length\/dp T (en T i)<=dp T i):=by
 obtain⟨g,c,f,b⟩:=XA (λk=>decide (dp T i<dp T k)) (T.length-(i+1)) (i+1);erw[⟨g,?_,λx e a=>gD (f x e a),?_⟩]
 .have:en T i<=i+1+(T.length-(i+1)):=c;omega
 .rcases b with z|z
  .left
   have:en T i=i+1+(T.length-(i+1)):=z;omega
  .right
   have:=yV z;show dp T (LA _ _ _)<=_;omega
section
variable{T:List Row}
def um(h:fO T){i k:Nat}(c:k<T.length)(a:par T k=some i):i<k/\k<en T i/\dp T k=dp T i+1:=by
 have f:0<k:=by
  cases k with
  |zero=>cases a
  |succ k=>erw[ajR _]
 obtain⟨j,b,g,m,l,e⟩:=uL h f c;rw[a] at b;cases b;obtain⟨e1,e2,e3,e4⟩:=eS (T:=T) (i:=i) ();erw[⟨g,?_,()⟩];by_cases z:k<en T i
 .exact z
 .rcases e4 with y|y
  .lia
  .by_cases w:en T i=k
   .rw[w] at y
    lia
   .have:=e (en T i) e1 ()
    lia
def K3(h:fO T){i a:Nat}(b:i<T.length)(f:i<a)(g:a<en T i)(hd:dp T a=dp T i+1):par T a=some i:=by
 obtain⟨e1,e2,e3,e4⟩:=eS b;obtain⟨j,e,n,m,l,c⟩:=uL h () (show a<T.length by lia);rw[e]
 congr 1
 by_cases z:j=i
 .exact z
 .by_cases y:j<i
  .have:=c i y f
   lia
  .have:=e3 j () ()
   lia
def ab7(h:fO T){i a:Nat}(e:i<T.length)(j:i<a)(b:a<en T i):en T a<=en T i/\(dp T a=dp T i+1->en T a=en T i\/dp T (en T a)=dp T i+1):=by
 obtain⟨e1,e2,e3,e4⟩:=eS e;obtain⟨l,m,g,c⟩:=eS (T:=T) (i:=a) ()
 have f:en T a<=en T i:=by
  by_cases z:en T a<=en T i
  .exact z
  .have d1:=e3 a j b;have d2:=g (en T i) () ();rcases e4 with y|y<;>lia
 erw[⟨f,λhd=>?_⟩];by_cases z:en T a=en T i
 .exact .inl z
 .right
  have d2:=e3 (en T a) () ();rcases c with y|y<;>lia
def ug(T:List Row)(c:Int)(k:Nat)(d:Nd):Nd:=if fk T k then {d with st:="on",asked:=false,beg:=c,steps:=0} else forget {d with st:="on",asked:=false}
def ent(T:List Row)(c:Int)(wd:Str)(k:Nat):Ent:=(c,wd,(sh T k).name)
def jK(T:List Row)(a e:Nat)(S:HS):HS:={S with book:=S.book++(iH a (e-a)).map (ent T S.clk "begun"),nd:=λk=>if a<=k/\k<e then ug T S.clk k (S.nd k) else S.nd k}
def G5(a:Nat)(S:HS):jK T a a S=S:=by
 unfold jK;rw[zy];show({S with book:=S.book++[],nd:=_}:HS)=S;rw[ov]
 have:(λk=>if a<=k/\k<a then ug T S.clk k (S.nd k) else S.nd k)=S.nd:=by
  funext k
  rw[eJ ()]
 rw[this]
def Ot{a b c:Nat}(g:a<=b)(f:b<=c)(S:HS):jK T b c (jK T a b S)=jK T a c S:=by
 unfold jK
 have e1:iH a (c-a)=iH a (b-a)++iH b (c-b):=by
  rw[show c-a=(b-a)+(c-b) by lia,<-aia,show a+(b-a)=b by lia]
 congr 1
 .show (S.book++_)++_=_;rw[e1,js,wH]
 .funext k
  show(if b<=k/\k<c then ug T S.clk k (if a<=k/\k<b then _ else _) else if a<=k/\k<b then _ else _)=_;by_cases e:a<=k/\k<b
  .rw[eJ (),eT e,eT ()]
  .by_cases z2:b<=k/\k<c
   .rw[eT z2,eJ e,eT ()]
   .rw[eJ z2,eJ e,eJ ()]
def ad7{S S':HS}(h:S.clk=S'.clk)(e:S.book=S'.book)(g:S.ends=S'.ends)(f:∀k,S.nd k=S'.nd k):S=S':=by
 obtain⟨a,b,c,d⟩:=S;obtain⟨i,l,j,d'⟩:=S';have h:a=i:=h;have e:b=l:=e;have g:c=j:=g;have f:d=d':=funext f;rw[h,e,g,f]
def WX(i:Nat)(S:HS):write T "begun" i (oF T i S)=jK T i (i+1) S:=by
 erw[ad7 rfl ?_ rfl (λk=>?_)]
 .show S.book++([(S.clk,"begun",(sh T i).name)]:List Ent)=S.book++(iH i (i+1-i)).map (ent T S.clk "begun");rw[show i+1-i=1 by lia]
  rfl
 .show (if k=i then (if fk T i then _ else _) else S.nd k)=if i<=k/\k<i+1 then ug T S.clk k (S.nd k) else S.nd k;by_cases e:k=i
  .subst e;rw[eT rfl,eT (show k<=k/\k<k+1 by lia)]
   rfl
  .rw[eJ e,eJ ()]
def A5(h:fO T){i:Nat}(l:i<T.length):kids T i=(iH (i+1) (en T i-(i+1))).filter λj=>decide (par T j=some i):=by
 obtain⟨e1,e2,e3,e4⟩:=eS l;unfold kids
 have e:gG T.length=iH 0 (i+1)++(iH (i+1) (en T i-(i+1))++iH (en T i) (T.length-en T i)):=by
  have c:=aia (s:=i+1) (m:=en T i-(i+1)) (n:=T.length-en T i);rw[show i+1+(en T i-(i+1))=en T i by lia,show en T i-(i+1)+(T.length-en T i)=T.length-(i+1) by lia] at c;rw[c];have b:=aia (s:=0) (m:=i+1) (n:=T.length-(i+1));rw[show 0+(i+1)=i+1 by lia,show i+1+(T.length-(i+1))=T.length by lia] at b;rw[b,ai0]
 rw[e,qH,qH]
 have f:(iH 0 (i+1)).filter (λj=>decide (par T j=some i))=[]:=aik.mpr λj a z=>by
  have:=(um h (by have:=(aiR.mp a).2;lia) (gD z)).1;have:=(aiR.mp a).2
  lia
 have g:(iH (en T i) (T.length-en T i)).filter (λj=>decide (par T j=some i))=[]:=aik.mpr λj a z=>by
  have a:=aiR.mp a;have:=(um h () (gD z)).2.1
  lia
 rw[f,g,ov,wg]
def Vm(h:fO T){i:Nat}(b:i<T.length)(f:HS->Nat->HS)(w:∀j S,j<T.length->par T j=some i->f S j=jK T j (en T j) S):∀(m a:Nat),en T i-a<=m->i<a->a<=en T i->(a=en T i\/dp T a=dp T i+1)->∀S,
  ((iH a (en T i-a)).filter λj=>decide (par T j=some i)).foldl f S=jK T a (en T i) S:=by
 obtain⟨e1,e2,e3,e4⟩:=eS b;intro m
 induction m with
 |zero=>
  intro a r c p _ S;have:a=en T i:=by lia
  rw[this,zy,G5]
  rfl
 |succ m q=>
  intro a r c p x S;rcases x with z|z
  .rw[z,zy,G5]
   rfl
  .by_cases ha:a=en T i
   .rw[ha,zy,G5]
    rfl
   .have la:a<en T i:=by lia
    have o:=K3 h b c la z;obtain⟨C,E,A,B⟩:=eS (T:=T) (i:=a) ();obtain⟨l,t⟩:=ab7 h b c la
    have v:iH a (en T i-a)=a::(iH (a+1) (en T a-(a+1))++iH (en T a) (en T i-en T a)):=by
     have e:=aia (s:=a+1) (m:=en T a-(a+1)) (n:=en T i-en T a);rw[show a+1+(en T a-(a+1))=en T a by lia,show en T a-(a+1)+(en T i-en T a)=en T i-a-1 by lia] at e;rw[e,show en T i-a=(en T i-a-1)+1 by lia,SU]
     rfl
    have u:(iH (a+1) (en T a-(a+1))).filter (λj=>decide (par T j=some i))=[]:=aik.mpr λj g y=>by
     have g:=aiR.mp g;have D:=(um h () (gD y)).2.2;have d2:=A j () ()
     lia
    rw[v,rj,eT (fK o),qH,u,wg,ajN,w a S () o,q (en T a) () () l (t z),Ot () l]
theorem yN(h:fO T):∀(d i:Nat) (S:HS),i<T.length->cj T d i->bf T d i S=jK T i (en T i) S
 |0,_,_,_,hd=>hd.elim
 |d+1,i,S,hi,hd=>by
  obtain⟨e1,e2,e3,e4⟩:=eS hi;show(kids T i).foldl (λS j=>bf T d j S) (write T "begun" i (oF T i S))=_;rw[WX,A5 h hi]
  have first:i+1=en T i\/dp T (i+1)=dp T i+1:=by
   by_cases z:i+1=en T i
   .exact .inl z
   .right
    obtain⟨j,g,m,e,f,b⟩:=uL h (k:=i+1) (ajR _) ();have l:=e3 (i+1) () ();by_cases y:j=i
    .rw[y] at e;lia
    .have:=b i () ()
     lia
  rw[Vm h hi (λS j=>bf T d j S) (λj S a c=>yN h d j S a (hd j (by unfold kids;rw[yq,pf];exact⟨a,fK c⟩))) (en T i-(i+1)) (i+1) (fx _) () () first,Ot () ()]
theorem TX(h:fO T):∀(d i:Nat),i<T.length->9-dp T i<=d->cj T d i
 |0,i,hi,hd=>by
  have:=Ub h hi;omega
 |d+1,i,hi,hd=>λj c=>by
  obtain⟨a,b⟩:=cY c;have:=(um h a b).2.2;erw[TX h d j a (by omega)]
def fO.tok(h:fO T):jB T:=by
 erw[⟨ai7.mpr h.ne,h.len,λ{j m} c f=>?_,(Yw h).2,λj e c=>?_,λi a=>TX h 9 i a (by omega),λi a=>?_⟩]
 .have e:0<j:=by
   cases j with
   |zero=>cases f
   |succ k=>erw[ajR _]
  obtain⟨n,b,g,p,l,o⟩:=uL h e c;rw[f] at b;cases b;exact⟨g,l⟩
 .obtain ⟨m,b,_⟩:=uL h e c;exact⟨m,b⟩
 .refine (h.sh (T.getD i default) ?_).okS;rw[nN,gx a];erw[ve a]
end
section
variable{T:List Row}
def LO(h:fO T){i:Nat}(e:i<T.length)(q:Nat->Bool)(f:HS->Nat->HS)(E:∀j S,j<T.length->par T j=some i->f S j=jK T j (en T j) S)(Inv:Nat->HS->Prop)
  (step:∀j S,j<T.length->par T j=some i->q j=true->Inv j S->Inv (en T j) (jK T j (en T j) S)) (skip:∀j S,j<T.length->par T j=some i->q j=false->Inv j S->Inv (en T j) S):
  ∀(m a:Nat),en T i-a<=m->i<a->a<=en T i->(a=en T i\/dp T a=dp T i+1)->∀S,Inv a S->Inv (en T i) (((iH a (en T i-a)).filter λj=>decide (par T j=some i)&&q j).foldl f S):=by
 obtain⟨e1,e2,e3,e4⟩:=eS e;intro m
 induction m with
 |zero=>
  intro a D l C _ S b;have:a=en T i:=by lia
  rw[this,zy];rw[this] at b;erw[b]
 |succ m u=>
  intro a D l C A S b;by_cases g:a=en T i
  .rw[g,zy];rw[g] at b;erw[b]
  .have z:dp T a=dp T i+1:=by
    rcases A with z|z
    .exact absurd z g
    .exact z
   have p:a<en T i:=by lia
   have c:=K3 h e l p z;obtain⟨G,I,B,F⟩:=eS (T:=T) (i:=a) ();obtain⟨t,v⟩:=ab7 h e l p
   have x:iH a (en T i-a)=a::(iH (a+1) (en T a-(a+1))++iH (en T a) (en T i-en T a)):=by
    have o:=aia (s:=a+1) (m:=en T a-(a+1)) (n:=en T i-en T a);rw[show a+1+(en T a-(a+1))=en T a by lia,show en T a-(a+1)+(en T i-en T a)=en T i-a-1 by lia] at o;rw[o,show en T i-a=(en T i-a-1)+1 by lia,SU]
    rfl
   have w:(iH (a+1) (en T a-(a+1))).filter (λj=>decide (par T j=some i)&&q j)=[]:=aik.mpr λj r y=>by
    rw[kE] at y;have r:=aiR.mp r;have H:=(um h () (gD y.1)).2.2;have d2:=B j () ()
    lia
   rw[x,rj,qH,w,wg];cases hq:q a with
   |true=>
    rw[eT (by rw[fK c];rfl),ajN,E a S () c];erw[u (en T a) () () t (v z) _ (step a S () c hq b)]
   |false=>
    rw[eJ (by rw[fK c];erw[jt])];erw[u (en T a) () () t (v z) _ (skip a S () c hq b)]
def LP(h:fO T){i:Nat}(b:i<T.length):i+1=en T i\/dp T (i+1)=dp T i+1:=by
 obtain⟨e1,e2,e3,e4⟩:=eS b;by_cases z:i+1=en T i
 .exact .inl z
 .right
  obtain⟨j,f,e,c,g,a⟩:=uL h (k:=i+1) (ajR _) ();have l:=e3 (i+1) () ();by_cases y:j=i
  .rw[y] at c;lia
  .have:=a i () ()
   lia
def Oh(h:fO T){i:Nat}(f:i<T.length)(a:HS)(Inv:Nat->HS->Prop)(step:∀j S,j<T.length->par T j=some i->j∈bu T i a->Inv j S->Inv (en T j) (jK T j (en T j) S))
  (skip:∀j S,j<T.length->par T j=some i->Inv j S->Inv (en T j) S) (S:HS) (c:Inv (i+1) S):Inv (en T i) ((bu T i a).foldl (λS j=>bf T 9 j S) S):=by
 have ok:=fO.tok h;obtain⟨e1,e2,e3,e4⟩:=eS f
 have l:bu T i a=(iH (i+1) (en T i-(i+1))).filter λj=>decide (par T j=some i)&&(hX (a.nd i).com (f7 T j)&& !Nat.testBit (a.nd i).good (f7 T j)):=by
  unfold bu;rw[A5 h f,ajf]
  congr 1
  funext j
  erw[amT _ _]
 rw[l];erw[LO h f (λj=>hX (a.nd i).com (f7 T j)&& !Nat.testBit (a.nd i).good (f7 T j)) (λS j=>bf T 9 j S) (λj S b e=>yN h 9 j S b (ok.deep j b)) Inv (λj S b e g c=>?_) (λj S b e _ c=>skip j S b e c) (en T i-(i+1)) (i+1) (fx _) () () (LP h f) S c];erw[step j S b e ?_ c];unfold bu kids;rw[yq,yq,pf];exact⟨⟨b,fK e⟩,g⟩
def sV(h:fO T){i k:Nat}(e:i<T.length)(a:i<k)(b:k<en T i):∃m,par T k=some m/\i<=m/\m<k:=by
 obtain⟨e1,e2,e3,e4⟩:=eS e;obtain⟨m,f,c,n,l,g⟩:=uL h (k:=k) () ();erw[⟨m,f,?_,c⟩];by_cases z:i<=m
 .exact z
 .have a1:=g i () a;have j:=e3 k a b
  lia
end
structure Jv(T:List Row)(S:HS):Prop where
 dl:∀k,fk T k=true->(S.nd k).st="off"\/(S.nd k).st="on"\/(S.nd k).st="told"
 dm:∀k,fk T k=false->(S.nd k).st="off"\/(S.nd k).st="on"\/(S.nd k).st="turning"\/(S.nd k).st="down"
 up:∀k m,k<T.length->par T k=some m->(S.nd k).st≠"off"->(S.nd m).st≠"off"
 com:∀k m,k<T.length->par T k=some m->(S.nd m).st="turning"->hX (S.nd m).com (f7 T k)=true->hX (S.nd m).cw (f7 T k)=true\/(S.nd k).st="off"
 dwn:∀m,(S.nd m).st="down"->(S.nd m).cw=2^(kids T m).length-1
 ask:∀k,(S.nd k).asked=true->(S.nd k).st="off"\/(S.nd k).st="told"\/(S.nd k).st="down"
 pnd:∀e∈S.ends,e.1<T.length/\(S.nd e.1).st="off"/\∀m,par T e.1=some m->(S.nd m).st≠"off"
 one:S.ends.length<=1
section
variable{T:List Row}{S:HS}
def Jv.below(h:fO T)(j:Jv T S){i:Nat}(a:i<T.length)(c:(S.nd i).st="off"):∀(k:Nat),i<=k->k<en T i->(S.nd k).st="off":=by
 intro k
 induction k using ajO with
 |ind k f=>
  intro l b;by_cases e:k=i
  .rwa[e]
  .obtain ⟨m,m1,m2,m3⟩:=sV h a () b;have g:=f m m3 m2 ();by_cases z:(S.nd k).st="off"
   .exact z
   .exact absurd g (j.up k m (by have:=(eS a).2.1;lia) m1 z)
def yK{m:Nat}(b:bL T m S=none){k:Nat}(e:k<T.length)(c:par T k=some m)(h:hX (S.nd m).cw (f7 T k)=true):(S.nd k).st="off":=by
 have f:(S.nd m).cw &&& bh T m S=0:=by
  unfold bL at b
  split at b
  .assumption
  .rename_i h0
   have lt:(S.nd m).cw &&& bh T m S<2^(kids T m).length:=ry akC (oO _ _);have:=(ame h0).mpr lt;rw[gx this] at b;cases b
 have a:=hI (λx=>hX x (f7 T k)) f;have a:hX ((S.nd m).cw &&& bh T m S) (f7 T k)=hX 0 (f7 T k):=a
 have g:hX (bh T m S) (f7 T k)= !cK S k:=by
  unfold bh;rw[aU,xv e c,fK (ly e c)]
  rfl
 rw[yp,h,g,aie,za,Bool.not_eq_false'] at a;erw[gD a]
def G6{n k:Nat}(h:k<n):hX (2^n-1) k=true:=by
 rw[aj9,fK h]
def Mv{m j:Nat}(h:bL T m S=some j):j<T.length/\par T j=some m/\(S.nd j).st≠"off":=by
 obtain⟨a,b⟩:=cY (lQ h);erw[⟨a,b,λz=>?_⟩];unfold bL at h
 split at h
 .cases h
 .rename_i h0
  have lt:(S.nd m).cw &&& bh T m S<2^(kids T m).length:=ry akC (oO _ _);obtain⟨l,n,i⟩:=JA h
  have g:hX ((S.nd m).cw &&& bh T m S) (aj2 ((S.nd m).cw &&& bh T m S))=true:=by
   have:=amm h0;erw[this]
  rw[yp,kE] at g
  have e:∀x,(kids T m)[x]? =some j->hX (bh T m S) x= !cK S j:=λx f=>by
   unfold bh;rw[aU,f,fK (pE.mp f).1]
   rfl
  have c:=e _ h;rw[g.2] at c;unfold cK at c;rw[fK z] at c;cases c
end
def uN(f:Nat->Nat):Nat->Nat
 |0=>0
 |n+1=>uN f n+f n
theorem Nr{f g:Nat->Nat}:∀{n:Nat},(∀k,k<n->g k=f k)->uN g n=uN f n
 |0,_=>rfl
 |n+1,h=>by
  unfold uN;rw[Nr λk a=>h k (),h n ()]
theorem PZ{f g:Nat->Nat}{i:Nat}:∀{n:Nat},i<n->(∀k,k≠i->g k=f k)->uN g n+f i=uN f n+g i
 |0,hi,_=>absurd hi (y4 _)
 |n+1,hi,h=>by
  unfold uN;by_cases e:i=n
  .subst e;rw[Nr λk a=>h k ()]
   lia
  .have:=PZ (n:=n) () h;have:=h n ()
   lia
theorem TC{f g:Nat->Nat}{a e c:Nat}(h:∀k,g k<=f k+if a<=k/\k<e then c else 0):∀n:Nat,uN g n<=uN f n+c*(min e n-a)
 |0=>pI _
 |n+1=>by
  have i:=TC h n;have b:=h n;unfold uN;by_cases z:a<=n/\n<e
  .rw[eT z] at b;have e1:min e (n+1)-a=(min e n-a)+1:=by lia
   rw[e1,ajs,amc]
   lia
  .rw[eJ z] at b;have e1:c*(min e n-a)<=c*(min e (n+1)-a):=ahU c ()
   lia
def wB(T:List Row):Nat:=3*T.length+4
def nu(d:Nd):Nat:=if d.st="off" then 0 else if d.asked then 1 else 2
def tk(T:List Row)(k:Nat)(d:Nd):Nat:=d.wait.length*(dp T k+2)+if d.st="down"/\d.asked=false then dp T k+1 else 0
def pn(T:List Row)(k:Nat)(d:Nd):Nat:=wB T*tk T k d+nu d+if d.st="turning" then 3*T.length else 0
def pe(T:List Row)(S:HS):Nat:=match S.ends with
 |[]=>0
 |e::_=>if (S.nd e.1).asked then 0 else wB T*(dp T e.1+1)
def gB(T:List Row)(S:HS):Nat:=uN (λk=>pn T k (S.nd k)) T.length+pe T S
structure pw(T:List Row)(S S':HS):Prop where
 p:gB T S'+S'.book.length<=gB T S+S.book.length
 e:S'.ends.length+S.book.length<=S.ends.length+S'.book.length
theorem pw.refl(T:List Row)(S:HS):pw T S S:=⟨fx _,fx _⟩
theorem pw.trans{T:List Row}{S c f:HS}(a:pw T S c)(b:pw T c f):pw T S f:=⟨je b.p a.p,by have:=a.e;have:=b.e;lia⟩
section
variable{T:List Row}{S:HS}
def xr(h:S.ends=[]):pe T S=0:=by
 unfold pe;rw[h]
def ya{i:Nat}{g:Nd->Nd}(b:i<T.length)(a:S.ends=[]):gB T (up S i g)+pn T i (S.nd i)=gB T S+pn T i (g (S.nd i)):=by
 unfold gB;rw[xr a,xr (S:=up S i g) a]
 have:=PZ (f:=λk=>pn T k (S.nd k)) (g:=λk=>pn T k ((up S i g).nd k)) b λk c=>by
  show pn T k ((up S i g).nd k)=_;rw[bG g c]
 have e:pn T i ((up S i g).nd i)=pn T i (g (S.nd i)):=by rw[av]
 have this:uN (λk=>pn T k ((up S i g).nd k)) T.length+pn T i (S.nd i)=uN (λk=>pn T k (S.nd k)) T.length+pn T i ((up S i g).nd i):=this;rw[e] at this;omega
theorem El(wd:Str)(i:Nat)(S:HS):gB T (write T wd i S)=gB T S:=rfl
def OR{a e:Nat}(b:S.ends=[])(i:e<=T.length)(f:∀k,a<=k->k<e->(S.nd k).st="off"):gB T (jK T a e S)+(jK T a e S).book.length<=gB T S+S.book.length+3*(e-a):=by
 have g:(jK T a e S).book.length=S.book.length+(e-a):=by
  show(S.book++_).length=_;rw[iv,fC,aiK]
 have ps:uN (λk=>pn T k ((jK T a e S).nd k)) T.length<=uN (λk=>pn T k (S.nd k)) T.length+2*(min e T.length-a):=by
  erw[TC (λk=>?_) _];show pn T k (if a<=k/\k<e then ug T S.clk k (S.nd k) else S.nd k)<=_;by_cases z:a<=k/\k<e
  .rw[eT z,eT z];have h:=f k z.1 z.2
   have c:pn T k (S.nd k)=wB T*((S.nd k).wait.length*(dp T k+2)):=by
    unfold pn tk nu;rw[h,eJ (λz=>absurd z.1 ∅),eT rfl,eJ (show ¬("off":Str)="turning" by decide)]
    rfl
   rw[c];unfold ug;cases fk T k with
   |true=>
    show wB T*((S.nd k).wait.length*(dp T k+2)+0)+2+0<=_;rw[am0];erw[fx _]
   |false=>
    show wB T*(0*(dp T k+2)+0)+2+0<=_;rw[ajS,alR]
    lia
  .rw[eJ z,eJ z];erw[fx _]
 unfold gB;rw[xr b,xr (S:=jK T a e S) b,g];have:min e T.length-a=e-a:=by lia
 rw[this] at ps
 lia
def Jv.jK(h:fO T)(j:Jv T S){i m:Nat}(p:i<T.length)(q:par T i=some m)(u:(S.nd m).st="on")(v:(S.nd i).st="off")(s:S.ends=[]):Jv T (Hm.jK T i (en T i) S):=by
 obtain⟨e1,e2,e3,e4⟩:=eS p;have nd:∀k,(Hm.jK T i (en T i) S).nd k=if i<=k/\k<en T i then ug T S.clk k (S.nd k) else S.nd k:=λk=>rfl
 have b:∀k,(ug T S.clk k (S.nd k)).st="on"/\(ug T S.clk k (S.nd k)).asked=false:=λk=>by
  unfold ug;cases fk T k<;>exact⟨rfl,rfl⟩
 have mi:=(um h p q).1;erw[⟨λk l=>?_,λk l=>?_,λk c l a f=>?_,λk c l a g r=>?_,λc hd=>?_,λk o=>?_,λe t=>?_,by rw[show (Hm.jK T i (en T i) S).ends=S.ends from rfl,s];exact pI _⟩]
 .rw[nd]
  split
  .exact .inr (.inl (b k).1)
  .exact j.dl k l
 .rw[nd]
  split
  .exact .inr (.inl (b k).1)
  .exact j.dm k l
 .rw[nd]
  split
  .rw[(b c).1];decide
  .rename_i hr
   rw[nd] at f
   split at f
   .rename_i n
    by_cases e:k=i
    .subst e;rw[q] at a;cases a;rw[u];decide
    .obtain ⟨m2,q1,q2,q3⟩:=sV h p (k:=k) () ();rw[a] at q1;cases q1;erw[absurd ⟨q2,()⟩ hr]
   .exact j.up k c l a f
 .rw[nd] at g r;rw[nd c,nd k]
  split at g
  .rw[(b c).1] at g;erw[absurd g ∅]
  .rename_i hr
   rw[eJ hr] at r;rw[eJ hr];by_cases n:i<=k/\k<en T i
   .by_cases e:k=i
    .subst e;rw[q] at a;cases a;rw[u] at g;erw[absurd g ∅]
    .obtain ⟨m2,q1,q2,q3⟩:=sV h p (k:=k) () ();rw[a] at q1;cases q1;erw[absurd ⟨q2,()⟩ hr]
   .rw[eJ n];erw[j.com k c l a g r]
 .rw[nd] at hd ⊢
  split at hd
  .rw[(b c).1] at hd;erw[absurd hd ∅]
  .rename_i hr
   rw[eJ hr];erw[j.dwn c hd]
 .rw[nd] at o ⊢
  split at o
  .rw[(b k).2] at o;cases o
  .rename_i hr
   rw[eJ hr];erw[j.ask k o]
 .rw[show (Hm.jK T i (en T i) S).ends=S.ends from rfl,s] at t;cases t
theorem Jv.write(j:Jv T S)(wd:Str)(i:Nat):Jv T (Hm.write T wd i S):=⟨j.dl,j.dm,j.up,j.com,j.dwn,j.ask,j.pnd,j.one⟩
def Jv.turn(j:Jv T S){i:Nat}{g:Nd->Nd}(h:(S.nd i).st≠"off")(t:S.ends=[])(u:(g (S.nd i)).st≠"off")(r:fk T i=true->(g (S.nd i)).st="on"\/(g (S.nd i)).st="told")(v:fk T i=false->(g (S.nd i)).st="on"\/(g (S.nd i)).st="turning"\/(g (S.nd i)).st="down")
  (w:(g (S.nd i)).st="turning"->∀k,k<T.length->par T k=some i->hX (g (S.nd i)).com (f7 T k)=true->hX (g (S.nd i)).cw (f7 T k)=true\/(S.nd k).st="off")
  (s:(g (S.nd i)).st="down"->(g (S.nd i)).cw=2^(kids T i).length-1) (q:(g (S.nd i)).asked=true->(g (S.nd i)).st="told"\/(g (S.nd i)).st="down") (o:par T i≠some i):Jv T (Hm.up S i g):=by
 have nd:∀k,(Hm.up S i g).nd k=if k=i then g (S.nd i) else S.nd k:=λk=>by
  by_cases e:k=i
  .rw[eT e,e,av]
  .rw[eJ e,bG g e]
 erw[⟨λk c=>?_,λk c=>?_,λk b c a f=>?_,λk b c a l n=>?_,λb hd=>?_,λk m=>?_,λe p=>?_,j.one⟩]
 .rw[nd];by_cases e:k=i
  .rw[eT e];erw[.inr (r (e ▸ c))]
  .rw[eJ e];erw[j.dl k c]
 .rw[nd];by_cases e:k=i
  .rw[eT e];erw[.inr (v (e ▸ c))]
  .rw[eJ e];erw[j.dm k c]
 .rw[nd];by_cases e:b=i
  .rwa[eT e]
  .rw[eJ e];rw[nd] at f;by_cases e2:k=i
   .subst e2;erw[j.up k b c a h]
   .rw[eJ e2] at f;erw[j.up k b c a f]
 .rw[nd b] at l n ⊢;rw[nd k];by_cases e:b=i
  .rw[eT e] at l n ⊢;subst e;have e2:k≠b:=λz=>o (by rw[<- z] at a ⊢;erw[a]);rw[eJ e2];erw[w l k c a n]
  .rw[eJ e] at l n ⊢;rcases j.com k b c a l n with z|z
   .exact .inl z
   .by_cases e2:k=i
    .rw[e2] at z;erw[absurd z h]
    .rw[eJ e2];erw[.inr z]
 .rw[nd] at hd ⊢;by_cases e:b=i
  .rw[eT e] at hd ⊢;rw[e];erw[s hd]
  .rw[eJ e] at hd ⊢;erw[j.dwn b hd]
 .rw[nd] at m ⊢;by_cases e:k=i
  .rw[eT e] at m ⊢;erw[.inr (q m)]
  .rw[eJ e] at m ⊢;erw[j.ask k m]
 .rw[show (Hm.up S i g).ends=S.ends from rfl,t] at p;cases p
theorem sS(ok:jB T){i:Nat}(a:i<T.length):par T i≠some i:=λz=>absurd (ok.bV a z).1 (F6 _)
def Pj(ok:jB T)(j:Jv T S){i:Nat}(b:i<T.length)(a:(S.nd i).st≠"off")(m:(S.nd i).asked=false)(f:S.ends=[]):Jv T (bj T i (Hm.write T "told" i S))/\pw T S (bj T i (Hm.write T "told" i S)):=by
 have l:=j.write (T:=T) "told" i
 have h:pn T i (((bj T i (Hm.write T "told" i S)).nd i))+1<=pn T i (S.nd i):=by
  have e:(bj T i (Hm.write T "told" i S)).nd i=if fk T i then {S.nd i with st:="told",asked:=true,need:=(sh T i).cC,ja:=(sh T i).bK} else goDown T i {S.nd i with asked:=true}:=by
   unfold bj;rw[av]
   rfl
  have n:wB T*((S.nd i).wait.length*(dp T i+2))+2<=pn T i (S.nd i):=by
   have o:wB T*((S.nd i).wait.length*(dp T i+2))<=wB T*tk T i (S.nd i):=ahU _ (aiy _ _)
   have p:nu (S.nd i)=2:=by
    unfold nu;rw[eJ a,m,eJ jt]
   unfold pn
   lia
  rw[e];cases fk T i with
  |true=>
   rw[eT rfl]
   have:pn T i {S.nd i with st:="told",asked:=true,need:=(sh T i).cC,ja:=(sh T i).bK}=wB T*((S.nd i).wait.length*(dp T i+2))+1:=by
    unfold pn tk nu
    rfl
   rw[this]
   lia
  |false=>
   rw[eJ jt]
   have:pn T i (goDown T i {S.nd i with asked:=true})=1:=by
    unfold pn tk nu goDown;show wB T*(0*(dp T i+2)+0)+1+0=1;rw[ajS,alR]
   rw[this]
   lia
 constructor
 .unfold bj;cases hl:fk T i with
  |true=>erw[l.turn (g:=λd=>{d with st:="told",asked:=true,need:=(sh T i).cC,ja:=(sh T i).bK}) a f (by show("told":Str)≠"off";decide) (λ_=>.inr rfl) (λz=>by rw[hl] at z;cases z) (λz=>absurd (show("told":Str)="turning" from z) ∅) (λz=>absurd (show("told":Str)="down" from z) ∅) (λ_=>.inl rfl) (sS ok b)]
  |false=>erw[l.turn (g:=λd=>goDown T i {d with asked:=true}) a f (by show("down":Str)≠"off";decide) (λz=>by rw[hl] at z;cases z) (λ_=>.inr (.inr rfl)) (λz=>absurd (show("down":Str)="turning" from z) ∅) (λ_=>rfl) (λ_=>.inr rfl) (sS ok b)]
 .have lb:(bj T i (Hm.write T "told" i S)).book.length=S.book.length+1:=df (T:=T) "told" i S
  constructor
  .have c:=ya (T:=T) (S:=Hm.write T "told" i S) (i:=i) (g:=λd=>if fk T i then {d with st:="told",asked:=true,need:=(sh T i).cC,ja:=(sh T i).bK} else goDown T i {d with asked:=true}) b f;rw[El] at c;have e2:(bj T i (Hm.write T "told" i S)).nd i=(λd=>if fk T i then {d with st:="told",asked:=true,need:=(sh T i).cC,ja:=(sh T i).bK} else goDown T i {d with asked:=true}) ((Hm.write T "told" i S).nd i):=av _ _ _;rw[e2] at h;have c:gB T (bj T i (Hm.write T "told" i S))+pn T i (S.nd i)=gB T S+pn T i ((λd=>if fk T i then {d with st:="told",asked:=true,need:=(sh T i).cC,ja:=(sh T i).bK} else goDown T i {d with asked:=true}) ((Hm.write T "told" i S).nd i)):=c;rw[lb]
   lia
  .rw[lb,show(bj T i (Hm.write T "told" i S)).ends=S.ends from rfl]
   lia
end
section
variable{T:List Row}{S:HS}
def wA{i:Nat}{wd:Str}(a:wd≠"")(b:S.ends=[]):Hm.aX T i wd S={Hm.write T wd i (Hm.up S i λd=>{d with st:="off"}) with ends:=[(i,wd)]}:=by
 unfold Hm.aX;rw[eJ a,b]
 rfl
def Jv.aX(ok:jB T)(j:Jv T S){i:Nat}(o:i<T.length)(n:(S.nd i).st≠"off")(t:∀k,k<T.length->par T k=some i->(S.nd k).st="off")(u:S.ends=[]){wd:Str}:Jv T (Hm.aX T i wd S):=by
 by_cases r:wd=""
 .unfold Hm.aX;rwa[eT r]
 rw[wA r u]
 have nd:∀k,(Hm.up S i λd=>{d with st:="off"}).nd k=if k=i then {S.nd i with st:="off"} else S.nd k:=λk=>by
  by_cases e:k=i
  .rw[eT e,e,av]
  .rw[eJ e,bG _ e]
 erw[⟨λk q=>?_,λk q=>?_,λk b f c a=>?_,λk b f c g l=>?_,λb hd=>?_,λk h=>?_,λe s=>?_,fx _⟩]
 .show ((Hm.up S i λd=>{d with st:="off"}).nd k).st=_\/((Hm.up S i λd=>{d with st:="off"}).nd k).st=_\/((Hm.up S i λd=>{d with st:="off"}).nd k).st=_;rw[nd];by_cases e:k=i
  .rw[eT e];erw[.inl rfl]
  .rw[eJ e];erw[j.dl k q]
 .show ((Hm.up S i λd=>{d with st:="off"}).nd k).st=_\/((Hm.up S i λd=>{d with st:="off"}).nd k).st=_\/((Hm.up S i λd=>{d with st:="off"}).nd k).st=_\/((Hm.up S i λd=>{d with st:="off"}).nd k).st=_;rw[nd];by_cases e:k=i
  .rw[eT e];erw[.inl rfl]
  .rw[eJ e];erw[j.dm k q]
 .have a:((Hm.up S i λd=>{d with st:="off"}).nd k).st≠"off":=a;show((Hm.up S i λd=>{d with st:="off"}).nd b).st≠"off";rw[nd] at a ⊢;by_cases e:k=i
  .rw[eT e] at a;erw[absurd rfl a]
  .rw[eJ e] at a;by_cases e2:b=i
   .rw[e2] at c;erw[absurd (t k f c) a]
   .rw[eJ e2];erw[j.up k b f c a]
 .have g:((Hm.up S i λd=>{d with st:="off"}).nd b).st="turning":=g;have l:hX ((Hm.up S i λd=>{d with st:="off"}).nd b).com (f7 T k)=true:=l;show hX ((Hm.up S i λd=>{d with st:="off"}).nd b).cw (f7 T k)=true\/((Hm.up S i λd=>{d with st:="off"}).nd k).st="off";rw[nd b] at g l ⊢;by_cases e2:b=i
  .rw[eT e2] at g;erw[absurd (show("off":Str)="turning" from g) ∅]
  .rw[eJ e2] at g l ⊢;rcases j.com k b f c g l with z|z
   .exact .inl z
   .right
    rw[nd];by_cases e:k=i
    .rw[eT e]
    .rwa[eJ e]
 .have hd:((Hm.up S i λd=>{d with st:="off"}).nd b).st="down":=hd;show((Hm.up S i λd=>{d with st:="off"}).nd b).cw=_;rw[nd] at hd ⊢;by_cases e:b=i
  .rw[eT e] at hd;erw[absurd (show("off":Str)="down" from hd) ∅]
  .rw[eJ e] at hd ⊢;erw[j.dwn b hd]
 .have h:((Hm.up S i λd=>{d with st:="off"}).nd k).asked=true:=h;show((Hm.up S i λd=>{d with st:="off"}).nd k).st=_\/((Hm.up S i λd=>{d with st:="off"}).nd k).st=_\/((Hm.up S i λd=>{d with st:="off"}).nd k).st=_;rw[nd] at h ⊢;by_cases e:k=i
  .rw[eT e];erw[.inl rfl]
  .rw[eJ e] at h ⊢;erw[j.ask k h]
 .obtain rfl:=oi.mp s;refine⟨o,?_,λm p=>?_⟩
  .show ((Hm.up S i λd=>{d with st:="off"}).nd i).st="off";rw[av]
  .show ((Hm.up S i λd=>{d with st:="off"}).nd m).st≠"off";have ne:m≠i:=λz=>sS ok o (by rw[z] at p;erw[p]);rw[bG _ ne];erw[j.up i m o p n]
def S8{i:Nat}{wd:Str}(c:i<T.length)(f:wd≠"")(a:S.ends=[]):gB T (Hm.aX T i wd S)+pn T i (S.nd i)=gB T S+wB T*((S.nd i).wait.length*(dp T i+2))+(if (S.nd i).asked then 0 else wB T*(dp T i+1))/\(Hm.aX T i wd S).book.length=S.book.length+1/\(Hm.aX T i wd S).ends=[(i,wd)]:=by
 rw[wA f a];erw[⟨?_,df (T:=T) wd i (Hm.up S i λd=>{d with st:="off"}),rfl⟩];have b:=ya (T:=T) (S:=S) (i:=i) (g:=λd=>{d with st:="off"}) c a
 have e1:pn T i {S.nd i with st:="off"}=wB T*((S.nd i).wait.length*(dp T i+2)):=by
  unfold pn tk nu;rw[eJ (λz=>absurd (show("off":Str)="down" from z.1) ∅),eT rfl,eJ (show ¬("off":Str)="turning" by decide)]
  rfl
 rw[e1] at b
 have h:gB T (Hm.up S i λd=>{d with st:="off"})=uN (λk=>pn T k ((Hm.up S i λd=>{d with st:="off"}).nd k)) T.length:=by
  unfold gB;rw[xr (S:=Hm.up S i λd=>{d with st:="off"}) a]
  rfl
 have e:gB T {Hm.write T wd i (Hm.up S i λd=>{d with st:="off"}) with ends:=[(i,wd)]}=uN (λk=>pn T k ((Hm.up S i λd=>{d with st:="off"}).nd k)) T.length+if (S.nd i).asked then 0 else wB T*(dp T i+1):=by
  unfold gB pe;show _+(if ((Hm.up S i λd=>{d with st:="off"}).nd i).asked=true then 0 else wB T*(dp T i+1))=_;rw[av]
  rfl
 rw[e];rw[h] at b
 lia
def ab8{d:Nd}(h:d.st≠"off"):1<=nu d:=by
 unfold nu;rw[eJ h]
 split<;>lia
def TB{i:Nat}(j:i<T.length)(b:(S.nd i).st≠"off")(g:S.ends=[]){wd:Str}(l:(S.nd i).asked=true\/(S.nd i).st="down"):pw T S (Hm.aX T i wd S):=by
 by_cases f:wd=""
 .unfold Hm.aX;rw[eT f];erw[pw.refl T S]
 obtain⟨a,c,h⟩:=S8 (T:=T) j f g;have m:=ab8 b
 constructor
 .rw[c];cases ha:(S.nd i).asked with
  |true=>
   rw[ha,eT rfl] at a;have n:wB T*((S.nd i).wait.length*(dp T i+2))<=wB T*tk T i (S.nd i):=ahU _ (aiy _ _);have e:pn T i (S.nd i)=wB T*tk T i (S.nd i)+nu (S.nd i)+if (S.nd i).st="turning" then 3*T.length else 0:=rfl;rw[e] at a
   lia
  |false=>
   rw[ha,eJ jt] at a
   have hd:(S.nd i).st="down":=by
    rcases l with z|z
    .rw[ha] at z;cases z
    .exact z
   have e:tk T i (S.nd i)=(S.nd i).wait.length*(dp T i+2)+(dp T i+1):=by
    unfold tk;rw[eT ⟨hd,ha⟩]
   have e2:pn T i (S.nd i)=wB T*tk T i (S.nd i)+nu (S.nd i)+if (S.nd i).st="turning" then 3*T.length else 0:=rfl;rw[e,ajs] at e2;rw[e2] at a
   lia
 .rw[c,h,g];show 1+S.book.length<=0+(S.book.length+1)
  lia
def Pp{i:Nat}(c:i<T.length)(j:S.ends=[]){wd:Str}(a:(S.nd i).st≠"off")(hd:dp T i<=8):gB T (Hm.aX T i wd S)+(Hm.aX T i wd S).book.length<=gB T S+S.book.length+9*wB T:=by
 by_cases b:wd=""
 .unfold Hm.aX;rw[eT b]
  lia
 obtain⟨h,g,l⟩:=S8 (T:=T) c b j;have n:=ab8 a;have o:wB T*((S.nd i).wait.length*(dp T i+2))<=wB T*tk T i (S.nd i):=ahU _ (aiy _ _);have e:pn T i (S.nd i)=wB T*tk T i (S.nd i)+nu (S.nd i)+if (S.nd i).st="turning" then 3*T.length else 0:=rfl
 have f:wB T*(dp T i+1)<=9*wB T:=by
  rw[amY 9];erw[ahU _ ()]
 have m:(if (S.nd i).asked=true then 0 else wB T*(dp T i+1))<=9*wB T:=by
  split
  .lia
  .exact f
 rw[g];rw[e] at h
 lia
def adE{wd:Str}(h:isWord wd):wd≠"":=by
 rcases h with rfl|rfl|rfl|rfl|rfl<;>decide
def Qk(h:fO T)(j:Jv T S){m:Nat}(n:m<T.length)(D:fk T m=false)(o:(S.nd m).st="turning"\/(S.nd m).st="down")(v:bL T m S=none)(l:S.ends=[]):
  Jv T (Hm.aS T m S)/\pw T S (Hm.aS T m S)/\((Hm.aS T m S).ends≠[]->((Hm.aS T m S).nd m).st≠"on"):=by
 have ok:=fO.tok h;have c:(S.nd m).st≠"off":=by rcases o with z|z<;>rw[z]<;>decide
 unfold Hm.aS;by_cases hd:(S.nd m).st="down"
 .rw[eT hd];have J:∀k,k<T.length->par T k=some m->(S.nd k).st="off":=λk b e=>yK v b e (by rw[j.dwn m hd];erw[G6 (ly b e)]);erw[⟨j.aX ok n c J l,TB n c l (.inr hd),λ_=>?_⟩];rw[wA (adE (OP _)) l];show((Hm.up S m λd=>{d with st:="off"}).nd m).st≠"on";rw[av];show("off":Str)≠"on"
  decide
 .rw[eJ hd];have u:(S.nd m).st="turning":=by rcases o with z|z;erw[z];exact absurd z hd
  have s:(S.nd m).asked=false:=by
   cases z:(S.nd m).asked with
   |false=>rfl
   |true=>rcases j.ask m z with y|y|y<;>rw[u] at y<;>erw[absurd y ∅]
  have A:Jv T (Hm.up S m aV):=j.turn c l (by show("on":Str)≠"off";decide) (λz=>by rw[D] at z;cases z) (λ_=>.inl rfl) (λz=>absurd (show("on":Str)="turning" from z) ∅) (λz=>absurd (show("on":Str)="down" from z) ∅) (λz=>by rw[show (aV (S.nd m)).asked=(S.nd m).asked from rfl,s] at z;cases z) (sS ok n);have M:=ya (T:=T) (S:=S) (i:=m) (g:=aV) n l
  have L:pn T m (aV (S.nd m))+3*T.length=pn T m (S.nd m):=by
   have t1:tk T m (aV (S.nd m))=(S.nd m).wait.length*(dp T m+2):=by
    unfold tk aV;rw[eJ (λz=>absurd (show("on":Str)="down" from z.1) ∅)]
    rfl
   have I:tk T m (S.nd m)=(S.nd m).wait.length*(dp T m+2):=by
    unfold tk;rw[eJ (λz=>hd z.1)]
    rfl
   have F:nu (aV (S.nd m))=2:=by
    unfold nu aV;show(if ("on":Str)="off" then 0 else if (S.nd m).asked=true then 1 else 2)=2;rw[eJ ∅,s]
    rfl
   have C:nu (S.nd m)=2:=by
    unfold nu;rw[eJ c,s]
    rfl
   unfold pn;rw[t1,I,F,C,eT u,eJ (show ¬(aV (S.nd m)).st="turning" from(by decide:¬("on":Str)="turning"))]
  obtain⟨e1,e2,e3,e4⟩:=eS n
  have t:=Oh h n S (λa S'=>Jv T S'/\S'.ends=[]/\(S'.nd m).st="on"/\(∀k,a<=k->S'.nd k=S.nd k)/\gB T S'+S'.book.length<=gB T (Hm.up S m aV)+S.book.length+3*(a-(m+1)))
   (λk S' b e H r=>?_) (λk S' b e r=>?_) (Hm.up S m aV) ⟨A,l,by rw[av];rfl,λk b=>bG _ (),by rw[zy];erw[fx _]⟩
  .obtain ⟨k1,k2,k3,k4,k5⟩:=t;refine⟨k1,⟨?_,?_⟩,λz=>absurd k2 z⟩
   .have:3*(en T m-(m+1))<=3*T.length:=ahU 3 ()
    lia
   .rw[k2,l];have:=sj (bu T m S) (Hm.up S m aV) (f:=λS j=>Hm.bf T 9 j S) λj _ S=>pB 9 j S;erw[als this _]
  .obtain ⟨k1,k2,k3,k4,k5⟩:=r;obtain⟨G,w,K,E⟩:=eS b;have mk:=(um h b e).1
   have q:(S'.nd k).st="off":=by
    rw[k4 k (fx _)];have p:=(yq.mp H).2;rw[kE] at p;rcases j.com k m b e u p.1 with z|z
    .exact yK v b e z
    .exact z
   erw[⟨k1.jK h b e k3 q k2,k2,?_,λx B=>?_,?_⟩]
   .show (if k<=m/\m<en T k then _ else S'.nd m).st="on";rwa[eJ ()]
   .show (if k<=x/\x<en T k then _ else S'.nd x)=_;rw[eJ ()];erw[k4 x ()]
   .have:=OR (T:=T) k2 w (k1.below h b q)
    lia
  .obtain ⟨k1,k2,k3,k4,k5⟩:=r;obtain⟨G,w,K,E⟩:=eS b;have mk:=(um h b e).1;exact⟨k1,k2,k3,λx B=>k4 x (),()⟩
end
section
variable{T:List Row}{S:HS}
theorem Cw(h:fO T)(d:Nat)(e:∀(i:Nat) (S:HS),i<T.length->(S.nd i).st≠"off"->(S.nd i).asked=false->Jv T S->S.ends=[]->Jv T (cP T d i S)/\pw T S (cP T d i S)):∀(m:Nat) (S:HS),m<T.length->fk T m=false->(S.nd m).st="turning"\/(S.nd m).st="down"->Jv T S->S.ends=[]->Jv T (aM T d m S)/\pw T S (aM T d m S)/\((aM T d m S).ends≠[]->((aM T d m S).nd m).st≠"on")
 |m,S,hm,hl,hst,j,he=>by
  have ok:=fO.tok h;have c:(S.nd m).st≠"on":=by rcases hst with z|z<;>rw[z]<;>decide
  unfold aM;cases hL:bL T m S with
  |none=>erw[Qk h j hm hl hst hL he]
  |some k=>
   obtain⟨k1,k2,k3⟩:=Mv hL;dsimp only;cases ha:(S.nd k).asked with
   |true=>
    rw[eT rfl];exact⟨j,pw.refl T S,λz=>absurd he z⟩
   |false=>
    rw[eJ jt];obtain⟨a,b⟩:=e k S k1 k3 ha j he;erw[⟨a,b,λ_=>?_⟩];rwa[HA ok d k m S (ok.bV k1 k2).1]
theorem CO(h:fO T):∀(d i:Nat) (S:HS),i<T.length->(S.nd i).st≠"off"->(S.nd i).asked=false->Jv T S->S.ends=[]->Jv T (cP T d i S)/\pw T S (cP T d i S)
 |0,_,S,_,_,_,j,_=>⟨j,pw.refl T S⟩
 |d+1,i,S,hi,hon,ha,j,he=>by
  have ok:=fO.tok h;obtain⟨g,f⟩:=Pj ok j hi hon ha he;have e1:(bj T i (Hm.write T "told" i S)).ends=[]:=he
  have e:(bj T i (Hm.write T "told" i S)).nd i=if fk T i then {S.nd i with st:="told",asked:=true,need:=(sh T i).cC,ja:=(sh T i).bK} else goDown T i {S.nd i with asked:=true}:=by
   unfold bj;rw[av]
   rfl
  rw[fA];cases hl:fk T i with
  |true=>
   rw[eT rfl];rw[hl,eT rfl] at e;have c:((bj T i (Hm.write T "told" i S)).nd i).st="told"/\((bj T i (Hm.write T "told" i S)).nd i).asked=true:=by rw[e];exact⟨rfl,rfl⟩
   erw[⟨g.aX ok hi (by rw[c.1];decide) (λk m l=>?_) e1,f.trans (TB hi (by rw[c.1];decide) e1 (.inl c.2))⟩];rw[(ok.bV m l).2] at hl;cases hl
  |false=>
   rw[eJ jt];rw[hl,eJ jt] at e;have c:((bj T i (Hm.write T "told" i S)).nd i).st="down":=by rw[e];rfl
   obtain⟨a,b,_⟩:=Cw h d (CO h d) i _ hi hl (.inr c) g e1;exact⟨a,f.trans b⟩
theorem wm(h:fO T)(d:Nat):∀(m:Nat) (S:HS),m<T.length->fk T m=false->(S.nd m).st="turning"\/(S.nd m).st="down"->Jv T S->S.ends=[]->Jv T (aM T d m S)/\pw T S (aM T d m S)/\((aM T d m S).ends≠[]->((aM T d m S).nd m).st≠"on"):=Cw h d (CO h d)
def Jv.same{S':HS}(j:Jv T S)(f:∀k,(S'.nd k).st=(S.nd k).st/\(S'.nd k).com=(S.nd k).com/\(S'.nd k).cw=(S.nd k).cw/\(S'.nd k).asked=(S.nd k).asked)(i:S'.ends=S.ends):Jv T S':=by
 erw[⟨λk g=>?_,λk g=>?_,λk m g h o=>?_,λk m g h l q=>?_,λm hd=>?_,λk p=>?_,λe n=>?_,by rw[i];exact j.one⟩]
 .rw[(f k).1];erw[j.dl k g]
 .rw[(f k).1];erw[j.dm k g]
 .rw[(f k).1] at o;rw[(f m).1];erw[j.up k m g h o]
 .rw[(f m).1] at l;rw[(f m).2.1] at q;rw[(f m).2.2.1,(f k).1];erw[j.com k m g h l q]
 .rw[(f m).1] at hd;rw[(f m).2.2.1];erw[j.dwn m hd]
 .rw[(f k).2.2.2] at p;rw[(f k).1];erw[j.ask k p]
 .rw[i] at n;obtain⟨a,b,c⟩:=j.pnd e n;exact⟨a,by rwa[(f _).1],λm r=>by rw[(f m).1];erw[c m r]⟩
theorem iY{i:Nat}{g:Nd->Nd}(a:∀d,(g d).st=d.st/\(g d).com=d.com/\(g d).cw=d.cw/\(g d).asked=d.asked):∀k,((Hm.up S i g).nd k).st=(S.nd k).st/\((Hm.up S i g).nd k).com=(S.nd k).com/\((Hm.up S i g).nd k).cw=(S.nd k).cw/\((Hm.up S i g).nd k).asked=(S.nd k).asked:=λk=>by
 by_cases e:k=i
 .rw[e,av];erw[a _]
 .rw[bG g e];exact⟨rfl,rfl,rfl,rfl⟩
def toBe_off{m i:Nat}(h:toBe T m i S=true):(S.nd i).st="off":=by
 unfold toBe at h;rw[kE] at h;erw[gD h.1]
def Uv(h:fO T){m i:Nat}(n:i<T.length)(p:par T i=some m)(g:(S.nd i).st="off"){k:Nat}(j:k<T.length)(c:par T k=some m){good:Nat}(f:hX (anew (sh T m).kind (f7 T i) (kids T m).length λx=>hX good x) (f7 T k)=true):
  hX (Shp.gN (sh T m).kind (f7 T i) (kids T m).length λx=>hX (bh T m S) x) (f7 T k)=true\/(S.nd k).st="off":=by
 have o:hX (bh T m S) (f7 T k)= !cK S k:=by
  unfold bh;rw[aU,xv j c,fK (ly j c)]
  rfl
 have inj:f7 T k=f7 T i->k=i:=λe=>by
  have a:=xv j c;have b:=xv n p;rw[e,b] at a;exact(hH a).symm
 have lt:=ly j c;by_cases l:(S.nd k).st="off"
 .exact .inr l
 .left
  have on:hX (bh T m S) (f7 T k)=true:=by
   rw[o];unfold cK;rw[ik l]
   rfl
  have ne:f7 T k≠f7 T i:=λz=>l (by rwa[inj z]);unfold Shp.gN anew at *
  split at f
  .rw[aU,kE] at f;erw[absurd (gD f.2) ne]
  .rw[aU,fK lt,on]
   rfl
  .rw[aU,kE,kE] at f;have q:=gD f.2.1;rw[aU,fK lt];show(true&&(hX (bh T m S) (f7 T k)&&decide (f7 T i<f7 T k)))=true;rw[on,fK (show f7 T i<f7 T k by lia)]
   rfl
def Gu{S':HS}(c:∀k,k<T.length->pn T k (S'.nd k)=pn T k (S.nd k))(b:S.ends=[])(a:S'.ends=[]):gB T S'=gB T S:=by
 unfold gB;rw[xr b,xr a,Nr c]
def Ws(h:fO T)(j:Jv T S){m i:Nat}{r:List Nat}(p:m<T.length)(J:fk T m=false)(E:i<T.length)(I:par T i=some m)(F:(S.nd m).wait=i::r)(b:(S.nd m).st="on")(G:S.ends=[]) (W:toBe T m i (Hm.up S m λd=>{d with wait:=r})=true):
  Jv T (bI T m i (Hm.up S m λd=>{d with wait:=r}))/\(bI T m i (Hm.up S m λd=>{d with wait:=r})).ends=[]/\(((bI T m i (Hm.up S m λd=>{d with wait:=r})).nd m).st="turning"\/((bI T m i (Hm.up S m λd=>{d with wait:=r})).nd m).st="down")/\gB T (bI T m i (Hm.up S m λd=>{d with wait:=r}))+1<=gB T (Hm.up S m λd=>{d with wait:=r})+wB T*(dp T m+2):=by
 have ok:=fO.tok h
 have L:(S.nd m).asked=false:=by
  cases z:(S.nd m).asked with
  |false=>rfl
  |true=>rcases j.ask m z with y|y|y<;>rw[b] at y<;>erw[absurd y ∅]
 have O:Jv T (Hm.up S m λd=>{d with wait:=r}):=j.same (iY λd=>⟨rfl,rfl,rfl,rfl⟩) rfl;have e1:(Hm.up S m λd=>{d with wait:=r}).ends=[]:=G;have u:=ya (T:=T) (S:=S) (i:=m) (g:=λd=>{d with wait:=r}) p G
 have nm:∀w:List Nat,pn T m {S.nd m with wait:=w}=wB T*(w.length*(dp T m+2))+2:=λw=>by
  unfold pn tk nu;dsimp only;rw[b,L,eJ (λz=>absurd z.1 ∅),eJ ∅,eJ jt,eJ (show ¬("on":Str)="turning" by decide)]
  rfl
 have X:pn T m (S.nd m)=wB T*((r.length+1)*(dp T m+2))+2:=by
  have:=nm (S.nd m).wait;rw[F] at this;have e:({S.nd m with wait:=i::r}:Nd)=S.nd m:=by rw[<- F]
  rw[e] at this;erw[this]
 have K:=nm r
 have sp:wB T*((r.length+1)*(dp T m+2))=wB T*(r.length*(dp T m+2))+wB T*(dp T m+2):=by
  rw[M6,Q9,ajs]
 have u:gB T (Hm.up S m λd=>{d with wait:=r})+wB T*(dp T m+2)=gB T S:=by
  have u:gB T (Hm.up S m λd=>{d with wait:=r})+pn T m (S.nd m)=gB T S+pn T m {S.nd m with wait:=r}:=u;rw[X,K,sp] at u
  lia
 generalize hS1:(Hm.up S m λd=>{d with wait:=r})=S1 at *;have x:(S1.nd m).st="on":=by rwa[<- hS1,av]
 have v:(S1.nd m).asked=false:=by rwa[<- hS1,av]
 have A:pn T m (S1.nd m)=wB T*(r.length*(dp T m+2))+2:=by rwa[<- hS1,av]
 have N:S1.book=S.book:=by rw[<- hS1];rfl
 have n:=toBe_off W;obtain⟨l,q,_⟩:=sr (T:=T) m S1;have H:Jv T (Hm.aJ T m S1).2:=by rw[q];erw[O.same (iY λd=>⟨rfl,rfl,rfl,rfl⟩) rfl]
 have f:(Hm.aJ T m S1).2.ends=[]:=by rwa[q]
 have M:gB T (Hm.aJ T m S1).2=gB T S1:=by
  rw[q];erw[Gu (λk _=>?_) e1 e1];by_cases e:k=m
  .rw[e,av];rfl
  .rw[bG _ e]
 have t:(Hm.aJ T m S1).2.nd m={S1.nd m with ay:=l}:=by rw[q,av]
 have R:∀k,k≠m->(Hm.aJ T m S1).2.nd k=S1.nd k:=λk D=>by rw[q,bG _ D]
 have s:((Hm.aJ T m S1).2.nd m).st="on":=by rwa[t]
 have c:((Hm.aJ T m S1).2.nd m).asked=false:=by rwa[t]
 have o:pn T m ((Hm.aJ T m S1).2.nd m)=wB T*(r.length*(dp T m+2))+2:=by rwa[t]
 have Y:(Hm.aJ T m S1).2.book=S1.book:=(qq m S1).1;have mi:=(ok.bV E I).1
 have Q:Jv T (bI T m i S1)/\(bI T m i S1).ends=[]/\(((bI T m i S1).nd m).st="turning"\/((bI T m i S1).nd m).st="down")/\gB T (bI T m i S1)+1<=gB T S1+wB T*(dp T m+2):=by
  unfold bI
  split
  .have jw:=H.write (T:=T) "gives up" m;refine⟨jw.turn (g:=λd=>goDown T m {d with rD:=true}) (by show((Hm.aJ T m S1).2.nd m).st≠"off";rw[s];decide) f (by show("down":Str)≠"off";decide) (λz=>by rw[J] at z;cases z) (λ_=>.inr (.inr rfl)) (λz=>absurd (show("down":Str)="turning" from z) ∅) (λ_=>rfl) (λ_=>.inr rfl) (sS ok p),f,.inr ?_,?_⟩
   .show ((Hm.up _ m _).nd m).st="down";rw[av]
    rfl
   .have a:=ya (T:=T) (S:=Hm.write T "gives up" m (Hm.aJ T m S1).2) (i:=m) (g:=λd=>goDown T m {d with rD:=true}) p f;rw[El,M] at a;have e2:pn T m ((Hm.write T "gives up" m (Hm.aJ T m S1).2).nd m)=wB T*(r.length*(dp T m+2))+2:=o
    have e3:pn T m (goDown T m { (Hm.write T "gives up" m (Hm.aJ T m S1).2).nd m with rD:=true})=wB T*(dp T m+1)+2:=by
     have C:((Hm.write T "gives up" m (Hm.aJ T m S1).2).nd m).asked=false:=c;unfold pn tk nu goDown;dsimp only;rw[C,eT ⟨rfl,rfl⟩,eJ (show ¬("down":Str)="off" by decide),eJ jt,eJ (show ¬("down":Str)="turning" by decide)];show wB T*(0*(dp T m+2)+(dp T m+1))+2+0=_;rw[ajS,ajT]
    rw[e2,e3] at a;have a:gB T (giveUp T m (Hm.write T "gives up" m (Hm.aJ T m S1).2))+(wB T*(r.length*(dp T m+2))+2)=gB T S1+(wB T*(dp T m+1)+2):=a;have:wB T*(dp T m+2)=wB T*(dp T m+1)+wB T:=by rw[show dp T m+2=(dp T m+1)+1 from rfl,ajs,amc]
    have:4<=wB T:=by unfold wB;lia
    lia
  .have jw:=H.write (T:=T) "answers" i;refine⟨jw.turn (g:=EV T m i (Hm.write T "answers" i (Hm.aJ T m S1).2)) (by show((Hm.aJ T m S1).2.nd m).st≠"off";rw[s];decide) f (by show("turning":Str)≠"off";decide) (λz=>by rw[J] at z;cases z) (λ_=>.inr (.inl rfl)) (λ_ k D B P=>?_) (λz=>absurd (show("turning":Str)="down" from z) ∅) (λz=>?_) (sS ok p),f,.inl ?_,?_⟩
   .refine Uv (S:=Hm.write T "answers" i (Hm.aJ T m S1).2) h E I ?_ D B P;show((Hm.aJ T m S1).2.nd i).st="off";rwa[R i ()]
   .have z:((Hm.aJ T m S1).2.nd m).asked=true:=z;rw[c] at z;cases z
   .show ((Hm.up _ m _).nd m).st="turning";rw[av]
    rfl
   .have a:=ya (T:=T) (S:=Hm.write T "answers" i (Hm.aJ T m S1).2) (i:=m) (g:=EV T m i (Hm.write T "answers" i (Hm.aJ T m S1).2)) p f;rw[El,M] at a;have e2:pn T m ((Hm.write T "answers" i (Hm.aJ T m S1).2).nd m)=wB T*(r.length*(dp T m+2))+2:=o
    have U:((Hm.write T "answers" i (Hm.aJ T m S1).2).nd m).wait=r:=by
     show((Hm.aJ T m S1).2.nd m).wait=r;rw[t,<-hS1];show((Hm.up S m λd=>{d with wait:=r}).nd m).wait=r;rw[av]
    have e3:pn T m (EV T m i (Hm.write T "answers" i (Hm.aJ T m S1).2) ((Hm.write T "answers" i (Hm.aJ T m S1).2).nd m))=wB T*(r.length*(dp T m+2))+2+3*T.length:=by
     have C:((Hm.write T "answers" i (Hm.aJ T m S1).2).nd m).asked=false:=c;unfold pn tk nu EV;dsimp only;rw[C,U,eJ (λz=>absurd (show("turning":Str)="down" from z.1) ∅),eJ (show ¬("turning":Str)="off" by decide),eJ jt,eT rfl]
     rfl
    rw[e2,e3] at a;have a:gB T (iZ T m i (Hm.write T "answers" i (Hm.aJ T m S1).2))+(wB T*(r.length*(dp T m+2))+2)=gB T S1+(wB T*(r.length*(dp T m+2))+2+3*T.length):=a;have:wB T*1<=wB T*(dp T m+2):=ahU _ ();have:wB T=3*T.length+4:=rfl
    lia
 erw[Q]
def Ql(h:fO T)(j:Jv T S){m i:Nat}{r:List Nat}(n:m<T.length)(u:fk T m=false)(x:i<T.length)(D:par T i=some m)(l:(S.nd m).wait=i::r)(a:(S.nd m).st="on")(c:S.ends=[]):
  Jv T (c9 T m i r S)/\pw T S (c9 T m i r S)/\((c9 T m i r S).ends≠[]->((c9 T m i r S).nd m).st≠"on"):=by
 have ok:=fO.tok h
 have G:(S.nd m).asked=false:=by
  cases z:(S.nd m).asked with
  |false=>rfl
  |true=>rcases j.ask m z with y|y|y<;>rw[a] at y<;>erw[absurd y ∅]
 have A:Jv T (Hm.up S m λd=>{d with wait:=r}):=j.same (iY λd=>⟨rfl,rfl,rfl,rfl⟩) rfl;have e1:(Hm.up S m λd=>{d with wait:=r}).ends=[]:=c;have f:=ya (T:=T) (S:=S) (i:=m) (g:=λd=>{d with wait:=r}) n c
 have nm:∀w:List Nat,pn T m {S.nd m with wait:=w}=wB T*(w.length*(dp T m+2))+2:=λw=>by
  unfold pn tk nu;dsimp only;rw[a,G,eJ (λz=>absurd z.1 ∅),eJ ∅,eJ jt,eJ (show ¬("on":Str)="turning" by decide)]
  rfl
 have E:pn T m (S.nd m)=wB T*((r.length+1)*(dp T m+2))+2:=by
  have:=nm (S.nd m).wait;rw[l] at this;have e:({S.nd m with wait:=i::r}:Nd)=S.nd m:=by rw[<- l]
  rw[e] at this;erw[this]
 have F:=nm r
 have sp:wB T*((r.length+1)*(dp T m+2))=wB T*(r.length*(dp T m+2))+wB T*(dp T m+2):=by
  rw[M6,Q9,ajs]
 have f:gB T (Hm.up S m λd=>{d with wait:=r})+wB T*(dp T m+2)=gB T S:=by
  have f:gB T (Hm.up S m λd=>{d with wait:=r})+pn T m (S.nd m)=gB T S+pn T m {S.nd m with wait:=r}:=f;rw[E,F,sp] at f
  lia
 unfold c9;by_cases o:toBe T m i (Hm.up S m λd=>{d with wait:=r})=true
 .rw[eT o];obtain⟨H,t,B,I⟩:=Ws h j n u x D l a c o;have b:(Hm.up S m λd=>{d with wait:=r}).book=S.book:=rfl;rw[lj];obtain⟨v,s,C⟩:=wm h 9 m _ n u B H t;have q:=yb (T:=T) m i (Hm.up S m λd=>{d with wait:=r});refine⟨v,⟨?_,?_⟩,C⟩
  .have:=s.p;rw[q,b] at this
   lia
  .have:=s.e;rw[t,q,b] at this;rw[c];have z:([]:List (Nat×Str)).length=0:=rfl
   lia
 .rw[eJ o];erw[⟨A,⟨?_,fx _⟩,λz=>absurd e1 z⟩];show gB T _+S.book.length<=_
  lia
end
section
variable{T:List Row}{S:HS}
theorem EK(h:fO T):∀(f m:Nat) (S:HS),m<T.length->fk T m=false->Wf T S->Jv T S->((S.nd m).st="on"->S.ends=[])->Jv T (bt T f m S)/\pw T S (bt T f m S)
 |0,_,S,_,_,_,j,_=>⟨j,pw.refl T S⟩
 |f+1,m,S,hm,hl,w,j,he=>by
  have ok:=fO.tok h;unfold bt;by_cases g:(S.nd m).st="on"
  .rw[eT g];cases hw:(S.nd m).wait with
   |nil=>exact⟨j,pw.refl T S⟩
   |cons i r=>
    obtain⟨l,n⟩:=w.wt m i (by rw[hw];erw[ll]);obtain⟨a,b,c⟩:=Ql h j hm hl l n hw g (he g)
    obtain⟨d,e⟩:=EK h f m (c9 T m i r S) hm hl (w.c9 ok hm hl hw).1 a (λz=>by
     cases y:(c9 T m i r S).ends with
     |nil=>rfl
     |cons u v=>erw[absurd z (c (by rw[y];exact λz=>by cases z))])
    exact⟨d,b.trans e⟩
  .rw[eJ g];exact⟨j,pw.refl T S⟩
def Zu(h:fO T)(w:Wf T S)(j:Jv T S){i m:Nat}{wd:Str}(f:S.ends=[(i,wd)])(c:par T i=some m):Jv T (bX T m i wd {S with ends:=[]})/\(bX T m i wd {S with ends:=[]}).ends=[]/\((bX T m i wd {S with ends:=[]}).nd m).st=(S.nd m).st:=by
 have a:Jv T {S with ends:=[]}:=⟨j.dl,j.dm,j.up,j.com,j.dwn,j.ask,λe b=>(by cases b),pI _⟩;unfold bX lB
 split
 .exact ⟨a,rfl,rfl⟩
 .split
  .exact ⟨a.same (iY λd=>⟨rfl,rfl,rfl,rfl⟩) rfl,rfl,by rw[av]⟩
  .split
   .exact ⟨a.same (iY λd=>⟨rfl,rfl,rfl,rfl⟩) rfl,rfl,by rw[av]⟩
   .exact ⟨a,rfl,rfl⟩
def Qf(h:fO T)(w:Wf T S)(j:Jv T S){i:Nat}{wd:Str}(t:S.ends=[(i,wd)]):Jv T (pV T i wd {S with ends:=[]})/\gB T (pV T i wd {S with ends:=[]})+(pV T i wd {S with ends:=[]}).book.length<=gB T S+S.book.length∧
  (pV T i wd {S with ends:=[]}).ends.length+S.book.length<=(pV T i wd {S with ends:=[]}).book.length:=by
 have ok:=fO.tok h;obtain⟨l,Y,f⟩:=j.pnd (i,wd) (by rw[t];erw[ll]);have l:i<T.length:=l;have f:∀m,par T i=some m->(S.nd m).st≠"off":=f;obtain⟨H,F,_,_⟩:=w.pop t;have n:Jv T {S with ends:=[]}:=⟨j.dl,j.dm,j.up,j.com,j.dwn,j.ask,λe I=>(by cases I),pI _⟩
 have C:gB T {S with ends:=[]}+(if (S.nd i).asked then 0 else wB T*(dp T i+1))=gB T S:=by
  unfold gB pe;rw[t]
  rfl
 cases hp:par T i with
 |none=>
  rw[sE hp];erw[⟨n,?_,?_⟩]
  .show gB T {S with ends:=[]}+S.book.length<=_
   lia
  .show 0+S.book.length<=S.book.length
   lia
 |some m=>
  rw[n9 hp];obtain⟨mi,q⟩:=ok.bV l hp;have D:m<T.length:=by lia
  have s:=f m hp;have J:=(um h l hp).2.2;have W:=H.bX (wd:=wd) l hp q (F m);have Q:=H.dY ok (wd:=wd) l hp (F m)
  have L:Jv T (bX T m i wd {S with ends:=[]})/\(bX T m i wd {S with ends:=[]}).ends=[]/\((bX T m i wd {S with ends:=[]}).nd m).st=(S.nd m).st/\gB T (bX T m i wd {S with ends:=[]})<=gB T S:=by
   unfold bX;cases ha:(S.nd i).asked with
   |true=>
    rw[ha,eT rfl] at C;rw[eT rfl];exact⟨n,rfl,rfl,()⟩
   |false=>
    rw[ha,eJ jt] at C;rw[eJ jt];unfold lB
    split
    .refine ⟨n.same (iY λd=>⟨rfl,rfl,rfl,rfl⟩) rfl,rfl,?_,?_⟩
     .rw[av]
     .have e:gB T (up {S with ends:=[]} m λd=>{d with good:=d.good ||| 2^f7 T i})=gB T {S with ends:=[]}:=by
       erw[Gu (λk _=>?_) rfl rfl];by_cases e:k=m
       .rw[e,av];rfl
       .rw[bG _ e]
      rw[e]
      lia
    .split
     .refine ⟨n.same (iY λd=>⟨rfl,rfl,rfl,rfl⟩) rfl,rfl,?_,?_⟩
      .rw[av]
      .have E:=ya (T:=T) (S:={S with ends:=[]}) (i:=m) (g:=λd=>{d with wait:=d.wait++[i]}) D rfl
       have e1:pn T m {S.nd m with wait:=(S.nd m).wait++[i]}=pn T m (S.nd m)+wB T*(dp T m+2):=by
        unfold pn
        have:tk T m {S.nd m with wait:=(S.nd m).wait++[i]}=tk T m (S.nd m)+(dp T m+2):=by
         unfold tk;show((S.nd m).wait++[i]).length*(dp T m+2)+(if (S.nd m).st="down"/\(S.nd m).asked=false then dp T m+1 else 0)=_;rw[iv];show((S.nd m).wait.length+1)*(dp T m+2)+(if (S.nd m).st="down"/\(S.nd m).asked=false then dp T m+1 else 0)=_;rw[M6,Q9]
         lia
        rw[this,ajs];show wB T*tk T m (S.nd m)+wB T*(dp T m+2)+nu (S.nd m)+(if (S.nd m).st="turning" then 3*T.length else 0)=wB T*tk T m (S.nd m)+nu (S.nd m)+(if (S.nd m).st="turning" then 3*T.length else 0)+wB T*(dp T m+2)
        lia
       have E:gB T (up {S with ends:=[]} m λd=>{d with wait:=d.wait++[i]})+pn T m (S.nd m)=gB T {S with ends:=[]}+pn T m {S.nd m with wait:=(S.nd m).wait++[i]}:=E;rw[e1] at E;rw[J] at C;have:wB T*(dp T m+1+1)=wB T*(dp T m+2):=rfl
       lia
     .exact ⟨n,rfl,rfl,()⟩
  obtain⟨B,A,O,X⟩:=L;have G:=Ao (T:=T) m i wd {S with ends:=[]}
  have N:Jv T (dY T m i wd {S with ends:=[]})/\pw T (bX T m i wd {S with ends:=[]}) (dY T m i wd {S with ends:=[]})/\(((dY T m i wd {S with ends:=[]}).nd m).st="on"->(dY T m i wd {S with ends:=[]}).ends=[]):=by
   unfold dY;by_cases z:((bX T m i wd {S with ends:=[]}).nd m).st="on"
   .rw[eT z];exact⟨B,pw.refl _ _,λ_=>A⟩
   .rw[eJ z,Jf]
    have r:((bX T m i wd {S with ends:=[]}).nd m).st="turning"\/((bX T m i wd {S with ends:=[]}).nd m).st="down":=by
     rcases B.dm m q with y|y|y|y
     .rw[O] at y;erw[absurd y s]
     .exact absurd y z
     .exact .inl y
     .exact .inr y
    obtain⟨a,b,c⟩:=wm h 9 m _ D q r B A;erw[⟨a,b,λy=>?_⟩];cases x:(aM T 9 m (bX T m i wd {S with ends:=[]})).ends with
    |nil=>rfl
    |cons u v=>erw[absurd y (c (by rw[x];exact λz=>by cases z))]
  obtain⟨U,R,P⟩:=N;obtain⟨M,K⟩:=EK h ((dY T m i wd {S with ends:=[]}).nd m).wait.length m _ D q Q U P;have o:=R.trans K;have G:(bX T m i wd {S with ends:=[]}).book.length=S.book.length:=by rw[G]
  erw[⟨M,?_,?_⟩]
  .have:=o.p
   lia
  .have:=o.e;rw[A] at this;have z:([]:List (Nat×Str)).length=0:=rfl
   lia
def P8(j:Jv T S)(f:S.ends≠[]):∃i wd,S.ends=[(i,wd)]:=by
 have:=j.one;cases e:S.ends with
 |nil=>erw[absurd e f]
 |cons a r=>
  rw[e] at this;cases r with
  |nil=>exact⟨a.1,a.2,rfl⟩
  |cons b c=>erw[absurd this (by show ¬c.length+1+1<=1;lia)]
theorem yJ(h:fO T):∀(f:Nat) (S:HS),gB T S+S.ends.length<=f->Wf T S->Jv T S->∃S',aZ T f S=some S'/\Jv T S'/\gB T S'+S'.book.length<=gB T S+S.book.length
 |0,S,g,w,j=>by
  have e:S.ends=[]:=ahE.mp ();erw[⟨S,?_,j,fx _⟩];unfold aZ;rw[eT e]
 |f+1,S,g,w,j=>by
  by_cases e:S.ends=[]
  .refine ⟨S,?_,j,fx _⟩;unfold aZ;rw[e]
  .obtain ⟨i,wd,e⟩:=P8 j e;have ok:=fO.tok h;obtain⟨l,n,o,_⟩:=w.pop e;obtain⟨a,b,c⟩:=Qf h w j e;rw[e] at g;have g:gB T S+1<=f+1:=g;obtain⟨S',p,q,m⟩:=yJ h f (pV T i wd {S with ends:=[]}) () (l.pV ok o n) a;erw[⟨S',?_,q,je m b⟩];unfold aZ;rwa[e]
theorem lK:∀(f g:Nat) (S S':HS),f<=g->aZ T f S=some S'->aZ T g S=some S'
 |0,g,S,S',_,h=>by
  unfold aZ at h
  split at h
  .rename_i e
   cases h;cases g with
   |zero=>unfold aZ;rw[eT e]
   |succ g=>unfold aZ;rw[e]
  .cases h
 |f+1,0,_,_,hl,_=>absurd hl (Nat.not_succ_le_zero _)
 |f+1,g+1,S,S',hl,h=>by
  unfold aZ at h ⊢
  split at h
  .exact h
  .exact lK f g _ S' () h
def cost(T:List Row):Nat:=9*wB T
def Sb(h:fO T)(w:Wf T S)(j:Jv T S)(c:S.ends=[]){i:Nat}(m:i<T.length):∃f S',(∀g,f<=g->eI T g i S=some S')/\Wf T S'/\Jv T S'/\S'.ends=[]/\gB T S'+S'.book.length<=gB T S+S.book.length+cost T:=by
 have ok:=fO.tok h;cases hs:bO T i S with
 |false=>
  erw[⟨0,S,λg _=>?_,w,j,c,()⟩];rw[tT,hs]
  rfl
 |true=>
  have a:=hs;unfold bO at a;rw[kE,kE,aib] at a;have s:=a.1.1;have A:(S.nd i).st≠"off":=yV a.1.2;have q:=w.fY m hs
  have E:∀k,k<T.length->par T k=some i->False:=λk p n=>by
   rw[(ok.bV p n).2] at s;cases s
  have o:∃g:Nd->Nd,(cB T i S).2=up S i g/\(∀d,(g d).st=d.st/\(g d).com=d.com/\(g d).cw=d.cw/\(g d).asked=d.asked)/\∀d,pn T i (g d)=pn T i d:=by
   unfold cB
   split
   .exact ⟨λd=>{d with need:=d.need-1,ja:=d.ja-1},rfl,λd=>⟨rfl,rfl,rfl,rfl⟩,λd=>rfl⟩
   .exact ⟨λd=>{d with steps:=d.steps+1},rfl,λd=>⟨rfl,rfl,rfl,rfl⟩,λd=>rfl⟩
  obtain⟨g,l,t,B⟩:=o;have y:Jv T (cB T i S).2:=by rw[l];erw[j.same (iY t) rfl]
  have e1:(cB T i S).2.ends=[]:=by rwa[l]
  have C:gB T (cB T i S).2=gB T S:=by
   rw[l];erw[Gu (λk _=>?_) c c];by_cases e:k=i
   .rw[e,av];erw[B _]
   .rw[bG _ e]
  have u:(cB T i S).2.book=S.book:=(alQ i S).1;have b:((cB T i S).2.nd i).st≠"off":=by rwa[l,(iY t i).1]
  have z:Jv T (fY T i S):=y.aX ok m b (λk p n=>(E k p n).elim) e1
  have G:gB T (fY T i S)+(fY T i S).book.length<=gB T S+S.book.length+cost T:=by
   have:=Pp (T:=T) (S:=(cB T i S).2) m e1 (wd:=(cB T i S).1) b (Ub h m);rw[C,u] at this;erw[this]
  obtain⟨S',r,x,F⟩:=yJ h (gB T (fY T i S)+(fY T i S).ends.length) _ (fx _) q z;obtain⟨v,e2⟩:=Wf.settle ok _ _ _ r q;erw[⟨gB T (fY T i S)+(fY T i S).ends.length,S',λg D=>?_,v,x,e2,()⟩];rw[tT,hs];erw[lK _ g _ _ D r]
theorem Zg(h:fO T):∀(l:List Nat) (S:HS),(∀i∈l,i<T.length)->Wf T S->Jv T S->S.ends=[]->∃f S',(∀g,f<=g->l.foldlM (λS i=>eI T g i S) S=some S')/\Wf T S'/\Jv T S'/\S'.ends=[]/\gB T S'+S'.book.length<=gB T S+S.book.length+l.length*cost T
 |[],S,_,w,j,e=>⟨0,S,λ_ _=>rfl,w,j,e,by show _<=_+0*cost T;lia⟩
 |a::r,S,hl,w,j,e=>by
  obtain⟨u,p,y,t,q,m,z⟩:=Sb h w j e (hl a ll);obtain⟨v,n,c,x,s,b,A⟩:=Zg h r p (λi o=>hl i (mD _ o)) t q m;erw[⟨max u v,n,λg B=>?_,x,s,b,?_⟩]
  .rw[aif,y g ()];erw[c g ()]
  .rw[qV,M6,Q9]
   lia
theorem Jv.tick(j:Jv T S)(c:Int):Jv T {S with clk:=c}:=⟨j.dl,j.dm,j.up,j.com,j.dwn,j.ask,j.pnd,j.one⟩
def Zy(h:fO T)(w:Wf T S)(j:Jv T S)(g:S.ends=[]):∃f S',By T f S=some S'/\Wf T S'/\Jv T S'/\S'.ends=[]/\gB T S'+S'.book.length<=gB T S+S.book.length+T.length*cost T:=by
 obtain⟨f,S',m,c,l,b,a⟩:=Zg h (gG T.length) {S with clk:=S.clk+1} (λi e=>pf.mp e) (w.tick _) (j.tick _) g;rw[mq] at a;exact⟨f,S',m f (fx _),c,l,b,a⟩
def Td(h:fO T)(w:Wf T S)(j:Jv T S)(l:S.ends=[]){i:Nat}(b:i<T.length)(g:fk T i=true)(a:cK S i=false):∃f S',HX T f i S=some S'/\Wf T S'/\Jv T S'/\S'.ends=[]/\gB T S'+S'.book.length<=gB T S+S.book.length+cost T:=by
 have ok:=fO.tok h;have a:(S.nd i).st≠"off":=yV a;have c:Wf T (Hm.aX T i "fallen" S):=w.aX b λ_=>.inr (.inl rfl);have m:Jv T (Hm.aX T i "fallen" S):=j.aX ok b a (λk p o=>(by rw[(ok.bV p o).2] at g;cases g)) l;have s:=Pp (T:=T) (S:=S) b l (wd:="fallen") a (Ub h b);obtain⟨S',e,q,r⟩:=yJ h (gB T (Hm.aX T i "fallen" S)+(Hm.aX T i "fallen" S).ends.length) _ (fx _) c m;obtain⟨n,e2⟩:=Wf.settle ok _ _ _ e c;exact⟨_,S',e,n,q,e2,by show _<=_+9*wB T;lia⟩
def SW(h:fO T)(w:Wf T S)(j:Jv T S)(e:S.ends=[])(a:cK S 0=false):∃f S',EA T f S=some S'/\Wf T S'/\Jv T S'/\S'.ends=[]/\gB T S'+S'.book.length<=gB T S+S.book.length:=by
 have ok:=fO.tok h;have a:(S.nd 0).st≠"off":=yV a;unfold EA;cases ha:(S.nd 0).asked with
 |true=>exact⟨0,S,by rw[eT rfl],w,j,e,fx _⟩
 |false=>
  obtain⟨n,m⟩:=CO h 10 0 S ok.n0 a ha j e;have b:=Wf.cP ok 10 0 S ok.n0 w;obtain⟨S',c,i,l⟩:=yJ h (gB T (cP T 10 0 S)+(cP T 10 0 S).ends.length) _ (fx _) b n;obtain⟨g,e2⟩:=Wf.settle ok _ _ _ c b;exact⟨_,S',by rwa[eJ jt],g,i,e2,je l m.p⟩
def WC(h:fO T):en T 0=T.length:=by
 have a:0<T.length:=ai7.mpr h.ne;obtain⟨e1,e2,e3,e4⟩:=eS a;rcases e4 with z|z
 .exact z
 .by_cases y:en T 0=T.length
  .exact y
  .obtain ⟨m,m1,m2,m3,m4,m5⟩:=uL h e1 (show en T 0<T.length by lia);have:=(Yw h).1
   lia
def Jg(h:fO T):new T=jK T 0 T.length ⟨0,[],[],λ_=>tV⟩:=by
 have ok:=fO.tok h;unfold new;rw[yN h 10 0 _ ok.n0 (gO (ok.deep 0 ok.n0)),WC h]
def XW(h:fO T):Jv T (new T)/\gB T (new T)+(new T).book.length<=3*T.length:=by
 have p:gB T ⟨0,[],[],λ_=>tV⟩=0:=by
  unfold gB;rw[xr rfl]
  have:∀n,uN (λk=>pn T k tV) n=0:=λn=>by
   induction n with
   |zero=>rfl
   |succ n o=>
    show uN _ n+pn T n tV=0;rw[o];show 0+(wB T*(0*(dp T n+2)+0)+0+0)=0;rw[ajS,alR]
  erw[this _]
 have nd:∀k,(new T).nd k=if k<T.length then ug T 0 k tV else tV:=λk=>by
  rw[Jg h];show(if 0<=k/\k<T.length then ug T 0 k tV else tV)=_;by_cases e:k<T.length
  .rw[eT ⟨pI _,e⟩,eT e]
  .rw[eJ (λz=>e z.2),eJ e]
 have i:(new T).ends=[]:=by rw[Jg h];rfl
 have b:∀k,(ug T 0 k tV).st="on"/\(ug T 0 k tV).asked=false:=λk=>by
  unfold ug;cases fk T k<;>exact⟨rfl,rfl⟩
 have ok:=fO.tok h;erw[⟨⟨λk _=>?_,λk _=>?_,λk m g f _=>?_,λk m g f j _=>?_,λm hd=>?_,λk c=>?_,λe l=>?_,by rw[i];exact pI _⟩,?_⟩]
 .rw[nd]
  split
  .exact .inr (.inl (b k).1)
  .exact .inl rfl
 .rw[nd]
  split
  .exact .inr (.inl (b k).1)
  .exact .inl rfl
 .have:=(ok.bV g f).1;rw[nd,eT (),(b m).1]
  decide
 .have:=(ok.bV g f).1;rw[nd,eT (),(b m).1] at j;erw[absurd j ∅]
 .rw[nd] at hd
  split at hd
  .rw[(b m).1] at hd;erw[absurd hd ∅]
  .exact absurd (show("off":Str)="down" from hd) ∅
 .rw[nd] at c
  split at c
  .rw[(b k).2] at c;cases c
  .cases c
 .rw[i] at l;cases l
 .have:=OR (T:=T) (S:=⟨0,[],[],λ_=>tV⟩) (a:=0) (e:=T.length) rfl (fx _) (λ_ _ _=>rfl);rw[p,<-Jg h] at this;have q:([]:List Ent).length=0:=rfl;show _<=_;have:gB T (new T)+(new T).book.length<=0+0+3*(T.length-0):=this
  lia
end
end Hm
namespace L2
open PySem PySem.Spec PyProof.Rows
section
variable{X:Cx}
def aaL{t y:Str}{u:ez}(r:RelV (V.str y) u):tq (V.str t) u=decide (y=t):=by
 obtain⟨k,rfl⟩:=r;show(y==t)=_;rw[qj,rz,kP]
def WT:JQ X "list.index" (λx vs H Q=>∃(p:eh) (xs:List Str) (t:Str) (j:Nat),x=.ref p/\vs=[.str t]/\eZ X.K H p (xs.map V.str)/\xs[j]? =some t/\(∀m,m<j->xs[m]? ≠some t)/\Q (.int ((j:Nat):Int)) H):=by
 intro C s S H x vs v us Q I N P h;obtain⟨p,xs,t,j,rfl,rfl,O,E,g,q⟩:=h;cases N;obtain⟨u,rfl,M⟩:=P.one;obtain⟨its,r,⟨o,n,e,c,L,d2⟩,a⟩:=I.list O;obtain⟨T,G,J,os⟩:=o;dsimp only at c L d2;subst c d2;have U:its.length=xs.length:=by have:=r.length;rw[fC] at this;lia
 have R:=(pE.mp E).1
 have f:∀(m:Nat) (b:m<its.toArray.size) (y:Str),xs[m]? =some y->tq (V.str t) its.toArray[m]=decide (y=t):=λm b y l=>by
  obtain⟨w,D,i⟩:=r.get (show(xs.map V.str)[m]? =some (V.str y) by rw[hV,l];rfl)
  have:its.toArray[m]=w:=by
   have A:m<its.length:=by rw[iB] at b;erw[b]
   rw[gx A] at D;erw[hH D]
  rw[this];erw[aaL i]
 have a:xs.length<=sizeLine:=by rw[fC] at a;erw[a]
 rw[GX] at a;have hsz:j<its.toArray.size:=by rw[iB];lia
 erw[ajk F.slot_list_index ⟨_,e,rfl⟩ F.entry_list_index (F.args_list_index_2 _ _) (SeqAt.list_indexAt p its.toArray n G os u (tq (V.str t)) j hsz () ?_ ?_) ⟨e,λy l=>sd M rfl r (vc.mpr λz a=>?_) y (by simpa using l),?_⟩]
 .rw[f j hsz t E];erw[fK rfl]
 .intro m b hlt;rw[iB] at b;have B:xs[m]? =some (xs[m]'()):=gx ();rw[f m (by rwa[iB]) _ B];erw[ik λz=>g m hlt (by rw[B,z])]
 .obtain ⟨w,_,rfl⟩:=ri.mp a
  rfl
 .exact ⟨.int j,H,I.tok _,⟨_,rfl⟩,q⟩
def yC{K0:fD}(h:X.K=K0):sg X (.builtin "isinstance") (λxs H Q=>∃(e C:eh) (c:V) (a:ez) (b:Bool),xs=[.ref e,c]/\H e=some (vr e C none)/\Jx K0 C/\VO K0 C/\RelV c a/\tW K0 (.ref C) a=some b/\Q (.bl b) H):=by
 subst h;erw[XI]
end
end L2
namespace Hm
open PySem Shp Tr Hs
def Why(T:List Row)(S:HS)(i:Nat):Prop:=i=0\/∃m,m<T.length/\fk T m=false/\bL T m S=some i/\((S.nd m).st="turning"\/(S.nd m).st="down")
inductive CB(T:List Row):HS->HS->Prop
 |acm {S:HS} {i:Nat}:i<T.length->fk T i=true->(S.nd i).st≠"off"->(S.nd i).asked=false->S.ends=[]->Why T S i->CB T S (aX T i (d0 ((bj T i (write T "told" i S)).nd i)) (bj T i (write T "told" i S)))
 |ab0 {S:HS} {i:Nat}:i<T.length->fk T i=false->(S.nd i).st≠"off"->(S.nd i).asked=false->S.ends=[]->Why T S i->CB T S (bj T i (write T "told" i S))
 |over {S:HS} {m:Nat}:m<T.length->fk T m=false->(S.nd m).st="down"->bL T m S=none->S.ends=[]->CB T S (aX T m (eR (S.nd m)) S)
 |back {S:HS} {m:Nat}:m<T.length->fk T m=false->(S.nd m).st="turning"->bL T m S=none->S.ends=[]->CB T S (aS T m S)
 |skip {S:HS} {m i:Nat} {r:List Nat}:m<T.length->fk T m=false->(S.nd m).st="on"->(S.nd m).wait=i::r->i<T.length->par T i=some m->S.ends=[]->toBe T m i (up S m λd=>{d with wait:=r})=false->CB T S (up S m λd=>{d with wait:=r})
 |ans {S:HS} {m i:Nat} {r:List Nat}:m<T.length->fk T m=false->(S.nd m).st="on"->(S.nd m).wait=i::r->i<T.length->par T i=some m->S.ends=[]->toBe T m i (up S m λd=>{d with wait:=r})=true->CB T S (bI T m i (up S m λd=>{d with wait:=r}))
 |abV {S:HS} {m i:Nat} {wd:Str}:i<T.length->par T i=some m->S.ends=[(i,wd)]->(S.nd m).st≠"off"->(S.nd i).st="off"->isWord wd->CB T S (bX T m i wd {S with ends:=[]})
 |Qp {S:HS} {i:Nat} {wd:Str}:i<T.length->par T i=none->S.ends=[(i,wd)]->CB T S {S with ends:=[]}
inductive xB(T:List Row):HS->HS->Prop
 |refl (S:HS):xB T S S
 |step {S S1 S':HS}:Wf T S->Jv T S->CB T S S1->xB T S1 S'->xB T S S'
def xB.trans{T:List Row}{S e c:HS}(a:xB T S e)(b:xB T e c):xB T S c:=by
 induction a with
 |refl _=>erw[b]
 |step w j s _ f=>erw[.step w j s (f b)]
section
variable{T:List Row}
theorem zV(h:fO T)(d:Nat)(a:∀(i:Nat) (S:HS),i<T.length->(S.nd i).st≠"off"->(S.nd i).asked=false->cj T d i->Why T S i->Wf T S->Jv T S->S.ends=[]->xB T S (cP T d i S)):∀(m:Nat) (S:HS),m<T.length->fk T m=false->(S.nd m).st="turning"\/(S.nd m).st="down"->cj T (d+1) m->Wf T S->Jv T S->S.ends=[]->xB T S (aM T d m S)
 |m,S,hm,hl,hst,hd,w,j,he=>by
  unfold aM;cases hL:bL T m S with
  |none=>
   dsimp only;rcases hst with z|z
   .exact .step w j (.back hm hl z hL he) (.refl _)
   .unfold aS;rw[eT z];erw[.step w j (.over hm hl z hL he) (.refl _)]
  |some k=>
   obtain⟨k1,k2,k3⟩:=Mv hL;dsimp only;cases ha:(S.nd k).asked with
   |true=>
    rw[eT rfl];erw[.refl _]
   |false=>
    rw[eJ jt];erw[a k S k1 k3 ha (hd k (lQ hL)) (.inr ⟨m,hm,hl,hL,hst⟩) w j he]
theorem DP(h:fO T):∀(d i:Nat) (S:HS),i<T.length->(S.nd i).st≠"off"->(S.nd i).asked=false->cj T d i->Why T S i->Wf T S->Jv T S->S.ends=[]->xB T S (cP T d i S)
 |0,_,_,_,_,_,hd,_,_,_,_=>hd.elim
 |d+1,i,S,hi,hon,ha,hd,why,w,j,he=>by
  have ok:=fO.tok h;rw[fA];cases hl:fk T i with
  |true=>
   rw[eT rfl];erw[.step w j (.acm hi hl hon ha he why) (.refl _)]
  |false=>
   rw[eJ jt];obtain⟨c,_⟩:=Pj ok j hi hon ha he;have b:=(w.write (T:=T) "told" i).bj (i:=i)
   have a:((bj T i (write T "told" i S)).nd i).st="down":=by
    unfold bj;rw[av,hl]
    rfl
   erw[.step w j (.ab0 hi hl hon ha he why) (zV h d (DP h d) i _ hi hl (.inr a) hd b c he)]
theorem Bu(h:fO T)(d:Nat):∀(m:Nat) (S:HS),m<T.length->fk T m=false->(S.nd m).st="turning"\/(S.nd m).st="down"->cj T (d+1) m->Wf T S->Jv T S->S.ends=[]->xB T S (aM T d m S):=zV h d (DP h d)
theorem Cn(h:fO T):∀(f m:Nat) (S:HS),m<T.length->fk T m=false->Wf T S->Jv T S->((S.nd m).st="on"->S.ends=[])->xB T S (bt T f m S)
 |0,_,S,_,_,_,_,_=>.refl S
 |f+1,m,S,hm,hl,w,j,he=>by
  have ok:=fO.tok h;unfold bt;by_cases e:(S.nd m).st="on"
  .rw[eT e];cases hw:(S.nd m).wait with
   |nil=>erw[.refl S]
   |cons i r=>
    obtain⟨l,n⟩:=w.wt m i (by rw[hw];erw[ll]);obtain⟨a,b,c⟩:=Ql h j hm hl l n hw e (he e);obtain⟨q,o⟩:=w.c9 ok hm hl hw
    have one:xB T S (c9 T m i r S):=by
     unfold c9;by_cases g:toBe T m i (up S m λd=>{d with wait:=r})=true
     .rw[eT g,lj];have x:Jv T (up S m λd=>{d with wait:=r}):=j.same (iY λd=>⟨rfl,rfl,rfl,rfl⟩) rfl;obtain⟨t,s,p,_⟩:=Ws h j hm hl l n hw e (he e) g;erw[.step w j (.ans hm hl e hw l n (he e) g) (Bu h 9 m _ hm hl p (gO (ok.deep m hm)) (o.bI hl) t s)]
     .rw[eJ g];erw[.step w j (.skip hm hl e hw l n (he e) (by cases z:toBe T m i (up S m λd=>{d with wait:=r}) with|true=>exact absurd z g|false=>rfl)) (.refl _)]
    exact one.trans (Cn h f m (c9 T m i r S) hm hl q a (λz=>by
     cases y:(c9 T m i r S).ends with
     |nil=>rfl
     |cons u v=>erw[absurd z (c (by rw[y];exact λz=>by cases z))]))
  .rw[eJ e];erw[.refl S]
def U3(h:fO T){S:HS}(w:Wf T S)(j:Jv T S){i:Nat}{wd:Str}(o:S.ends=[(i,wd)]):xB T S (pV T i wd {S with ends:=[]}):=by
 have ok:=fO.tok h;obtain⟨e,t,f⟩:=j.pnd (i,wd) (by rw[o];erw[ll]);have e:i<T.length:=e;have t:(S.nd i).st="off":=t;have f:∀m,par T i=some m->(S.nd m).st≠"off":=f;obtain⟨B,A,_,r⟩:=w.pop o;have r:isWord wd:=r;cases hp:par T i with
 |none=>
  rw[sE hp];erw[.step w j (.Qp e hp o) (.refl _)]
 |some m=>
  rw[n9 hp];obtain⟨mi,n⟩:=ok.bV e hp;have p:m<T.length:=by lia
  have l:=f m hp;have G:=B.bX (wd:=wd) e hp n (A m);have D:=B.dY ok (wd:=wd) e hp (A m);obtain⟨q,s,F⟩:=Zu h w j o hp;erw[.step w j (.abV e hp o l t r) ?_]
  have E:xB T (bX T m i wd {S with ends:=[]}) (dY T m i wd {S with ends:=[]})/\Jv T (dY T m i wd {S with ends:=[]})/\(((dY T m i wd {S with ends:=[]}).nd m).st="on"->(dY T m i wd {S with ends:=[]}).ends=[]):=by
   unfold dY;by_cases z:((bX T m i wd {S with ends:=[]}).nd m).st="on"
   .rw[eT z];exact⟨.refl _,q,λ_=>s⟩
   .rw[eJ z,Jf]
    have g:((bX T m i wd {S with ends:=[]}).nd m).st="turning"\/((bX T m i wd {S with ends:=[]}).nd m).st="down":=by
     rcases q.dm m n with y|y|y|y
     .rw[F] at y;erw[absurd y l]
     .exact absurd y z
     .exact .inl y
     .exact .inr y
    obtain⟨a,b,c⟩:=wm h 9 m _ p n g q s;erw[⟨Bu h 9 m _ p n g (gO (ok.deep m p)) G q s,a,λy=>?_⟩];cases x:(aM T 9 m (bX T m i wd {S with ends:=[]})).ends with
    |nil=>rfl
    |cons u v=>erw[absurd y (c (by rw[x];exact λz=>by cases z))]
  obtain⟨I,C,H⟩:=E;erw[I.trans (Cn h _ m _ p n D C H)]
theorem qh(h:fO T):∀(f:Nat) (S S':HS),aZ T f S=some S'->Wf T S->Jv T S->xB T S S'
 |0,S,S',hs,w,j=>by
  unfold aZ at hs
  split at hs
  .cases hs;erw[.refl S]
  .cases hs
 |f+1,S,S',hs,w,j=>by
  by_cases e:S.ends=[]
  .unfold aZ at hs;rw[e] at hs;cases hs;erw[.refl S]
  .obtain ⟨i,wd,e⟩:=P8 j e;have ok:=fO.tok h;obtain⟨a,b,c,_⟩:=w.pop e;unfold aZ at hs;rw[e] at hs;exact(U3 h w j e).trans (qh h f _ S' hs (a.pV ok c b) (Qf h w j e).1)
end
inductive Dk
 |IW (i:Nat)
 |stop
 |turns (k:Nat)
def vX(n:Nat)(cell:Int):Dk:=if cell%12=9\/cell%12=10 then .IW (cell/12%(n:Int)).toNat else if cell%12=11/\cell/12%5=3 then .stop else .turns (1+cell/12%2).toNat
inductive Gq(T:List Row):Nat->HS->HS->Prop
 |zero (S:HS):Gq T 0 S S
 |succ {k:Nat} {S S1 S':HS}:Gq T k S S1->(∃f,By T f S1=some S')->Gq T (k+1) S S'
def JC(T:List Row)(d:Dk)(S S':HS)(wd:Str):Prop:=match d with
 |.IW i=>(fk T i=false/\S'=S/\wd="leaf")\/(fk T i=true/\cK S i=true/\S'=S/\wd="off")\/(fk T i=true/\cK S i=false/\(∃f,HX T f i S=some S')/\wd="")
 |.stop=>(cK S 0=true/\S'=S/\wd="off")\/(cK S 0=false/\(∃f,EA T f S=some S')/\wd="")
 |.turns k=>Gq T k S S'/\wd=""
end Hm
namespace Lw
open PySem Shp Tr Hs Hm
structure En where
 t:Int
 wd:Str
 i:Nat
def gM{a:Type}(f:Nat->a)(i:Nat)(v:a):Nat->a:=λj=>if j=i then v else f j
theorem gK{a:Type}(f:Nat->a)(i:Nat)(v:a):gM f i v i=v:=eT rfl
theorem lz{a:Type}{f:Nat->a}{i j:Nat}{v:a}(h:j≠i):gM f i v j=f j:=eJ h
section
variable(T:List Row)
end
section
variable{T:List Row}
def Wa(T:List Row)(e:En):Ent:=ent T e.t e.wd e.i
theorem GB{S:HS}{k:Nat}:cK S k=true↔(S.nd k).st="off":=kP
end
section
variable{T:List Row}
theorem JG(i:Nat)(S:HS):aX T i "" S=S:=eT rfl
def wA{i:Nat}{wd:Str}(h:wd≠"")(S:HS):(aX T i wd S).clk=S.clk/\(aX T i wd S).book=S.book++[ent T S.clk wd i]/\(∀k,k≠i->(aX T i wd S).nd k=S.nd k)/\((aX T i wd S).nd i).st="off":=by
 unfold aX;rw[eJ h];exact⟨rfl,rfl,λk a=>eJ a,by show(ite (i=i) _ _:Nd).st=_;rw[eT rfl]⟩
def abf{wd:Str}(h:isWord wd):wd≠"":=by rcases h with rfl|rfl|rfl|rfl|rfl<;>decide
def zx(d:Nd):(d0 d="ended"/\d.need=0)\/(d0 d="cut"/\d.ja=0)\/(d0 d=""/\d.need≠0/\d.ja≠0):=by
 unfold d0;by_cases a:d.need=0
 .rw[eT a];erw[.inl ⟨rfl,a⟩]
 .rw[eJ a];by_cases b:d.ja=0
  .rw[eT b];erw[.inr (.inl ⟨rfl,b⟩)]
  .rw[eJ b];erw[.inr (.inr ⟨rfl,a,b⟩)]
end
section
variable{T:List Row}
def QC{f g i:Nat}{S S':HS}(a:f<=g)(h:eI T f i S=some S'):eI T g i S=some S':=by
 unfold eI at h ⊢;by_cases z:bO T i S=true
 .rw[eT z] at h ⊢;erw[lK _ _ _ _ a h]
 .rw[eJ z] at h ⊢;erw[h]
def Ln(h:fO T){S g:HS}(w:Wf T S)(j:Jv T S)(n:S.ends=[]){f i:Nat}(m:i<T.length)(hs:eI T f i S=some g):Wf T g/\Jv T g/\g.ends=[]:=by
 obtain⟨l,S',a,b,c,d,_⟩:=Sb h w j n m;have e:=QC (amy f l) hs;rw[a _ (amn f l)] at e;cases e;exact⟨b,c,d⟩
def Qn{S:HS}{i:Nat}(hs:bO T i S=true):fk T i=true/\(S.nd i).st≠"off"/\(S.nd i).beg<S.clk:=by
 unfold bO at hs;rw[kE,kE,aib] at hs;exact⟨hs.1.1,yV hs.1.2,gD hs.2⟩
def Zp(h:fO T){S:HS}(j:Jv T S)(p:S.ends=[]){i:Nat}(m:i<T.length)(hs:bO T i S=true):Jv T (fY T i S):=by
 have ok:=fO.tok h;obtain⟨f,l,_⟩:=Qn hs
 have c:∃g:Nd->Nd,(cB T i S).2=up S i g/\(∀d,(g d).st=d.st/\(g d).com=d.com/\(g d).cw=d.cw/\(g d).asked=d.asked):=by
  unfold cB
  split
  .exact ⟨λd=>{d with need:=d.need-1,ja:=d.ja-1},rfl,λd=>⟨rfl,rfl,rfl,rfl⟩⟩
  .exact ⟨λd=>{d with steps:=d.steps+1},rfl,λd=>⟨rfl,rfl,rfl,rfl⟩⟩
 obtain⟨g,b,e⟩:=c;have q:Jv T (cB T i S).2:=by rw[b];erw[j.same (iY e) rfl]
 have e1:(cB T i S).2.ends=[]:=by rwa[b]
 have a:((cB T i S).2.nd i).st≠"off":=by rwa[b,(iY e i).1]
 erw[q.aX ok m a (λk o n=>(by rw[(ok.bV o n).2] at f;cases f)) e1]
end
def turnsOf:Dk->Nat
 |.turns k=>k
 |_=>0
section
variable{T:List Row}
structure Xv(T:List Row)(S S':HS)(k:Nat)(es:List En):Prop where
 clk:S'.clk=S.clk+(k:Int)
 bk:S'.book=S.book++es.map (Wa T)
 lt:∀e∈es,e.i<T.length/\S.clk+((min 1 k:Nat):Int)<=e.t/\e.t<=S.clk+(k:Int)
 srt:es.Pairwise λa b=>a.t<=b.t
def Ht{c:Int}{es:List En}(h:∀e∈es,e.t=c):es.Pairwise λa b=>a.t<=b.t:=by
 induction es with
 |nil=>erw[.nil]
 |cons a r g=>
  erw[.cons (λb i=>?_) (g λe f=>h e (mD _ f))];rw[h a ll,h b (mD _ i)];erw[Jn _]
def UQ(h:fO T){S b:HS}(w:Wf T S)(j:Jv T S)(m:S.ends=[]){f:Nat}(hs:By T f S=some b):Wf T b/\Jv T b/\b.ends=[]:=by
 have ok:=fO.tok h;erw[⟨Wf.turn ok hs w,?_,UR ok hs w m⟩]
 have:∀(l:List Nat) (S b:HS),(∀i∈l,i<T.length)->l.foldlM (λS i=>eI T f i S) S=some b->Wf T S->Jv T S->S.ends=[]->Jv T b:=by
  intro l
  induction l with
  |nil=>intro S b _ hs _ j _;cases hs;erw[j]
  |cons a r p=>
   intro S b g hs w j e;rw[aif] at hs;cases z:eI T f a S with
   |none=>rw[z] at hs;cases hs
   |some o=>
    rw[z] at hs;obtain⟨n,q,e1⟩:=Ln h w j e (g a ll) z;erw[p o b (λi c=>g i (mD _ c)) hs n q e1]
 erw[this _ _ _ (λi c=>pf.mp c) hs (w.tick _) (j.tick _) m]
def B0{f g:Nat}{S c e:HS}(a:aZ T f S=some c)(b:aZ T g S=some e):c=e:=by
 have x:=lK _ _ _ _ (amy f g) a;rw[lK _ _ _ _ (amn f g) b] at x;cases x
 rfl
end
open L2 Nm PySem.NumText
theorem bZ{n i:Nat}{f:Nat->V}(h:i<n):oK ((gG n).map f) (i:Int)=some (f i):=bY (by rw[hV,zq h];rfl)
def NI{n i:Nat}(h:i<n):Cj n (i:Int)=some i:=by
 unfold Cj;rw[eT (),eT ()]
 rfl
def set_range{n i:Nat}{f:Nat->V}{v:V}:((gG n).map f).set i v=(gG n).map (gM f i v):=by
 erw[al6 λk=>?_];rw[List.getElem?_set,hV,hV,fC,mq];by_cases e:i=k
 .subst e;rw[eT rfl];by_cases h:i<n
  .rw[eT h,zq h];erw[hI some (gK ..).symm]
  .rw[eJ h,ahN (by rw[mq];lia)]
   rfl
 .rw[eJ e];by_cases h:k<n
  .rw[zq h];erw[hI some (lz (λz=>e z.symm)).symm]
  .rw[ahN (by rw[mq];lia)]
   rfl
def Pf{a:Type}(g:a->V)(f:Nat->a)(i:Nat)(v:a):gM (λk=>g (f k)) i (g v)=λk=>g (gM f i v k):=by
 funext k
 unfold gM
 split<;>rfl
def O1{T:List Row}{i:Nat}(h:i<T.length):sh T i=T[i].sh:=by
 unfold sh;rw[nN,gx h]
 rfl
section
variable{H H':Hp}{st a b c:eh}{n:Nat}{ls:LS}
end
def RC{T:List Row}{i:Nat}(a:fk T i=true):(words (sh T i))[0]? =some ("leaf":Str)/\(words (sh T i))[2]? =some (dM (sh T i).bK)/\(words (sh T i))[3]? =some (dM (sh T i).cC)∧
  (((sh T i).kind=0/\(words (sh T i))[4]? =some ("idle":Str))\/((sh T i).kind=1/\(words (sh T i))[4]? =some ("steady":Str)/\(words (sh T i))[5]? =some (dM (sh T i).many))\/((sh T i).kind=2/\(words (sh T i))[4]? =some ("falls":Str)/\(words (sh T i))[5]? =some (dM (sh T i).many))):=by
 have k:(sh T i).kind<3:=gD a;have:(sh T i).kind=0\/(sh T i).kind=1\/(sh T i).kind=2:=by lia
 unfold words;rcases this with z|z|z<;>rw[z]
 .exact ⟨rfl,rfl,rfl,.inl ⟨rfl,rfl⟩⟩
 .exact ⟨rfl,rfl,rfl,.inr (.inl ⟨rfl,rfl,rfl⟩)⟩
 .exact ⟨rfl,rfl,rfl,.inr (.inr ⟨rfl,rfl,rfl⟩)⟩
def NR{T:List Row}{i:Nat}(a:fk T i=false):(words (sh T i))[0]? =some ("minder":Str):=by
 have k:¬(sh T i).kind<3:=yV a;unfold words
 split<;>first|lia|rfl
theorem QF{a:List Str}{j:Nat}{x:Str}(h:a[j]? =some x):oK (a.map V.str) (j:Int)=some (V.str x):=bY (by rw[hV,h];rfl)
def Bb(F:FS)(H a:Hp):Prop:=aL a H/\∀x,F x->a x=none
section
variable{F F':FS}{H H' H0:Hp}{st a b c:eh}{n:Nat}{ls ls':LS}
theorem Bb.same(h:Bb F H H0)(e:aL H H'):Bb F H' H0:=⟨λx o z=>e _ _ (h.1 x o z),h.2⟩
def Bb.moved{S:Type}{R:HR S}{x:eh}{s:S}(h:Bb F H H0)(m:Moved R H F x s H' F'):Bb F' H' H0:=by
 erw[⟨λy o z=>m.1 y o (λf=>by rw[h.2 y f] at z;cases z) (h.1 y o z),λy f=>?_⟩];rcases m.2.1 y f with g|g
 .exact h.2 y g
 .cases z:H0 y with
  |none=>rfl
  |some o=>rw[h.1 y o z] at g;cases g
end
def PV{a:List Row}(h:fO a):(written a).length<=100000:=by
 have j:=Dj [10] (md a)
 have s:((md a).map (·.length)).sum<=83*(md a).length:=by
  have:=RL (n:=83) (l:=(md a).map (·.length)) λx e=>by
   obtain⟨l,f,rfl⟩:=ri.mp e;obtain⟨r,b,rfl⟩:=ri.mp f;obtain⟨i,c,rfl⟩:=ai1.mp b;have d:=Ub h c;unfold dp at d;rw[nN,gx c] at d;have d:a[i].dep<=8:=d;have:=Ml (h.sh _ b) a[i].dep
   lia
  rw[fC] at this;erw[this]
 rw[Tr.plain_len] at s j;have:=h.len;unfold written;simp only[qV,ai8] at j
 lia
def LF(xs:List V)(a:Nat):DR xs (some (a:Int)) none=xs.drop a:=by
 unfold DR HT.pA;dsimp only;rw[eJ ()];by_cases h:(a:Int) > xs.length
 .rw[akX (show xs.length<=a by lia)];erw[ahE.mp (by rw[uU,aid];lia)]
 .rw[aiM (by rw[aid];lia)]
  congr 1
  lia
def U8(ns:List Int)(a b:Nat)(h:a<=b):∃c:List Int,DR (ns.map V.int) (some (a:Int)) (some (b:Int))=c.map V.int/\c.length<=b-a:=by
 unfold DR;erw[⟨(ns.drop (HT.pA (ns.map V.int).length 0 (some (a:Int)))).take (HT.pA (ns.map V.int).length (ns.map V.int).length (some (b:Int))-HT.pA (ns.map V.int).length 0 (some (a:Int))),by rw[aki,alp],?_⟩];rw[uU,aid,HT.TH,HT.TH,fC];omega
def Bb.upd{F:FS}{H a:Hp}{y:eh}{o:HO}(h:Bb F H a)(n:¬F y):Bb F (L2.upd H y o) (L2.upd a y o):=by
 erw[⟨λz u e=>?_,λz f=>?_⟩]
 .by_cases q:z=y
  .rw[q,af] at e ⊢;erw[e]
  .rw[ai q] at e ⊢;erw[h.1 _ _ e]
 .rw[ai (λq=>n (by rwa[<- q]))];erw[h.2 z f]
end Lw
namespace Gr
open PySem Shp Tr Hs Hm Lw
structure Rd(σ:Type) where
 ok:σ->En->Prop
 nx:σ->En->σ
 lk:HS->Nat->σ->Prop
section
variable{T:List Row}{σ:Type}{r:Rd σ}
def Rd.run(r:Rd σ)(ls:σ)(es:List En):σ:=es.foldl r.nx ls
def Rd.Ok(r:Rd σ):σ->List En->Prop
 |_,[]=>True
 |ls,e::es=>r.ok ls e/\r.Ok (r.nx ls e) es
theorem ux(ls:σ)(a b:List En):r.run ls (a++b)=r.run (r.run ls a) b:=aiQ ..
theorem yI:∀{a b:List En} {ls:σ},r.Ok ls a->r.Ok (r.run ls a) b->r.Ok ls (a++b)
 |[],_,_,_,h=>h
 |_::_,_,_,h,k=>⟨h.1,yI h.2 k⟩
structure Go(T:List Row)(r:Rd σ)(p p':Nat)(S S':HS)(es:List En):Prop where
 lt:∀e∈es,e.i<T.length/\e.t=S.clk
 clk:S'.clk=S.clk
 bk:S'.book=S.book++es.map (Wa T)
 go:∀ls,r.lk S p ls->r.Ok ls es/\r.lk S' p' (r.run ls es)
theorem Go.refl(p:Nat)(S:HS):Go T r p p S S []:=⟨λe h=>(by cases h),rfl,(ov _).symm,λ_ h=>⟨trivial,h⟩⟩
def Go.trans{p f i:Nat}{S g c:HS}{a b:List En}(x:Go T r p f S g a)(y:Go T r f i g c b):Go T r p i S c (a++b):=by
 erw[⟨λe m=>?_,y.clk.trans x.clk,by rw[y.bk,x.bk,js,wH],λls h=>?_⟩]
 .rcases ql.mp m with z|z
  .exact x.lt e z
  .exact ⟨(y.lt e z).1,(y.lt e z).2.trans x.clk⟩
 .obtain ⟨x1,x2⟩:=x.go ls h;obtain⟨j,l⟩:=y.go _ x2;exact⟨yI x1 j,by rwa[ux]⟩
theorem Go.kJ{S S':HS}{p a:Nat}(c:S'.clk=S.clk)(b:S'.book=S.book)(g:∀ls,r.lk S p ls->r.lk S' a ls):Go T r p a S S' []:=
 ⟨λe h=>(by cases h),c,by rw[b];exact(ov _).symm,λls h=>⟨trivial,g ls h⟩⟩
theorem Go.one{S S':HS}{p a:Nat}{wd:Str}{i:Nat}(f:i<T.length)(c:S'.clk=S.clk)(b:S'.book=S.book++[ent T S.clk wd i])(g:∀ls,r.lk S p ls->r.ok ls ⟨S.clk,wd,i⟩/\r.lk S' a (r.nx ls ⟨S.clk,wd,i⟩)):Go T r p a S S' [⟨S.clk,wd,i⟩]:=
 ⟨λe h=>by rw[oi.mp h];exact⟨f,rfl⟩,c,b,λls h=>⟨⟨(g ls h).1,trivial⟩,(g ls h).2⟩⟩
structure Reads(T:List Row)(r:Rd σ):Prop where
 stp:∀{S S':HS} (p:Nat),Wf T S->Jv T S->CB T S S'->∃es,Go T r p p S S' es
 step:∀{S:HS} {i:Nat},i<T.length->bO T i S=true->Wf T S->Jv T S->S.ends=[]->∃es,Go T r i (i+1) S (fY T i S) es
 pass:∀{S:HS} {i:Nat} {ls:σ},i<T.length->bO T i S=false->r.lk S i ls->r.lk S (i+1) ls
 tick:∀{S:HS} {ls:σ},S.ends=[]->r.lk S T.length ls->r.lk {S with clk:=S.clk+1} 0 ls
 IW:∀{S:HS} {i:Nat},i<T.length->fk T i=true->(S.nd i).st≠"off"->Wf T S->Jv T S->S.ends=[]->Go T r T.length T.length S (aX T i "fallen" S) [⟨S.clk,"fallen",i⟩]
def Ny(rd:Reads T r){S S':HS}(m:xB T S S')(p:Nat):∃es,Go T r p p S S' es:=by
 induction m with
 |refl S=>exact⟨_,Go.refl p S⟩
 |step w j s _ f=>
  obtain⟨a,e⟩:=rd.stp p w j s;obtain⟨b,c⟩:=f;exact⟨_,e.trans c⟩
def aae(rd:Reads T r)(h:fO T){S e:HS}(w:Wf T S)(j:Jv T S)(g:S.ends=[]){f i:Nat}(c:i<T.length)(hs:eI T f i S=some e):∃es,Go T r i (i+1) S e es:=by
 unfold eI at hs;cases z:bO T i S with
 |true=>
  rw[eT z] at hs;obtain⟨a,m⟩:=rd.step c z w j g;obtain⟨b,l⟩:=Ny rd (qh h f _ e hs (w.fY c z) (Zp h j g c z)) (i+1);exact⟨_,m.trans l⟩
 |false=>
  rw[eJ (by rw[z];decide)] at hs;cases hs;exact⟨_,Go.kJ rfl rfl λls k=>rd.pass c z k⟩
theorem Zt(rd:Reads T r)(h:fO T){f:Nat}:∀(n a:Nat) (S S':HS),a+n<=T.length->(iH a n).foldlM (λS i=>eI T f i S) S=some S'->Wf T S->Jv T S->S.ends=[]->∃es,Go T r a (a+n) S S' es
 |0,a,S,S',_,hs,_,_,_=>by
  cases hs;exact⟨_,Go.refl a S⟩
 |n+1,a,S,S',hn,hs,w,j,he=>by
  rw[SU,aif] at hs;cases z:eI T f a S with
  |none=>rw[z] at hs;cases hs
  |some e=>
   rw[z] at hs;obtain⟨c,l,e1⟩:=Ln h w j he () z;obtain⟨x,g⟩:=aae rd h w j he () z;obtain⟨y,b⟩:=Zt rd h n (a+1) e S' () hs c l e1;rw[show a+1+n=a+(n+1) by lia] at b;exact⟨_,g.trans b⟩
theorem Go.adt{p b:Nat}{S S':HS}{es:List En}(g:Go T r p b S S' es):Xv T S S' 0 es:=
 ⟨by rw[g.clk];exact(akD _).symm,g.bk,λe a=>⟨(g.lt e a).1,by rw[(g.lt e a).2];exact⟨am2 (akD _),am2 (akD _).symm⟩⟩,Ht λe a=>(g.lt e a).2⟩
def aaF(rd:Reads T r)(h:fO T){S b:HS}(w:Wf T S)(j:Jv T S)(a:S.ends=[]){f:Nat}(hs:By T f S=some b):
  ∃es,Xv T S b 1 es/\∀ls,r.lk S T.length ls->r.Ok ls es/\r.lk b T.length (r.run ls es):=by
 unfold By at hs;rw[ai0] at hs;obtain⟨es,g⟩:=Zt rd h T.length 0 _ b () hs (w.tick _) (j.tick _) a;rw[ajT] at g;exact⟨es,⟨g.clk,g.bk,λe a=>⟨(g.lt e a).1,by rw[(g.lt e a).2];exact⟨Jn _,Jn _⟩⟩,Ht λe a=>(g.lt e a).2⟩,λls k=>g.go ls (rd.tick a k)⟩
def Y6(rd:Reads T r)(h:fO T):∀{k:Nat} {S S':HS},Gq T k S S'->Wf T S->Jv T S->S.ends=[]→
  ∃es,Xv T S S' k es/\(∀ls,r.lk S T.length ls->r.Ok ls es/\r.lk S' T.length (r.run ls es))/\(∀e∈es,S.clk+1<=e.t)/\Wf T S'/\Jv T S'/\S'.ends=[]:=by
 intro k S S' t w j c
 induction t with
 |zero S=>exact⟨[],⟨(akD _).symm,(ov _).symm,λe c=>(by cases c),.nil⟩,λls k=>⟨trivial,k⟩,λe c=>(by cases c),w,j,c⟩
 |@succ k S S1 S' t x ih=>
  obtain⟨a,i,v,p,m,q,e1⟩:=ih w j c;obtain⟨f,o⟩:=x;obtain⟨b,g,B⟩:=aaF rd h m q e1 o;obtain⟨A,D,e2⟩:=UQ h m q e1 o;have E:=i.clk;have C:=g.clk;erw[⟨a++b,⟨by rw[C,E];lia,by rw[g.bk,i.bk,js,wH],λe c=>?_,?_⟩,λls k=>?_,λe c=>?_,A,D,e2⟩]
  .rcases ql.mp c with z|z
   .obtain ⟨z1,z2,l⟩:=i.lt e z;have:=p e z;exact⟨z1,(),()⟩
   .obtain ⟨z1,z2,l⟩:=g.lt e z;exact⟨z1,(),()⟩
  .refine List.pairwise_append.mpr ⟨i.srt,g.srt,λx s y F=>?_⟩;obtain⟨_,_,l⟩:=i.lt x s;obtain⟨_,n,_⟩:=g.lt y F
   lia
  .obtain ⟨x1,x2⟩:=v ls k;obtain⟨u,n⟩:=B _ x2;exact⟨yI x1 u,by rwa[ux]⟩
  .rcases ql.mp c with z|z
   .exact p e z
   .obtain ⟨z1,z2,l⟩:=g.lt e z
    lia
def aa5(rd:Reads T r)(h:fO T){d:Dk}{S S':HS}{wd:Str}(w:Wf T S)(j:Jv T S)(e:S.ends=[])(n:∀i,d=.IW i->i<T.length)(q:JC T d S S' wd):
  ∃es,Xv T S S' (turnsOf d) es/\(∀ls,r.lk S T.length ls->r.Ok ls es/\r.lk S' T.length (r.run ls es))/\Wf T S'/\Jv T S'/\S'.ends=[]:=by
 have ok:=fO.tok h
 have none:∀{S:HS},Wf T S->Jv T S->S.ends=[]->∃es,Xv T S S 0 es/\(∀ls,r.lk S T.length ls->r.Ok ls es/\r.lk S T.length (r.run ls es))/\Wf T S/\Jv T S/\S.ends=[]:=
  λ{S} w j e=>⟨[],(Go.refl (r:=r) T.length S).adt,λls k=>⟨trivial,k⟩,w,j,e⟩
 cases d with
 |turns k=>
  obtain⟨es,a,b,_,c⟩:=Y6 rd h q.1 w j e;exact⟨es,a,b,c⟩
 |stop=>
  rcases q with⟨_,rfl,_⟩|⟨m,⟨f,l⟩,_⟩
  .exact none w j e
  .obtain ⟨f2,S2,s1,s2,s3,s4,_⟩:=SW h w j e m;have m:(S.nd 0).st≠"off":=yV m;unfold EA at l s1;by_cases o:(S.nd 0).asked=true
   .rw[eT o] at l;cases l;erw[none w j e]
   .rw[eJ o] at l s1;obtain rfl:=B0 l s1;have o:(S.nd 0).asked=false:=by cases z:(S.nd 0).asked with|true=>exact absurd z o|false=>rfl
    have y:=DP h 10 0 S ok.n0 m o (gO (ok.deep 0 ok.n0)) (.inl rfl) w j e;have u:=qh h f _ S' l (Wf.cP ok 10 0 S ok.n0 w) (CO h 10 0 S ok.n0 m o j e).1;obtain⟨es,g⟩:=Ny rd (y.trans u) T.length;exact⟨es,g.adt,g.go,s2,s3,s4⟩
 |IW i=>
  have n:=n i rfl;rcases q with⟨p,rfl,_⟩|⟨p,m,rfl,_⟩|⟨p,m,⟨f,l⟩,_⟩
  .exact none w j e
  .exact none w j e
  .obtain ⟨f2,S2,s1,s2,s3,s4,_⟩:=Td h w j e n p m;unfold HX at l s1;obtain rfl:=B0 l s1;have on:(S.nd i).st≠"off":=yV m;have s:isWord "fallen":= .inr (.inl rfl);have t:=rd.IW n p on w j e;obtain⟨es,g⟩:=Ny rd (qh h f _ S' l (w.aX n λ_=>s) (j.aX ok n on (λk x v=>(by rw[(ok.bV x v).2] at p;cases p)) e)) T.length;have g:=t.trans g;exact⟨_,g.adt,g.go,s2,s3,s4⟩
end
end Gr
namespace Gw
open PySem Shp Tr Hs Hm Lw
section
variable(T:List Row)
end
section
variable{T:List Row}{X:Nat->Prop}
end
section
variable{T:List Row}{S:HS}{ls:LG}{p:Nat}
def VU{m j:Nat}(h:bL T m S=some j):hX (S.nd m).cw (f7 T j)=true:=by
 unfold bL at h
 split at h
 .cases h
 .rename_i h0
  obtain⟨b,_,_⟩:=JA h;have a:hX ((S.nd m).cw &&& bh T m S) (aj2 ((S.nd m).cw &&& bh T m S))=true:=amm h0;rw[yp,kE] at a;rw[b];erw[a.1]
theorem Pa(i:Nat)(S:HS):(bj T i (write T "told" i S)).nd i=(if fk T i then {S.nd i with st:="told",asked:=true,need:=(sh T i).cC,ja:=(sh T i).bK} else goDown T i {S.nd i with asked:=true}):=av ..
end
section
variable{T:List Row}
def PN{c d sp:Int}(h:c<=d)(l:List Int):bT d sp (bT c sp l)=bT d sp l:=by
 unfold bT;rw[ajf];erw[al7 λx _=>?_];by_cases z:d-x<sp
 .rw[fK z,fK (show c-x<sp by lia)];rfl
 .rw[ik z];rfl
def Ud(m:Nat)(S:HS):∃l,(aJ T m S).2=up S m (λd=>{d with ay:=l})/\(∀c,S.clk<=c->bT c (sh T m).cC l=bT c (sh T m).cC (S.nd m).ay)/\((aJ T m S).1=true->(sh T m).bK<((bT S.clk (sh T m).cC (S.nd m).ay).length:Int)+1)/\((aJ T m S).1=false->((bT S.clk (sh T m).cC (S.nd m).ay).length:Int)+1<=(sh T m).bK):=by
 unfold aJ
 split
 .rename_i z
  erw[⟨(S.nd m).ay,?_,λ_ _=>rfl,λy=>(by cases y),λ_=>?_⟩]
  .show S={S with nd:=λj=>if j=m then _ else S.nd j}
   have:S.nd=λj=>if j=m then {S.nd j with ay:=(S.nd m).ay} else S.nd j:=by
    funext j
    by_cases e:j=m
    .rw[eT e,e]
    .rw[eJ e]
   rw[<- this]
  .have:(bT S.clk (sh T m).cC (S.nd m).ay).length<=(S.nd m).ay.length:=AL _ _
   lia
 .exact ⟨_,rfl,λc a=>PN a _,λy=>gD y,λy=>by have:=yV y;lia⟩
end
section
variable{T:List Row}
end
section
variable{T:List Row}
def MM(h:fO T){i:Nat}(f:i<T.length)(a:HS)(Inv:Nat->HS->Prop)(step:∀j S,j<T.length->par T j=some i->j∈bu T i a->Inv j S->Inv (en T j) (jK T j (en T j) S))
  (skip:∀j S,j<T.length->par T j=some i->j∉bu T i a->Inv j S->Inv (en T j) S) (S:HS) (e:Inv (i+1) S):Inv (en T i) ((bu T i a).foldl (λS j=>bf T 9 j S) S):=by
 have ok:=fO.tok h;obtain⟨e1,e2,e3,e4⟩:=eS f
 have m:bu T i a=(iH (i+1) (en T i-(i+1))).filter λj=>decide (par T j=some i)&&(hX (a.nd i).com (f7 T j)&& !Nat.testBit (a.nd i).good (f7 T j)):=by
  unfold bu;rw[A5 h f,ajf]
  congr 1
  funext j
  erw[amT _ _]
 have l:∀j,j<T.length->par T j=some i->(j∈bu T i a↔(hX (a.nd i).com (f7 T j)&& !Nat.testBit (a.nd i).good (f7 T j))=true):=λj b c=>by
  unfold bu kids;rw[yq,yq,pf];exact⟨λz=>z.2,λz=>⟨⟨b,fK c⟩,z⟩⟩
 rw[m];erw[LO h f (λj=>hX (a.nd i).com (f7 T j)&& !Nat.testBit (a.nd i).good (f7 T j)) (λS j=>bf T 9 j S) (λj S b c=>yN h 9 j S b (ok.deep j b)) Inv (λj S b c g e=>step j S b c ((l j b c).mpr g) e) (λj S b c g e=>skip j S b c (λz=>by rw[(l j b c).mp z] at g;cases g) e) (en T i-(i+1)) (i+1) (fx _) () () (LP h f) S e]
end
end Gw
namespace Gn
open PySem Shp Tr Hs Hm Lw
structure LN where
 on:Nat->Bool
 told:Nat->Bool
 due:List Nat
 cnt:Nat
section
variable(T:List Row)
def Zk(ls:LN)(i:Nat):Prop:=ls.on i=false/\(∀m,par T i=some m->ls.on m=true)/\(ls.due=[]\/ls.due.head? =some i)/\(ls.due=[]->par T i=none->ls.cnt=0)
def acd(ls:LN)(i:Nat):Prop:=ls.on i=true/\ls.told i=false/\ls.due=[]/\∀k,i<k->k<T.length->par T k=par T i->ls.on k=false
def Gk(ls:LN)(wd:Str)(i:Nat):Prop:=ls.on i=true/\ls.due=[]/\(wd="done"\/wd="fallen"\/wd="cut"->fk T i=true)/\(wd="gave up"->fk T i=false)/\(wd="ended"\/wd="cut"->ls.told i=true)/\∀k,k<T.length->par T k=some i->ls.on k=false
def okN(ls:LN)(e:En):Prop:=if e.wd="begun" then Zk T ls e.i else if e.wd="told" then acd T ls e.i else if e.wd="answers" then ls.on e.i=false else if e.wd="gives up" then ls.on e.i=true/\fk T e.i=false else isWord e.wd/\Gk T ls e.wd e.i
def qx(ls:LN)(e:En):LN:=if e.wd="begun" then ⟨gM ls.on e.i true,gM ls.told e.i false,(if ls.due=[] then iH e.i (en T e.i-e.i) else ls.due).tail,ls.cnt+1⟩
 else if e.wd="told" then {ls with told:=gM ls.told e.i true} else if e.wd="answers"\/e.wd="gives up" then ls else {ls with on:=gM ls.on e.i false}
structure mf(T:List Row)(S:HS)(ls:LN):Prop where
 on:∀k,k<T.length->ls.on k= !cK S k
 td:∀k,k<T.length->(S.nd k).st≠"off"->ls.told k=(S.nd k).asked
 du:ls.due=[]
 la:∀k,fk T k=true->(S.nd k).st="told"->(S.nd k).asked=true
 dg:∀m,fk T m=false->(S.nd m).st="down"->(S.nd m).rD=true\/(S.nd m).asked=true
 lu:∀m a b,a<b->b<T.length->par T a=some m->par T b=some m->(S.nd m).st="turning"->hX (S.nd m).cw (f7 T a)=true->(S.nd b).st≠"off"->hX (S.nd m).cw (f7 T b)=true
def rd(T:List Row):Gr.Rd LN:=⟨okN T,qx T,λS _ ls=>mf T S ls⟩
end
section
variable{T:List Row}{S S':HS}{ls ls':LN}
def mf.FG(h:mf T S ls){k:Nat}(a:k<T.length)(on:(S.nd k).st≠"off"):ls.on k=true:=by
 rw[h.on k a];unfold cK;rw[ik on]
 rfl
def mf.Sm(h:mf T S ls){k:Nat}(a:k<T.length)(on:(S.nd k).st="off"):ls.on k=false:=by
 rw[h.on k a,GB.mpr on]
 rfl
def K9{k:Nat}(on:(S.nd k).st≠"off"):(!cK S k)=true:=by
 unfold cK;rw[ik on]
 rfl
def mf.of(h:mf T S ls)(i:Nat)(o:∀k,k≠i->S'.nd k=S.nd k)(q:∀k,k≠i->ls'.on k=ls.on k/\ls'.told k=ls.told k)(d:ls'.due=[])(on:i<T.length->ls'.on i= !cK S' i)(u:i<T.length->(S'.nd i).st≠"off"->ls'.told i=(S'.nd i).asked)
  (v:fk T i=true->(S'.nd i).st="told"->(S'.nd i).asked=true) (dg:fk T i=false->(S'.nd i).st="down"->(S'.nd i).rD=true\/(S'.nd i).asked=true) (x:(S'.nd i).st≠"off"->(S.nd i).st≠"off")
  (w:(S'.nd i).st="turning"->((S.nd i).st="turning"/\(S'.nd i).cw=(S.nd i).cw)\/∀a b,a<b->b<T.length->par T a=some i->par T b=some i->hX (S'.nd i).cw (f7 T a)=true->(S.nd b).st≠"off"->hX (S'.nd i).cw (f7 T b)=true):mf T S' ls':=by
 have n:∀b,(S'.nd b).st≠"off"->(S.nd b).st≠"off":=λb z=>by
  by_cases e:b=i
  .rw[e] at z ⊢;erw[x z]
  .rw[o b e] at z;erw[z]
 erw[⟨λk c=>?_,λk c z=>?_,d,λk f z=>?_,λm f z=>?_,λm a b ab r p l s g j=>?_⟩]
 .by_cases e:k=i
  .subst e;erw[on c]
  .rw[(q k e).1,h.on k c];unfold cK;rw[o k e]
 .by_cases e:k=i
  .subst e;erw[u c z]
  .rw[o k e] at z ⊢;rw[(q k e).2];erw[h.td k c z]
 .by_cases e:k=i
  .subst e;erw[v f z]
  .rw[o k e] at z ⊢;erw[h.la k f z]
 .by_cases e:m=i
  .subst e;erw[dg f z]
  .rw[o m e] at z ⊢;erw[h.dg m f z]
 .by_cases e:m=i
  .subst e;rcases w s with⟨t1,y⟩|t
   .rw[y] at g ⊢;erw[h.lu m a b ab r p l t1 g (n b j)]
   .exact t a b ab r p l g (n b j)
  .rw[o m e] at s g ⊢;erw[h.lu m a b ab r p l s g (n b j)]
def WR{wd:Str}(h:isWord wd)(ls:LN)(t:Int)(i:Nat):qx T ls ⟨t,wd,i⟩={ls with on:=gM ls.on i false}:=by
 rcases h with rfl|rfl|rfl|rfl|rfl<;>rfl
def acp{wd:Str}(h:isWord wd){ls:LN}{t:Int}{i:Nat}(q:Gk T ls wd i):okN T ls ⟨t,wd,i⟩:=by
 unfold okN;rcases h with rfl|rfl|rfl|rfl|rfl<;>exact⟨by simp[isWord],q⟩
def ac5(h:mf T S ls){i:Nat}{wd:Str}(c:isWord wd)(o:∀k,k≠i->S'.nd k=S.nd k)(a:(S'.nd i).st="off"):mf T S' (qx T ls ⟨S.clk,wd,i⟩):=by
 rw[WR c];erw[h.of i o (λk b=>⟨lz b,rfl⟩) h.du (λ_=>?_) (λ_ z=>absurd a z) (λ_ z=>?_) (λ_ z=>?_) (λz=>absurd a z) (λz=>?_)]
 .show gM ls.on i false i=_;rw[gK,GB.mpr a]
  rfl
 .rw[a] at z;erw[absurd z ∅]
 .rw[a] at z;erw[absurd z ∅]
 .rw[a] at z;erw[absurd z ∅]
def Tg{m a b:Nat}(h:a<b)(g:b<T.length)(c:par T a=some m)(f:par T b=some m):f7 T a<f7 T b:=by
 unfold f7;rw[c,f]
 have e:gG b=gG a++iH a (b-a):=by
  rw[ai0,ai0,show iH a (b-a)=iH (0+a) (b-a) by rw[ajT],aia]
  congr 1
  lia
 rw[e,qH,iv]
 have:0<((iH a (b-a)).filter λi=>decide (par T i=some m)).length:=by
  erw[List.length_pos_of_mem (a:=a) (yq.mpr ⟨?_,fK c⟩)];erw[akP.mpr ⟨0,(),()⟩]
 lia
def Ze(h:mf T S ls)(j:Jv T S){i:Nat}(o:fO T)(s:i<T.length)(l:Why T S i):∀k,i<k->k<T.length->par T k=par T i->ls.on k=false:=by
 intro k g b a;rcases l with rfl|⟨m,t,u,e,f⟩
 .obtain ⟨x,hx,_⟩:=uL o g b;rw[hx,Se] at a;cases a
 .obtain ⟨_,pi,_⟩:=Mv e;rw[pi] at a;erw[h.Sm b ?_];by_cases c:(S.nd k).st="off"
  .exact c
  .exfalso
   have q:=Gw.VU e
   have lk:hX (S.nd m).cw (f7 T k)=true:=by
    rcases f with z|z
    .exact h.lu m i k g b pi a z q c
    .rw[j.dwn m z];erw[G6 (ly b a)]
   have n:hX (bh T m S) (f7 T k)=true:=by
    unfold bh;rw[aU,xv b a,fK (ly b a)];erw[K9 c]
   unfold bL at e
   split at e
   .cases e
   .rename_i h0
    obtain⟨p,_,_⟩:=JA e;have r:hX ((S.nd m).cw &&& bh T m S) (f7 T k)=true:=by rw[yp,lk,n];rfl
    have lt:=Tg g b pi a;rw[p] at lt;have:=akY (x:=(S.nd m).cw &&& bh T m S) (i:=f7 T k) (pD Nat.lt_log2_self (aiZ ∅ lt));rw[r] at this;cases this
end
section
variable{T:List Row}{S S':HS}{ls:LN}
theorem QY(ls:LN)(t:Int)(i:Nat):qx T ls ⟨t,"begun",i⟩=⟨gM ls.on i true,gM ls.told i false,(if ls.due=[] then iH i (en T i-i) else ls.due).tail,ls.cnt+1⟩:=rfl
theorem Sf(h:fO T)(t:Int)(e:Nat)(p:e<=T.length):∀(n a:Nat) (ls:LN),a+n=e->ls.due=iH a n->(∀k,a<=k->k<e->ls.on k=false)->(∀k,a<=k->k<e->∀m,par T k=some m->ls.on m=true\/a<=m)→
  (rd T).Ok ls ((iH a n).map λi=>⟨t,"begun",i⟩)/\∃r,(rd T).run ls ((iH a n).map λi=>⟨t,"begun",i⟩)=r/\(∀k,r.on k=if a<=k/\k<e then true else ls.on k)/\(∀k,r.told k=if a<=k/\k<e then false else ls.told k)/\r.due=[]
 |0,a,ls,ha,hd,_,_=>⟨trivial,ls,rfl,λk=>by rw[eJ ()],λk=>by rw[eJ ()],hd⟩
 |n+1,a,ls,ha,hd,hf,hp=>by
  have ok:=fO.tok h;rw[SU] at hd ⊢;have b:ls.due≠[]:=by rw[hd];erw[Q4 _ _]
  have e1:qx T ls ⟨t,"begun",a⟩=⟨gM ls.on a true,gM ls.told a false,iH (a+1) n,ls.cnt+1⟩:=by
   rw[QY,eJ b,hd]
   rfl
  obtain⟨q,r,g,l,o,j⟩:=Sf h t e p n (a+1) ⟨gM ls.on a true,gM ls.told a false,iH (a+1) n,ls.cnt+1⟩ () rfl (λk s f=>by
   show gM ls.on a true k=false;rw[lz ()];erw[hf k () f]) (λk s f m c=>by
   show gM ls.on a true m=true\/_;by_cases z:m=a
   .rw[z,gK];erw[.inl rfl]
   .rw[lz z];rcases hp k () f m c with y|y
    .exact .inl y
    .exact .inr ())
  erw[⟨⟨?_,by show(rd T).Ok (qx T ls ⟨t,"begun",a⟩) _;rwa[e1]⟩,r,by show(rd T).run (qx T ls ⟨t,"begun",a⟩) _=r;rwa[e1],λk=>?_,λk=>?_,j⟩]
  .show Zk T ls a;erw[⟨hf a (fx _) (),λm c=>?_,.inr (by rw[hd];rfl),λz=>absurd z b⟩];rcases hp a (fx _) () m c with y|y
   .exact y
   .have:=(ok.bV () c).1
    lia
  .rw[l];show(if a+1<=k/\k<e then true else gM ls.on a true k)=_;by_cases z:k=a
   .rw[z,eJ (),eT (),gK]
   .rw[lz z];by_cases y:a+1<=k/\k<e
    .rw[eT y,eT ()]
    .rw[eJ y,eJ ()]
  .rw[o];show(if a+1<=k/\k<e then false else gM ls.told a false k)=_;by_cases z:k=a
   .rw[z,eJ (),eT (),gK]
   .rw[lz z];by_cases y:a+1<=k/\k<e
    .rw[eT y,eT ()]
    .rw[eJ y,eJ ()]
def aa4(h:fO T)(t:Int){a:Nat}(e:a<T.length)(ls:LN)(hd:ls.due=[])(g:∀k,a<=k->k<en T a->ls.on k=false)(q:∀m,par T a=some m->ls.on m=true)(v:par T a=none->ls.cnt=0):
  (rd T).Ok ls ((iH a (en T a-a)).map λi=>⟨t,"begun",i⟩)/\∃r,(rd T).run ls ((iH a (en T a-a)).map λi=>⟨t,"begun",i⟩)=r/\(∀k,r.on k=if a<=k/\k<en T a then true else ls.on k)/\(∀k,r.told k=if a<=k/\k<en T a then false else ls.told k)/\r.due=[]:=by
 have ok:=fO.tok h;obtain⟨e1,e2,e3,e4⟩:=eS e;obtain⟨n,f⟩:∃n,en T a-a=n+1:=⟨en T a-a-1,()⟩
 have ex:qx T ls ⟨t,"begun",a⟩=⟨gM ls.on a true,gM ls.told a false,iH (a+1) n,ls.cnt+1⟩:=by
  rw[QY,eT hd,f,SU]
  rfl
 rw[f,SU]
 obtain⟨l,r,o,s,j,p⟩:=Sf h t (en T a) e2 n (a+1) ⟨gM ls.on a true,gM ls.told a false,iH (a+1) n,ls.cnt+1⟩ () rfl (λk w b=>by
  show gM ls.on a true k=false;rw[lz ()];erw[g k () b]) (λk w b m u=>by
  show gM ls.on a true m=true\/_;obtain⟨x,c,A,B⟩:=sV h e () b;rw[u] at c;obtain rfl:=hH c;by_cases z:m=a
  .rw[z,gK];erw[.inl rfl]
  .exact .inr ())
 erw[⟨⟨⟨g a (fx _) e1,q,.inl hd,λ_=>v⟩,by show(rd T).Ok (qx T ls ⟨t,"begun",a⟩) _;rwa[ex]⟩,r,by show(rd T).run (qx T ls ⟨t,"begun",a⟩) _=r;rwa[ex],λk=>?_,λk=>?_,p⟩]
 .rw[s];show(if a+1<=k/\k<en T a then true else gM ls.on a true k)=_;by_cases z:k=a
  .rw[z,eJ (),eT (),gK]
  .rw[lz z];by_cases y:a+1<=k/\k<en T a
   .rw[eT y,eT ()]
   .rw[eJ y,eJ ()]
 .rw[j];show(if a+1<=k/\k<en T a then false else gM ls.told a false k)=_;by_cases z:k=a
  .rw[z,eJ (),eT (),gK]
  .rw[lz z];by_cases y:a+1<=k/\k<en T a
   .rw[eT y,eT ()]
   .rw[eJ y,eJ ()]
def Hf(c:Int)(k:Nat)(d:Nd):(ug T c k d).st="on"/\(ug T c k d).asked=false:=by
 unfold ug
 split<;>exact⟨rfl,rfl⟩
def Xc(h:fO T)(k0:mf T S ls){a:Nat}(f:a<T.length)(o:∀k,a<=k->k<en T a->(S.nd k).st="off")(q:∀m,par T a=some m->(S.nd m).st="on")(E:par T a=none->ls.cnt=0):
  (rd T).Ok ls ((iH a (en T a-a)).map λi=>⟨S.clk,"begun",i⟩)/\mf T (jK T a (en T a) S) ((rd T).run ls ((iH a (en T a-a)).map λi=>⟨S.clk,"begun",i⟩)):=by
 have ok:=fO.tok h;obtain⟨e1,e2,e3,e4⟩:=eS f
 obtain⟨A,r,u,D,w,v⟩:=aa4 h S.clk f ls k0.du (λk F C=>k0.Sm () (o k F C)) (λm s=>by
  have:=(ok.bV f s).1;erw[k0.FG () (by rw[q m s];decide)]) E
 erw[⟨A,?_⟩];rw[u];have nd:∀k,(jK T a (en T a) S).nd k=if a<=k/\k<en T a then ug T S.clk k (S.nd k) else S.nd k:=λ_=>rfl;erw[⟨λk n=>?_,λk n z=>?_,v,λk g z=>?_,λm g z=>?_,λm x b ab B t e c j l=>?_⟩]
 .rw[D];unfold cK;rw[nd];by_cases y:a<=k/\k<en T a
  .rw[eT y,eT y,(Hf _ _ _).1]
   rfl
  .rw[eJ y,eJ y];erw[k0.on k n]
 .rw[nd] at z ⊢;rw[w];by_cases y:a<=k/\k<en T a
  .rw[eT y,eT y,(Hf _ _ _).2]
  .rw[eJ y] at z ⊢;rw[eJ y];erw[k0.td k n z]
 .rw[nd] at z ⊢;by_cases y:a<=k/\k<en T a
  .rw[eT y,(Hf _ _ _).1] at z;erw[absurd z ∅]
  .rw[eJ y] at z ⊢;erw[k0.la k g z]
 .rw[nd] at z ⊢;by_cases y:a<=m/\m<en T a
  .rw[eT y,(Hf _ _ _).1] at z;erw[absurd z ∅]
  .rw[eJ y] at z ⊢;erw[k0.dg m g z]
 .rw[nd] at c j ⊢;by_cases y:a<=m/\m<en T a
  .rw[eT y,(Hf _ _ _).1] at c;erw[absurd c ∅]
  .rw[eJ y] at c j ⊢;rw[nd] at l;by_cases p:a<=b/\b<en T a
   .exfalso
    by_cases z:b=a
    .rw[z] at e;rw[q m e] at c;erw[absurd c ∅]
    .obtain ⟨m',y1,y2,y3⟩:=sV h f () p.2;rw[e] at y1;obtain rfl:=hH y1;erw[y ⟨y2,()⟩]
   .rw[eJ p] at l;erw[k0.lu m x b ab B t e c j l]
def mf.kJ(k:mf T S ls){m:Nat}(o:∀x,x≠m->S'.nd x=S.nd x)(a:(S'.nd m).st=(S.nd m).st)(b:(S'.nd m).asked=(S.nd m).asked)(g:(S'.nd m).rD=(S.nd m).rD)(f:(S'.nd m).cw=(S.nd m).cw):mf T S' ls:=by
 erw[k.of m o (λ_ _=>⟨rfl,rfl⟩) k.du (λc=>?_) (λc z=>?_) (λe z=>?_) (λe z=>?_) (λz=>?_) (λz=>?_)]
 .have:=k.on m c;unfold cK at this ⊢;rwa[a]
 .rw[a] at z;rw[b];erw[k.td m c z]
 .rw[a] at z;rw[b];erw[k.la m e z]
 .rw[a] at z;rw[b,g];erw[k.dg m e z]
 .rw[a] at z;erw[z]
 .rw[a] at z;erw[.inl ⟨z,f⟩]
def ZE(h:fO T){p m:Nat}(j:Jv T S)(g:m<T.length)(J:fk T m=false)(F:(S.nd m).st="turning")(L:bL T m S=none):∃es,Gr.Go T (rd T) p p S (aS T m S) es:=by
 have ok:=fO.tok h;obtain⟨W,Y,Z,R⟩:=eS g;have on:(S.nd m).st≠"off":=by rw[F];decide
 unfold aS;rw[eJ (by rw[F];decide)];have n:(up S m aV).nd m=aV (S.nd m):=av ..;have o:∀k,k≠m->(up S m aV).nd k=S.nd k:=λk c=>bG _ c
 have l0:∀ls,mf T S ls->mf T (up S m aV) ls:=λls k=>by
  erw[k.of m o (λ_ _=>⟨rfl,rfl⟩) k.du (λg=>?_) (λg _=>?_) (λA _=>?_) (λ_ z=>?_) (λ_=>on) (λz=>?_)]
  .rw[k.FG g on];exact(K9 (by rw[n];exact(by decide:("on":Str)≠"off"))).symm
  .rw[n];erw[k.td m g on]
  .rw[J] at A;cases A
  .rw[n] at z;erw[absurd z (by show ¬("on":Str)="down";decide)]
  .rw[n] at z;erw[absurd z (by show ¬("on":Str)="turning";decide)]
 have u:∀k,k∈bu T m S->k<T.length/\par T k=some m/\(S.nd k).st="off":=λk c=>by
  unfold bu at c;obtain⟨N,G⟩:=yq.mp c;obtain⟨k1,k2⟩:=cY N;rw[kE] at G;erw[⟨k1,k2,?_⟩];rcases j.com k m k1 k2 F G.1 with y|y
  .exact yK L k1 k2 y
  .exact y
 have res:=Gw.MM h g S (λa S'=>S'.clk=S.clk/\S'.nd m=aV (S.nd m)/\(∀x,a<=x->S'.nd x=S.nd x)/\∃es:List En,(∀e∈es,e.i<T.length/\e.t=S.clk)/\S'.book=S.book++es.map (Wa T)/\∀ls,mf T S ls->(rd T).Ok ls es/\mf T S' ((rd T).run ls es)) (λk S' c C M E=>by
   obtain⟨f,w,D,es,v,r,l⟩:=E;obtain⟨P,X,_,_⟩:=eS c;have mk:=(ok.bV c C).1;have O:=(u k M).2.2;erw[⟨f,?_,λx B=>?_,es++(iH k (en T k-k)).map λi=>⟨S.clk,"begun",i⟩,λe I=>?_,?_,λls q=>?_⟩]
   .show (if k<=m/\m<en T k then _ else S'.nd m)=_;rwa[eJ ()]
   .show (if k<=x/\x<en T k then _ else S'.nd x)=_;rw[eJ ()];erw[D x ()]
   .rcases ql.mp I with z|z
    .exact v e z
    .obtain ⟨x,B,rfl⟩:=ri.mp z;obtain⟨_,_,z⟩:=akP.mp B;exact⟨by show x<_;lia,rfl⟩
   .show S'.book++_=_;rw[r,js,wH,aiw,f]
    rfl
   .obtain ⟨q1,q2⟩:=l ls q
    have b:=Xc h q2 c (λx H K=>by rw[D x H];erw[j.below h c O x H K]) (λU s=>by
     rw[C] at s;obtain rfl:=hH s;rw[w]
     rfl) (λz=>by rw[C] at z;cases z)
    rw[f] at b;exact⟨Gr.yI q1 b.1,by rw[Gr.ux];erw[b.2]⟩)
  (λk S' c C Q E=>by
   obtain⟨f,w,D,es,v,r,l⟩:=E;have:=(eS c).1;exact⟨f,w,λx B=>D x (),es,v,r,l⟩)
  (up S m aV) ⟨rfl,n,λx B=>o x (),[],λe z=>(by cases z),(ov _).symm,λls q=>⟨trivial,l0 ls q⟩⟩
 obtain⟨f,w,_,es,v,r,l⟩:=res;exact⟨es,v,f,r,l⟩
end
section
variable{T:List Row}{S S':HS}{ls:LN}
theorem ac1(ls:LN)(t:Int)(i:Nat):qx T ls ⟨t,"told",i⟩={ls with told:=gM ls.told i true}:=rfl
def SM{wd:Str}(h:wd="answers"\/wd="gives up")(ls:LN)(t:Int)(i:Nat):qx T ls ⟨t,wd,i⟩=ls:=by rcases h with rfl|rfl<;>rfl
def aeb(k:mf T S ls){i:Nat}(b:i<T.length)(on:(S.nd i).st≠"off"):mf T (bj T i (write T "told" i S)) (qx T ls ⟨S.clk,"told",i⟩):=by
 have n:=Gw.Pa (T:=T) i S
 have st:((bj T i (write T "told" i S)).nd i).st≠"off"/\((bj T i (write T "told" i S)).nd i).asked=true/\((bj T i (write T "told" i S)).nd i).st≠"turning":=by
  rw[n]
  split
  .exact ⟨(by decide:("told":Str)≠"off"),rfl,(by decide:("told":Str)≠"turning")⟩
  .exact ⟨(by decide:("down":Str)≠"off"),rfl,(by decide:("down":Str)≠"turning")⟩
 rw[ac1];erw[k.of i (λx a=>bG _ a) (λx a=>⟨rfl,lz a⟩) k.du (λ_=>?_) (λ_ _=>?_) (λ_ _=>st.2.1) (λ_ _=>.inr st.2.1) (λ_=>on) (λz=>absurd z st.2.2)]
 .show ls.on i=_;rw[k.FG b on];exact(K9 st.1).symm
 .show gM ls.told i true i=_;rw[gK,st.2.1]
theorem F7(ok:jB T){i:Nat}(a:fk T i=true)(ls:LN):∀k,k<T.length->par T k=some i->ls.on k=false:=λk c b=>by
 rw[(ok.bV c b).2] at a;cases a
theorem SO(h:fO T){p i:Nat}(j:Jv T S)(a:i<T.length)(on:(S.nd i).st≠"off")(b:(S.nd i).asked=false)(c:Why T S i):Gr.Go T (rd T) p p S (bj T i (write T "told" i S)) [⟨S.clk,"told",i⟩]:=
 Gr.Go.one a rfl rfl λls k=>⟨⟨k.FG a on,(k.td i a on).trans b,k.du,Ze k j h a c⟩,aeb k a on⟩
def Iq(k0:∀ls,mf T S ls->isWord wd/\Gk T ls wd i)(h:i<T.length){p g:Nat}{a:HS}(c:a.clk=S.clk)(b:a.book=S.book)(o:∀k,k≠i->a.nd k=S.nd k)(e:isWord wd):Gr.Go T (rd T) p g S (aX T i wd a) [⟨S.clk,wd,i⟩]:=by
 obtain⟨e1,e2,e3,e4⟩:=wA (T:=T) (i:=i) (abf e) a;erw[Gr.Go.one h (e1.trans c) (by rw[e2,b,c]) λls k=>⟨acp e (k0 ls k).2,ac5 k e (λx f=>(e3 x f).trans (o x f)) e4⟩]
def WJ(h:fO T){p i:Nat}(j:Jv T S)(e:i<T.length)(l:fk T i=true)(on:(S.nd i).st≠"off")(q:(S.nd i).asked=false)(o:Why T S i):∃es,Gr.Go T (rd T) p p S (aX T i (d0 ((bj T i (write T "told" i S)).nd i)) (bj T i (write T "told" i S))) es:=by
 have ok:=fO.tok h;have g:=SO (p:=p) h j e on q o;have n:=Gw.Pa (T:=T) i S;rw[eT l] at n;have c:((bj T i (write T "told" i S)).nd i).st≠"off":=by rw[n];exact(by decide:("told":Str)≠"off")
 have f:((bj T i (write T "told" i S)).nd i).asked=true:=by rw[n]
 have b:∀wd:Str,(wd="ended"\/wd="cut")->∃es,Gr.Go T (rd T) p p S (aX T i wd (bj T i (write T "told" i S))) es:=λwd hd=>by
  have m:isWord wd:=by rcases hd with z|z<;>rw[z]<;>simp[isWord]
  exact⟨_,g.trans (Iq (λls k=>⟨m,k.FG e c,k.du,λ_=>l,λz=>(by rcases hd with y|y<;>rw[y] at z<;>erw[absurd z ∅]),λ_=>(k.td i e c).trans f,F7 ok l ls⟩) e rfl rfl (λ_ _=>rfl) m)⟩
 rcases zx ((bj T i (write T "told" i S)).nd i) with⟨a,_⟩|⟨a,_⟩|⟨a,_,_⟩
 .rw[a];erw[b _ (.inl rfl)]
 .rw[a];erw[b _ (.inr rfl)]
 .rw[a,JG];exact⟨_,g⟩
def aa1(h:fO T){p m:Nat}(j:Jv T S)(c:m<T.length)(g:fk T m=false)(hd:(S.nd m).st="down")(i:bL T m S=none):∃es,Gr.Go T (rd T) p p S (aX T m (eR (S.nd m)) S) es:=by
 have on:(S.nd m).st≠"off":=by rw[hd];decide
 have b:eR (S.nd m)="gave up"/\(S.nd m).rD=true\/eR (S.nd m)="ended"/\(S.nd m).rD=false:=by
  unfold eR;cases (S.nd m).rD with
  |true=>erw[.inl ⟨rfl,rfl⟩]
  |false=>erw[.inr ⟨rfl,rfl⟩]
 have f:isWord (eR (S.nd m)):=by rcases b with z|z<;>rw[z.1]<;>simp[isWord]
 erw[⟨_,Iq (λls k=>⟨f,k.FG c on,k.du,λz=>?_,λ_=>g,λz=>?_,λx a e=>?_⟩) c rfl rfl (λ_ _=>rfl) f⟩]
 .rcases b with y|y<;>rw[y.1] at z<;>rcases z with z|z|z<;>erw[absurd z ∅]
 .rcases b with y|y
  .rw[y.1] at z;rcases z with z|z<;>erw[absurd z ∅]
  .rw[k.td m c on];rcases k.dg m g hd with x|x
   .rw[y.2] at x;cases x
   .exact x
 .exact k.Sm a (yK i a e (by rw[j.dwn m hd];erw[G6 (ly a e)]))
def aaC{e pl ct a b:Nat}{f:Nat->Bool}(ab:a<b)(h:b<ct)(g:f b=true)(c:hX (Shp.gN e pl ct f) a=true):hX (Shp.gN e pl ct f) b=true:=by
 unfold Shp.gN at c ⊢
 split at c
 .rw[aie] at c;cases c
 .rw[aU,fK h,g];rfl
 .rw[aU,kE,kE] at c;have:=gD c.2.2;rw[aU,fK h];show(true&&(f b&&decide (pl<b)))=true;rw[g,fK (show pl<b by lia)]
  rfl
def acQ(h:fO T){p m i:Nat}{r:List Nat}(j:Jv T S)(c:m<T.length)(t:fk T m=false)(o:(S.nd m).st="on")(q:i<T.length)(G:par T i=some m)(u:toBe T m i (up S m λd=>{d with wait:=r})=true):∃es,Gr.Go T (rd T) p p S (bI T m i (up S m λd=>{d with wait:=r})) es:=by
 have ok:=fO.tok h;have on:(S.nd m).st≠"off":=by rw[o];decide
 have A:i≠m:=λz=>by have:=(ok.bV q G).1;lia
 have D:(up S m λd=>{d with wait:=r}).nd m={S.nd m with wait:=r}:=av ..;unfold toBe at u;rw[kE] at u
 have C:(S.nd i).st="off":=by
  have:=GB.mp u.1;rw[bG _ A] at this;erw[this]
 obtain⟨l,F,_⟩:=Gw.Ud (T:=T) m (up S m λd=>{d with wait:=r});have y:(up (up S m λd=>{d with wait:=r}) m λd=>{d with ay:=l}).nd m={S.nd m with wait:=r,ay:=l}:=by rw[av,D]
 have s:∀k,k≠m->(up (up S m λd=>{d with wait:=r}) m λd=>{d with ay:=l}).nd k=S.nd k:=λk v=>by rw[bG _ v,bG _ v]
 unfold bI;rw[F];cases en:(aJ T m (up S m λd=>{d with wait:=r})).1 with
 |true=>
  rw[eT rfl]
  have n:(giveUp T m (write T "gives up" m (up (up S m λd=>{d with wait:=r}) m λd=>{d with ay:=l}))).nd m=goDown T m {S.nd m with wait:=r,ay:=l,rD:=true}:=by
   unfold giveUp;rw[av];show goDown T m { (up (up S m λd=>{d with wait:=r}) m λd=>{d with ay:=l}).nd m with rD:=true}=_;rw[y]
  erw[⟨_,Gr.Go.one c rfl rfl λls k=>⟨⟨k.FG c on,t⟩,?_⟩⟩];rw[show (rd T).nx ls ⟨S.clk,"gives up",m⟩=ls from SM (T:=T) (.inr rfl) ls S.clk m];erw[k.of m (λx g=>by unfold giveUp;rw[bG _ g];exact s x g) (λ_ _=>⟨rfl,rfl⟩) k.du (λ_=>?_) (λ_ _=>?_) (λz=>(by rw[t] at z;cases z)) (λ_ _=>.inl (by rw[n];rfl)) (λ_=>on) (λz=>?_)]
  .rw[k.FG c on];exact(K9 (by rw[n];exact(by decide:("down":Str)≠"off"))).symm
  .rw[n];erw[k.td m c on]
  .rw[n] at z;erw[absurd z (by show ¬("down":Str)="turning";decide)]
 |false=>
  rw[eJ ∅]
  have n:(iZ T m i (write T "answers" i (up (up S m λd=>{d with wait:=r}) m λd=>{d with ay:=l}))).nd m=EV T m i (write T "answers" i (up (up S m λd=>{d with wait:=r}) m λd=>{d with ay:=l})) {S.nd m with wait:=r,ay:=l}:=by
   unfold iZ;rw[av];show EV T m i _ ((up (up S m λd=>{d with wait:=r}) m λd=>{d with ay:=l}).nd m)=_;rw[y]
  erw[⟨_,Gr.Go.one q rfl rfl λls k=>⟨k.Sm q C,?_⟩⟩];rw[show (rd T).nx ls ⟨S.clk,"answers",i⟩=ls from SM (T:=T) (.inl rfl) ls S.clk i];erw[k.of m (λx g=>by unfold iZ;rw[bG _ g];exact s x g) (λ_ _=>⟨rfl,rfl⟩) k.du (λ_=>?_) (λ_ _=>?_) (λz=>(by rw[t] at z;cases z)) (λ_ z=>?_) (λ_=>on) (λ_=>.inr λa b ab f E e w B=>?_)]
  .rw[k.FG c on];exact(K9 (by rw[n];exact(by decide:("turning":Str)≠"off"))).symm
  .rw[n];erw[k.td m c on]
  .rw[n] at z;erw[absurd z (by show ¬("turning":Str)="down";decide)]
  .rw[n] at w ⊢;have bm:b≠m:=λz=>by have:=(ok.bV f e).1;lia
   erw[aaC (Tg ab f E e) (ly f e) ?_ w];show hX (bh T m (write T "answers" i (up (up S m λd=>{d with wait:=r}) m λd=>{d with ay:=l}))) (f7 T b)=true;unfold bh;rw[aU,xv f e,fK (ly f e)];show(true&& !cK (write T "answers" i (up (up S m λd=>{d with wait:=r}) m λd=>{d with ay:=l})) b)=true;rw[za];erw[K9 ?_];show((up (up S m λd=>{d with wait:=r}) m λd=>{d with ay:=l}).nd b).st≠"off";rwa[s b bm]
def acV(h:fO T)(j:Jv T S)(st:CB T S S')(p:Nat):∃es,Gr.Go T (rd T) p p S S' es:=by
 have ok:=fO.tok h;cases st with
 |acm b a on o e l=>erw[WJ h j b a on o l]
 |ab0 b a on o e l=>exact⟨_,SO h j b on o l⟩
 |over c a hd q e=>erw[aa1 h j c a hd q]
 |back c a t q e=>erw[ZE h j c a t q]
 |@skip m i r c a g l b n e s=>exact⟨_,Gr.Go.kJ rfl rfl λls k=>k.kJ (m:=m) (λx f=>bG _ f) (by rw[av]) (by rw[av]) (by rw[av]) (by rw[av])⟩
 |ans c a g l b n e s=>erw[acQ h j c a g b n s]
 |@abV m i wd b n e c ho iw=>
  unfold bX
  split
  .exact ⟨_,Gr.Go.kJ rfl rfl λls k=>k.kJ (m:=m) (λ_ _=>rfl) rfl rfl rfl rfl⟩
  .unfold lB
   split
   .exact ⟨_,Gr.Go.kJ rfl rfl λls k=>k.kJ (m:=m) (λx f=>bG _ f) (by rw[av]) (by rw[av]) (by rw[av]) (by rw[av])⟩
   .split
    .exact ⟨_,Gr.Go.kJ rfl rfl λls k=>k.kJ (m:=m) (λx f=>bG _ f) (by rw[av]) (by rw[av]) (by rw[av]) (by rw[av])⟩
    .exact ⟨_,Gr.Go.kJ rfl rfl λls k=>k.kJ (m:=m) (λ_ _=>rfl) rfl rfl rfl rfl⟩
 |@Qp i wd b n e=>exact⟨_,Gr.Go.kJ rfl rfl λls k=>k.kJ (m:=i) (λ_ _=>rfl) rfl rfl rfl rfl⟩
def WB(h:fO T){i:Nat}(g:i<T.length)(hs:bO T i S=true):∃es,Gr.Go T (rd T) i (i+1) S (fY T i S) es:=by
 have ok:=fO.tok h;obtain⟨j,on,n⟩:=Qn hs;unfold fY cB;by_cases l:(S.nd i).st="told"
 .rw[eT l];dsimp only
  have b:∀wd:Str,(wd="ended"\/wd="cut")->∃es,Gr.Go T (rd T) i (i+1) S (aX T i wd (up S i λd=>{d with need:=d.need-1,ja:=d.ja-1})) es:=λwd hd=>by
   have f:isWord wd:=by rcases hd with z|z<;>rw[z]<;>simp[isWord]
   exact⟨_,Iq (λls k=>⟨f,k.FG g on,k.du,λ_=>j,λz=>(by rcases hd with y|y<;>rw[y] at z<;>erw[absurd z ∅]),λ_=>(k.td i g on).trans (k.la i j l),F7 ok j ls⟩) g rfl rfl (λx c=>bG _ c) f⟩
  rcases zx ((up S i λd=>{d with need:=d.need-1,ja:=d.ja-1}).nd i) with⟨a,_⟩|⟨a,_⟩|⟨a,_,_⟩
  .rw[a];erw[b _ (.inl rfl)]
  .rw[a];erw[b _ (.inr rfl)]
  .rw[a,JG];exact⟨_,Gr.Go.kJ rfl rfl λls k=>k.kJ (m:=i) (λx c=>bG _ c) (by rw[av]) (by rw[av]) (by rw[av]) (by rw[av])⟩
 .rw[eJ l];dsimp only
  have b:∀wd:Str,(wd="done"\/wd="fallen")->∃es,Gr.Go T (rd T) i (i+1) S (aX T i wd (up S i λd=>{d with steps:=d.steps+1})) es:=λwd hd=>by
   have f:isWord wd:=by rcases hd with z|z<;>rw[z]<;>simp[isWord]
   exact⟨_,Iq (λls k=>⟨f,k.FG g on,k.du,λ_=>j,λz=>(by rcases hd with y|y<;>rw[y] at z<;>erw[absurd z ∅]),λz=>(by rcases hd with y|y<;>rw[y] at z<;>rcases z with z|z<;>erw[absurd z ∅]),F7 ok j ls⟩) g rfl rfl (λx c=>bG _ c) f⟩
  by_cases k1:(sh T i).kind=1/\(S.nd i).steps=(sh T i).many
  .have e:endAt (sh T i) (S.nd i).steps="done":=by unfold endAt;rw[eT k1]
   rw[e];erw[b _ (.inl rfl)]
  .by_cases k2:(sh T i).kind=2/\(S.nd i).steps=(sh T i).many
   .have e:endAt (sh T i) (S.nd i).steps="fallen":=by unfold endAt;rw[eJ k1,eT k2]
    rw[e];erw[b _ (.inr rfl)]
   .have e:endAt (sh T i) (S.nd i).steps="":=by unfold endAt;rw[eJ k1,eJ k2]
    rw[e,JG];exact⟨_,Gr.Go.kJ rfl rfl λls k=>k.kJ (m:=i) (λx c=>bG _ c) (by rw[av]) (by rw[av]) (by rw[av]) (by rw[av])⟩
theorem reads(h:fO T):Gr.Reads T (rd T) where
 stp p _ j st:=acV h j st p
 step hi hs _ _ _:=WB h hi hs
 pass _ _ k:=k
 tick _ k:=⟨k.on,k.td,k.du,k.la,k.dg,k.lu⟩
 IW {S i} hi hl on _ _ _:=by
  have a:isWord "fallen":= .inr (.inl rfl);erw[Iq (λls k=>⟨a,k.FG hi on,k.du,λ_=>hl,λz=>absurd z ∅,λz=>(by rcases z with z|z<;>exact absurd z ∅),F7 (fO.tok h) hl ls⟩) hi rfl rfl (λ_ _=>rfl) a]
def ls0:LN:=⟨λ_=>false,λ_=>false,[],0⟩
def acL(h:fO T):∃es,(new T).clk=0/\(new T).book=es.map (Wa T)/\(∀e∈es,e.i<T.length/\e.t=0)/\(rd T).Ok ls0 es/\mf T (new T) ((rd T).run ls0 es):=by
 have ok:=fO.tok h;have k0:mf T (⟨0,[],[],λ_=>tV⟩:HS) ls0:=⟨λ_ _=>rfl,λ_ _ z=>absurd rfl z,rfl,λ_ _ z=>absurd z (by show ¬("off":Str)="told";decide),λ_ _ z=>absurd z (by show ¬("off":Str)="down";decide),λ_ _ _ _ _ _ _ z=>absurd z (by show ¬("off":Str)="turning";decide)⟩;have g:=Xc h k0 ok.n0 (λ_ _ _=>rfl) (λm b=>by have:=(ok.bV ok.n0 b).1;lia) (λ_=>rfl);rw[WC h] at g;have e:new T=jK T 0 T.length ⟨0,[],[],λ_=>tV⟩:=Jg h;erw[⟨(iH 0 (T.length-0)).map λi=>⟨0,"begun",i⟩,by rw[e];rfl,?_,λx a=>?_,g.1,by rw[e];exact g.2⟩]
 .rw[e];show []++_=_;rw[wg,aiw]
  rfl
 .obtain ⟨i,hi,rfl⟩:=ri.mp a;obtain⟨_,_,z⟩:=akP.mp hi;exact⟨by show i<_;lia,rfl⟩
end
open L2 Nm PySem.NumText
def xo(H:Hp)(g:eh)(T:List Row):Prop:=∃(e f b c:eh) (a:List eh),H g=some (.tup [.ref e,.ref f,.ref b,.ref c])/\H e=some (.lst ((gG T.length).map λk=>V.int ((dp T k:Nat):Int)))/\H f=some (.lst ((gG T.length).map λk=>V.int (bz T k)))/\H b=some (.lst (a.map V.ref))/\a.length=T.length/\(∀i x,a[i]? =some x->H x=some (.lst ((words (sh T i)).map V.str)))/\H c=some (.lst (T.map λr=>V.str r.sh.name))
def xo.of{H:Hp}{q g j c f:eh}{T:List Row}(h:H q=some (.tup [.ref g,.ref j,.ref c,.ref f]))(t:LB H g j c f T):xo H q T:=by
 obtain⟨m,o,b,p⟩:=t.w;rw[fC] at b;erw[⟨g,j,c,f,m,h,?_,t.e,o,b,λi x l=>?_,t.n⟩]
 .rw[t.d]
  congr 2
  exact al6 λi=>by
   rw[hV,hV];by_cases a:i<T.length
   .rw[zq a,gx a];show some (V.int (T[i].dep:Int))=some (V.int (((T.getD i default).dep:Nat):Int));rw[nN,gx a]
    rfl
   .rw[ahN (),ahN (by rw[mq];lia)]
    rfl
 .have a:i<T.length:=by rw[<- b];exact(pE.mp l).1
  rw[O1 a];erw[p i x _ l (by rw[hV,gx a];rfl)]
def xo.same{H H':Hp}{j:eh}{T:List Row}(h:xo H j T)(e:aL H H'):xo H' j T:=by
 obtain⟨p,q,n,o,r,a,m,b,c,d,f,g⟩:=h;exact⟨p,q,n,o,r,e _ _ a,e _ _ m,e _ _ b,e _ _ c,d,λi x l=>e _ _ (f i x l),e _ _ g⟩
structure rk where
 a:eh
 b:eh
 s:eh
 z:eh->Prop
def rk.has(A:rk)(x:eh):Prop:=x=A.a\/x=A.b\/x=A.s
def rk.tM(A:rk)(x:eh):Prop:=¬A.has x/\¬A.z x
def kv(A:rk)(d:eh)(c:Nat):List (Key×V):=[(.inr "on",.ref A.a),(.inr "told",.ref A.b),(.inr "due",.ref d),(.inr "begun",.int (c:Int))]
structure iQ(H:Hp)(n:Nat)(ls:LN)(A:rk):Prop where
 d:∃q,H A.s=some (.dK (kv A q ls.cnt))/\H q=some (.lst (ls.due.map λk:Nat=>V.int (k:Int)))/\A.tM q
 on:H A.a=some (.lst ((gG n).map λk=>V.bl (ls.on k)))
 tl:H A.b=some (.lst ((gG n).map λk=>V.bl (ls.told k)))
 ne:A.a≠A.b
 zd:∀x,A.z x->H x≠none
theorem Bv{H:Hp}{p x:eh}{o:HO}(h:H x≠none):L2.upd H p o x≠none:=λz=>by
 by_cases e:x=p
 .rw[e,af] at z;cases z
 .rw[ai e] at z;erw[h z]
def gg(A:rk)(H H':Hp):Prop:=∀x o,¬A.has x->H x=some o->H' x=some o
structure Fz(A:rk)(H G:Hp):Prop where
 sub:aL G H
 no:∀x,A.has x->G x=none
section
variable{A:rk}{H H' H1 H2 G:Hp}{n:Nat}{ls:LN}
theorem gg.of_same(h:aL H H'):gg A H H':=λx o _ e=>h x o e
theorem gg.trans(h:gg A H H1)(k:gg A H1 H2):gg A H H2:=λx o n e=>k x o n (h x o n e)
theorem gg.upd{p:eh}{o:HO}(h:A.has p):gg A H (L2.upd H p o):=λx u n e=>by
 rw[ai (λz=>n (by rwa[z]))];erw[e]
theorem Fz.but(h:Fz A H G)(e:gg A H H'):Fz A H' G:=⟨λx o z=>e x o (λy=>by rw[h.no x y] at z;cases z) (h.sub x o z),h.no⟩
def iQ.same(h:iQ H n ls A)(e:aL H H'):iQ H' n ls A:=by
 obtain⟨q,a,d2,d3⟩:=h.d;exact⟨⟨q,e _ _ a,e _ _ d2,d3⟩,e _ _ h.on,e _ _ h.tl,h.ne,λx z y=>by cases q:H x with|none=>exact h.zd x z q|some o=>rw[e _ _ q] at y;cases y⟩
theorem iQ.xa(h:iQ H n ls A):rL H A.s (.str "on") (some (.ref A.a)):=let ⟨_,d1,_,_⟩:=h.d;rL.k (k:= .inr "on") d1
theorem iQ.gtl(h:iQ H n ls A):rL H A.s (.str "told") (some (.ref A.b)):=let ⟨_,d1,_,_⟩:=h.d;rL.k (k:= .inr "told") d1
theorem iQ.gct(h:iQ H n ls A):rL H A.s (.str "begun") (some (.int (ls.cnt:Int))):=let ⟨_,d1,_,_⟩:=h.d;rL.k (k:= .inr "begun") d1
theorem iQ.Mp(h:iQ H n ls A):∃q,rL H A.s (.str "due") (some (.ref q))/\H q=some (.lst (ls.due.map λk:Nat=>V.int (k:Int))):=let ⟨q,d1,d2,_⟩:=h.d;⟨q,rL.k (k:= .inr "due") d1,d2⟩
def iQ.ns(h:iQ H n ls A):A.s≠A.a/\A.s≠A.b:=by
 obtain⟨q,c,_,_⟩:=h.d;exact⟨Xb c h.on (λz=>by cases z),Xb c h.tl (λz=>by cases z)⟩
def iQ.aca(h:iQ H n ls A)(i:Nat)(v:Bool):iQ (upd H A.a (.lst (((gG n).map λk=>V.bl (ls.on k)).set i (.bl v)))) n {ls with on:=gM ls.on i v} A:=by
 obtain⟨q,b,d2,d3⟩:=h.d;exact⟨⟨q,by rwa[ai h.ns.1],by rwa[ai (λz=>d3.1 (.inl z))],d3⟩,by rw[af,set_range,Pf V.bl],by rw[ai h.ne.symm];exact h.tl,h.ne,λx z=>Bv (h.zd x z)⟩
def iQ.abN(h:iQ H n ls A)(i:Nat)(v:Bool):iQ (upd H A.b (.lst (((gG n).map λk=>V.bl (ls.told k)).set i (.bl v)))) n {ls with told:=gM ls.told i v} A:=by
 obtain⟨q,a,d2,d3⟩:=h.d;exact⟨⟨q,by rwa[ai h.ns.2],by rwa[ai (λz=>d3.1 (.inr (.inl z)))],d3⟩,by rw[ai h.ne];exact h.on,by rw[af,set_range,Pf V.bl],h.ne,λx z=>Bv (h.zd x z)⟩
def iQ.abR(h:iQ H n ls A){q:eh}{v:List Nat}(b:H q=some (.lst (v.map λk:Nat=>V.int (k:Int))))(f:A.tM q):∃H',ML H A.s (.str "due") (.ref q) H'/\gg A H H'/\iQ H' n {ls with due:=v} A:=by
 obtain⟨c,a,d2,d3⟩:=h.d;exact⟨_,ML.k (k:= .inr "due") a (aP (by show 4<=1000;decide)),gg.upd (.inr (.inr rfl)),⟨q,by rw[af];rfl,by rwa[ai (λz=>f.1 (.inr (.inr z)))],f⟩,by rw[ai h.ns.1.symm];exact h.on,by rw[ai h.ns.2.symm];exact h.tl,h.ne,λx z=>Bv (h.zd x z)⟩
def iQ.aeB(h:iQ H n ls A)(c:Nat):∃H',ML H A.s (.str "begun") (.int (c:Int)) H'/\gg A H H'/\iQ H' n {ls with cnt:=c} A:=by
 obtain⟨a,b,d2,d3⟩:=h.d;exact⟨_,ML.k (k:= .inr "begun") b (aP (by show 4<=1000;decide)),gg.upd (.inr (.inr rfl)),⟨a,by rw[af];rfl,by rwa[ai (λz=>d3.1 (.inr (.inr z)))],d3⟩,by rw[ai h.ns.1.symm];exact h.on,by rw[ai h.ns.2.symm];exact h.tl,h.ne,λx z=>Bv (h.zd x z)⟩
def iQ.aeM(h:iQ H n ls A){y:eh}(a:A.has y):∃o,H y=some o:=by
 obtain⟨q,b,_,_⟩:=h.d;rcases a with z|z|z
 .exact ⟨_,by rw[z];erw[h.on]⟩
 .exact ⟨_,by rw[z];erw[h.tl]⟩
 .exact ⟨_,by rwa[z]⟩
theorem iQ.ltA(h:iQ H n ls A){y:eh}(a:H y=none):A.tM y:=
 ⟨λz=>(by obtain⟨o,e⟩:=h.aeM z;rw[e] at a;cases a),λz=>h.zd y z a⟩
open Classical in
noncomputable def RJ (A:rk) (H:Hp):Hp:=λy=>if A.has y then none else H y
def aa9(A:rk)(H:Hp):Fz A H (RJ A H):=by
 erw[⟨λx o e=>?_,λx e=>eT e⟩];unfold RJ at e
 split at e
 .cases e
 .exact e
theorem aak(h:Fz A H G):aL G (RJ A H):=λx o e=>by
 unfold RJ;rw[eJ (λz=>by rw[h.no x z] at e;cases e)];erw[h.sub x o e]
def Y4{F:FS}{B:Hp}(h:Bb F H B)(l:iQ B n ls A)(own:∀y,F y->H y≠none):iQ H n ls {A with z:=F}:=by
 obtain⟨q,a,d2,d3⟩:=l.d;have b:∀{x o},B x=some o->¬F x:=λz f=>by rw[h.2 _ f] at z;cases z
 exact⟨⟨q,h.1 _ _ a,h.1 _ _ d2,d3.1,b d2⟩,h.1 _ _ l.on,h.1 _ _ l.tl,l.ne,own⟩
open Classical in
def ac0{F:FS}{B:Hp}{a:LN}(h:Bb F H B)(g:Fz A B G)(l:iQ B n ls A)(j:∀y,¬A.z y)(e:gg A H H')(c:iQ H' n a {A with z:=F}):∃i,Bb F H' i/\Fz A i G/\iQ i n a A/\∀y,F y->¬A.has y:=by
 have m:∀{x o},B x=some o->¬F x:=λz f=>by rw[h.2 _ f] at z;cases z
 have fa:∀y,A.has y->¬F y:=λy p=>by obtain⟨o,z⟩:=l.aeM p;erw[m z]
 have get:∀{y o},H' y=some o->¬F y->(if F y then none else H' y)=some o:=λ{y o} z f=>by rwa[eJ f]
 obtain⟨q,r,d2,d3⟩:=c.d;erw[⟨λy=>if F y then none else H' y,⟨λx o z=>?_,λx f=>eT f⟩,⟨λx o z=>?_,g.no⟩,⟨⟨q,get r (fa _ (.inr (.inr rfl))),get d2 d3.2,d3.1,j q⟩,get c.on (fa _ (.inl rfl)),get c.tl (fa _ (.inr (.inl rfl))),c.ne,λx z=>absurd z (j x)⟩,λy f z=>fa y z f⟩]
 .have z:(if F x then none else H' x)=some o:=z;by_cases f:F x
  .rw[eT f] at z;cases z
  .rw[eJ f] at z;erw[z]
 .have b:=g.sub x o z;erw[get (e x o (λy=>by rw[g.no x y] at z;cases z) (h.1 _ _ b)) (m b)]
end
end Gn
namespace K09
local macro_rules | `(tactic| lk) => `(tactic| repeat (first | refine L2.ix rfl ?_ | refine ⟨rfl, ?_⟩ | refine ⟨_, _, rfl, rfl, ?_⟩ | refine ⟨_, _, rfl, ?_⟩ | (refine ⟨?_, ?_⟩; focus ((with_reducible show (0 : Int) < _); decide)) | (refine ⟨L2.ae5 ?_, ?_⟩; focus (exact rfl)) | (refine ⟨L2.cpowB ?_, ?_⟩; focus (exact rfl))))
local macro_rules | `(tactic| kt_ors) => `(tactic| exact ⟨rfl, rfl, rfl, by decide +kernel, rfl, by decide +kernel, by decide +kernel⟩)
local macro_rules | `(tactic| fin2) => `(tactic| try dsimp only [L2.vL, L2.Cx.ib])
local macro_rules | `(tactic| rcases $s:ident, $t:term with ⟨$ps,*⟩) => do let i := Lean.mkIdent; `(tactic| (refine $(i `F.Cv) $s fun $(i `vs) $(i `H) $(i `Q) $(i `E) y => ?_; rcases y with ⟨$ps,*⟩; refine ⟨rfl, fun cdv Ar eD $(i `s) $(i `hr) => ⟨_, $t, ?_⟩⟩; fin2))
local macro_rules | `(tactic| kd_p) => `(tactic| exact ⟨rfl, rfl, by decide +kernel, by decide +kernel, rfl, by decide +kernel, (by repeat (first | exact True.intro | refine ⟨rfl, ?_⟩)), by repeat (first | exact True.intro | refine ⟨(by first | exact fun _ => ⟨_, rfl⟩ | (intro z; cases z)), ?_⟩), (by repeat (first | exact True.intro | refine ⟨⟨rfl, .inl rfl, rfl, rfl⟩, ?_⟩))⟩)
local macro_rules | `(tactic| k_ne) => `(tactic| first | exact Or.inl rfl | exact Or.inr rfl)
local macro_rules | `({$xs:term,*}) => do return (<- xs.getElems.foldrM (fun x (r : Lean.Term) => `(L2.afO $x $r)) (<- `(L2.cS))).raw
open PySem L2 Shp Nm Tr PySem.NumText
seal L2.PE L2.PA L2.PT L2.PW L2.PS L2.nh L2.PG L2.PGs L2.PI L2.PF L2.PJ L2.PH L2.PO L2.PC L2.acN L2.PIp
abbrev zFn(P:Program)(w:World)(K:PySem.W.Frag)(mg:Str->Option Value)(b:Heap):=aD P w K mg b (fm P w) true
def top(i:Nat):fy:=PySem.Challenge.pw_minders_k09_whole_nobody_without_a_minde.main.body.getD i (.Pass ⟨0,0,0,0⟩)
abbrev Xn:fy:=top 10
abbrev Mw:fy:=top 11
abbrev DB:fy:=top 12
abbrev JJ:fy:=top 14
abbrev AJ:fy:=top 15
abbrev ir:fy:=aT (top 17) 0
abbrev ki:fy:=aT (top 17) 1
abbrev fq:fy:=aT (top 18) 0
abbrev gh:fy:=aT (top 18) 1
abbrev h9:fy:=aT (top 18) 2
abbrev fv:fy:=aT (top 18) 3
abbrev eU:fy:=aT (top 18) 4
abbrev iz:fy:=aT (top 18) 5
abbrev dN:fy:=aT (top 19) 0
abbrev cO:fy:=aT (top 19) 1
abbrev fP:fy:=aT (top 19) 2
abbrev fF:fy:=aT (top 19) 3
abbrev dQ:fy:=aT (top 19) 4
abbrev eB:fy:=aT (top 19) 5
abbrev eC:fy:=aT (top 19) 6
abbrev fQ:fy:=aT (top 19) 7
abbrev eG:fy:=aT (top 19) 8
abbrev dC:fy:=aT (top 19) 9
abbrev dP:fy:=aT (top 19) 10
abbrev cX:fy:=aT (top 19) 11
abbrev dJ:fy:=aT (top 19) 12
abbrev dF:fy:=aT (top 19) 13
abbrev dD:fy:=aT (top 19) 14
abbrev cx:fy:=aT (top 19) 15
abbrev rM:fy:=top 20
abbrev oX:fy:=top 21
abbrev kY:fy:=aT (top 23) 0
abbrev uc:fy:=aT (top 23) 1
abbrev ue:fy:=aT (top 23) 2
abbrev uf:fy:=aT (top 23) 3
abbrev qZ:fy:=aT (top 23) 4
abbrev Af:fy:=aT (top 23) 5
abbrev u9:fy:=aT (top 23) 6
abbrev eX:fy:=aT (top 23) 7
abbrev rK:fy:=aT (top 23) 8
abbrev qU:fy:=aT (top 23) 9
abbrev ur:fy:=aT (top 23) 10
abbrev oC:fy:=aT (top 23) 11
abbrev oP:fy:=aT (top 23) 12
abbrev kn:fy:=aT (top 23) 13
abbrev fB:fy:=aT (top 23) 14
abbrev oQ:fy:=aT (top 23) 15
abbrev kW:fy:=aT (top 23) 16
abbrev ia:fy:=aT (top 23) 17
abbrev Mh:fy:=top 24
abbrev DV:fy:=top 29
abbrev oz:fy:=top 30
abbrev wX:fy:=top 31
abbrev Dw:fy:=top 35
abbrev kK:fy:=aT (top 38) 0
abbrev iC:fy:=aT (top 38) 1
abbrev mr:fy:=aT (top 39) 0
abbrev xJ:fy:=aT (top 39) 1
abbrev u7:fy:=aT (top 39) 2
abbrev j9:fy:=aT (top 39) 3
abbrev qK:fy:=aT (top 39) 4
abbrev jU:fy:=aT (top 40) 0
abbrev iG:fy:=aT (top 40) 1
abbrev hZ:fy:=aT (top 41) 0
abbrev mm:fy:=aT (top 41) 1
abbrev ig:fy:=aT (top 42) 0
abbrev mG:fy:=aT (top 42) 1
abbrev jY:fy:=aT (top 43) 0
abbrev qQ:fy:=aT (top 43) 1
abbrev oJ:fy:=aT (top 43) 2
abbrev uQ:fy:=aT (top 43) 3
abbrev mw:fy:=aT (top 43) 4
abbrev lZ:fy:=aT (top 44) 0
abbrev jc:fy:=aT (top 44) 1
abbrev kZ:fy:=aT (top 45) 0
abbrev iy:fy:=aT (top 45) 1
abbrev Dv:fy:=top 49
abbrev wQ:fy:=top 50
abbrev mj:fy:=top 51
abbrev Ax:fy:=top 52
abbrev lV:fy:=aT (top 56) 0
abbrev ud:fy:=aT (top 56) 1
abbrev wU:fy:=aT (top 56) 2
abbrev xV:fy:=aT (top 56) 3
abbrev iI:fy:=aT (top 56) 4
abbrev rq:fy:=top 57
abbrev AB:fy:=top 58
abbrev oj:fy:=top 59
abbrev qI:fy:=top 60
abbrev pC:fy:=top 61
abbrev QS:fy:=top 62
abbrev Ef:fy:=top 64
abbrev He:fy:=top 65
abbrev ow:fy:=top 66
abbrev jJ:fy:=top 67
abbrev Aw:fy:=top 68
abbrev RZ:fy:=top 69
abbrev N5:fy:=top 70
abbrev DK:fy:=top 71
abbrev RE:fy:=top 72
abbrev IV:fy:=top 73
abbrev NS:fy:=top 74
abbrev Q2:fy:=top 75
abbrev MG:fy:=top 76
abbrev Hi:fy:=top 77
abbrev P6:fy:=top 78
structure Txt(mg:Str->Option ez):Prop where
 b_ValueError:mg "ValueError"=none
 aex:mg "all"=none
 ER:mg "enumerate"=none
 ack:mg "int"=none
 gI:mg "isinstance"=none
 dH:mg "len"=none
 YG:mg "list"=none
 aeg:mg "min"=none
 i8:mg "range"=none
 tQ:mg "str"=none
 afc:mg "sum"=none
 aa6:mg "tuple"=none
abbrev Uj:List Str:=["_law_script","_law_k"]
def Rt:ak Uj Uj (ah Ef):=by kt_ors
abbrev XT:List Str:=["_law_k","_law_mark","_law_signs","_law_two"]
abbrev Wg:List Str:=["_law_k","_law_mark"]
def LW:ak XT Wg (ah He):=by kt_ors
abbrev HI:List Str:=["_law_cell","_law_other","_law_keep","_law_way","_law_most"]
abbrev ym:List Str:=["_law_cell","_law_other"]
def iX:ak HI ym (ah ow):=by kt_ors
abbrev BN:List Str:=["_law_cell","_law_other","_law_keep","_law_work","_law_numbers","_law_words"]
def fL:ak BN ym (ah jJ):=by kt_ors
abbrev Q7:List Str:=["_law_script","_law_first","_law_count","_law_mark","_law_depths","_law_elders","_law_words","_law_path","_law_k","_law_cell","_law_other","_law_names"]
abbrev Xz:List Str:=["_law_script","_law_first","_law_count","_law_mark"]
def kq:ak Q7 Xz (ah Aw):=by kt_ors
abbrev acG:List Str:=["_law_tree_here","_law_depths","_law_elders","_law_words","_law_names","_law_rows"]
abbrev Xu:List Str:=["_law_tree_here"]
def yz:ak acG Xu (ah RZ):=by kt_ors
abbrev aad:List Str:=["_law_house","_law_name_here","_law_found","error"]
abbrev Tn:List Str:=["_law_house","_law_name_here"]
def IQ:ak aad Tn (ah N5):=by kt_ors
abbrev Uk:List Str:=["_law_house","_law_found"]
abbrev K5:List Str:=["_law_house"]
def HV:ak Uk K5 (ah DK):=by kt_ors
abbrev ac2:List Str:=["_law_house","_law_names","_law_cell","_law_k"]
abbrev XM:List Str:=["_law_house","_law_names","_law_cell"]
def Sx:ak ac2 XM (ah RE):=by kt_ors
abbrev Zi:List Str:=["_law_tree_here","_law_state","_law_at","_law_elder","_law_k"]
abbrev O8:List Str:=["_law_tree_here","_law_state","_law_at"]
def DH:ak Zi O8 (ah IV):=by kt_ors
abbrev Z7:List Str:=["_law_tree_here","_law_state","_law_at","_law_k"]
def Qa:ak Z7 O8 (ah NS):=by kt_ors
abbrev adl:List Str:=["_law_tree_here","_law_state","_law_word","_law_at","_law_leaf","_law_k"]
abbrev Ww:List Str:=["_law_tree_here","_law_state","_law_word","_law_at"]
def MD:ak adl Ww (ah Q2):=by kt_ors
abbrev ZC:List Str:=["_law_tree_here","_law_state","_law_entry_here","_law_at"]
abbrev S7:List Str:=["_law_tree_here","_law_state","_law_entry_here"]
def OC:ak ZC S7 (ah MG):=by kt_ors
abbrev YB:List Str:=["_law_house","_law_tree_here","_law_state","_law_names","_law_found","_law_k"]
abbrev O0:List Str:=["_law_house","_law_tree_here","_law_state"]
def yB:ak YB O0 (ah Hi):=by kt_ors
abbrev abF:List Str:=["_law_script","_law_count","_law_tree_here","_law_house","_law_state","_law_met","_law_clock","_law_cell","_law_due","_law_at","_law_rows","_law_entry_here"]
abbrev acb:List Str:=["_law_script"]
def gu:ak abF acb (ah P6):=by kt_ors
theorem aq{H:Hp}{q:eh}{o:HO}(h:H q=none):aL H (upd H q o):=λb u e=>by rwa[ai (ao e h)]
def gS{H a:Hp}{q:eh}{o:HO}(e:upd H q o=a)(h:H q=none):aL H a:=by rw[<- e];erw[aq h]
def gA{H a:Hp}{q:eh}{o:HO}(e:upd H q o=a):a q=some o:=by rw[<- e];erw[af]
theorem LX{a b:Int}(h:decide (V.int a=V.int b)=true):a=b:=V.int.inj (gD h)
theorem Ra{a b:Int}(h:¬decide (V.int a=V.int b)=true):a≠b:=λz=>h (fK (hI V.int z))
theorem eV{n:Nat}(h:n<=1000):n<=sizeLine:=tL (aP h)
def di{i:Int}(b:0<=i)(a:i<=1000001):i.natAbs.log2<1920:=by
 have h:i.natAbs<2^20:=by lia
 by_cases z:i.natAbs=0
 .rw[z];decide
 .have:=(ame z).mpr h
  lia
section
variable{P:hD}{w:gT}{K:fD}{mg:Str->Option ez}{dX:gm}{f:eh}{fd:oT}{dV:ez}
def RT(K:fD):Sp:=λvs H Q _=>∃(a:eh) (k:Int) (ns:List Int),vs=[.ref a,.int k]/\eZ K H a (ns.map V.int)/\0<=k/\Q (.int (ns.getD k.toNat 0)) H
def aav{cm:Bool}(F:aG K "_law_cell_at" "_law_cell_at" Ef dV f fd)(T:Txt mg):aD P w K mg dX (fm P w) cm 1 f fd Uj (RT K):=by
 rcases Rt,(aa (aH (gy oI (pv 1) (aO aE ⋯ T.dH cg {pv 0})) (ae (ar (gj aA (pv 0) (pv 1)))) aw)
   (ae (ar ag))) with⟨a,k,ns,rfl,hS,h0,q⟩
 obtain⟨j,rfl⟩:=ahP h0;lk;erw[hY a _ (jl rfl (.inl hS) ?_)];lk;erw[bA (λe=>?_) (λe=>?_)]
 .have e:(j:Int)<((ns.map V.int).length:Int):=gD e;rw[fC] at e;have b:j<ns.length:=by lia
  lk;erw[hh a _ _ (V.int (ns.getD j 0)) (fT rfl rfl hS (bY ?_) q)];rw[hV,gx b,nN,gx b]
  rfl
 .have e:¬(j:Int)<((ns.map V.int).length:Int):=λz=>e (fK z);rw[fC] at e;have z:ns.getD j 0=0:=by rw[nN,ahN ()];rfl
  have q:Q (.int (ns.getD j 0)) H:=q;rw[z] at q;erw[q]
def Yb:Sp:=λvs H Q _=>∃(k:Nat) (mark:Int),vs=[.int (k:Int),.int mark]/\k<64/\Q (.str (nameOf k mark)) H
def aaD(F:aG K "_law_name" "_law_name" He dV f fd)(T:Txt mg):zFn P w K mg dX 1 f fd Wg Yb:=by
 erw[F.Cv LW λvs H Q E x=>?_];obtain⟨k,mark,rfl,J,q⟩:=x;erw[⟨rfl,λm A eD s I=>?_⟩]
 have v:∃t,nh (vL true (fm P w) P w K mg dX XT "_law_name" (ah He) f m A eD s H E).ib ((cR He).drop 2) t/\(¬(mark%11=5/\k<36)->t {nx:=λ_ H'=>Q .non H',rt:=Q} [some (.int (k:Int)),some (.int mark),some (.str "abcdefghijklmnopqrstuvwxyz0123456789"),none] H):=by
  refine⟨_,(aa (bB (i:=3) LW.nd (aB oM (qt (pv 2) (aB bF (pv 0) ag) (λ_ _=>rfl)) (qt (pv 2) (aB bF (aB fR (aB cZ (pv 0) ag) (pv 1)) ag) (λ_ _=>rfl))))
   (ae (ar (aB oM (aB oM (aB A4 aj (aB bF (pv 1) ag)) (pv 3)) (aB A4 aj (aB bF (aB cZ (pv 1) ag) ag)))))),?_⟩
  fin2
  intro l;lk;have k1:((k:Int)%36)=((k%36:Nat):Int):=by lia
  erw[ml _ _ (sgn (k%36)) (jm rfl (hI V.int k1) () (by show((k%36:Nat):Int)<9223372036854775808;lia) (by show((k%36:Nat):Int)<36;lia) (QX (show k%36<36 by lia)) ?_)];have b:=de (((k/36:Nat):Int)+mark) (n:=36) ∅;obtain⟨j,p⟩:=ahP b.1;have k2:((k:Int)/36+mark)%36=(j:Int):=by rw[<- p];rfl
  lk;erw[ml _ _ (sgn j) (jm rfl (hI V.int k2) () (by show(j:Int)<9223372036854775808;lia) (by show(j:Int)<36;lia) (QX (show j<36 by lia)) ?_)];lk;erw[⟨(by show 1+1<=_;exact eV ∅),?_⟩];lk;have D:=de mark (n:=7) ∅;have B:=de (mark/7) (n:=5) ∅;obtain⟨a,g⟩:=ahP D.1;obtain⟨c,h⟩:=ahP B.1;have u:fw ⟨(jb a ("q":Str).cps).foldl (·++·) #[]⟩=jb a 113:=by rw[yA];erw[PL a 113]
  have r:fw ⟨(jb c ("q":Str).cps).foldl (·++·) #[]⟩=jb c 113:=by rw[yA];erw[PL c 113]
  have o:(⟨(jb a ("q":Str).cps).foldl (·++·) #[]⟩:Str).length=a:=by rw[<- bJ,u,M5]
  have C:(⟨(jb c ("q":Str).cps).foldl (·++·) #[]⟩:Str).length=c:=by rw[<- bJ,r,M5]
  erw[hY ("q") a (ot rfl (hI V.int g) (by show 1*a<=_;lia) () (by show 1<=_;decide) ?_)];lk;erw[⟨(by rw[o];show _+2<=_;exact eV ()),?_⟩];lk;erw[hY ("q") c (ot rfl (hI V.int h) (by show 1*c<=_;lia) () (by show 1<=_;decide) ?_)];erw[hY _ _ (kb rfl rfl (by rw[TN,o,C];show _+2+_<=_;exact eV ()) ?_)]
  have en:nameOf k mark=(⟨(jb a ("q":Str).cps).foldl (·++·) #[]⟩:Str)++((⟨#[sgn (k%36)]⟩:Str)++(⟨#[sgn j]⟩:Str))++(⟨(jb c ("q":Str).cps).foldl (·++·) #[]⟩:Str):=by
   erw[uq ?_];rw[k8,k8,k8,u,r];unfold nameOf vG;rw[eJ l,Bl,p,g,h]
   rfl
  rw[en] at q;erw[q]
 obtain⟨G,y,l⟩:=v
 refine⟨_,(aa (bB (i:=2) LW.nd aj)
   (aa (aH (PW.pt (dA (gy bM (aB bF (pv 1) ag) ag) (cQ (gy oI (pv 0) ag)))) (ae (ar (qt (pv 2) (pv 0) (λ_ _=>rfl)))) aw)
   y)),?_⟩
 fin2
 lk;erw[bA (λe=>?_) (λe=>?_)]
 .have e:mark%11=5:=LX e;lk;refine bA (λe2=>?_) (λe2=>?_)
  .have e2:(k:Int)<36:=gD e2;lk;refine ml _ _ (sgn k) (jm rfl rfl () (by show(k:Int)<9223372036854775808;lia) (by show(k:Int)<36;lia) (QX (show k<36 by lia)) ?_)
   have en:nameOf k mark=⟨#[sgn k]⟩:=by
    unfold nameOf vG;rw[eT ⟨e,()⟩]
    rfl
   rw[en] at q;erw[q]
  .have e2:¬(k:Int)<36:=λz=>e2 (fK z);erw[l λz=>by lia]
 .have e:=Ra e;erw[l λz=>e z.1]
def Ol:Sp:=λvs H Q _=>∃(cell other:Int),vs=[.int cell,.int other]/\∀(q:eh) (H':Hp),aL H H'->H q=none->H' q=some (.lst ((words (bC cell other "")).map V.str))->Q (.ref q) H'
def O4:Sp:=λvs H Q _=>∃(cell other:Int),vs=[.int cell,.int other]/\∀(q:eh) (H':Hp),aL H H'->H q=none->H' q=some (.lst ((words (leafOf cell other "")).map V.str))->Q (.ref q) H'
def wY(cell other:Int)(nm:Str):words (bC cell other nm)=[("minder":Str),oG (cell/5%4),YH (cell/20%3),dM (bC cell other nm).bK,dM (bC cell other nm).cC]:=by
 have a:=de (cell/20) (n:=3) ∅;have:cell/20%3=0\/cell/20%3=1\/cell/20%3=2:=by lia
 unfold words bC;rcases this with z|z|z<;>rw[z]<;>rfl
def MX(cell other:Int)(nm:Str):words (leafOf cell other nm)=[("leaf":Str),oG (cell/5%4),dM (leafOf cell other nm).bK,dM (leafOf cell other nm).cC,Ll (cell/20%4)]++(if cell/20%4=1 then [] else [dM (leafOf cell other nm).many]):=by
 have a:=de (cell/20) (n:=4) ∅;have:cell/20%4=0\/cell/20%4=1\/cell/20%4=2\/cell/20%4=3:=by lia
 unfold words Tr.leafOf;rcases this with z|z|z|z<;>rw[z]<;>rfl
def UU(F:aG K "_law_minder_words" "_law_minder_words" ow dV f fd)(T:Txt mg):zFn P w K mg dX 1 f fd ym Ol:=by
 rcases iX,(aa (bB (i:=2) iX.nd (gj aA (aY {(aj),(aj),(aj),(aj)}) (aB bF (aB cZ (pv 0) ag) ag)))
   (aa (bB (i:=3) iX.nd (gj aA (aY {(aj),(aj),(aj)}) (aB bF (aB cZ (pv 0) ag) ag)))
   (aa (aH (gy bM (aB bF (pv 1) ag) ag) (ae (ar (aY {(aj),pv 2,pv 3,cv bN ⋯ T.tQ k7 {aB bF (pv 1) ag},cv bN ⋯ T.tQ k7 {aB fR ag (aB bF (aB cZ (pv 1) ag) ag)}}))) aw)
   (aa (bB (i:=4) iX.nd (gj aA (aY (LM rfl)) (aB bF (pv 1) ag)))
   (ae (ar (aY {(aj),pv 2,pv 3,cv bN ⋯ T.tQ k7 {pv 4},cv bN ⋯ T.tQ k7 {aB fR ag (aB bF (aB cZ (pv 1) ag) ag)}}))))))) with⟨cell,other,rfl,k⟩
 have t:=de (cell/5) (n:=4) ∅;have u:=de (cell/20) (n:=3) ∅;have A:=de other (n:=8) ∅;have B:=de other (n:=1000001) ∅;have y:=de (other/3) (n:=1000000) ∅;have x:=de (other/8) (n:=5) ∅;rw[wY] at k
 have e4:oK [V.str "always",V.str "fallen",V.str "always",V.str "never"] (cell/5%4)=some (V.str (oG (cell/5%4))):=by
  have:cell/5%4=0\/cell/5%4=1\/cell/5%4=2\/cell/5%4=3:=by lia
  rcases this with z|z|z|z<;>rw[z]<;>rfl
 have e3:oK [V.str "one",V.str "all",V.str "rest"] (cell/20%3)=some (V.str (YH (cell/20%3))):=by
  have:cell/20%3=0\/cell/20%3=1\/cell/20%3=2:=by lia
  rcases this with z|z|z<;>rw[z]<;>rfl
 have e8:oK [V.int 9,V.int 2,V.int 30,V.int 1,V.int 3,V.int 0,V.int 9,V.int 2] (other%8)=some (V.int (CG (other%8))):=by
  have:other%8=0\/other%8=1\/other%8=2\/other%8=3\/other%8=4\/other%8=5\/other%8=6\/other%8=7:=by lia
  rcases this with z|z|z|z|z|z|z|z<;>rw[z]<;>rfl
 have v:0<=CG (other%8)/\CG (other%8)<=30:=by unfold CG;(repeat' split)<;>decide
 lk;erw[⟨eV (by show 4<=1000;decide),λr b=>?_⟩];lk;erw[hh r _ _ _ (fT rfl rfl (eZ.of af) e4 ?_)];lk;erw[⟨eV (by show 3<=1000;decide),λp h=>?_⟩];lk;erw[hh p _ _ _ (fT rfl rfl (eZ.of af) e3 ?_)];have c:=(aq (o:= .lst [V.str "always",V.str "fallen",V.str "always",V.str "never"]) b).trans (aq (o:= .lst [V.str "one",V.str "all",V.str "rest"]) h);lk;erw[bA (λe=>?_) (λe=>?_)]
 .have e:other%29=7:=LX e;have g:(bC cell other "").bK=other%1000001:=eT e;have es:(bC cell other "").cC=1+other/3%1000000:=eT e;rw[g,es] at k;lk;erw[⟨di () (),?_⟩];lk;erw[⟨di () (),?_⟩];lk;erw[⟨eV (by show 5<=1000;decide),λq a=>?_⟩];erw[k q _ (c.trans (aq a)) (c.free a) af]
 .have e:=Ra e;have g:(bC cell other "").bK=CG (other%8):=eJ e;have es:(bC cell other "").cC=1+other/8%5:=eJ e;rw[g,es] at k;lk;erw[⟨eV (by show 8<=1000;decide),λm j=>?_⟩];lk;erw[hh m _ _ _ (fT rfl rfl (eZ.of af) e8 ?_)];have l:=c.trans (aq (o:= .lst [V.int 9,V.int 2,V.int 30,V.int 1,V.int 3,V.int 0,V.int 9,V.int 2]) j);lk;erw[⟨di () (),?_⟩];lk;erw[⟨di () (),?_⟩];lk;erw[⟨eV (by show 5<=1000;decide),λq a=>?_⟩];erw[k q _ (l.trans (aq a)) (l.free a) af]
def VR(F:aG K "_law_leaf_words" "_law_leaf_words" jJ dV f fd)(T:Txt mg):zFn P w K mg dX 1 f fd ym O4:=by
 erw[F.Cv fL λvs H Q E L=>?_];obtain⟨cell,other,rfl,k⟩:=L;erw[⟨rfl,λm A eD s hr=>?_⟩];have W:=de (cell/5) (n:=4) ∅;have X:=de (cell/20) (n:=4) ∅;rw[MX] at k
 have e4:oK [V.str "always",V.str "fallen",V.str "always",V.str "never"] (cell/5%4)=some (V.str (oG (cell/5%4))):=by
  have:cell/5%4=0\/cell/5%4=1\/cell/5%4=2\/cell/5%4=3:=by lia
  rcases this with z|z|z|z<;>rw[z]<;>rfl
 have e3:oK [V.str "falls",V.str "idle",V.str "steady",V.str "falls"] (cell/20%4)=some (V.str (Ll (cell/20%4))):=by
  have:cell/20%4=0\/cell/20%4=1\/cell/20%4=2\/cell/20%4=3:=by lia
  rcases this with z|z|z|z<;>rw[z]<;>rfl
 have C:Ll (cell/20%4)="idle"↔cell/20%4=1:=by
  have:cell/20%4=0\/cell/20%4=1\/cell/20%4=2\/cell/20%4=3:=by lia
  rcases this with z|z|z|z<;>rw[z]<;>decide
 have J:∃t,nh (vL true (fm P w) P w K mg dX BN "_law_leaf_words" (ah jJ) f m A eD s H E).ib ((cR jJ).drop 4) t/\(∀(g:Hp) (p:eh) (x y z:Int),aL H g->g p=some (.lst [V.int x,.int y,.int z])->x=(leafOf cell other "").bK->y=(leafOf cell other "").cC->(cell/20%4≠1->z=(leafOf cell other "").many)->
   t {nx:=λ_ H'=>Q .non H',rt:=Q} [some (.int cell),some (.int other),some (.str (oG (cell/5%4))),some (.str (Ll (cell/20%4))),some (.ref p),none] g):=by
  refine⟨_,(aa (bB (i:=5) fL.nd (aY {(aj),pv 2,cv bN ⋯ T.tQ k7 {gj aA (pv 4) ag},cv bN ⋯ T.tQ k7 {gj aA (pv 4) ag},pv 3}))
   (aa (aH (gy qp (pv 3) aj) (ae (aC (fI rB wx vq cA (pv 5) {cv bN ⋯ T.tQ k7 {gj aA (pv 4) ag}}))) aw)
   (ae (ar (pv 5))))),?_⟩
  fin2
  intro g p x y z h v ex l u;have ok:=Tc (cell:=cell) (other:=other) (nm:="qa") (by decide +kernel);have G:0<=x:=by rw[ex];erw[ok.g0]
  have Y:x<=1000000:=by rw[ex];erw[ok.g1]
  have R:0<=y:=by rw[l];erw[ok.s0]
  have g3:y<=1000000:=by rw[l];erw[ok.s1]
  rw[<- ex,<-l] at k;lk;erw[hh p _ 0 _ (fT rfl rfl (eZ.of v) rfl ?_)];lk;erw[⟨di G (),?_⟩];lk;erw[hh p _ 1 _ (fT rfl rfl (eZ.of v) rfl ?_)];lk;erw[⟨di R (),?_⟩];lk;erw[⟨eV (by show 5<=1000;decide),λq b=>?_⟩];lk;erw[bA (λe=>?_) (λe=>?_)]
  .have e:cell/20%4≠1:=λz=>by
    rw[fK (hI V.str (C.mpr z))] at e;erw[absurd e ∅]
   have S:0<=z:=by rw[u e];erw[ok.m0]
   have z1:z<=1000000:=by rw[u e];erw[ok.m1]
   rw[eJ e,<-u e] at k;have a:=(aq (o:= .lst [V.str "leaf",.str (oG (cell/5%4)),.str (dM x),.str (dM y),.str (Ll (cell/20%4))]) b) _ _ v;lk;erw[⟨.inl ⟨rfl,_,eZ.of af⟩,?_⟩];lk;erw[hh p _ 2 _ (fT rfl rfl (eZ.of a) rfl ?_)];lk;erw[⟨di S (),?_⟩];lk;erw[ml q _ _ (fT rfl rfl af (aP (by show 5<=1000;decide)) ?_)];rw[aW];lk;erw[k q _ (h.trans (aq b)) (h.free b) af]
  .have e:cell/20%4=1:=C.mp (by
    have e:=e;cases z:decide (V.str (Ll (cell/20%4))=V.str "idle") with
    |true=>erw[V.str.inj (gD z)]
    |false=>rw[z] at e;erw[absurd rfl e])
   rw[eT e] at k;lk;erw[k q _ (h.trans (aq b)) (h.free b) af]
 obtain⟨Z,M,D⟩:=J
 refine⟨_,(aa (bB (i:=2) fL.nd (gj aA (aY {(aj),(aj),(aj),(aj)}) (aB bF (aB cZ (pv 0) ag) ag)))
   (aa (bB (i:=3) fL.nd (gj aA (aY {(aj),(aj),(aj),(aj)}) (aB bF (aB cZ (pv 0) ag) ag)))
   (aa (bB (i:=4) fL.nd (aY {aB bF (pv 1) ag,aB bF (aB cZ (pv 1) ag) ag,aB bF (aB cZ (pv 1) ag) ag}))
   (aa (aH (gy bM (aB bF (pv 1) ag) ag) (ae (bB (i:=4) fL.nd (aY {aB bF (pv 1) ag,aB bF (aB cZ (pv 1) ag) ag,aB bF (aB cZ (pv 1) ag) ag}))) aw)
   M)))),?_⟩
 fin2
 lk;erw[⟨eV (by show 4<=1000;decide),λU j=>?_⟩];lk;erw[hh U _ _ _ (fT rfl rfl (eZ.of af) e4 ?_)];lk;erw[⟨eV (by show 4<=1000;decide),λO a=>?_⟩];lk;erw[hh O _ _ _ (fT rfl rfl (eZ.of af) e3 ?_)];have B:=(aq (o:= .lst [V.str "always",V.str "fallen",V.str "always",V.str "never"]) j).trans (aq (o:= .lst [V.str "falls",V.str "idle",V.str "steady",V.str "falls"]) a);lk;erw[⟨eV (by show 3<=1000;decide),λN c=>?_⟩];lk;erw[bA (λe=>?_) (λe=>?_)]
 .have e:other%29=7:=LX e;lk;erw[⟨eV (by show 3<=1000;decide),λI r=>?_⟩];refine D _ I _ _ _ ((B.trans (aq c)).trans (aq r)) af ?_ ?_ ?_
  .exact (eT e).symm
  .exact (eT e).symm
  .intro z;show _=ite _ _ _;rw[eJ z,eT e]
 .have e:=Ra e;refine D _ N _ _ _ (B.trans (aq c)) af ?_ ?_ ?_
  .exact (eJ e).symm
  .exact (eJ e).symm
  .intro z;show _=ite _ _ _;rw[eJ z,eJ e]
def Wo(K:fD):Sp:=λvs H Q _=>∃(q dp e b c:eh) (a:List Row),vs=[.ref q]/\H q=some (.tup [.ref dp,.ref e,.ref b,.ref c])/\LB H dp e b c a/\fO a/\∀H',aL H H'->Q (.str (xc (written a))) H'
def Z0(F:aG K "_law_text" "_law_text" RZ dV f fd)(T:Txt mg):zFn P w K mg dX 1 f fd Xu (Wo K):=by
 rcases yz,(aa (Dx (pv 0) (QJ rfl (lT (cG (i:=1) yz.nd rfl (by k_ne)) (lT (cG (i:=2) yz.nd rfl (by k_ne)) (lT (cG (i:=3) yz.nd rfl (by k_ne)) (lT (cG (i:=4) yz.nd rfl (by k_ne)) L4))))))
   (aa (A8 (j:=5) yz.nd rfl (by k_ne) (x:="_law_k") (fr:=[("_law_depths",1),("_law_words",3),("_law_names",4)]) (by kd_p) rfl (jo ⋯ T.i8 {aO aE ⋯ T.dH cg {pv 4}}) (λ_ _ _ _=>Di) (λ_ _ _ _=>(aB oM (aB A4 aj (gj (yj (K0:=K) rfl) (pv 1) (pv 0))) (adV (K0:=K) rfl ahJ ald ale (Mg (K0:=K)) aj {aB GI (gj (yj (K0:=K) rfl) (pv 2) (pv 0)) (aY {gj (yj (K0:=K) rfl) (pv 3) (pv 0)})}))))
   (ae (ar (fI ahJ ald ale EW aj {pv 5}))))) with⟨q,dp,ep,wp,np,rows,rfl,hq,hT,ok,k⟩
 have c:(rows.map λr=>V.str r.sh.name).length=rows.length:=fC _;have ab:=ok.len;lk;erw[hY q _ (kb rfl (iq.of hq) rfl ?_)];lk;erw[hY np _ (jl rfl (.inl (eZ.of hT.n)) ?_)];rw[c];lk;erw[⟨(),(),dq (n:=rows.length) (λi ys H'=>aL H H'/\∃xs:List Str,ys=xs.map V.str/\xs.map fw=(md rows).take i) ⟨aL.refl _,[],rfl,rfl⟩ (λi ys H' b _=>b) (λys H' _=>fx _) ?_ ?_⟩]
 .rintro i ys H' v H2 b ⟨s1,xs,rfl,hx⟩ ⟨rfl,rfl⟩;have a:rows[i]? =some rows[i]:=gx b;have h:=ok.sh rows[i] (ve b);have B:=hT.mono s1
  have t:xs.length=i:=by
   have:=hI List.length hx;rw[fC,uU,Tr.plain_len] at this
   lia
  have m:(0:Int)+(i:Int)=((i:Nat):Int):=akE _
  have zd:oK (rows.map λr=>V.int (r.dep:Int)) (0+(i:Int))=some (V.int (rows[i].dep:Int)):=by
   rw[m];erw[bY ?_];rw[hV,a]
   rfl
  have S:oK (rows.map λr=>V.str r.sh.name) (0+(i:Int))=some (V.str rows[i].sh.name):=by
   rw[m];erw[bY ?_];rw[hV,a]
   rfl
  obtain⟨g,U,J,I⟩:=id B.w;rw[fC] at J;have D:g[i]? =some (g[i]'()):=gx ()
  have G:oK (g.map V.ref) (0+(i:Int))=some (V.ref (g[i]'())):=by
   rw[m];erw[bY ?_];rw[hV,D]
   rfl
  have L:=I i _ (words rows[i].sh) D (by rw[hV,a];rfl)
  have l:rows[i].dep<=8:=by
   have:=ok.fit i b;rw[nN,a] at this;unfold Tr.fits at this
   split at this
   .have:rows[i].dep=0:=this.1
    lia
   .exact this.2.1
  have Y:=EE h;have N:fw (⟨(jb rows[i].dep ("  ":Str).cps).foldl (·++·) #[]⟩:Str)=jb (2*rows[i].dep) 32:=by rw[yA];erw[Oz _ 32]
  have ld:(⟨(jb rows[i].dep ("  ":Str).cps).foldl (·++·) #[]⟩:Str).length=2*rows[i].dep:=by rw[<- bJ,N,M5]
  lk;erw[hh dp _ _ _ (fT rfl rfl (eZ.of B.d) zd ?_)];erw[hY ("  ") (rows[i].dep) (ot rfl rfl (by show 2*_<=_;lia) () (by show 2<=_;decide) ?_)];lk;erw[hh wp _ _ _ (fT rfl rfl (eZ.of U) G ?_)];lk;erw[hh np _ _ _ (fT rfl rfl (eZ.of B.n) S ?_)];erw[⟨eV (by show 1<=1000;decide),λu Z=>?_⟩];have C:=aq (o:= .lst [V.str rows[i].sh.name]) Z;have wl:((words rows[i].sh).map V.str).length<=7:=by rw[fC];have:=Y.2;rw[iv] at this;lia
  erw[hh (g[i]'()) u _ _ (ot rfl rfl (C _ _ L) af (by show _+1<=_;exact eV ()) (λz A=>?_))];have sz:=C.trans (aq (o:= .lst ((words rows[i].sh).map V.str++[V.str rows[i].sh.name])) A);have R:(words rows[i].sh).map V.str++[V.str rows[i].sh.name]=(words rows[i].sh++[rows[i].sh.name]).map V.str:=by rw[js];rfl
  erw[ml (" ") z (words rows[i].sh++[rows[i].sh.name]) (fT rfl rfl (by rw[<- R];exact eZ.of af) (by show _+_*1<=_;lia) ?_)];have rc:=Xf rows[i].dep rows[i].sh;have W:=Ml h rows[i].dep;rw[<- rc,bJ,TN] at W;erw[hY _ _ (kb rfl rfl (eV ()) ?_)];erw[⟨by rw[fC,t];exact aP (),s1.trans sz,xs++[_],by rw[js];rfl,?_⟩];rw[js,hx,Cb]
  congr 1
  show [fw _]=_;rw[rc];unfold md;rw[hV,a]
  rfl
 .rintro ys H' ⟨s1,xs,rfl,hx⟩;rw[<- Tr.plain_len,Bn] at hx
  have t:xs.length=rows.length:=by
   have:=hI List.length hx;rwa [fC,Tr.plain_len] at this
  erw[⟨by rw[fC,t];exact eV (),λp X=>?_⟩];lk
  have l:∀r∈rows,(z8 r.dep 0 0 r.sh).length<=83:=λr a=>by
   obtain⟨i,b,rfl⟩:=alv a;have h2:=Ml (ok.sh _ a) rows[i].dep
   have:rows[i].dep<=8:=by
    have:=ok.fit i b;rw[nN,gx b] at this;unfold Tr.fits at this
    split at this
    .have:rows[i].dep=0:=this.1
     lia
    .exact this.2.1
   lia
  have sm:(xs.map (·.length)).sum<=83*xs.length:=by
   erw[je (RL (n:=83) λy O=>?_) (by rw[fC];exact fx _)];obtain⟨z,A,rfl⟩:=ri.mp O;have:fw z∈md rows:=by rw[<- hx];erw[ri.mpr ⟨z,A,rfl⟩]
   obtain⟨r,a,e⟩:=ri.mp this;rw[<- bJ,<-e];erw[l r a]
  erw[ml ("\n") p xs (fT rfl rfl (eZ.of af) (by show _+_*1<=_;lia) ?_)]
  have M:aln "\n" xs=xc (written rows):=by
   erw[uq ?_];rw[GF,hx,Bl]
   rfl
  rw[M];erw[k _ (s1.trans (aq X))]
open PySem L2 Shp Nm Tr PySem.NumText
def W5(K:fD):Sp:=λvs H Q _=>∃(a:eh) (ns:List Int) (g mark:Int) (ct:Nat),vs=[.ref a,.int g,.int (ct:Int),.int mark]/\eZ K H a (ns.map V.int)/\0<=g/\1<=ct/\ct<=64∧
 ∀(q dp h c e:eh) (H':Hp) (b:List Row),aL H H'->H' q=some (.tup [.ref dp,.ref h,.ref c,.ref e])->LB H' dp h c e b->mH b mark->b.length=ct->Q (.ref q) H'
def ZZ(F:aG K "_law_tree" "_law_tree" Aw dV f fd)(T:Txt mg)(fM:iu P w K mg dX true 1 "_law_cell_at" (RT K) [])(R6:iu P w K mg dX true 1 "_law_name" Yb [])
  (jL:iu P w K mg dX true 1 "_law_minder_words" Ol []) (uX:iu P w K mg dX true 1 "_law_leaf_words" O4 []):zFn P w K mg dX 3 f fd Xz (W5 K):=by
 erw[F.Cv kq λvs H Q E y0=>?_];obtain⟨a,ns,fi,mark,ct,rfl,hS,hf,h1,bE,k⟩:=y0;erw[⟨rfl,λa4 A eD s hr=>?_⟩]
 have t6:∃t,nh (vL true (fm P w) P w K mg dX Q7 "_law_tree" (ah Aw) f a4 A eD s H E).ib ((cR Aw).drop 6) t/\(∀(B:Hp) (dp l g:eh) (b:List Row) (v1 v2 v3 v4:Option V),aL H B->H dp=none->H l=none->H g=none→
   B dp=some (.lst (b.map λr=>V.int (r.dep:Int)))->B l=some (.lst ((gG b.length).map λk=>V.int (bz b k)))->se B g (b.map λr=>words r.sh)->mH b mark->b.length=ct→
   t {nx:=λ_ H'=>Q .non H',rt:=Q} [some (.ref a),some (.int fi),some (.int (ct:Int)),some (.int mark),some (.ref dp),some (.ref l),some (.ref g),v1,v2,v3,v4,none] B):=by
  refine⟨_,(aa (A8 (j:=11) kq.nd rfl (by k_ne) (x:="_law_k") (fr:=[("_law_mark",3)]) (by kd_p) rfl (jo ⋯ T.i8 {pv 2}) (λ_ _ _ _=>Di) (λ_ _ _ _=>(Il R6 (hr.mono (by omega)) ⋯ sk {pv 0,pv 1})))
   (ae (ar (qR {pv 4,pv 5,pv 6,pv 11})))),?_⟩
  fin2
  intro B dp l g b v1 v2 v3 v4 s1 hd he hw h4 h5 h6 Y hl;lk;erw[⟨(),(),dq (n:=ct) (λi ys H'=>H'=B/\ys=(gG i).map λk=>V.str (nameOf k mark)) ⟨rfl,rfl⟩ (λi ys H' hi _=>hi) (λys H' _=>fx _) ?_ ?_⟩]
  .rintro i ys H' v S hi ⟨rfl,rfl⟩ ⟨rfl,rfl⟩;lk;erw[⟨(by rw[ajT];lia),by rw[fC,mq];exact aP (),rfl,?_⟩];rw[zB,js,ajT]
   rfl
  .rintro ys H' ⟨rfl,rfl⟩;erw[⟨by rw[fC,mq];exact eV (),λnp be=>?_⟩];lk;erw[⟨eV (by show 4<=1000;decide),λq hq=>?_⟩];have R:aL H' (upd (upd H' np (.lst ((gG ct).map λk=>V.str (nameOf k mark)))) q (.tup [.ref dp,.ref l,.ref g,.ref np])):=(aq be).trans (aq hq);erw[k q dp l g np _ b (s1.trans R) af ⟨R _ _ h4,R _ _ h5,h6.mono R,?_⟩ Y hl];rw[Y.names,hl];erw[aq hq _ _ af]
 obtain⟨tt,ht,hn⟩:=t6
 have t4:∃t,nh (vL true (fm P w) P w K mg dX Q7 "_law_tree" (ah Aw) f a4 A eD s H E).ib ((cR Aw).drop 4) t/\(∀(B:Hp) (dp l g:eh) (b:List Row),aL H B->H dp=none->H l=none->H g=none->dp≠l->dp≠g->l≠g→
   B dp=some (.lst (b.map λr=>V.int (r.dep:Int)))->B l=some (.lst ((gG b.length).map λk=>V.int (bz b k)))->se B g (b.map λr=>words r.sh)->mH b mark->b.length=1→
   t {nx:=λ_ H'=>Q .non H',rt:=Q} [some (.ref a),some (.int fi),some (.int (ct:Int)),some (.int mark),some (.ref dp),some (.ref l),some (.ref g),none,none,none,none,none] B):=by
  refine⟨_,(aa (bB (i:=7) kq.nd (aY {(ag)}))
   (aa (kj uZ rfl (Em ⋯ T.i8 {(ag),pv 2}) (cG (i:=8) kq.nd rfl (by k_ne)) (aa (bB (i:=9) kq.nd (aB fR (cz fM {pv 0,aB fR (pv 1) (pv 8)}) (aB adz ag (pv 8))))
   (aa (bB (i:=10) kq.nd (aB fR (cz fM {pv 0,aB fR (aB fR (pv 1) (pv 8)) ag}) (pv 8)))
   (aa (aH (gy oI (aB bF (pv 3) ag) ag) (ae (bB (i:=7) kq.nd (wo BJ (pv 7) Nw (uJ (aB fR ag (aB bF (aB cZ (pv 9) ag) (aO aE ⋯ T.dH cg {pv 7}))))))) aw)
   (aa (aC (fI rB wx vq cA (pv 4) {aO aE ⋯ T.dH cg {pv 7}}))
   (aa (aC (fI rB wx vq cA (pv 5) {gj aA (pv 7) (CI wC ag)}))
   (ae (aH (PW.pt (kB (gy oI (aB bF (pv 9) ag) ag) (kU (PW.pt (dA (gy bM (aB bF (pv 3) ag) ag) (cQ (gy oI (aO aE ⋯ T.dH cg {pv 7}) ag))))))) (aa (aC (fI rB wx vq cA (pv 6) {cz jL {pv 9,pv 10}}))
   (ae (aH (gy oI (aO aE ⋯ T.dH cg {pv 7}) ag) (ae (bB (i:=7) kq.nd (aB GI (pv 7) (aY {pv 8})))) aw))) (ae (aC (fI rB wx vq cA (pv 6) {cz uX {pv 9,pv 10}})))))))))))
   ht)),?_⟩
  fin2
  intro B dp l g b s1 hd he hw n1 n2 n3 h4 h5 h6 Y hl;erw[⟨eV (by show 1<=1000;decide),λpp aF=>?_⟩];have sn:=aq (o:= .lst [V.int 0]) aF
  have bp:fj b [0]:=by
   obtain⟨r,rfl⟩:∃r,b=[r]:=by
    match b,hl with
    |[r],_=>exact⟨r,rfl⟩
   erw[fj.first ?_];have:=Y.fit 0 amx;unfold Tr.fits at this;rw[eT rfl] at this;erw[this.2]
  lk;erw[⟨⟨∅,(),(),()⟩,?_⟩];have bn:((ct:Int)-1).toNat=ct-1:=by lia
  refine kX (lo:=1) (n:=((ct:Int)-1).toNat) (λi σ S=>∃(b:List Row) (pp:eh) (lp:List Nat) (v1 v2 v3:Option V),σ=[some (.ref a),some (.int fi),some (.int (ct:Int)),some (.int mark),some (.ref dp),some (.ref l),some (.ref g),some (.ref pp),v1,v2,v3,none]/\aL H S∧
    S dp=some (.lst (b.map λr=>V.int (r.dep:Int)))/\S l=some (.lst ((gG b.length).map λk=>V.int (bz b k)))/\se S g (b.map λr=>words r.sh)/\mH b mark/\b.length=1+i/\S pp=some (.lst (lp.map λj:Nat=>V.int (j:Int)))/\fj b lp/\pp≠dp/\pp≠l)
   ⟨b,pp,[0],none,none,none,rfl,s1.trans sn,sn _ _ h4,sn _ _ h5,h6.mono sn,Y,(),af,bp,(ao h4 aF).symm,(ao h5 aF).symm⟩ ?_ ?_
  .rintro i σ S hi ⟨b,pp,lp,v1,v2,v3,rfl,R,g4,g5,g6,Y,hl,gp,hP,m1,m2⟩;rw[bn] at hi;have r1:=Y.ne;have wn:=acv r1;refine Iw (M:=λbm H'=>∃(h:eh) (c:List Nat) (cl D:Int),bm=[some (.ref a),some (.int fi),some (.int (ct:Int)),some (.int mark),some (.ref dp),some (.ref l),some (.ref g),some (.ref h),some (.int (1+(i:Int))),some (.int cl),some (.int D),none]/\aL S H'/\H' h=some (.lst (c.map λj:Nat=>V.int (j:Int)))/\fj b c/\h≠dp/\h≠l) (λN hN=>?_) ?_
   .lk;erw[ml a _ ns (kb rfl (R.seq hS) () ?_)];lk;erw[⟨.inl ⟨∅,∅⟩,?_⟩];lk;erw[ml a _ ns (kb rfl (R.seq hS) () ?_)];lk;have bd:(lp.map λj:Nat=>V.int (j:Int)).length=lp.length:=fC _;have b1:=hP.l1;refine bA (λe=>?_) (λe=>?_)
    .lk;erw[hY pp _ (jl rfl (.inl (eZ.of gp)) ?_)];lk;erw[⟨(by show(0:Int)<_;rw[bd];lia),?_⟩];lk;erw[hY pp _ (jl rfl (eZ.of gp) (λp2 a2=>?_))];obtain⟨m,em⟩:=ahP (de ((ns.getD (fi+(1+(i:Int))).toNat 0+3*(1+(i:Int)))/80) (n:=(lp.length:Int)) ()).1;have bQ:=(de ((ns.getD (fi+(1+(i:Int))).toNat 0+3*(1+(i:Int)))/80) (n:=(lp.length:Int)) ()).2;erw[hN _ _ ⟨p2,lp.take (1+m),_,_,rfl,aq a2,?_,hP.take () (),(ao g4 a2).symm,(ao g5 a2).symm⟩];rw[af,bd,em,show(1+(m:Int))=((1+m:Nat):Int) from rfl,aao,aki]
    .lk;erw[hN _ _ ⟨pp,lp,_,_,rfl,λ_ _ z=>z,gp,hP,m1,m2⟩]
   .rintro σ3 H3 ⟨h,c,cl,D,rfl,sn2,kp,hP3,q1,q2⟩;have s3:=R.trans sn2;have k4:=sn2 _ _ g4;have k5:=sn2 _ _ g5;have k6:=g6.mono sn2;have c1:=hP3.l1;have c8:=hP3.l8;have G:(c.map λj:Nat=>V.int (j:Int)).length=c.length:=fC _;have rl:b.length<64:=by lia
    lk;erw[⟨.inl ⟨rfl,_,eZ.of k4⟩,?_⟩];lk;erw[hY h _ (jl rfl (.inl (eZ.of kp)) ?_)];rw[G];lk;erw[ml dp _ _ (fT rfl rfl k4 (by rw[fC];exact aP ()) ?_)];have aK:(upd H3 dp (.lst ((b.map λr=>V.int (r.dep:Int))++[V.int (c.length:Int)]))) h=some (.lst (c.map λj:Nat=>V.int (j:Int))):=(ai q1).trans kp;have an:(upd H3 dp (.lst ((b.map λr=>V.int (r.dep:Int))++[V.int (c.length:Int)]))) l=some (.lst ((gG b.length).map λk=>V.int (bz b k))):=(ai n1.symm).trans k5;lk;erw[⟨.inl ⟨rfl,_,eZ.of an⟩,?_⟩];lk
    have ax:oK (c.map λj:Nat=>V.int (j:Int)) (-1)=some (V.int ((c[c.length-1]'():Nat):Int)):=by
     rw[XE (),G,hV,gx ()]
     rfl
    erw[hh h _ _ _ (fT rfl rfl (eZ.of aK) ax ?_)];lk;erw[ml l _ _ (fT rfl rfl an (by rw[fC,mq];exact aP ()) ?_)];obtain⟨H4,J⟩:∃H4,H4=upd (upd H3 dp (.lst ((b.map λr=>V.int (r.dep:Int))++[V.int (c.length:Int)]))) l (.lst (((gG b.length).map λk=>V.int (bz b k))++[V.int ((c[c.length-1]'():Nat):Int)])):=⟨_,rfl⟩;rw[<- J];have s4:aL H H4:=by rw[J];erw[oq (oq s3 hd) he]
    have j4:H4 dp=some (.lst ((b.map λr=>V.int (r.dep:Int))++[V.int (c.length:Int)])):=by rw[J,ai n1];erw[af]
    have j5:H4 l=some (.lst (((gG b.length).map λk=>V.int (bz b k))++[V.int ((c[c.length-1]'():Nat):Int)])):=by rw[J];erw[af]
    have jp:H4 h=some (.lst (c.map λj:Nat=>V.int (j:Int))):=by rwa[J,ai q2]
    have j6:se H4 g (b.map λr=>words r.sh):=by
     obtain⟨x1,y1,z1⟩:=LD r1 (λr=>(r.dep:Int));obtain⟨x2,y2,z2⟩:=Jz r1 (λk=>bz b k);rw[J];erw[se.upd (i:=x2) (xs:=y2) (se.upd (i:=x1) (xs:=y1) k6 ?_ wn (MC b)) ?_ wn (MC b)]
     .rw[k4,z1]
     .rw[an,z2]
    have ac:∀sh:Sh,fits (cq b b.length) b.length ⟨c.length,sh⟩:=λsh=>hP3.fits (r:=⟨c.length,sh⟩) () c1 (fx _);have aN:∀sh:Sh,bz (b++[⟨c.length,sh⟩]) b.length=((c[c.length-1]'():Nat):Int):=λsh=>hP3.bz (r:=⟨c.length,sh⟩) () c1 (fx _)
    have a9:∀sh:Sh,fj (b++[⟨c.length,sh⟩]) c:=λsh=>by
     have:=hP3.next (r:=⟨c.length,sh⟩) c1 (fx _);rwa [Bn] at this
    clear J aK an ax
    have a7:g≠dp:=by
     obtain⟨x1,y1,z1⟩:=LD r1 (λr=>(r.dep:Int));erw[j6.ne (i:=x1) (xs:=y1++[V.int (c.length:Int)]) (by rw[j4,z1];rfl) wn]
    have a5:g≠l:=by
     obtain⟨x1,y1,z1⟩:=Jz r1 (λk=>bz b k);erw[j6.ne (i:=x1) (xs:=y1++[V.int ((c[c.length-1]'():Nat):Int)]) (by rw[j5,z1];rfl) wn]
    have a6:g≠h:=by
     obtain⟨x,y,z⟩:∃x y,c=x::y:=by
      match c,c1 with
      |x::y,_=>exact⟨x,y,rfl⟩
     erw[j6.ne (i:=(x:Int)) (xs:=y.map λj:Nat=>V.int (j:Int)) (by rw[jp,z];rfl) wn]
    obtain⟨bD,w1,_⟩:=id j6;dsimp only;erw[Yu (decide (cl%5<2)||(decide (mark%5=4)&&decide ((c.length:Int)<8))) (λN hN=>?_) ?_]
    .lk;refine bA (λe1=>?_) (λe1=>?_)
     .rw[show decide (cl%5<2)=true from e1,amW] at hN;erw[hN]
     .rw[show decide (cl%5<2)=false from ik λz=>e1 (fK z),akd] at hN;lk;refine bA (λe2=>?_) (λe2=>?_)
      .rw[fK (show mark%5=4 from V.int.inj (gD e2)),za] at hN;lk;erw[hY h _ (jl rfl (.inl (eZ.of jp)) ?_)];rw[G];lk;erw[hN]
      .rw[ik (show ¬mark%5=4 from λz=>e2 (fK (hI V.int z))),ED] at hN;erw[hN]
    .refine bA (λ_=>?_) (λ_=>?_)
     .lk;erw[⟨.inl ⟨rfl,_,eZ.of w1⟩,?_⟩];lk;erw[λq H5 s5 a3 I=>?_];obtain⟨a0,w2,wl,j7⟩:=(j6.mono s5).push I wn (MC b) (Df _);lk;erw[ml g _ _ (fT rfl rfl w2 (by rw[fC,wl,fC];exact aP ()) ?_)];obtain⟨U,p⟩:∃U,U=upd H5 g (.lst (a0.map V.ref++[.ref q])):=⟨_,rfl⟩;rw[<- p] at j7 ⊢;have s6:aL H U:=by rw[p];exact oq (s4.trans s5) hw
      have ad:U dp=some (.lst ((b.map λr=>V.int (r.dep:Int))++[V.int (c.length:Int)])):=by rw[p,ai a7.symm];erw[s5 _ _ j4]
      have Z:U l=some (.lst (((gG b.length).map λk=>V.int (bz b k))++[V.int ((c[c.length-1]'():Nat):Int)])):=by rw[p,ai a5.symm];erw[s5 _ _ j5]
      have ab:U h=some (.lst (c.map λj:Nat=>V.int (j:Int))):=by rw[p,ai a6.symm];erw[s5 _ _ jp]
      have ln:∀r:Row,(b++[r]).length=1+(i+1):=λr=>by rw[iv];show b.length+1=_;lia
      lk;erw[hY h _ (jl rfl (.inl (eZ.of ab)) ?_)];rw[G];lk;erw[bA (λe4=>?_) (λe4=>?_)]
      .have e4:(c.length:Int)<8:=gD e4;lk;erw[⟨eV (by show 1<=1000;decide),λu hu=>?_⟩];erw[hh h u _ _ (ot rfl rfl ((aq hu) _ _ ab) af (by rw[G];show _+1<=_;exact eV ()) (λz hz=>?_))];have sz:=(aq (o:= .lst [V.int (1+(i:Int))]) hu).trans (aq (o:= .lst ((c.map λj:Nat=>V.int (j:Int))++[V.int (1+(i:Int))])) hz);refine⟨b++[⟨c.length,bC cl D (nameOf b.length mark)⟩],z,c++[b.length],_,_,_,rfl,s6.trans sz,?_,?_,?_,Y.next rl (ac _) (C1 (F9 rl)) rfl,ln _,?_,?_,?_,?_⟩
       .rw[js];erw[sz _ _ ad]
       .rw[yd (aN _)];erw[sz _ _ Z]
       .rw[js];erw[j7.mono sz]
       .rw[af,js,hl]
        rfl
       .have:=hP3.more (r:=⟨c.length,bC cl D (nameOf b.length mark)⟩) c1 (fx _) (by show c.length<8;lia) (fK (aiy _ _));rw[Bn] at this;erw[this]
       .exact (ao ((aq hu) _ _ ad) hz).symm
       .exact (ao ((aq hu) _ _ Z) hz).symm
      .refine ⟨b++[⟨c.length,bC cl D (nameOf b.length mark)⟩],h,c,_,_,_,rfl,s6,?_,?_,?_,Y.next rl (ac _) (C1 (F9 rl)) rfl,ln _,ab,a9 _,q1,q2⟩
       .rwa[js]
       .rwa[yd (aN _)]
       .rwa[js]
     .lk;erw[⟨.inl ⟨rfl,_,eZ.of w1⟩,?_⟩];lk;erw[λq H5 s5 a3 I=>?_];obtain⟨a0,w2,wl,j7⟩:=(j6.mono s5).push I wn (MC b) (Df _);lk;erw[ml g _ _ (fT rfl rfl w2 (by rw[fC,wl,fC];exact aP ()) ?_)];obtain⟨U,p⟩:∃U,U=upd H5 g (.lst (a0.map V.ref++[.ref q])):=⟨_,rfl⟩;rw[<- p] at j7 ⊢;have s6:aL H U:=by rw[p];exact oq (s4.trans s5) hw
      have ad:U dp=some (.lst ((b.map λr=>V.int (r.dep:Int))++[V.int (c.length:Int)])):=by rw[p,ai a7.symm];erw[s5 _ _ j4]
      have Z:U l=some (.lst (((gG b.length).map λk=>V.int (bz b k))++[V.int ((c[c.length-1]'():Nat):Int)])):=by rw[p,ai a5.symm];erw[s5 _ _ j5]
      have ab:U h=some (.lst (c.map λj:Nat=>V.int (j:Int))):=by rw[p,ai a6.symm];erw[s5 _ _ jp]
      have ln:∀r:Row,(b++[r]).length=1+(i+1):=λr=>by rw[iv];show b.length+1=_;lia
      erw[⟨b++[⟨c.length,Tr.leafOf cl D (nameOf b.length mark)⟩],h,c,_,_,_,rfl,s6,?_,?_,?_,Y.next rl (ac _) (Tc (F9 rl)) rfl,ln _,ab,a9 _,q1,q2⟩]
      .rwa[js]
      .rwa[yd (aN _)]
      .rwa[js]
  .rintro σ S ⟨b,pp,lp,v1,v2,v3,rfl,R,g4,g5,g6,Y,hl,gp,hP,m1,m2⟩;erw[hn S dp l g b _ _ _ _ R hd he hw g4 g5 g6 Y ()]
 obtain⟨tt,ht,hn⟩:=t4
 refine⟨_,(aa (bB (i:=4) kq.nd (aY {(ag)}))
   (aa (bB (i:=5) kq.nd (aY {CI wC ag}))
   (aa (bB (i:=6) kq.nd (aY {cz jL {cz fM {pv 0,pv 1},cz fM {pv 0,aB fR (pv 1) ag}}}))
   (aa (aH (gy oI (aB bF (aB cZ (pv 3) ag) ag) ag) (ae (Dx aj (HL (gj aA (pv 6) ag) ag set_list))) aw)
   ht)))),?_⟩
 fin2
 erw[⟨eV (by show 1<=1000;decide),λdp am=>?_⟩];lk;erw[⟨eV (by show 1<=1000;decide),λl O=>?_⟩];have sA:=(aq (o:= .lst [V.int 0]) am).trans (aq (o:= .lst [V.int (-1)]) O);lk;erw[ml a _ ns (kb rfl (sA.seq hS) () ?_)];lk;erw[ml a _ ns (kb rfl (sA.seq hS) () ?_)];lk;erw[λq B s1 a3 I=>?_];obtain⟨cl,D,I⟩:∃cl D,B q=some (.lst ((words (bC cl D "")).map V.str)):=⟨_,_,I⟩;erw[⟨eV (by show 1<=1000;decide),λg W=>?_⟩];have R:=s1.trans (aq (o:= .lst [V.ref q]) W);have sB:=sA.trans R;have ap:(upd B g (.lst [V.ref q])) dp=some (.lst [V.int 0]):=R _ _ ((aq O) _ _ af);have al:(upd B g (.lst [V.ref q])) l=some (.lst [V.int (-1)]):=R _ _ af;have L:(upd B g (.lst [V.ref q])) q=some (.lst ((words (bC cl D "")).map V.str)):=(aq W) _ _ I;have a1:(upd B g (.lst [V.ref q])) g=some (.lst [V.ref q]):=af;have az:H l=none:=(aq (o:= .lst [V.int 0]) am).free O;have ay:H g=none:=(sA.trans s1).free W;have n1:dp≠l:=λz=>by rw[z] at O;rw[af] at O;cases O
 have n2:dp≠g:=ao (s1 _ _ ((aq (o:= .lst [V.int (-1)]) O) _ _ (af (H:=H) (a:=dp)))) W;have n3:l≠g:=ao (s1 _ _ (af (a:=l))) W
 have one:∀sh:Sh,sq sh->3<=sh.kind->sh.name=nameOf 0 mark->mH [⟨0,sh⟩] mark:=λsh hs hk bw=>by
  erw[⟨fx _,by show 1<=64;decide,?_,?_,?_⟩]
  .intro j hj;obtain rfl:j=0:=by have:j<1:=hj;lia
   unfold Tr.fits;rw[eT rfl];exact⟨rfl,fK hk⟩
  .intro r hr;obtain rfl:r=⟨0,sh⟩:=by simpa using hr
   erw[hs]
  .intro j hj;obtain rfl:j=0:=by have:j<1:=hj;lia
   erw[bw]
 have C:=C1 (cell:=cl) (other:=D) (F9 (k:=0) (mark:=mark) ∅);lk;erw[bA (λe=>?_) (λe=>?_)]
 .lk;erw[hh g _ 0 _ (fT rfl rfl (eZ.of a1) rfl ?_)];lk;have ew:(words (bC cl D "")).map V.str=[V.str "minder",V.str (oG (cl/5%4)),V.str (YH (cl/20%3)),V.str (dM (bC cl D "").bK),V.str (dM (bC cl D "").cC)]:=by rw[wY];rfl
  rw[ew] at L;erw[hh q _ 3 3 (fT rfl rfl L rfl ?_)];obtain⟨S,X⟩:∃S,S=upd (upd B g (.lst [V.ref q])) q (.lst [V.str "minder",V.str (oG (cl/5%4)),V.str (YH (cl/20%3)),V.str "100",V.str (dM (bC cl D "").cC)]):=⟨_,rfl⟩;have bq:H q=none:=sA.free a3;obtain⟨sh,as⟩:∃sh:Sh,sh={bC cl D (nameOf 0 mark) with bK:=100}:=⟨_,rfl⟩;have bv:dp≠q:=λz=>by rw[z] at ap;rw[ap] at L;cases L
  have bi:l≠q:=λz=>by rw[z] at al;rw[al] at L;cases L
  have bo:g≠q:=(ao I W).symm
  have bg:(words sh).map V.str=[V.str "minder",V.str (oG (cl/5%4)),V.str (YH (cl/20%3)),V.str "100",V.str (dM (bC cl D "").cC)]:=by
   have h3:=de (cl/20) (n:=3) ∅;have:cl/20%3=0\/cl/20%3=1\/cl/20%3=2:=by lia
   rw[as];unfold words bC;rcases this with z|z|z<;>rw[z]<;>rfl
  have hok:sq sh:=by
   rw[as];exact⟨C.kd,C.kp,C.m0,C.m1,C.m2,by show(0:Int)<=100;decide,by show(100:Int)<=1000000;decide,C.s0,C.s1,C.s2,C.nm⟩
  have z:=hn S dp l g [⟨0,sh⟩] (by rw[X];erw[oq sB bq]) am az ay n1 n2 n3 (by rwa[X,ai bv]) (by rwa[X,ai bi])
   ⟨[q],by rwa[X,ai bo],rfl,λj x ws g1 g2=>?_⟩ (one sh hok (by rw[as];erw[aiy _ _]) (by rw[as];rfl)) rfl
  .rw[X] at z;erw[z]
  .have hj:j=0:=by have:=(pE.mp g1).1;have:j<1:=this;lia
   subst hj;obtain rfl:q=x:=hH g1;obtain rfl:words sh=ws:=hH g2;rw[X,af,bg]
 .refine hn _ dp l g [⟨0,bC cl D (nameOf 0 mark)⟩] sB am az ay n1 n2 n3 ap al ⟨[q],a1,rfl,λj x ws g1 g2=>?_⟩ (one _ C (aiy _ _) rfl) rfl;have hj:j=0:=by have:=(pE.mp g1).1;have:j<1:=this;lia
  subst hj;obtain rfl:q=x:=hH g1;obtain rfl:words (bC cl D (nameOf 0 mark))=ws:=hH g2;erw[L]
end
open PySem L2 Shp
abbrev Ek:List Str:=["self","name","keep"]
def BM:ak Ek Ek (ah kK):=by kt_ors
abbrev E9:List Str:=["self","name","keep","grace","slow"]
def Du:ak E9 E9 (ah mr):=by kt_ors
abbrev BY:List Str:=["self","name","keep","many","grace","slow"]
def Ac:ak BY BY (ah jU):=by kt_ors
abbrev Ba:List Str:=["self","name","keep","most","span"]
def z7:ak Ba Ba (ah jY):=by kt_ors
abbrev zi:List Str:=["self","word"]
def wq:ak zi zi (ah iC):=by kt_ors
abbrev Ph:List Str:=["self"]
def Nc:ak Ph Ph (ah xJ):=by kt_ors
def Gz:ak Ph Ph (ah qQ):=by kt_ors
abbrev J8:List Str:=["self","steps"]
def Gs:ak J8 J8 (ah qK):=by kt_ors
def D9:ak J8 J8 (ah mm):=by kt_ors
def CP:ak J8 J8 (ah mG):=by kt_ors
def xO:ak J8 J8 (ah iG):=by kt_ors
def A0:ak Ph Ph (ah j9):=by kt_ors
def wL:ak Ph Ph (ah hZ):=by kt_ors
def xQ:ak Ph Ph (ah ig):=by kt_ors
def J6:ak Ph Ph (ah u7):=by kt_ors
def Ky:ak Ph Ph (ah uQ):=by kt_ors
def FE:ak Ph Ph (ah oJ):=by kt_ors
def DQ:ak Ph Ph (ah lZ):=by kt_ors
def CL:ak Ph Ph (ah kZ):=by kt_ors
abbrev FN:List Str:=["self","place","count","on","good"]
def Dd:ak FN FN (ah mw):=by kt_ors
def zc:ak FN FN (ah jc):=by kt_ors
abbrev zg:List Str:=["self","place","count","on","good","put_away","begun"]
def gF:ak zg FN (ah iy):=by kt_ors
abbrev ae4:List Str:=["place"]
def adb:ak ae4 ae4 (ah Xn):=by kt_ors
def Ya:ak ae4 ae4 (ah Mw):=by kt_ors
abbrev Vz:List Str:=["bits","others"]
def Qw:ak Vz Vz (ah DB):=by kt_ors
structure CF(K:fD)(C:eh):Prop where
 cl:pJ K C
 n1:bb K C "name"
 n2:bb K C "keep"
 n3:bb K C "grace"
 n4:bb K C "slow"
 n5:bb K C "many"
 n6:bb K C "most"
 n7:bb K C "span"
def uB(s:Sh):List (Str×V):=match s.kind with
 |0=>[("name",.str s.name),("keep",.str s.keep),("grace",.int s.bK),("slow",.int s.cC)]
 |1=>[("name",.str s.name),("keep",.str s.keep),("grace",.int s.bK),("slow",.int s.cC),("many",.int s.many)]
 |2=>[("name",.str s.name),("keep",.str s.keep),("grace",.int s.bK),("slow",.int s.cC),("many",.int s.many)]
 |_=>[("name",.str s.name),("keep",.str s.keep),("most",.int s.bK),("span",.int s.cC)]
structure Pl where
 c:Nat->eh
 pr:Nat->Prop
 inj:∀i j,pr i->pr j->c i=c j->i=j
def Pl.rep(p:Pl):Rep:=λH a s=>C4 s/\p.pr s.kind/\∃b:eh,H a=some (.ins (p.c s.kind) b (uB s))
def Pl.cl(p:Pl)(j:Nat)(C:eh):Prop:=p.pr j/\C=p.c j
def Pl.mono{p:Pl}{H H':Hp}{a:eh}{s:Sh}(e:aL H H')(h:p.rep H a s):p.rep H' a s:=by
 obtain⟨g,b,c,f⟩:=h;exact⟨g,b,c,e _ _ f⟩
def kI{p:Pl}{H:Hp}{a h:eh}{fs:List (Str×V)}{s:Sh}{j:Nat}(g:p.pr j)(b:p.rep H a s)(l:H a=some (.ins (p.c j) h fs)):s.kind=j/\fs=uB s/\C4 s:=by
 obtain⟨ok,i,f,e⟩:=b;rw[l] at e;have e:=HO.ins.inj (hH e);exact⟨p.inj _ _ i g e.1.symm,e.2.2,ok⟩
def F0(s:Sh):(uB s).lookup ("keep":Str)=some (.str s.keep):=by
 unfold uB
 split<;>rfl
def Gf(s:Sh):(uB s).lookup ("name":Str)=some (.str s.name):=by
 unfold uB
 split<;>rfl
def Py{s:Sh}(h:s.kind<3):(uB s).lookup ("grace":Str)=some (.int s.bK):=by
 unfold uB;have:s.kind=0\/s.kind=1\/s.kind=2:=by lia
 rcases this with z|z|z<;>rw[z]<;>rfl
def Ti{s:Sh}(h:s.kind<3):(uB s).lookup ("slow":Str)=some (.int s.cC):=by
 unfold uB;have:s.kind=0\/s.kind=1\/s.kind=2:=by lia
 rcases this with z|z|z<;>rw[z]<;>rfl
def LZ{s:Sh}(h:s.kind=1\/s.kind=2):(uB s).lookup ("many":Str)=some (.int s.many):=by
 unfold uB;rcases h with z|z<;>rw[z]<;>rfl
def LI{s:Sh}(h:3<=s.kind)(ok:C4 s):uB s=([("name",V.str s.name),("keep",V.str s.keep),("most",V.int s.bK),("span",V.int s.cC)]:List (Str×V)):=by
 unfold uB;have:s.kind=3\/s.kind=4\/s.kind=5:=by have:=ok.kd;lia
 rcases this with z|z|z<;>rw[z]<;>rfl
section
variable{P:hD}{w:gT}{K:fD}{mg:Str->Option ez}{dX:gm}{f:eh}{fd:oT}{dV:ez}{p:Pl}
theorem l8{n:Nat}(h:n<=100):n<=sizeLine:=tL (aP ())
def FR(K:fD):Sp:=λvs H Q _=>∃(x C a:eh) (nm b:V),vs=[.ref x,nm,b]/\CF K C/\H x=some (.ins C a [])/\Q .non (upd H x (.ins C a [("name",nm),("keep",b)]))
def YE(F:aG K "__init__" "Child.__init__" kK dV f fd):zFn P w K mg dX 1 f fd Ek (FR K):=by
 rcases BM,(aa (aI (pv 0) (pv 1) rfl)
   (ae (aI (pv 0) (pv 2) rfl))) with⟨x,C,dx,nm,kp,rfl,hc,hx,k⟩
 lk;erw[cb hx hc.cl hc.n1 ∅ ?_];lk;erw[cb af hc.cl hc.n2 (by show 1<1000;decide) ?_];rwa[aW]
theorem made{x c C:eh}{a H:Hp}{fs:List (Str×V)}(g:a x=none)(h:a c=none)(e:H=upd (upd a c (.own x)) x (.ins C c [])):aL a (upd H x (.ins C c fs)):=λb o z=>by
 rwa[ai (ao z g),e,ai (ao z g),ai (ao z h)]
def F8(K:fD):Sp:=λvs H Q _=>∃(x C a:eh) (nm b:V) (g l:V),vs=[.ref x,nm,b,g,l]/\CF K C/\H x=some (.ins C a [])/\Q .non (upd H x (.ins C a [("name",nm),("keep",b),("grace",g),("slow",l)]))
def Qe(F:aG K "__init__" "Leaf.__init__" mr dV f fd)(a:K4 P w K mg dX true 1 "Child" "__init__" (FR K) []):zFn P w K mg dX 2 f fd E9 (F8 K):=by
 rcases Du,(aa (aC (GA a (hr.mono (by omega)) ⋯ cy {pv 0,pv 1,pv 2}))
   (aa (aI (pv 0) (pv 3) rfl)
   (ae (aI (pv 0) (pv 4) rfl)))) with⟨x,C,dx,nm,kp,g,l,rfl,hc,hx,k⟩
 lk;erw[m8 x C dx nm kp (kb rfl hc hx ?_)];lk;erw[cb af hc.cl hc.n3 (by show 2<1000;decide) ?_];lk;erw[cb af hc.cl hc.n4 (by show 3<1000;decide) ?_];rwa[aW,aW]
def aay(j:CF K (p.c 0))(b:p.pr 0)(F:zFn P w K mg dX 2 f fd E9 (F8 K)):zFn P w K mg dX 2 f fd E9 (JW p.rep (p.c 0) WO):=by
 erw[F.imp λvs H Q E h=>?_];obtain⟨x,a,o,us,s,rfl,⟨nm,n,g,l,rfl,rfl,ok⟩,m,i,ne,e,k⟩:=h;erw[l9 x (p.c 0) a _ _ _ _ (kb rfl j (by rw[e];exact af) (k _ (made m i e) ⟨ok,b,a,?_⟩))];rw[af]
 rfl
def L8(K:fD):Sp:=λvs H Q _=>∃(x C a:eh) (nm b:V) (m g l:V),vs=[.ref x,nm,b,m,g,l]/\CF K C/\H x=some (.ins C a [])/\Q .non (upd H x (.ins C a [("name",nm),("keep",b),("grace",g),("slow",l),("many",m)]))
def Pc(F:aG K "__init__" "Worker.__init__" jU dV f fd)(a:K4 P w K mg dX true 2 "Leaf" "__init__" (F8 K) []):zFn P w K mg dX 3 f fd BY (L8 K):=by
 rcases Ac,(aa (aC (GA a (hr.mono (by omega)) ⋯ cy {pv 0,pv 1,pv 2,pv 4,pv 5}))
   (ae (aI (pv 0) (pv 3) rfl))) with⟨x,C,dx,nm,kp,m,g,l,rfl,hc,hx,k⟩
 lk;erw[l9 x C dx nm kp g l (kb rfl hc hx ?_)];lk;erw[cb af hc.cl hc.n5 (by show 4<1000;decide) ?_];rwa[aW]
def Ug(j:CF K (p.c 1))(b:p.pr 1)(F:zFn P w K mg dX 3 f fd BY (L8 K)):zFn P w K mg dX 3 f fd BY (JW p.rep (p.c 1) Px):=by
 erw[F.imp λvs H Q E h=>?_];obtain⟨x,a,q,us,s,rfl,⟨nm,o,m,g,l,rfl,rfl,ok⟩,n,i,ne,e,k⟩:=h;erw[Ow x (p.c 1) a _ _ _ _ _ (kb rfl j (by rw[e];exact af) (k _ (made n i e) ⟨ok,b,a,?_⟩))];rw[af]
 rfl
def UX(j:CF K (p.c 2))(b:p.pr 2)(F:zFn P w K mg dX 3 f fd BY (L8 K)):zFn P w K mg dX 3 f fd BY (JW p.rep (p.c 2) OJ):=by
 erw[F.imp λvs H Q E h=>?_];obtain⟨x,a,q,us,s,rfl,⟨nm,o,m,g,l,rfl,rfl,ok⟩,n,i,ne,e,k⟩:=h;erw[Ow x (p.c 2) a _ _ _ _ _ (kb rfl j (by rw[e];exact af) (k _ (made n i e) ⟨ok,b,a,?_⟩))];rw[af]
 rfl
def SN(K:fD):Sp:=λvs H Q _=>∃(x C a:eh) (nm b:V) (g l:V),vs=[.ref x,nm,b,g,l]/\CF K C/\H x=some (.ins C a [])/\Q .non (upd H x (.ins C a [("name",nm),("keep",b),("most",g),("span",l)]))
def GN(F:aG K "__init__" "Minder.__init__" jY dV f fd)(a:K4 P w K mg dX true 1 "Child" "__init__" (FR K) []):zFn P w K mg dX 2 f fd Ba (SN K):=by
 rcases z7,(aa (aC (GA a (hr.mono (by omega)) ⋯ cy {pv 0,pv 1,pv 2}))
   (aa (aI (pv 0) (pv 3) rfl)
   (ae (aI (pv 0) (pv 4) rfl)))) with⟨x,C,dx,nm,kp,g,l,rfl,hc,hx,k⟩
 lk;erw[m8 x C dx nm kp (kb rfl hc hx ?_)];lk;erw[cb af hc.cl hc.n6 (by show 2<1000;decide) ?_];lk;erw[cb af hc.cl hc.n7 (by show 3<1000;decide) ?_];rwa[aW,aW]
def DL{j:Nat}(i:3<=j)(m:CF K (p.c j))(n:p.pr j)(F:zFn P w K mg dX 2 f fd Ba (SN K)):zFn P w K mg dX 2 f fd Ba (JW p.rep (p.c j) (BZ j)):=by
 erw[F.imp λvs H Q E h=>?_];obtain⟨x,a,r,us,s,rfl,⟨nm,q,g,l,rfl,rfl,ok⟩,o,b,ne,e,k⟩:=h;erw[l9 x (p.c j) a _ _ _ _ (kb rfl m (by rw[e];exact af) (k _ (made o b e) ⟨ok,n,a,?_⟩))];rw[af,LI i ok]
def sX{j:Nat}{g:eh}(F:aG K "begun_again" "Child.begun_again" iC dV f fd)(l:p.pr j)(b:CF K (p.c j))(i:mg "FALLS"=some (.ref g))(m:∀H:Hp,iq K H g [V.str "fallen",V.str "gave up"]):
  zFn P w K mg dX 1 f fd zi (NA p.rep (p.c j)):=by
 erw[F.okN wq (λvs H Q E h=>?_) (λn A eD s H vs Q E o h=>?_)]
 .obtain ⟨a,dx,fs,s,wd,rfl,_⟩:=h
  rfl
 .obtain ⟨a,dx,fs,s,wd,rfl,hR,hi,hw,k⟩:=h;obtain⟨_,rfl,_⟩:=kI l hR hi;have k:=k _ (aL.refl _);refine⟨_,(ae (ar (acf (vd bM (au (pv 0) rfl) aj) (rm (uK (vd bM (au (pv 0) rfl) aj) (rm (vd sO (pv 1) (yL ⋯ i)))))))),?_⟩
  fin2
  erw[⟨_,rfl,a,p.c j,dx,_,_,rfl,hi,b.cl,b.n2,F0 _,rfl,_,rfl,?_⟩];unfold begun at k;erw[bA (λe=>?_) (λe=>?_)]
  .have e:s.keep="always":=V.str.inj (gD e);rw[fK e] at k;erw[k]
  have e:s.keep≠"always":=λz=>e (fK (hI V.str z));rw[ik e] at k;erw[⟨_,rfl,a,p.c j,dx,_,_,rfl,hi,b.cl,b.n2,F0 _,rfl,_,rfl,?_⟩];erw[bA (λe2=>?_) (λe2=>?_)]
  .have e2:s.keep="fallen":=V.str.inj (gD e2);refine ix rfl (hY g _ (fT rfl (.inr (m _)) rfl rfl ?_))
   have e3:x9 (V.str wd) [V.str "fallen",V.str "gave up"]=(decide (wd="fallen")||decide (wd="gave up")):=by
    rw[qj];simp only[x9,nt,XP,alS,xk,rz,kP,aiC];exact⟨λz=>z.imp Eq.symm Eq.symm,λz=>z.imp Eq.symm Eq.symm⟩
   rw[fK e2,akd,za,<-e3] at k;erw[k]
  .have e2:s.keep≠"fallen":=λz=>e2 (fK (hI V.str z));rw[ik e2] at k;erw[k]
def IG{j:Nat}(F:aG K "leaf" "Leaf.leaf" xJ dV f fd)(b:p.pr j)(i:j<3):zFn P w K mg dX 1 f fd Ph (wJ p.rep (p.c j)):=by
 erw[F.okN Nc (λvs H Q E h=>?_) (λg A eD s H vs Q E l h=>?_)]
 .obtain ⟨a,dx,fs,s,rfl,_⟩:=h
  rfl
 .obtain ⟨a,dx,fs,s,rfl,hR,hi,k⟩:=h;obtain⟨e,rfl,ok⟩:=kI b hR hi;refine⟨_,(ae (ar cc)),?_⟩
  fin2
  have k:=k _ (aL.refl _);rw[fK ()] at k;erw[k]
def Hh{j:Nat}(F:aG K "leaf" "Minder.leaf" qQ dV f fd)(b:p.pr j)(i:3<=j):zFn P w K mg dX 1 f fd Ph (wJ p.rep (p.c j)):=by
 erw[F.okN Gz (λvs H Q E h=>?_) (λg A eD s H vs Q E l h=>?_)]
 .obtain ⟨a,dx,fs,s,rfl,_⟩:=h
  rfl
 .obtain ⟨a,dx,fs,s,rfl,hR,hi,k⟩:=h;obtain⟨e,rfl,ok⟩:=kI b hR hi;refine⟨_,(ae (ar cc)),?_⟩
  fin2
  have k:=k _ (aL.refl _);rw[ik ()] at k;erw[k]
def Ex(s:Sh):List Str:=match s.kind with
 |0=>["idle"]
 |1=>["steady",dM s.many]
 |_=>["falls",dM s.many]
def AA(R:Rep)(C:eh):Sp:=λvs H Q _=>∃(a b:eh) (fs:List (Str×V)) (s:Sh),vs=[.ref a]/\R H a s/\H a=some (.ins C b fs)/\s.kind<3∧
 ∀(q:eh) (H':Hp),aL H H'->H q=none->H' q=some (.lst ((Ex s).map V.str))->Q (.ref q) H'
def YX(F:aG K "work_words" "Leaf.work_words" j9 dV f fd)(g:p.pr 0):zFn P w K mg dX 1 f fd Ph (AA p.rep (p.c 0)):=by
 erw[F.okN A0 (λvs H Q E h=>?_) (λi A eD s H vs Q E j h=>?_)]
 .obtain ⟨a,dx,fs,s,rfl,_⟩:=h
  rfl
 .obtain ⟨a,dx,fs,s,rfl,hR,hi,h3,k⟩:=h;obtain⟨e,rfl,ok⟩:=kI g hR hi;refine⟨_,(ae (ar (aY {(aj)}))),?_⟩
  fin2
  erw[⟨l8 (show 1<=100 by decide),λq b=>k q _ (aq b) b ?_⟩];rw[af];unfold Ex;rw[e]
  rfl
def YO(F:aG K "work_words" "Steady.work_words" hZ dV f fd)(T:Txt mg)(i:p.pr 1)(b:CF K (p.c 1)):zFn P w K mg dX 1 f fd Ph (AA p.rep (p.c 1)):=by
 erw[F.okN wL (λvs H Q E h=>?_) (λj A eD s H vs Q E l h=>?_)]
 .obtain ⟨a,dx,fs,s,rfl,_⟩:=h
  rfl
 .obtain ⟨a,dx,fs,s,rfl,hR,hi,h3,k⟩:=h;obtain⟨e,rfl,ok⟩:=kI i hR hi;refine⟨_,(ae (ar (aY {(aj),cv bN ⋯ T.tQ k7 {au (pv 0) rfl}}))),?_⟩
  fin2
  erw[⟨_,rfl,a,p.c 1,dx,_,_,rfl,hi,b.cl,b.n5,LZ (.inl e),_,rfl,di ok.m0 ok.m1,l8 (show 2<=100 by decide),λq g=>k q _ (aq g) g ?_⟩];rw[af];unfold Ex;rw[e]
  rfl
def Zm(F:aG K "work_words" "Faller.work_words" ig dV f fd)(T:Txt mg)(i:p.pr 2)(b:CF K (p.c 2)):zFn P w K mg dX 1 f fd Ph (AA p.rep (p.c 2)):=by
 erw[F.okN xQ (λvs H Q E h=>?_) (λj A eD s H vs Q E l h=>?_)]
 .obtain ⟨a,dx,fs,s,rfl,_⟩:=h
  rfl
 .obtain ⟨a,dx,fs,s,rfl,hR,hi,h3,k⟩:=h;obtain⟨e,rfl,ok⟩:=kI i hR hi;refine⟨_,(ae (ar (aY {(aj),cv bN ⋯ T.tQ k7 {au (pv 0) rfl}}))),?_⟩
  fin2
  erw[⟨_,rfl,a,p.c 2,dx,_,_,rfl,hi,b.cl,b.n5,LZ (.inr e),_,rfl,di ok.m0 ok.m1,l8 (show 2<=100 by decide),λq g=>k q _ (aq g) g ?_⟩];rw[af];unfold Ex;rw[e]
  rfl
def Rx{s:Sh}(h:s.kind<3):words s=[("leaf":Str),s.keep,dM s.bK,dM s.cC]++Ex s:=by
 unfold words Ex;have:s.kind=0\/s.kind=1\/s.kind=2:=by lia
 rcases this with z|z|z<;>rw[z]<;>rfl
def Yk(s:Sh):(Ex s).length<=2:=by
 unfold Ex
 split<;>simp
def DD{j:Nat}(F:aG K "words" "Leaf.words" u7 dV f fd)(T:Txt mg)(v:p.pr j)(l:j<3)(g:CF K (p.c j))(hs:aR P w K mg dX 1 "work_words" (AA p.rep) λC=>C=p.c j):
  zFn P w K mg dX 2 f fd Ph (Nb p.rep (p.c j)):=by
 erw[F.okN J6 (λvs H Q E h=>?_) (λz A eD s H vs Q E B h=>?_)]
 .obtain ⟨a,dx,fs,s,rfl,_⟩:=h
  rfl
 .obtain ⟨a,dx,fs,s,rfl,hR,hi,k⟩:=h;have b:=hs.d;obtain⟨e,rfl,ok⟩:=kI v hR hi;have l:s.kind<3:=by lia
  erw[⟨_,(ae (ar (aB GI (aY {(aj),au (pv 0) rfl,cv bN ⋯ T.tQ k7 {au (pv 0) rfl},cv bN ⋯ T.tQ k7 {au (pv 0) rfl}}) (jD (pv 0) b)))),?_⟩]
  fin2
  refine⟨_,rfl,a,p.c j,dx,_,_,rfl,hi,g.cl,g.n2,F0 _,_,rfl,a,p.c j,dx,_,_,rfl,hi,g.cl,g.n3,Py l,_,rfl,di ok.g0 ok.g1,_,rfl,a,p.c j,dx,_,_,rfl,hi,g.cl,g.n4,Ti l,_,rfl,di ok.s0 ok.s1,
   l8 (show 4<=100 by decide),λu x=>?_⟩
  have i:aL H (upd H u (.lst [V.str "leaf",.str s.keep,.str (dM s.bK),.str (dM s.cC)])):=aq x;erw[⟨_,rfl,a,p.c j,dx,_,_,_,rfl,i _ _ hi,⟨rfl,rfl,rfl⟩,(by unfold uB;split<;>rfl),a,dx,_,s,rfl,Pl.mono i hR,i _ _ hi,l,λq D n t m=>?_⟩]
  have o:=n _ _ (af (H:=H) (a:=u));erw[hh u q _ _ (ot rfl rfl o m ?_ (λy r=>?_))]
  .rw[fC];have:=Yk s;erw[l8 (by show 4+_<=100;lia)]
  .refine k y _ ((i.trans n).trans (aq r)) ((i.trans n).free r) ?_;rw[af,Rx l,js]
   rfl
def ZI(F:aG K "end_at" "Leaf.end_at" qK dV f fd)(b:p.pr 0):zFn P w K mg dX 1 f fd J8 (Lv p.rep (p.c 0)):=by
 erw[F.okN Gs (λvs H Q E h=>?_) (λg A eD s H vs Q E i h=>?_)]
 .obtain ⟨a,dx,fs,s,n,rfl,_⟩:=h
  rfl
 .obtain ⟨a,dx,fs,s,n,rfl,hR,hi,h3,h0,hm,k⟩:=h;obtain⟨e,rfl,ok⟩:=kI b hR hi;refine⟨_,(ae (ar aj)),?_⟩
  fin2
  have k:=k _ (aL.refl _);unfold endAt at k;rw[eJ (),eJ ()] at k;erw[k]
def OS(R:Rep)(C:eh):Sp:=λvs H Q _=>∃(a b:eh) (fs:List (Str×V)) (s:Sh) (n:Int),vs=[.ref a,.int n]/\R H a s/\H a=some (.ins C b fs)/\Q (.bl (decide (s.many<=n))) H
def Zj{j:Nat}(F:aG K "worked_out" "Worker.worked_out" iG dV f fd)(g:p.pr j)(m:j=1\/j=2)(b:CF K (p.c j)):zFn P w K mg dX 1 f fd J8 (OS p.rep (p.c j)):=by
 erw[F.okN xO (λvs H Q E h=>?_) (λi A eD s H vs Q E l h=>?_)]
 .obtain ⟨a,dx,fs,s,n,rfl,_⟩:=h
  rfl
 .obtain ⟨a,dx,fs,s,n,rfl,hR,hi,k⟩:=h;obtain⟨e,rfl,ok⟩:=kI g hR hi;refine⟨_,(ae (ar (vd ab2 (pv 1) (au (pv 0) rfl)))),?_⟩
  fin2
  erw[ix rfl (ix rfl (m8 a (p.c j) dx _ _ (ot rfl hi b.cl b.n5 (LZ ()) ?_)))];lk;erw[k]
def abv(F:aG K "end_at" "Steady.end_at" mm dV f fd)(i:p.pr 1)(hs:aR P w K mg dX 1 "worked_out" (OS p.rep) λC=>C=p.c 1):zFn P w K mg dX 2 f fd J8 (Lv p.rep (p.c 1)):=by
 erw[F.okN D9 (λvs H Q E h=>?_) (λj A eD s H vs Q E l h=>?_)]
 .obtain ⟨a,dx,fs,s,n,rfl,_⟩:=h
  rfl
 .obtain ⟨a,dx,fs,s,n,rfl,hR,hi,h3,h0,g,k⟩:=h;have b:=hs.d;obtain⟨e,rfl,ok⟩:=kI i hR hi;refine⟨_,(ae (ar (oS (ba (j0 (pv 0) b {pv 1})) aj aj))),?_⟩
  fin2
  erw[⟨_,rfl,a,p.c 1,dx,_,_,_,rfl,hi,⟨rfl,rfl,rfl⟩,(by unfold uB;split<;>rfl),_,rfl,a,dx,_,s,n,rfl,hR,hi,?_⟩]
  have k:=k _ (aL.refl _);have g:=g ();unfold endAt at k;lk;erw[bA (λe1=>?_) (λe1=>?_)]
  .have e1:s.many<=n:=gD e1;rw[eT ⟨e,()⟩] at k;erw[k]
  .have e1:¬s.many<=n:=λz=>e1 (fK z);rw[eJ (),eJ ()] at k;erw[k]
def aat(F:aG K "end_at" "Faller.end_at" mG dV f fd)(i:p.pr 2)(hs:aR P w K mg dX 1 "worked_out" (OS p.rep) λC=>C=p.c 2):zFn P w K mg dX 2 f fd J8 (Lv p.rep (p.c 2)):=by
 erw[F.okN CP (λvs H Q E h=>?_) (λj A eD s H vs Q E l h=>?_)]
 .obtain ⟨a,dx,fs,s,n,rfl,_⟩:=h
  rfl
 .obtain ⟨a,dx,fs,s,n,rfl,hR,hi,h3,h0,g,k⟩:=h;have b:=hs.d;obtain⟨e,rfl,ok⟩:=kI i hR hi;refine⟨_,(ae (ar (oS (ba (j0 (pv 0) b {pv 1})) aj aj))),?_⟩
  fin2
  erw[⟨_,rfl,a,p.c 2,dx,_,_,_,rfl,hi,⟨rfl,rfl,rfl⟩,(by unfold uB;split<;>rfl),_,rfl,a,dx,_,s,n,rfl,hR,hi,?_⟩]
  have k:=k _ (aL.refl _);have g:=g ();unfold endAt at k;lk;erw[bA (λe1=>?_) (λe1=>?_)]
  .have e1:s.many<=n:=gD e1;rw[eJ (),eT ⟨e,()⟩] at k;erw[k]
  .have e1:¬s.many<=n:=λz=>e1 (fK z);rw[eJ (),eJ ()] at k;erw[k]
def XU:Nat->Str
 |3=>"one"
 |4=>"all"
 |_=>"rest"
def HN(R:Rep)(C:eh):Sp:=λvs H Q _=>∃(a b:eh) (fs:List (Str×V)) (s:Sh),vs=[.ref a]/\R H a s/\H a=some (.ins C b fs)/\Q (.str (XU s.kind)) H
def aaG(F:aG K "way" "Minder.way" uQ dV f fd)(b:p.pr 3):zFn P w K mg dX 1 f fd Ph (HN p.rep (p.c 3)):=by
 erw[F.okN Ky (λvs H Q E h=>?_) (λg A eD s H vs Q E i h=>?_)]
 .obtain ⟨a,dx,fs,s,rfl,_⟩:=h
  rfl
 .obtain ⟨a,dx,fs,s,rfl,hR,hi,k⟩:=h;obtain⟨e,rfl,ok⟩:=kI b hR hi;refine⟨_,(ae (ar aj)),?_⟩
  fin2
  rw[e] at k;erw[k]
def abt(F:aG K "way" "AllMinder.way" lZ dV f fd)(b:p.pr 4):zFn P w K mg dX 1 f fd Ph (HN p.rep (p.c 4)):=by
 erw[F.okN DQ (λvs H Q E h=>?_) (λg A eD s H vs Q E i h=>?_)]
 .obtain ⟨a,dx,fs,s,rfl,_⟩:=h
  rfl
 .obtain ⟨a,dx,fs,s,rfl,hR,hi,k⟩:=h;obtain⟨e,rfl,ok⟩:=kI b hR hi;refine⟨_,(ae (ar aj)),?_⟩
  fin2
  rw[e] at k;erw[k]
def aau(F:aG K "way" "RestMinder.way" kZ dV f fd)(b:p.pr 5):zFn P w K mg dX 1 f fd Ph (HN p.rep (p.c 5)):=by
 erw[F.okN CL (λvs H Q E h=>?_) (λg A eD s H vs Q E i h=>?_)]
 .obtain ⟨a,dx,fs,s,rfl,_⟩:=h
  rfl
 .obtain ⟨a,dx,fs,s,rfl,hR,hi,k⟩:=h;obtain⟨e,rfl,ok⟩:=kI b hR hi;refine⟨_,(ae (ar aj)),?_⟩
  fin2
  rw[e] at k;erw[k]
def L5{s:Sh}(h:3<=s.kind)(ok:C4 s):words s=[("minder":Str),s.keep,XU s.kind,dM s.bK,dM s.cC]:=by
 unfold words XU;have:s.kind=3\/s.kind=4\/s.kind=5:=by have:=ok.kd;lia
 rcases this with z|z|z<;>rw[z]<;>rfl
def DI{j:Nat}(F:aG K "words" "Minder.words" oJ dV f fd)(T:Txt mg)(n:p.pr j)(i:3<=j)(g:CF K (p.c j))(hs:aR P w K mg dX 1 "way" (HN p.rep) λC=>C=p.c j):
  zFn P w K mg dX 2 f fd Ph (Nb p.rep (p.c j)):=by
 erw[F.okN FE (λvs H Q E h=>?_) (λo A eD s H vs Q E r h=>?_)]
 .obtain ⟨a,dx,fs,s,rfl,_⟩:=h
  rfl
 .obtain ⟨a,dx,fs,s,rfl,hR,hi,k⟩:=h;have b:=hs.d;obtain⟨e,rfl,ok⟩:=kI n hR hi;have i:3<=s.kind:=by lia
  have l:=LI i ok;erw[⟨_,(ae (ar (aY {(aj),au (pv 0) rfl,jD (pv 0) b,cv bN ⋯ T.tQ k7 {au (pv 0) rfl},cv bN ⋯ T.tQ k7 {au (pv 0) rfl}}))),?_⟩]
  fin2
  refine⟨_,rfl,a,p.c j,dx,_,_,rfl,hi,g.cl,g.n2,F0 _,_,rfl,a,p.c j,dx,_,_,_,rfl,hi,⟨rfl,rfl,rfl⟩,(by rw[l];rfl),a,dx,_,s,rfl,hR,hi,_,rfl,a,p.c j,dx,_,.int s.bK,rfl,hi,g.cl,g.n6,(by rw[l];rfl),_,rfl,di ok.g0 ok.g1,
   _,rfl,a,p.c j,dx,_,.int s.cC,rfl,hi,g.cl,g.n7,(by rw[l];rfl),_,rfl,di ok.s0 ok.s1,l8 (show 5<=100 by decide),λq m=>k q _ (aq m) m ?_⟩
  rw[af,L5 i ok]
  rfl
def Lg:Sp:=λvs H Q _=>∃n:Nat,vs=[.int n]/\n<=1000000/\Q (.int ((2^n:Nat):Int)) H
def acS(F:aG K "bit" "bit" Xn dV f fd):zFn P w K mg dX 1 f fd ae4 Lg:=by
 erw[F.Cv adb λvs H Q E h=>?_];obtain⟨n,rfl,c,k⟩:=h;erw[⟨rfl,λa A eD s b=>⟨_,(ae (ar (aB Wj ag (pv 0)))),?_⟩⟩]
 fin2
 lk;erw[⟨⟨(),(),∅⟩,?_⟩];rw[<- Si] at k;erw[k]
def FY:Sp:=λvs H Q _=>∃n:Nat,vs=[.int n]/\n<=1000000/\Q (.int ((2^n-1:Nat):Int)) H
def YT(F:aG K "below" "below" Mw dV f fd):zFn P w K mg dX 1 f fd ae4 FY:=by
 erw[F.Cv Ya λvs H Q E h=>?_];obtain⟨n,rfl,c,k⟩:=h;erw[⟨rfl,λa A eD s b=>⟨_,(ae (ar (aB A7 (aB Wj ag (pv 0)) ag))),?_⟩⟩]
 fin2
 lk;erw[⟨⟨(),(),∅⟩,?_⟩];lk;rw[<- U9] at k;erw[k]
def yE:Sp:=λvs H Q _=>∃a b:Nat,vs=[.int a,.int b]/\Q (.int ((a &&& (a ^^^ b):Nat):Int)) H
def RP(F:aG K "without" "without" DB dV f fd):zFn P w K mg dX 1 f fd Vz yE:=by
 rcases Qw,(ae (ar (aB Gj (pv 0) (CI adL (pv 1))))) with⟨a,b,rfl,k⟩;lk;rw[<- Ks] at k;erw[k]
def uM(n m:Nat)(h:n<=m):2^n-1=cJ (λk=>decide (k<n)) m:=by
 erw[Bd λk=>?_];rw[aj9,qj];simp only[kE,kP]
 lia
def nP(f g:Nat->Bool)(n:Nat):cJ f n &&& (cJ f n ^^^ cJ g n)=cJ (λk=>f k&& !g k) n:=by
 erw[Bd λk=>?_];rw[yp,RN,aU,aU];cases decide (k<n)<;>cases f k<;>cases g k<;>rfl
def X0{k n:Nat}(h:k<n):2^k=cJ (λj=>decide (j=k)) n:=by
 erw[Bd λj=>?_];rw[ajZ,qj];simp only[kE,kP]
 lia
def Ak{f g:Nat->Bool}{n:Nat}(h:∀k,k<n->f k=g k):cJ f n=cJ g n:=by
 erw[Bd λk=>?_];rw[aU];by_cases z:k<n
 .rw[h k z]
 .rw[ik z,ED,ED]
def R0(F:aG K "chosen" "Minder.chosen" mw dV f fd)(i:p.pr 3)(j:iu P w K mg dX true 1 "bit" Lg []):zFn P w K mg dX 2 f fd FN (yk p.rep (p.c 3)):=by
 erw[F.okN Dd (λvs H Q E h=>?_) (λl A eD s H vs Q E m h=>?_)]
 .obtain ⟨a,dx,fs,s,pl,ct,f,g,rfl,_⟩:=h
  rfl
 .obtain ⟨a,dx,fs,s,pl,ct,f,g,rfl,hR,hi,h3,hp,hc,hf,hg,k⟩:=h;obtain⟨e,rfl,ok⟩:=kI i hR hi;refine⟨_,(ae (ar (qR {(ag),cz j {pv 1}}))),?_⟩
  fin2
  lk;erw[⟨(),?_⟩];lk;erw[⟨l8 (show 2<=100 by decide),λq b=>k q _ (aq b) b ?_⟩];rw[af,e,X0 hp]
  rfl
def Qz(F:aG K "chosen" "AllMinder.chosen" jc dV f fd)(j:p.pr 4)(i:iu P w K mg dX true 1 "below" FY [])(l:iu P w K mg dX true 1 "without" yE []):
  zFn P w K mg dX 2 f fd FN (yk p.rep (p.c 4)):=by
 erw[F.okN zc (λvs H Q E h=>?_) (λm A eD s H vs Q E r h=>?_)]
 .obtain ⟨a,dx,fs,s,pl,ct,f,g,rfl,_⟩:=h
  rfl
 .obtain ⟨a,dx,fs,s,pl,ct,f,g,rfl,hR,hi,h3,hp,hc,hf,hg,k⟩:=h;obtain⟨e,rfl,ok⟩:=kI j hR hi;refine⟨_,(ae (ar (qR {pv 3,cz l {cz i {pv 2},pv 4}}))),?_⟩
  fin2
  lk;erw[⟨(),?_⟩];lk;erw[⟨l8 (show 2<=100 by decide),λq b=>k q _ (aq b) b ?_⟩];rw[af,e,uM ct ct (fx _),nP];have n:cJ (λk=>decide (k<ct)&& !g k) ct=cJ (λk=> !g k) ct:=Ak λk o=>by rw[fK o,za]
  rw[n]
  rfl
def Q8(F:aG K "chosen" "RestMinder.chosen" iy dV f fd)(n:p.pr 5)(b:iu P w K mg dX true 1 "below" FY [])(j:iu P w K mg dX true 1 "without" yE []):
  zFn P w K mg dX 2 f fd FN (yk p.rep (p.c 5)):=by
 erw[F.okN gF (λvs H Q E h=>?_) (λo A eD s H vs Q E r h=>?_)]
 .obtain ⟨a,dx,fs,s,pl,ct,f,g,rfl,_⟩:=h
  rfl
 .obtain ⟨a,dx,fs,s,pl,ct,f,g,rfl,hR,hi,h3,hp,hc,hf,hg,k⟩:=h;obtain⟨e,rfl,ok⟩:=kI n hR hi
  refine⟨_,(aa (bB (i:=5) gF.nd (cz j {pv 3,cz b {aB fR (pv 1) ag}}))
   (aa (bB (i:=6) gF.nd (cz j {cz b {pv 2},cz b {pv 1}}))
   (ae (ar (qR {pv 5,cz j {pv 6,pv 4}}))))),?_⟩
  fin2
  lk;erw[⟨(by show pl+1<=1000000;lia),?_⟩];lk;erw[⟨(),?_⟩];lk;erw[⟨(),?_⟩];lk;erw[⟨l8 (show 2<=100 by decide),λq l=>k q _ (aq l) l ?_⟩];rw[af,e,uM (pl+1) ct (),uM ct ct (fx _),uM pl ct (),nP,nP,nP]
  have e1:cJ (λk=>f k&& !decide (k<pl+1)) ct=cJ (λk=>f k&&decide (pl<k)) ct:=Ak λk m=>by
   have:(!decide (k<pl+1))=decide (pl<k):=by
    by_cases z:pl<k
    .rw[fK z,ik ()];rfl
    .rw[ik z,fK ()];rfl
   rw[this]
  have e2:cJ (λk=>(decide (k<ct)&& !decide (k<pl))&& !g k) ct=cJ (λk=>decide (pl<=k)&& !g k) ct:=Ak λk m=>by
   have:(!decide (k<pl))=decide (pl<=k):=by
    by_cases z:pl<=k
    .rw[fK z,ik ()];rfl
    .rw[ik z,fK ()];rfl
   rw[this,fK m,za]
  rw[e1,e2]
  rfl
open PySem L2 Shp Nm Tr Hs PySem.NumText
abbrev UL:List Str:=["text","signs"]
def Qu:ak UL UL (ah DV):=by kt_ors
abbrev HW:List Str:=["text"]
def Ff:ak HW HW (ah oz):=by kt_ors
abbrev OF:List Str:=["text","most","bound"]
abbrev ye:List Str:=["text","most"]
def CA:ak OF ye (ah wX):=by kt_ors
def QD:ak HW HW (ah Dw):=by kt_ors
abbrev VZ:List Str:=["words","name","keep","grace","slow","work","many"]
abbrev Lx:List Str:=["words"]
def jd:ak VZ Lx (ah Dv):=by kt_ors
abbrev Pg:List Str:=["words","name","keep","way","most","span"]
def gJ:ak Pg Lx (ah wQ):=by kt_ors
def DW:ak Lx Lx (ah mj):=by kt_ors
def Qj:ak Lx Lx (ah Ax):=by kt_ors
def Ee:ak Ph Ph (ah lV):=by kt_ors
def Kr:ak Ph Ph (ah ud):=by kt_ors
abbrev P4:List Str:=["self","name"]
def Mc:ak P4 P4 (ah wU):=by kt_ors
abbrev Oo:List Str:=["self","child","blanks","above"]
def Md:ak Oo Oo (ah xV):=by kt_ors
abbrev yQ:List Str:=["self","blanks","place","fits"]
abbrev mX:List Str:=["self","blanks"]
def gv:ak yQ mX (ah iI):=by kt_ors
abbrev KH:List Str:=["row","rest"]
abbrev zO:List Str:=["row"]
def xj:ak KH zO (ah rq):=by kt_ors
def Qs:ak zO zO (ah AB):=by kt_ors
def Ft:ak zO zO (ah oj):=by kt_ors
abbrev Kg:List Str:=["tree","child","blanks","above"]
def HM:ak Kg Kg (ah qI):=by kt_ors
abbrev GV:List Str:=["tree","row","number","child","blanks","above"]
abbrev Ij:List Str:=["tree","row","number"]
def qE:ak GV Ij (ah pC):=by kt_ors
abbrev adT:List Str:=["text","tree","number","row"]
def Gb:ak adT HW (ah QS):=by kt_ors
def qi{n:Nat}(h:n<=100010):n<=sizeLine:=by rw[GX];lia
def Jt:Sp:=λvs H Q _=>∃x y:Str,vs=[.str x,.str y]/\x.length<=100000/\∀H',aL H H'->Q (.bl ((fw x).all λc=>(fw y).contains c)) H'
def Uw(F:aG K "made_of" "made_of" DV dV f fd)(T:Txt mg):zFn P w K mg dX 1 f fd UL Jt:=by
 rcases Qu,(ae (ar (aO (Zf rfl) ⋯ T.aex acz {nM (x:="sign") (fr:=[("signs",1)]) (by kd_p) rfl (acr (pv 0)) (λ_ _ _ _=>Di) (λ_ _ _ _=>(Tf Vp (pv 0) (pv 1) (by with_unfolding_all rfl)))}))) with⟨x,y,rfl,h,k⟩;have e:=bJ x;lk;erw[dq (J:=Its x) (n:=x.length) (λi ys H'=>H'=H/\ys=((fw x).take i).map λc=>V.bl ((fw y).contains c)) ⟨rfl,rfl⟩ (λi ys H' b _=>b) (λys H' _=>rfl) ?_ ?_]
 .rintro i ys H' v H2 b ⟨rfl,rfl⟩ ⟨rfl,c,a,rfl⟩;have a:(fw x)[i]? =some c:=by rw[<- a];exact ajB
  lk;rw[adR];erw[⟨?_,rfl,?_⟩]
  .rw[fC,uU,GX]
   lia
  .rw[Cb,a,js]
   rfl
 .rintro ys H' ⟨rfl,rfl⟩;rw[show x.length=(fw x).length from e.symm,Bn];erw[⟨qi (by rw[fC];lia),λq g=>?_⟩];refine⟨q,(fw x).map λc=>(fw y).contains c,rfl,?_,?_⟩
  .rw[aiw];erw[eZ.of af]
  .rw[ajL];erw[k _ (aq g)]
def H9(x:Str):Bool:=decide (1<=x.length)&&decide (x.length<=12)&&(fw x).all L9
def OE:Sp:=λvs H Q _=>∃x:Str,vs=[.str x]/\x.length<=100000/\∀H',aL H H'->Q (.bl (H9 x)) H'
def ad3:("abcdefghijklmnopqrstuvwxyz":Str)++("0123456789":Str)="abcdefghijklmnopqrstuvwxyz0123456789":=by decide +kernel
def Vs{b j o:Tok}(F:aG K "is_name" "is_name" Dw dV f fd)(T:Txt mg)(e:mg "LETTERS"=some (.str "abcdefghijklmnopqrstuvwxyz" b))(i:mg "LONGEST"=some (.int 12 j))(l:mg "FIGURES"=some (.str "0123456789" o))
  (n:iu P w K mg dX true 1 "made_of" Jt []):zFn P w K mg dX 2 f fd HW OE:=by
 erw[F.Cv QD λvs H Q E h=>?_];obtain⟨x,rfl,m,k⟩:=h;erw[⟨rfl,λg A eD s t=>⟨_,(ae (ar (uK (Yd oI ach ag (aO nK ⋯ T.dH cg {pv 0}) (uj ⋯ i)) (rm (cz n {pv 0,aB oM (MJ ⋯ e) (MJ ⋯ l)}))))),?_⟩⟩]
 fin2
 have a:Q (.bl (H9 x)) H:=k _ (aL.refl _);lk;erw[⟨qi (),?_⟩];lk;erw[bA (λe1=>?_) (λe1=>?_)]
 .have e1:(0:Int)<(x.length:Int):=gD e1;lk;refine bA (λe2=>?_) (λe2=>?_)
  .have e2:(x.length:Int)<=12:=gD e2;lk;erw[⟨by decide +kernel,?_⟩];lk;erw[⟨m,λr q=>?_⟩];rw[ad3]
   have:H9 x=(fw x).all λc=>(fw "abcdefghijklmnopqrstuvwxyz0123456789").contains c:=by
    unfold H9;rw[fK (show 1<=x.length by lia),fK (show x.length<=12 by lia),za,za]
    congr 1
    funext c
    exact(acx c).symm
   rw[<- this];erw[k _ q]
  .have e2:¬(x.length:Int)<=12:=λz=>e2 (fK z)
   have:H9 x=false:=by
    unfold H9;rw[ik (show ¬x.length<=12 by lia),aiU,ED]
   rw[this] at a;lk;erw[a]
 .have e1:¬(0:Int)<(x.length:Int):=λz=>e1 (fK z)
  have:H9 x=false:=by
   unfold H9;rw[ik (show ¬1<=x.length by lia),ED,ED]
  rw[this] at a;lk;erw[a]
def W9:Sp:=λvs H Q _=>∃x:Str,vs=[.str x]/\x.length<=100000/\∀H',aL H H'->Q (.bl (AD x)) H'
def Z8{u B:Tok}(F:aG K "told_plainly" "told_plainly" oz dV f fd)(T:Txt mg)(q:mg "MOST_FIGURES"=some (.int 7 u))(v:mg "FIGURES"=some (.str "0123456789" B))
  (y:iu P w K mg dX true 1 "made_of" Jt []):zFn P w K mg dX 2 f fd HW W9:=by
 erw[F.Cv Ff λvs H Q E h=>?_];obtain⟨x,rfl,m,k⟩:=h
 refine⟨rfl,λt A eD s D=>⟨_,(aa (aH (PW.pt (kB (gy bM (pv 0) aj) (kU (gy Cp (aO nK ⋯ T.dH cg {pv 0}) (uj ⋯ q))))) (ae (ar cc)) aw)
   (aa (aH (PW.pt (dA (gy bM (qt (pv 0) ag (λ_ _=>rfl)) aj) (cQ (gy qp (pv 0) aj)))) (ae (ar cc)) aw)
   (ae (ar (cz y {pv 0,MJ ⋯ v}))))),?_⟩⟩
 fin2
 have i:AD x=false->Q (.bl false) H:=λz=>by
  have:=k H (aL.refl _);rw[z] at this;erw[this]
 lk;erw[bA (λe=>?_) (λe=>?_)]
 .have e:x="":=V.str.inj (gD e);erw[i ?_];subst e
  rfl
 have e:x≠"":=λz=>e (fK (hI V.str z));have ne:fw x≠[]:=λz=>e (uq z);lk;erw[⟨qi (),?_⟩];lk;erw[bA (λe2=>?_) (λe2=>?_)]
 .have e2:(7:Int)<(x.length:Int):=gD e2;erw[i ?_];unfold AD;rw[ik (show ¬x.length<=7 by lia),aiU,ED,ED]
 have e2:¬(7:Int)<(x.length:Int):=λz=>e2 (fK z)
 obtain⟨c,r,b⟩:∃c r,fw x=c::r:=by
  cases z:fw x with
  |nil=>erw[absurd z ne]
  |cons c r=>exact⟨c,r,rfl⟩
 have o:x.cps[0]? =some c:=by rw[<- ajB];show(fw x)[0]? =_;rw[b];rfl
 have C:0<x.length:=by rw[<- bJ,b];erw[ajR _]
 lk;erw[ml _ _ c (jm rfl rfl () () (by show(0:Int)<(x.length:Int);lia) o ?_)]
 have a:((fw x).head? =some 48->fw x=[48])->∀H',aL H H'->Q (.bl ((fw x).all λc=>(fw "0123456789").contains c)) H':=λz H' n=>by
  have:=k H' n;unfold AD at this;rw[fK ne,fK (show x.length<=7 by lia),fK z,za,za,za] at this;have e:(λc=>(fw "0123456789").contains c)=wO:=funext aaH;rwa[e]
 lk;erw[bA (λe3=>?_) (λe3=>?_)]
 .have e3:c=48:=by
   have z:=V.str.inj (gD e3);have z:=hI fw z;erw[List.head_eq_of_cons_eq z]
  subst e3;lk;erw[bA (λe4=>?_) (λe4=>?_)]
  .refine i ?_
   have e4:x≠"0":=λz=>by
    rw[z] at e4;erw[absurd e4 ∅]
   have g:¬((fw x).head? =some 48->fw x=[48]):=λz=>e4 (uq (z (by rw[b];rfl)));unfold AD;rw[ik g,aiU,ED]
  .have e4:x="0":=by
    by_cases z:x="0"
    .exact z
    .exact absurd (by simpa using z) e4
   lk;exact⟨m,λj l=>a (λ_=>by rw[e4];rfl) j l⟩
 .have e3:c≠48:=λz=>e3 (by subst z;erw[fK rfl]);lk;exact⟨m,λj l=>a (λz=>by rw[b] at z;erw[absurd (hH z) e3]) j l⟩
def T9:Sp:=λvs H Q _=>∃(x:Str) (v:Int),vs=[.str x,.int 1000000]/\numOf x=some v/\∀H',aL H H'->Q (.int v) H'
def ad8{j:Tok}(F:aG K "number_in" "number_in" wX dV f fd)(T:Txt mg)(g:mg "GREATEST"=some (.int 1000000 j))
  (b:iu P w K mg dX true 2 "told_plainly" W9 []):zFn P w K mg dX 3 f fd ye T9:=by
 rcases CA,(aa (bB (i:=2) CA.nd (aO (Ue rfl) ⋯ T.aeg adf {pv 1,uj ⋯ g}))
   (aa (aH (PW.pt (kB (cU (ba (cz b {pv 0}))) (kU (gy Cp (cv zF ⋯ T.ack Y0 {pv 0}) (pv 2))))) (ae xw) aw)
   (ae (ar (cv zF ⋯ T.ack Y0 {pv 0}))))) with⟨x,v,rfl,hn,k⟩
 obtain⟨c,a,m,n,o⟩:=jg hn;lk;erw[⟨(),λl h=>?_⟩];rw[c];lk;erw[hY x v (kb rfl a () ?_)];lk;erw[bA (λe=>?_) (λe=>?_)]
 .exact absurd (gD e) ()
 .lk;exact⟨x,v,rfl,a,(),k _ h⟩
structure MkT(P:hD)(w:gT)(K:fD)(mg:Str->Option ez)(dX:gm)(p:Pl)(k:Nat):Prop where
 leaf:zk P w K mg dX true k "Leaf" (p.c 0) (JW p.rep (p.c 0) WO) []
 aea:zk P w K mg dX true k "Steady" (p.c 1) (JW p.rep (p.c 1) Px) []
 ado:zk P w K mg dX true k "Faller" (p.c 2) (JW p.rep (p.c 2) OJ) []
 one:zk P w K mg dX true k "Minder" (p.c 3) (JW p.rep (p.c 3) (BZ 3)) []
 all:zk P w K mg dX true k "AllMinder" (p.c 4) (JW p.rep (p.c 4) (BZ 4)) []
 rest:zk P w K mg dX true k "RestMinder" (p.c 5) (JW p.rep (p.c 5) (BZ 5)) []
def EF(K:fD)(p:Pl)(b:Option Bool):Sp:=λvs H Q _=>∃(q:eh) (c:List Str) (s:Sh),vs=[.ref q]/\eZ K H q (c.map V.str)/\rowOf c=some s/\(b=some true->c.head? =some ("leaf":Str))/\(b=some false->c.head? ≠some ("leaf":Str))/\(∀x∈c,x.length<=100000)/\∀a H',aL H H'->H a=none->p.rep H' a s->Q (.ref a) H'
def jX{H H':Hp}{a:eh}(e:aL H H')(h:H' a=none):H a=none:=by
 cases z:H a with
 |none=>rfl
 |some o=>rw[e _ _ z] at h;cases h
theorem KJ(b:List Str):(b.map V.str).all fX=true:=vc.mpr λx a=>by
 obtain⟨y,_,rfl⟩:=ri.mp a
 rfl
def VW(F:aG K "leaf_in" "leaf_in" Dv dV f fd)(T:Txt mg)(M:MkT P w K mg dX p 3)(Z:iu P w K mg dX true 3 "number_in" T9 [.int 1000000]):zFn P w K mg dX 5 f fd Lx (EF K p (some true)):=by
 erw[F.okN jd (λvs H Q E h=>?_) (λab A eD s0 H vs Q E X h=>?_)]
 .obtain ⟨q,ws,s,rfl,_⟩:=h
  rfl
 .obtain ⟨q,ws,s,rfl,hS,hw,hd,_,hz,k⟩:=h;have n:=M.leaf;have j:=M.aea;have a:=M.ado;have ok:=(X1 hw).okS
  refine⟨_,(aa (bB (i:=1) jd.nd (gj aA (pv 0) (CI wC ag)))
   (aa (bB (i:=2) jd.nd (gj aA (pv 0) ag))
   (aa (bB (i:=3) jd.nd (cz Z {gj aA (pv 0) ag}))
   (aa (bB (i:=4) jd.nd (cz Z {gj aA (pv 0) ag}))
   (aa (bB (i:=5) jd.nd (wo BJ (pv 0) (uJ ag) (uJ (CI wC ag))))
   (aa (aH (gy (GS (oh X)) (pv 5) (aY {(aj)})) (ae (ar (uz n (X.mono (by omega)) ⋯ cy {pv 1,pv 2,pv 3,pv 4}))) aw)
   (aa (aH (gy qp (aO aE ⋯ T.dH cg {pv 5}) ag) (ae (ar fG)) aw)
   (aa (bB (i:=6) jd.nd (cz Z {gj aA (pv 5) ag}))
   (aa (aH (gy bM (gj aA (pv 5) ag) aj) (ae (ar (uz j (X.mono (by omega)) ⋯ cy {pv 1,pv 2,pv 6,pv 3,pv 4}))) aw)
   (aa (aH (gy bM (gj aA (pv 5) ag) aj) (ae (ar (uz a (X.mono (by omega)) ⋯ cy {pv 1,pv 2,pv 6,pv 3,pv 4}))) aw)
   (ae (ar fG)))))))))))),?_⟩
  fin2
  rcases HD hw (hd rfl) with⟨G,g,l,nm,D,I,rfl,c1,c2,Y,el,rfl⟩|⟨G,g,l,y,m,nm,D,I,mi,kd,rfl,c1,c2,ck,Y,el,em,rfl⟩
  .lk;erw[hh q _ _ (V.str nm) (fT rfl rfl hS rfl ?_)];lk;erw[hh q _ _ (V.str G) (fT rfl rfl hS rfl ?_)];lk;erw[hh q _ _ (V.str g) (fT rfl rfl hS rfl ?_)];erw[hY g D (jl rfl Y (λH1 C=>?_))];lk;erw[hh q _ _ (V.str l) (fT rfl rfl (hS.same C) rfl ?_)];erw[hY l I (jl rfl el (λW J=>?_))];lk;erw[hY q _ (jl rfl ((hS.same C).same J) (λt v=>?_))];lk;erw[⟨l8 ∅,λR c=>?_⟩];lk;erw[hh t R ([V.str "idle"]) ([V.str "idle"]) (jm rfl rfl (eZ.of (aq c _ _ af)) (eZ.of af) rfl rfl ?_)];lk;intro x O u U L;have B:aL H (upd (upd W t (.lst [V.str "idle"])) R (.lst [V.str "idle"])):=λb o e=>aq c _ _ (aq v _ _ (J _ _ (C _ _ e)));exact⟨x,O,_,_,_,rfl,⟨nm,G,D,I,rfl,rfl,ok⟩,u,U,L,rfl,λH' N r=>⟨rfl,k x H' (λb o e=>N _ _ (B _ _ e)) (jX B u) r⟩⟩
  .lk;erw[hh q _ _ (V.str nm) (fT rfl rfl hS rfl ?_)];lk;erw[hh q _ _ (V.str G) (fT rfl rfl hS rfl ?_)];lk;erw[hh q _ _ (V.str g) (fT rfl rfl hS rfl ?_)];erw[hY g D (jl rfl Y (λH1 C=>?_))];lk;erw[hh q _ _ (V.str l) (fT rfl rfl (hS.same C) rfl ?_)];erw[hY l I (jl rfl el (λW J=>?_))];lk;erw[hY q _ (jl rfl ((hS.same C).same J) (λt v=>?_))];have w1:∀{Hx:Hp},aL (upd W t (.lst [V.str y,V.str m])) Hx->Hx t=some (.lst [V.str y,V.str m]):=λz=>z _ _ af;lk;erw[⟨l8 ∅,λR c=>?_⟩];lk;refine hh t R ([V.str y,V.str m]) ([V.str "idle"]) (jm rfl rfl (eZ.of (aq c _ _ af)) (eZ.of af) rfl rfl ?_)
   have ef:yS [V.str y,V.str m] [V.str "idle"]=false:=by
    show(_&&false)=false;erw[aiU _]
   erw[⟨_,rfl,?_⟩];erw[bA (λe=>?_) (λe=>?_)]
   .have e:yS [V.str y,V.str m] [V.str "idle"]=true:=e;rw[ef] at e;cases e
   lk;have B:aL H (upd (upd W t (.lst [V.str y,V.str m])) R (.lst [V.str "idle"])):=λb o e=>aq c _ _ (aq v _ _ (J _ _ (C _ _ e)));erw[hY t _ (jl rfl (.inl (eZ.of (w1 (aq c)))) ?_)];lk;erw[hh t _ _ (V.str m) (fT rfl rfl (eZ.of (w1 (aq c))) rfl ?_)];erw[hY m mi (jl rfl em (λH3 S=>?_))];have w3:=w1 (λb o e=>S _ _ (aq c _ _ e));lk;erw[hh t _ _ (V.str y) (fT rfl rfl (eZ.of w3) rfl ?_)];rcases ck with⟨rfl,rfl⟩|⟨rfl,rfl⟩
   .lk;intro x O u U L;exact⟨x,O,_,_,_,rfl,⟨nm,G,mi,D,I,rfl,rfl,ok⟩,u,U,L,rfl,λH' N r=>⟨rfl,k x H' (λb o e=>N _ _ (S _ _ (B _ _ e))) (jX (λb o e=>S _ _ (B _ _ e)) u) r⟩⟩
   .lk;erw[hh t _ _ (V.str "falls") (fT rfl rfl (eZ.of w3) rfl ?_)];lk;intro x O u U L;exact⟨x,O,_,_,_,rfl,⟨nm,G,mi,D,I,rfl,rfl,ok⟩,u,U,L,rfl,λH' N r=>⟨rfl,k x H' (λb o e=>N _ _ (S _ _ (B _ _ e))) (jX (λb o e=>S _ _ (B _ _ e)) u) r⟩⟩
def VG{U:Tok}(F:aG K "minder_in" "minder_in" wQ dV f fd)(T:Txt mg)(O:mg "FEWEST_WORDS"=some (.int 6 U))(M:MkT P w K mg dX p 3)(G:iu P w K mg dX true 3 "number_in" T9 [.int 1000000]):zFn P w K mg dX 5 f fd Lx (EF K p (some false)):=by
 erw[F.okN gJ (λvs H Q E h=>?_) (λN A eD W H vs Q E C h=>?_)]
 .obtain ⟨q,ws,s,rfl,_⟩:=h
  rfl
 .obtain ⟨q,ws,s,rfl,hS,hw,_,hd,hz,k⟩:=h;have g:=M.one;have c:=M.all;have a:=M.rest;have ok:=(X1 hw).okS
  refine⟨_,(aa (bB (i:=1) gJ.nd (gj aA (pv 0) (CI wC ag)))
   (aa (bB (i:=2) gJ.nd (gj aA (pv 0) ag))
   (aa (bB (i:=3) gJ.nd (gj aA (pv 0) ag))
   (aa (bB (i:=4) gJ.nd (cz G {gj aA (pv 0) ag}))
   (aa (bB (i:=5) gJ.nd (cz G {gj aA (pv 0) ag}))
   (aa (aH (PW.pt (kB (gy qp (aO aE ⋯ T.dH cg {pv 0}) (uj ⋯ O)) (kU (gy bM (pv 5) ag)))) (ae (ar fG)) aw)
   (aa (aH (gy bM (pv 3) aj) (ae (ar (uz g (C.mono (by omega)) ⋯ cy {pv 1,pv 2,pv 4,pv 5}))) aw)
   (aa (aH (gy bM (pv 3) aj) (ae (ar (uz c (C.mono (by omega)) ⋯ cy {pv 1,pv 2,pv 4,pv 5}))) aw)
   (aa (aH (gy bM (pv 3) aj) (ae (ar (uz a (C.mono (by omega)) ⋯ cy {pv 1,pv 2,pv 4,pv 5}))) aw)
   (ae (ar fG))))))))))),?_⟩
  fin2
  obtain⟨y,I,m,sp,nm,mi,z,Z,rfl,c1,Y,L,J,es,S,rfl⟩:=BW hw (hd rfl);lk;erw[hh q _ _ (V.str nm) (fT rfl rfl hS rfl ?_)];lk;erw[hh q _ _ (V.str y) (fT rfl rfl hS rfl ?_)];lk;erw[hh q _ _ (V.str I) (fT rfl rfl hS rfl ?_)];lk;erw[hh q _ _ (V.str m) (fT rfl rfl hS rfl ?_)];erw[hY m mi (jl rfl J (λX B=>?_))];lk;erw[hh q _ _ (V.str sp) (fT rfl rfl (hS.same B) rfl ?_)];erw[hY sp z (jl rfl es (λR D=>?_))];lk;erw[hY q _ (jl rfl (.inl ((hS.same B).same D)) ?_)];lk;erw[bA (λe=>?_) (λe=>?_)]
  .exact absurd (V.int.inj (gD e)) S
  have l:aL H R:=λb o e=>D _ _ (B _ _ e);rcases L with⟨rfl,rfl⟩|⟨rfl,rfl⟩|⟨rfl,rfl⟩
  .lk;intro x t j u v;exact⟨x,t,_,_,_,rfl,⟨nm,y,mi,z,rfl,rfl,ok⟩,j,u,v,rfl,λH' n r=>⟨rfl,k x H' (λb o e=>n _ _ (l _ _ e)) (jX l j) r⟩⟩
  .lk;intro x t j u v;exact⟨x,t,_,_,_,rfl,⟨nm,y,mi,z,rfl,rfl,ok⟩,j,u,v,rfl,λH' n r=>⟨rfl,k x H' (λb o e=>n _ _ (l _ _ e)) (jX l j) r⟩⟩
  .lk;intro x t j u v;exact⟨x,t,_,_,_,rfl,⟨nm,y,mi,z,rfl,rfl,ok⟩,j,u,v,rfl,λH' n r=>⟨rfl,k x H' (λb o e=>n _ _ (l _ _ e)) (jX l j) r⟩⟩
def QZ(F:aG K "by_first_word" "by_first_word" mj dV f fd)(T:Txt mg)(i:iu P w K mg dX true 5 "leaf_in" (EF K p (some true)) [])(c:iu P w K mg dX true 5 "minder_in" (EF K p (some false)) []):zFn P w K mg dX 6 f fd Lx (EF K p none):=by
 erw[F.okN DW (λvs H Q E h=>?_) (λb A eD l H vs Q E m h=>?_)]
 .obtain ⟨q,ws,s,rfl,_⟩:=h
  rfl
 .obtain ⟨q,ws,s,rfl,hS,hw,_,_,hz,k⟩:=h
  refine⟨_,(aa (aH (gy bM (gj aA (pv 0) ag) aj) (ae (ar (cz i {pv 0}))) aw)
   (aa (aH (gy bM (gj aA (pv 0) ag) aj) (ae (ar (cz c {pv 0}))) aw)
   (ae (ar fG)))),?_⟩
  fin2
  obtain⟨a,r,rfl⟩:∃a r,ws=a::r:=by
   cases ws with
   |nil=>cases hw
   |cons a r=>exact⟨a,r,rfl⟩
  lk;erw[hh q _ _ (V.str a) (fT rfl rfl hS (bY (j:=0) rfl) ?_)];lk;erw[bA (λe=>?_) (λe=>?_)]
  .have e:a="leaf":=V.str.inj (gD e);lk;exact⟨q,_,s,rfl,hS,hw,λ_=>hI some e,λz=>(by cases z),hz,k⟩
  .have e:a≠"leaf":=λz=>e (fK (hI V.str z))
   have g:a="minder":=by
    obtain⟨_,_,_,_,_,_,_,_,e1,_⟩:=BW hw (λz=>e (hH z));exact(ajw e1).1
   lk;erw[hh q _ _ (V.str a) (fT rfl rfl hS (bY (j:=0) rfl) ?_)];subst g;lk;exact⟨q,_,s,rfl,hS,hw,λz=>(by cases z),λ_ z=>e (hH z),hz,k⟩
def afo{x:Str}(h:lW x):H9 x=true:=by
 unfold H9;rw[fK h.1,fK h.2.1,h.2.2]
 rfl
def abB{x:Str}(h:eA x):x9 (.str x) [V.str "always",V.str "fallen",V.str "never"]=true:=by
 rcases h with rfl|rfl|rfl<;>rfl
def Rm{X:Tok}{v:eh}(F:aG K "child_in" "child_in" Ax dV f fd)(T:Txt mg)(G:mg "FEWEST_WORDS"=some (.int 6 X))(Y:mg "KEEPS"=some (.ref v))(W:∀H:Hp,iq K H v [V.str "always",V.str "fallen",V.str "never"])
  {B:eh} (C:mg "NoNumber"=some (.ref B)) (U:Ec K B) (M:iu P w K mg dX true 2 "is_name" OE []) (N:iu P w K mg dX true 6 "by_first_word" (EF K p none) []):zFn P w K mg dX 7 f fd Lx (EF K p none):=by
 erw[F.okN Qj (λvs H Q E h=>?_) (λL A eD Z H vs Q E O h=>?_)]
 .obtain ⟨q,ws,s,rfl,_⟩:=h
  rfl
 .obtain ⟨q,ws,s,rfl,hS,hw,_,_,hz,k⟩:=h
  refine⟨_,(aa (aH (PW.pt (kB (gy oI (aO aE ⋯ T.dH cg {pv 0}) (uj ⋯ G)) (kB (gy Ck (gj aA (pv 0) ag) (yL ⋯ Y)) (kU (cU (ba (cz M {gj aA (pv 0) (CI wC ag)}))))))) (ae (ar fG)) aw)
   (ae (QK ⟨rfl,rfl,rfl⟩ (λD J E' S hP=>(ae (ar (Il N (O.mono (by omega)) ⋯ (passes S) {pv 0}))))
    aw
    (XH ⟨rfl,rfl,rfl⟩ ⋯ C U (λe=>(ae (ar fG)))
    MP)))),?_⟩
  fin2
  have l6:6<=ws.length:=by
   rcases DX hw with⟨a,b,c,d,e,g,rfl⟩|⟨a,b,c,d,e,g,i,rfl⟩
   .exact fx _
   .show 6<=7
    decide
  obtain⟨a,t,r,nm,e1,e2,y,u⟩:∃(a t:Str) (r:List Str) (nm:Str),ws=a::t::r/\oK (ws.map V.str) (-1)=some (V.str nm)/\eA t/\nm∈ws/\lW nm:=by
   by_cases z:ws.head? =some ("leaf":Str)
   .rcases HD hw z with⟨t,g,l,nm,gi,li,rfl,c1,c2,_⟩|⟨t,g,l,wk,m,nm,gi,li,mi,kd,rfl,c1,c2,_⟩
    .exact ⟨_,t,_,nm,rfl,rfl,c1,by simp,c2⟩
    .exact ⟨_,t,_,nm,rfl,rfl,c1,by simp,c2⟩
   .obtain ⟨t,wy,m,sp,nm,mi,si,kd,rfl,c1,c2,_⟩:=BW hw z;exact⟨_,t,_,nm,rfl,rfl,c1,by simp,c2⟩
  have R:x9 (.str t) [V.str "always",V.str "fallen",V.str "never"]=true:=abB y;lk;erw[hY q _ (jl rfl (.inl hS) ?_)];lk;erw[bA (λe=>?_) (λe=>?_)]
  .have e:=gD e;rw[fC] at e;erw[absurd e ()]
  lk;erw[hh q _ _ (V.str t) (fT rfl rfl hS (bY (j:=1) (by rw[e1];rfl)) ?_)];lk;erw[hY v _ (fT rfl (.inr (W _)) rfl rfl ?_)];erw[⟨_,rfl,?_⟩];erw[bA (λe=>?_) (λe=>?_)]
  .have e:(!x9 (.str t) [V.str "always",V.str "fallen",V.str "never"])=true:=e;rw[R] at e;cases e
  lk;erw[hh q _ _ (V.str nm) (fT rfl rfl hS e2 ?_)];lk;erw[⟨hz nm u.1,λH1 x=>?_⟩];rw[afo u.2];lk;exact⟨q,ws,s,rfl,hS.same x,hw,λz=>(by cases z),λz=>(by cases z),hz,λa H' I n r=>k a H' (λb o e=>I _ _ (x _ _ e)) (jX x n) r⟩
open PySem L2 Shp Nm Tr Hs PySem.NumText
def kQ(a:List Row):List V:=(gG a.length).map λi=>if i=0 then V.non else V.int (bz a i)
def cI(a:List Row):List (Key×V):=(gG a.length).map λi=>(.inr (a.getD i default).sh.name,V.int (i:Int))
def dG(a:List Row):List V:=a.map λr=>V.int ((2*r.dep:Nat):Int)
def fsT(c b a d:eh):List (Str×V):=[("children",.ref c),("blanks",.ref b),("above",.ref a),("places",.ref d)]
structure yZ(cT:eh)(p:Pl)(H:Hp)(t:eh)(rows:List Row)(c b a d:eh)(as:List eh):Prop where
 ob:∃dx,H t=some (.ins cT dx (fsT c b a d))
 ch:H c=some (.lst (as.map V.ref))
 ln:as.length=rows.length
 rp:∀(i:Nat) (x:eh),as[i]? =some x->p.rep H x (rows.getD i default).sh
 bl:H b=some (.lst (dG rows))
 ab:H a=some (.lst (kQ rows))
 pl:H d=some (.dK (cI rows))
 n1:c≠b
 n2:c≠a
 n3:b≠a
theorem yZ.same{l:eh}{H H':Hp}{t:eh}{g:List Row}{c b a d:eh}{j:List eh}(h:yZ l p H t g c b a d j)(e:aL H H'):yZ l p H' t g c b a d j:=
 ⟨h.ob.imp λ_ z=>e _ _ z,e _ _ h.ch,h.ln,λi x z=>Pl.mono e (h.rp i x z),e _ _ h.bl,e _ _ h.ab,e _ _ h.pl,h.n1,h.n2,h.n3⟩
def getD_snoc(a:List Row)(r:Row)(i:Nat):(a++[r]).getD i default=if i<a.length then a.getD i default else if i=a.length then r else default:=by
 by_cases h:i<a.length
 .rw[eT h,oy _ _ _ h]
 .rw[eJ h];by_cases e:i=a.length
  .rw[eT e,e,iR a r [] default]
  .rw[eJ e,nN,ahN (by rw[iv];show a.length+1<=i;lia)]
   rfl
def HF{a:Type}(n:Nat)(g:Nat->a):(gG (n+1)).map g=(gG n).map g++[g n]:=by
 rw[zB,js]
 rfl
def P2(a:List Row)(r:Row):kQ (a++[r])=kQ a++[if a.length=0 then V.non else V.int (bz (a++[r]) a.length)]:=by
 unfold kQ;rw[iv];show(gG (a.length+1)).map _=_;rw[HF]
 congr 1
 erw[ai5 λi b=>?_];rw[KW a [r] (pf.mp b)]
def Nk(a:List Row)(r:Row):cI (a++[r])=cI a++[(.inr r.sh.name,V.int (a.length:Int))]:=by
 unfold cI;rw[iv];show(gG (a.length+1)).map _=_;rw[HF,iR a r [] default]
 congr 1
 erw[ai5 λi b=>?_];rw[oy _ _ _ (pf.mp b)]
theorem Ms(a:List Row)(r:Row):dG (a++[r])=dG a++[V.int ((2*r.dep:Nat):Int)]:=js
def EZ{a:List Row}{x:Str}(h:x∉a.map (·.sh.name)):yY (cI a) (.inr x)=none:=by
 unfold yY;rw[aka.mpr]
 .rfl
 .intro kv hk z;obtain⟨i,b,rfl⟩:=ri.mp hk;have z:=al9 (gD z);have b:=pf.mp b;erw[h (ri.mpr ⟨a[i],ve b,?_⟩)];rw[<- z,nN,gx b]
  rfl
def Ry{a:List Row}{r:Row}(h:r.sh.name∉a.map (·.sh.name)):putK (cI a) (.inr r.sh.name) (V.int (a.length:Int))=cI (a++[r]):=by
 unfold putK;rw[eJ,Nk];intro z;obtain⟨kv,b,z⟩:=amo.mp z;have n:=EZ h;unfold yY at n;cases f:(cI a).find? λkv=>decide (kv.1=(.inr r.sh.name:Key)) with
 |none=>erw[aka.mp f kv b z]
 |some w=>rw[f] at n;cases n
def yx{H:Hp}{x q C a:eh}{o:HO}{fs gs:List (Str×V)}(h:H x=some (.ins C a fs))(g:H q=none):(upd (upd H q o) x (.ins C a gs)) x=some (.ins C a gs)/\(upd (upd H q o) x (.ins C a gs)) q=some o/\(∀b u,b≠x->H b=some u->(upd (upd H q o) x (.ins C a gs)) b=some u)∧
  (∀b,b≠x->(upd (upd H q o) x (.ins C a gs)) b=none->H b=none/\b≠q)/\q≠x/\(upd H q o) x=some (.ins C a fs):=by
 have nx:q≠x:=λz=>by rw[z,h] at g;cases g
 erw[⟨af,by rw[ai nx];exact af,λb u c e=>?_,λb c e=>?_,nx,by rw[ai (Ne.symm nx)];exact h⟩]
 .rwa[ai c,ai (ao e g)]
 .rw[ai c] at e;by_cases z:b=q
  .rw[z,af] at e;cases e
  .rw[ai z] at e;exact⟨e,z⟩
structure CT(K:fD)(C:eh):Prop where
 cl:pJ K C
 n1:bb K C "children"
 n2:bb K C "blanks"
 n3:bb K C "above"
 n4:bb K C "places"
def Jc(h:eh)(p:Pl):Sp:=λvs H Q _=>∃(x g:eh) (e:Hp),vs=[.ref x]/\e x=none/\e g=none/\g≠x/\H=upd (upd e g (.own x)) x (.ins h g [])∧
 ∀(H':Hp) (c b a d:eh),aL e H'->e c=none->e b=none->e a=none->e d=none->yZ h p H' x [] c b a d []->Q .non H'
def Oy{g:eh}(F:aG K "__init__" "Tree.__init__" lV dV f fd)(h:CT K g):zFn P w K mg dX 1 f fd Ph (Jc g p):=by
 rcases Ee,(aa (aI (pv 0) (aY cS) rfl)
   (aa (aI (pv 0) (aY cS) rfl)
   (aa (aI (pv 0) (aY cS) rfl)
   (ae (aI (pv 0) X9 rfl))))) with⟨x,dx,H0,rfl,h0,h1,h2,eH,k⟩
 have hx:H x=some (.ins g dx []):=by rw[eH];erw[af]
 have s0:∀b u,H0 b=some u->H b=some u/\b≠x:=λb u e=>⟨by rwa[eH,ai (ao e h0),ai (ao e h1)],ao e h0⟩
 have B:∀b,b≠x->H b=none->H0 b=none:=λb hb e=>by
  rw[eH,ai hb] at e;by_cases z:b=dx
  .rwa[z]
  .rw[ai z] at e;erw[e]
 erw[⟨l8 ∅,λc r=>?_⟩];obtain⟨T,S,N,n,C,p6⟩:=yx (o:= .lst []) (gs:=[("children",.ref c)]) hx r;erw[ix rfl (cb p6 h.cl h.n1 ∅ ?_)]
 change vT _ _ _ _ (upd (upd H c (.lst [])) x (.ins g dx [("children",.ref c)]))
 generalize upd (upd H c (.lst [])) x (.ins g dx [("children",.ref c)])=H1 at T S N n;erw[⟨l8 ∅,λb j=>?_⟩];obtain⟨J,W,G,D,t,Z⟩:=yx (o:= .lst []) (gs:=[("children",.ref c),("blanks",.ref b)]) T j;erw[ix rfl (cb Z h.cl h.n2 (by show 1<1000;decide) ?_)]
 change vT _ _ _ _ (upd (upd H1 b (.lst [])) x (.ins g dx [("children",.ref c),("blanks",.ref b)]))
 generalize upd (upd H1 b (.lst [])) x (.ins g dx [("children",.ref c),("blanks",.ref b)])=H2 at J W G D;erw[⟨l8 ∅,λa q=>?_⟩];obtain⟨M,L,y,X,v,r6⟩:=yx (o:= .lst []) (gs:=[("children",.ref c),("blanks",.ref b),("above",.ref a)]) J q;erw[ix rfl (cb r6 h.cl h.n3 (by show 2<1000;decide) ?_)];dsimp only
 change aeh _ _ _ _ _ _ (upd (upd H2 a (.lst [])) x (.ins g dx [("children",.ref c),("blanks",.ref b),("above",.ref a)]))
 generalize upd (upd H2 a (.lst [])) x (.ins g dx [("children",.ref c),("blanks",.ref b),("above",.ref a)])=H3 at M L y X;intro d l;obtain⟨t1,U,m,t4,A,t6⟩:=yx (o:= .dK []) (gs:=fsT c b a d) M l;erw[ix rfl (cb t6 h.cl h.n4 (by show 3<1000;decide) ?_)]
 change Q .non (upd (upd H3 d (.dK [])) x (.ins g dx (fsT c b a d)))
 generalize upd (upd H3 d (.dK [])) x (.ins g dx (fsT c b a d))=H4 at t1 U m t4;have I:c≠b:=Ne.symm (n b t j).2;have R:=D a v q;have O:=n a v R.1;have y3:=X d A l;have y2:=D d A y3.1;have Y:=n d A y2.1;have gc:H4 c=some (.lst []):=m c _ C (y c _ C (G c _ C S));have gb:H4 b=some (.lst []):=m b _ t (y b _ t W);erw[k H4 c b a d (λe u z=>?_) (B c C r) (B b t (n b t j).1) (B a v O.1) (B d A Y.1) ⟨⟨dx,t1⟩,gc,rfl,λi x e=>(by cases e),gb,m a _ v L,U,I,Ne.symm O.2,Ne.symm R.2⟩];obtain⟨e1,e2⟩:=s0 e u z;erw[m e u e2 (y e u e2 (G e u e2 (N e u e2 e1)))]
def N9{a:List Row}{i:Nat}(h:i<a.length):a[i]? =some (a.getD i default):=by
 rw[nN,gx h]
 rfl
def namesOf(a:List Row):List Str:=a.map (·.sh.name)
def Ga(p:Pl)(C:eh):Sp:=λvs H Q _=>∃(t:eh) (e:List Row) (c b a d:eh) (g:List eh),vs=[.ref t]/\yZ C p H t e c b a d g/\e.length<=1000∧
 ∀(q:eh) (H':Hp),aL H H'->H q=none->H' q=some (.lst ((namesOf e).map V.str))->Q (.ref q) H'
def Wk{y:eh}(F:aG K "names" "Tree.names" ud dV f fd)(z:CT K y)(r:∀j,p.pr j->CF K (p.c j)):zFn P w K mg dX 1 f fd Ph (Ga p y):=by
 rcases Kr,(ae (ar (nM (x:="child") (fr:=[]) (by kd_p) rfl (ke (au (pv 0) rfl)) (λ_ _ _ _=>Di) (λ_ _ _ _=>(Bz (K0:=K) rfl (pv 0) ⋯))))) with⟨t,e,c,b,a,d,m,rfl,g,G,k⟩;obtain⟨L,o⟩:=g.ob;lk;erw[a8 o z.cl z.n1 rfl ?_];lk;erw[⟨⟨_,eZ.of g.ch⟩,dq (J:=Yn K c) (n:=e.length) (λi ys H'=>H'=H/\ys=((namesOf e).take i).map V.str) ⟨rfl,rfl⟩ ?_ ?_ ?_ ?_⟩]
 .rintro i ys H' hi ⟨rfl,rfl⟩;exact⟨_,V.ref (m[i]'(by rwa[g.ln])),eZ.of g.ch,by rw[hV,gx (by rwa[g.ln])];rfl⟩
 .rintro ys H' ⟨rfl,rfl⟩;exact⟨_,eZ.of g.ch,by rw[fC,g.ln];erw[fx _]⟩
 .rintro i ys H' v H2 hi ⟨rfl,rfl⟩ ⟨rfl,l⟩;have h:i<m.length:=by rwa[g.ln]
  have l:=l _ (eZ.of g.ch);rw[hV,gx h] at l;obtain rfl:V.ref m[i]=v:=hH l;obtain⟨I,C,B,D⟩:=g.rp i _ (gx h);have A:=r _ C;lk;erw[a8 D A.cl A.n1 (Gf _) ?_];erw[⟨?_,rfl,?_⟩]
  .rw[fC,uU];erw[aP ()]
  .have:(namesOf e)[i]? =some (e.getD i default).sh.name:=by
    unfold namesOf;rw[hV,N9 hi]
    rfl
   rw[Cb,this,js]
   rfl
 .rintro ys H' ⟨rfl,rfl⟩;have:(namesOf e).length=e.length:=fC _;rw[<- this,Bn];erw[⟨?_,λq u=>k q _ (aq u) u af⟩];rw[fC,this];erw[tL (aP G)]
def adQ(p:Pl)(C:eh):Sp:=λvs H Q _=>∃(t:eh) (e:List Row) (c b a d:eh) (g:List eh) (i:Nat),vs=[.ref t,.str (e.getD i default).sh.name]/\yZ C p H t e c b a d g/\i<e.length/\(e.map (·.sh.name)).Nodup∧
 ∀H',aL H H'->Q (.int (i:Int)) H'
def Oc{a:List Row}{i:Nat}(g:i<a.length)(nd:(a.map (·.sh.name)).Nodup):yY (cI a) (.inr (a.getD i default).sh.name)=some (V.int (i:Int)):=by
 unfold yY;cases f:(cI a).find? λkv=>decide (kv.1=(.inr (a.getD i default).sh.name:Key)) with
 |none=>
  erw[absurd (fK rfl) (aka.mp f (.inr (a.getD i default).sh.name,V.int (i:Int)) (ri.mpr ⟨i,pf.mpr g,rfl⟩))]
 |some kv=>
  have c:kv.1=.inr (a.getD i default).sh.name:=gD (amz (p:=λkv:Key×V=>decide (kv.1=.inr (a.getD i default).sh.name)) f);obtain⟨j,b,rfl⟩:=ri.mp (akr f);have b:=pf.mp b;have c:=al9 c
  have e:j=i:=by
   have h:(a.map (·.sh.name))[j]? =some (a.getD j default).sh.name:=by rw[hV,N9 b];rfl
   have l:(a.map (·.sh.name))[i]? =some (a.getD i default).sh.name:=by rw[hV,N9 g];rfl
   rw[c] at h;exact(al8 (by rwa[fC]) nd).mp (h.trans l.symm)
  rw[e]
  rfl
def ZO{h:eh}(F:aG K "find" "Tree.find" wU dV f fd)(g:CT K h):zFn P w K mg dX 1 f fd P4 (adQ p h):=by
 rcases Mc,(aa (aH (ad4 (Ly (CC hr) (pv 1) (au (pv 0) rfl))) (ae xw) aw)
   (ae (ar (mB (au (pv 0) rfl) (pv 1))))) with⟨t,rows,c,b,a,d,as,i,rfl,hT,hi,nd,k⟩
 obtain⟨j,e⟩:=hT.ob
 have dg:rL H d (V.str (rows.getD i default).sh.name) (some (V.int (i:Int))):=by
  have:=rL.k (k:= .inr (rows.getD i default).sh.name) hT.pl;rw[Oc hi nd] at this;erw[this]
 lk;erw[a8 e g.cl g.n4 rfl ?_];lk;erw[hY d (some (V.int (i:Int))) (jl rfl dg ?_)];lk;erw[a8 e g.cl g.n4 rfl ?_];lk;exact⟨d,_,rfl,dg,k _ (aL.refl _)⟩
theorem xC{H:Hp}{x y:eh}{o u:HO}(a:H x=some o)(b:H y=some u)(h:o≠u):x≠y:=λz=>h (hH (a.symm.trans (by rwa[z])))
def Ym(p:Pl)(C:eh):Sp:=λvs H Q _=>∃(t x:eh) (g:List Row) (r:Row) (c b a d:eh) (h:List eh) (ab:V),vs=[.ref t,.ref x,.int ((2*r.dep:Nat):Int),ab]/\yZ C p H t g c b a d h/\p.rep H x r.sh/\g.length<=1000/\r.sh.name∉g.map (·.sh.name)∧
 ab=(if g.length=0 then V.non else V.int (bz (g++[r]) g.length))/\∀H',(∀e u,e≠c->e≠b->e≠a->e≠d->H e=some u->H' e=some u)->yZ C p H' t (g++[r]) c b a d (h++[x])->Q .non H'
def abg{l:eh}(F:aG K "take" "Tree.take" xV dV f fd)(T:Txt mg)(h:CT K l)(D:∀j,p.pr j->CF K (p.c j)):zFn P w K mg dX 1 f fd Oo (Ym p l):=by
 rcases Md,(aa (FZ (CC hr) (au (pv 0) rfl) (au (pv 1) rfl) (aO aE ⋯ T.dH cg {au (pv 0) rfl}) rfl)
   (aa (aC (fI rB wx vq cA (au (pv 0) rfl) {pv 1}))
   (aa (aC (fI rB wx vq cA (au (pv 0) rfl) {pv 2}))
   (ae (aC (fI rB wx vq cA (au (pv 0) rfl) {pv 3})))))) with⟨t,x,rows,r,c,b,a,d,as,ab,rfl,hT,hR,hl,hn,hab,k⟩
 obtain⟨m,g⟩:=hT.ob;obtain⟨r1,r2,ac,r3⟩:=id hR;have cf:=D _ r2;lk;erw[a8 g h.cl h.n1 rfl ?_];lk;erw[hY c _ (jl rfl (.inl (eZ.of hT.ch)) ?_)];lk;erw[a8 g h.cl h.n4 rfl ?_];erw[ix rfl (a8 r3 cf.cl cf.n1 (Gf _) ?_)];have ln:((as.map V.ref).length:Int)=(rows.length:Int):=by rw[fC,hT.ln]
 rw[ln];erw[hY d _ (jl rfl (ML.k (k:= .inr r.sh.name) hT.pl (by unfold cI;rw[fC,mq];exact aP hl)) ?_)];rw[Ry hn];have N:t≠d:=xC g hT.pl (λz=>by cases z);have q:c≠d:=xC hT.ch hT.pl (λz=>by cases z);have o:b≠d:=xC hT.bl hT.pl (λz=>by cases z);have B:a≠d:=xC hT.ab hT.pl (λz=>by cases z);have R:t≠c:=xC g hT.ch (λz=>by cases z);have J:t≠b:=xC g hT.bl (λz=>by cases z);have L:t≠a:=xC g hT.ab (λz=>by cases z);have e1:(upd H d (.dK (cI (rows++[r])))) t=some (.ins l m (fsT c b a d)):=by rwa[ai N]
 have e2:(upd H d (.dK (cI (rows++[r])))) c=some (.lst (as.map V.ref)):=by rw[ai q];erw[hT.ch]
 have e3:(upd H d (.dK (cI (rows++[r])))) b=some (.lst (dG rows)):=by rw[ai o];erw[hT.bl]
 have e4:(upd H d (.dK (cI (rows++[r])))) a=some (.lst (kQ rows)):=by rw[ai B];erw[hT.ab]
 have e5:(upd H d (.dK (cI (rows++[r])))) d=some (.dK (cI (rows++[r]))):=af;have e6:∀e u,e≠d->H e=some u->(upd H d (.dK (cI (rows++[r])))) e=some u:=λe u n z=>by rwa[ai n]
 generalize upd H d (.dK (cI (rows++[r])))=H1 at e1 e2 e3 e4 e5 e6;erw[ix rfl (m8 t l m _ _ (jm rfl e1 h.cl h.n1 rfl (.inl ⟨rfl,_,eZ.of e2⟩) ?_))];lk;erw[ml c _ _ (fT rfl rfl e2 (by rw[fC,hT.ln];exact aP hl) ?_)];have O:(upd H1 c (.lst (as.map V.ref++[V.ref x]))) t=some (.ins l m (fsT c b a d)):=by rwa[ai R]
 have W:(upd H1 c (.lst (as.map V.ref++[V.ref x]))) b=some (.lst (dG rows)):=by rwa[ai (Ne.symm hT.n1)]
 have Z:(upd H1 c (.lst (as.map V.ref++[V.ref x]))) a=some (.lst (kQ rows)):=by rwa[ai (Ne.symm hT.n2)]
 have f2:(upd H1 c (.lst (as.map V.ref++[V.ref x]))) c=some (.lst (as.map V.ref++[V.ref x])):=af;have f5:(upd H1 c (.lst (as.map V.ref++[V.ref x]))) d=some (.dK (cI (rows++[r]))):=by rwa[ai (Ne.symm q)]
 have f6:∀e u,e≠d->e≠c->H e=some u->(upd H1 c (.lst (as.map V.ref++[V.ref x]))) e=some u:=λe u n A z=>by rw[ai A];erw[e6 e u n z]
 generalize upd H1 c (.lst (as.map V.ref++[V.ref x]))=H2 at O f2 W Z f5 f6;erw[ix rfl (m8 t l m _ _ (jm rfl O h.cl h.n2 rfl (.inl ⟨rfl,_,eZ.of W⟩) ?_))];lk;erw[ml b _ _ (fT rfl rfl W (by unfold dG;rw[fC];exact aP hl) ?_)];have bs:dG rows++[V.int ((2*r.dep:Nat):Int)]=dG (rows++[r]):=(Ms rows r).symm;rw[bs];have I:(upd H2 b (.lst (dG (rows++[r])))) t=some (.ins l m (fsT c b a d)):=by rwa[ai J]
 have g2:(upd H2 b (.lst (dG (rows++[r])))) c=some (.lst (as.map V.ref++[V.ref x])):=by rwa[ai hT.n1]
 have Y:(upd H2 b (.lst (dG (rows++[r])))) b=some (.lst (dG (rows++[r]))):=af;have G:(upd H2 b (.lst (dG (rows++[r])))) a=some (.lst (kQ rows)):=by rwa[ai (Ne.symm hT.n3)]
 have g5:(upd H2 b (.lst (dG (rows++[r])))) d=some (.dK (cI (rows++[r]))):=by rwa[ai (Ne.symm o)]
 have g6:∀e u,e≠d->e≠c->e≠b->H e=some u->(upd H2 b (.lst (dG (rows++[r])))) e=some u:=λe u n A M z=>by rw[ai M];erw[f6 e u n A z]
 generalize upd H2 b (.lst (dG (rows++[r])))=H3 at I g2 Y G g5 g6;erw[ix rfl (m8 t l m _ _ (jm rfl I h.cl h.n3 rfl (.inl ⟨rfl,_,eZ.of G⟩) ?_))];lk;erw[ml a _ _ (fT rfl rfl G (by unfold kQ;rw[fC,mq];exact aP hl) ?_)];have S:kQ rows++[ab]=kQ (rows++[r]):=by rw[hab];exact(P2 rows r).symm
 rw[S];have keep:∀e u,e≠c->e≠b->e≠a->e≠d->H e=some u->(upd H3 a (.lst (kQ (rows++[r])))) e=some u:=λe u n1 A M n4 z=>by rw[ai M];erw[g6 e u n4 n1 A z]
 have X:∀(y:eh) (C:Sh),p.rep H y C->p.rep (upd H3 a (.lst (kQ (rows++[r])))) y C:=λy C z=>by
  obtain⟨z1,z2,dz,v⟩:=z;exact⟨z1,z2,dz,keep _ _ (xC v hT.ch (λz=>by cases z)) (xC v hT.bl (λz=>by cases z)) (xC v hT.ab (λz=>by cases z)) (xC v hT.pl (λz=>by cases z)) v⟩
 erw[k _ keep ⟨⟨m,by rwa[ai L]⟩,by rw[ai hT.n2,g2,js];rfl,by rw[iv,iv,hT.ln];rfl,λi y e=>?_,by rwa[ai hT.n3],af,by rwa[ai (Ne.symm B)],hT.n1,hT.n2,hT.n3⟩];rw[getD_snoc];by_cases hi:i<as.length
 .rw[yh hi] at e;rw[eT (by rwa[<- hT.ln])];erw[X _ _ (hT.rp i y e)]
 .rw[Bj ()] at e
  have U:i-as.length=0:=by
   have:=(pE.mp e).1;have:i-as.length<1:=this
   lia
  rw[U] at e;have e:x=y:=hH e;subst e;have:i=rows.length:=by have:=hT.ln;lia
  rw[eJ (),eT this];erw[X _ _ hR]
def SA(p:Pl)(C:eh):Sp:=λvs H Q _=>∃(t:eh) (e:List Row) (c b a d:eh) (g:List eh) (dp:Nat),vs=[.ref t,.int ((2*dp:Nat):Int)]/\yZ C p H t e c b a d g/\e.length<=1000∧
 ((e=[]/\Q .non H)\/∃j,j<e.length/\(e.getD j default).dep+1=dp/\(e.getD j default).zW=true/\(∀i,j<i->i<e.length->dp<=(e.getD i default).dep)/\∀H',aL H H'->Q (.int (j:Int)) H')
def Y7{G:eh}(F:aG K "minder_above" "Tree.minder_above" iI dV f fd)(T:Txt mg)(o:CT K G)(I:If P w K mg dX 3 p.rep p.cl):zFn P w K mg dX 4 f fd mX (SA p G):=by
 have h:∀C s r,Dt (wJ p.rep) (λC=>∃j,p.cl j C) C s r->MethAt P w K mg dX (fm P w) true 3 "leaf" C s r:=by
  rintro C s r ⟨⟨j,z⟩,rfl,rfl⟩;erw[I.leaf z]
 rcases gv,(aa (kj uZ rfl (aah ⋯ T.i8 {aB A7 (aO aE ⋯ T.dH cg {au (pv 0) rfl}) ag,CI wC ag,CI wC ag}) (cG (i:=2) gv.nd rfl (by k_ne)) (ae (aH (gy oI (gj aA (au (pv 0) rfl) (pv 2)) (pv 1)) (aa (bB (i:=3) gv.nd (uK (vd bM (gj aA (au (pv 0) rfl) (pv 2)) (aB A7 (pv 1) ag)) (rm (NG (jD (gj aA (au (pv 0) rfl) (pv 2)) h)))))
   (ae (ar (oS (ba (pv 3)) (pv 2) fG)))) aw)))
   (ae (ar fG))) with⟨t,rows,c,b,a,d,as,dp,rfl,hT,hl,k⟩
 obtain⟨dx,g⟩:=hT.ob;lk;erw[a8 g o.cl o.n1 rfl ?_];lk;erw[hY c _ (jl rfl (.inl (eZ.of hT.ch)) ?_)];lk;have an:(as.map V.ref).length=rows.length:=by rw[fC,hT.ln]
 rw[an];erw[⟨(),?_⟩]
 have v:∀i,i<rows.length->(dG rows)[i]? =some (V.int ((2*(rows.getD i default).dep:Nat):Int)):=λi m=>by
  unfold dG;rw[hV,N9 m]
  rfl
 rcases k with⟨e0,k⟩|⟨j,hj,hd,hm,hb,k⟩
 .have n0:rows.length=0:=by rw[e0];rfl
  rw[n0];erw[uV (n:=0) (λ_ l H'=>H'=H) rfl (λi l H' m=>absurd m (y4 _)) (λi l H' x Y m=>absurd m (y4 _)) (λl H' e=>⟨fx _,?_⟩)];subst e;erw[k]
 .refine uV (n:=rows.length) (λi l H'=>H'=H/\j+i<rows.length/\∃D L,l=[some (.ref t),some (.int ((2*dp:Nat):Int)),D,L]) ⟨rfl,hj,none,none,rfl⟩ (λi l H' m _=>m) ?_ (λl H' z=>absurd z.2.1 ());rintro i l H' x Y m ⟨rfl,O,D,L,rfl⟩ ⟨rfl,rfl⟩;have pe:(rows.length:Int)-1-(i:Int)=((rows.length-1-i:Nat):Int):=by lia
  rw[pe];have y:rows.length-1-i<rows.length:=by lia
  generalize hq:rows.length-1-i=q at y;lk;erw[a8 g o.cl o.n2 rfl ?_];lk;erw[hh b _ _ _ (fT rfl rfl (eZ.of hT.bl) (bY (v q y)) ?_)];lk;erw[bA (λe=>?_) (λe=>?_)]
  .have e:(((2*(rows.getD q default).dep:Nat)):Int)<((2*dp:Nat):Int):=gD e
   have U:q=j:=by
    by_cases z:j<q
    .have:=hb q z y
     lia
    .lia
   subst U;have u:q<as.length:=by rwa[hT.ln]
   have A:=hT.rp q as[q] (gx u);obtain⟨r1,r2,X,r3⟩:=id A;lk;erw[a8 g o.cl o.n2 rfl ?_];lk;erw[hh b _ _ _ (fT rfl rfl (eZ.of hT.bl) (bY (v q y)) ?_)];lk;have R:V.int ((2*(rows.getD q default).dep:Nat):Int)=V.int (((2*dp:Nat):Int)-2):=by congr 1;lia
   erw[bA (λe2=>?_) (λe2=>?_)]
   .lk;erw[a8 g o.cl o.n1 rfl ?_];lk;erw[hh c _ _ (V.ref as[q]) (fT rfl rfl (eZ.of hT.ch) (bY (by rw[hV,gx u];rfl)) ?_)];lk;obtain⟨C',M,B,J,S,i3,Z,_⟩:=I.inst A;erw[eF J ⟨⟨_,S⟩,rfl,rfl⟩ Z ?_];refine hh (as[q]) M B _ (kb rfl A J (λH3 W=>?_))
    have N:decide ((rows.getD q default).sh.kind<3)=false:=by
     have:=gD hm;erw[ik ()]
    rw[N];lk;erw[k _ W]
   .exact absurd (fK R) e2
  .have e:¬(((2*(rows.getD q default).dep:Nat)):Int)<((2*dp:Nat):Int):=λz=>e (fK z);erw[⟨rfl,?_,_,_,rfl⟩];have:q≠j:=λz=>e (by rw[z];lia)
   lia
open PySem L2 Shp Nm Tr Hs PySem.NumText
abbrev j8:=Hp->eh->List Row->FS->Prop
def afH(x:Str):Prop:=x.length<=100000/\True
def Wu(TR:j8):Sp:=λvs H Q _=>∃(x:Str) (a:List Row),vs=[.str x]/\afH x/\parse (fw x)=.ok a/\fO a/\∀(t:eh) (H':Hp) (c:FS),aL H H'->(∀b,c b->H b=none)->TR H' t a c->Q (.ref t) H'
def s32:KP " "=⟨#[32]⟩:=by decide +kernel
def s35:KP "#"=⟨#[35]⟩:=by decide +kernel
def s10:KP "\n"=⟨#[10]⟩:=by decide +kernel
def OU:Sp:=λvs H Q _=>∃x:Str,vs=[.str x]/\x.length<=100000/\Q (.bl (lY (fw x))) H
def Vw(F:aG K "passed_over" "passed_over" rq dV f fd)(T:Txt mg):zFn P w K mg dX 1 f fd zO OU:=by
 erw[F.Cv xj λvs H Q E h=>?_];obtain⟨x,rfl,j,k⟩:=h
 refine⟨rfl,λb A eD s l=>⟨_,(aa (bB (i:=1) xj.nd (fI ahJ akF akG xy (pv 0) {(aj)}))
   (ae (ar (acf (vd bM (pv 1) aj) (rm (fI ahJ PySem.F.slot_str_startswith PySem.F.type_str_startswith BP (pv 1) {(aj)})))))),?_⟩⟩
 fin2
 have a:=Bc x 32;lk;erw[⟨qi (),?_⟩];rw[s32];unfold lY at k;rw[<- a] at k;generalize aio x ⟨#[32]⟩=y at k;lk;erw[bA (λe=>?_) (λe=>?_)]
 .have e:y="":=V.str.inj (gD e);subst e;erw[k]
 .have e:y≠"":=λz=>e (fK (hI V.str z));lk;rw[s35,MQ];cases hy:fw y with
  |nil=>erw[absurd (uq hy) e]
  |cons c r=>
   rw[hy] at k
   have g:decide ((c::r).head? =some 35)=(c==35):=by
    show decide (some c=some 35)=_;rw[qj,kP,rz,Option.some.injEq]
   rwa[g]
def O3(x:Str):(cW (fw x)).map xc=(Txt.split x ⟨#[32]⟩).filter λy:Str=>decide (y≠""):=by
 unfold cW;rw[<- qe x ∅,List.filter_map,aiw];have:(xc∘fw)=id:=funext λy=>Tu y;rw[this,anb]
 congr 1
 funext y
 show(!(fw y).isEmpty)=_;rw[qj,kP,aib,List.isEmpty_eq_false_iff];exact⟨λz e=>z (by rw[e];rfl),λz e=>z (uq e)⟩
def Li:Sp:=λvs H Q _=>∃x:Str,vs=[.str x]/\x.length<=100000/\∀(q:eh) (H':Hp),aL H H'->H q=none->H' q=some (.lst (((cW (fw x)).map xc).map V.str))->Q (.ref q) H'
def Q3(F:aG K "words_in" "words_in" AB dV f fd)(T:Txt mg):zFn P w K mg dX 1 f fd zO Li:=by
 erw[F.Cv Qs λvs H Q E h=>?_];obtain⟨x,rfl,D,k⟩:=h;erw[⟨rfl,λB A eD s G=>⟨_,(ae (ar (nM (x:="word") (fr:=[]) (by kd_p) rfl (ke (fI ahJ akZ ak0 zL (pv 0) {(aj)})) (λ_ _ _ _=>(DF (Gd qp (pv 0) aj (HE _)))) (λ_ _ _ _=>(pv 0))))),?_⟩⟩]
 fin2
 rw[O3] at k;have t:=amK x (c:=32) ∅;have bl:=EH x 32;rw[s32];lk;generalize hys:Txt.split x ⟨#[32]⟩=ys at k t;erw[⟨qi (),rfl,qi (je bl ()),qi (),λq u=>?_⟩];erw[⟨q,rfl,⟨_,eZ.of af⟩,?_⟩];have j:eZ K (upd H q (.lst (ys.map V.str))) q (ys.map V.str):=eZ.of af;have m:aL H (upd H q (.lst (ys.map V.str))):=aq u;generalize upd H q (.lst (ys.map V.str))=H1 at j m;erw[dq (J:=Yn K q) (n:=ys.length) (λi g H'=>H'=H1/\g=((ys.take i).filter λy:Str=>decide (y≠"")).map V.str) ⟨rfl,rfl⟩ ?_ ?_ ?_ ?_]
 .rintro i g H' hi ⟨rfl,rfl⟩;exact⟨_,V.str ys[i],j,by rw[hV,gx hi];rfl⟩
 .rintro g H' ⟨rfl,rfl⟩;exact⟨_,j,by rw[fC];erw[fx _]⟩
 .rintro i g H' v H2 hi ⟨rfl,rfl⟩ ⟨rfl,l⟩;have l:=l _ j;rw[hV,gx hi] at l;obtain rfl:V.str ys[i]=v:=hH l;have C:((ys.take i).filter λy:Str=>decide (y≠"")).length<=ys.length:=je (AL _ _) (by rw[uU];lia);lk;refine bA (λe=>?_) (λe=>?_)
  .have e:ys[i]≠"":=λz=>by rw[z] at e;exact absurd e ∅
   lk;erw[⟨by rw[fC,GX];lia,rfl,?_⟩];rw[Cb,gx hi,qH,js];show _=_++(amd _ [ys[i]]).map V.str;rw[rj,eT (fK e)]
   rfl
  .have e:ys[i]="":=by
    by_cases z:ys[i]=""
    .exact z
    .exact absurd (by simpa using z) e
   erw[⟨rfl,?_⟩];rw[Cb,gx hi,qH,js];show _=_++(amd _ [ys[i]]).map V.str;rw[rj,eJ (λz:decide (ys[i]≠"")=true=>(gD z) e)];exact(ov _).symm
 .rintro g H' ⟨rfl,rfl⟩;rw[Bn];have C:(ys.filter λy:Str=>decide (y≠"")).length<=ys.length:=AL _ _;erw[⟨qi (by rw[fC];lia),λr a=>k r _ (λb o z=>aq a _ _ (m _ _ z)) ?_ af⟩];cases z:H r with
  |none=>rfl
  |some o=>rw[m _ _ z] at a;cases a
def Qh:Sp:=λvs H Q _=>∃x:Str,vs=[.str x]/\x.length<=100000/\Q (.int ((lead (fw x):Nat):Int)) H
def Vd(F:aG K "blanks_ahead" "blanks_ahead" oj dV f fd)(T:Txt mg):zFn P w K mg dX 1 f fd zO Qh:=by
 erw[F.Cv Ft λvs H Q E h=>?_];obtain⟨x,rfl,c,k⟩:=h;erw[⟨rfl,λb A eD s g=>⟨_,(ae (ar (aB A7 (aO nK ⋯ T.dH cg {pv 0}) (aO nK ⋯ T.dH cg {fI ahJ akF akG xy (pv 0) {(aj)}})))),?_⟩⟩]
 fin2
 have a:=Bc x 32;have i:=RO x ⟨#[32]⟩
 have e:(x.length:Int)-((aio x ⟨#[32]⟩).length:Int)=((lead (fw x):Nat):Int):=by
  have h:=hI List.length (List.takeWhile_append_dropWhile (p:=(·==32)) (l:=fw x));rw[iv,bJ,<-a,bJ] at h;unfold lead
  lia
 lk;erw[⟨qi (),?_⟩];lk;erw[⟨qi (),?_⟩];rw[s32];lk;erw[⟨qi (),?_⟩];lk;show Q (.int ((x.length:Int)-((aio x ⟨#[32]⟩).length:Int))) H;rwa[e]
def YW(h:eh)(p:Pl):Sp:=λvs H Q _=>∃(t x:eh) (e:List Row) (r:Row) (c b a d:eh) (g:List eh) (ab:V),vs=[.ref t,.ref x,.int ((2*r.dep:Nat):Int),ab]/\yZ h p H t e c b a d g/\p.rep H x r.sh/\e.length<=1000∧
 ((e=[]/\r.dep=0/\r.zW=true)\/(e≠[]/\(∃j:Int,ab=.int j)/\r.dep<=8/\r.sh.name∉e.map (·.sh.name)))/\∀H',aL H H'->Q (.bl true) H'
def Z5{B:eh}{tB:Tok}(F:aG K "stands_well" "stands_well" qI dV f fd)(T:Txt mg)(L:CT K B)(y:∀j,p.pr j->CF K (p.c j))(I:If P w K mg dX 3 p.rep p.cl)(W:mg "MOST_BLANKS"=some (.int 16 tB))
  (S:aR P w K mg dX 1 "names" (Ga p) λC=>C=B):zFn P w K mg dX 4 f fd Kg (YW B p):=by
 have g:=S.d
 have h:∀C s i,Dt (wJ p.rep) (λC=>∃j,p.cl j C) C s i->MethAt P w K mg dX (fm P w) true 3 "leaf" C s i:=by
  rintro C s i ⟨⟨j,z⟩,rfl,rfl⟩;erw[I.leaf z]
 rcases HM,(aa (aH (gy (GS (oh hr)) (jD (pv 0) g) (aY cS)) (ae (ar (uK (vd bM (pv 2) ag) (rm (NG (jD (pv 1) h)))))) aw)
   (ae (ar (uK (vd Tv (pv 3) fG) (uK (vd ach (pv 2) (uj ⋯ W)) (rm (acR (Ly (CC hr) (au (pv 1) rfl) (au (pv 0) rfl))))))))) with⟨t,x,rows,r,c,b,a,d,as,ab,rfl,hT,hR,hl,hk,k⟩
 obtain⟨dx,v⟩:=hT.ob;obtain⟨r1,U,O,r3⟩:=id hR;have M:=y _ U;lk;erw[eF v ⟨rfl,rfl,rfl⟩ rfl ?_];erw[l9 t rows c b a d as (kb rfl hT hl (λq Z s1 hq D=>?_))];lk;erw[⟨l8 ∅,λN G=>?_⟩];have u:=aq (o:= .lst []) G;lk;erw[hh q N _ ([]) (jm rfl rfl (eZ.of (u _ _ D)) (eZ.of af) (KJ _) rfl ?_)];generalize upd Z N (.lst [])=H2 at u;have l:aL H H2:=λb o z=>u _ _ (s1 _ _ z);erw[⟨_,rfl,?_⟩];rcases hk with⟨rfl,h0,hm⟩|⟨hn,⟨j,rfl⟩,h8,n⟩
 .refine bA (λe=>?_) (λe=>absurd rfl e);lk;rw[h0];erw[bA (λe2=>?_) (λe2=>absurd (fK rfl) e2)];lk;obtain⟨C',R,A,J,i2,i3,Y,_⟩:=I.inst (I.mono l hR);erw[eF J ⟨⟨_,i2⟩,rfl,rfl⟩ Y ?_];refine hh x R A _ (kb rfl (I.mono l hR) J (λH3 s3=>?_))
  have X:decide (r.sh.kind<3)=false:=by
   have:=gD hm;erw[ik ()]
  rw[X];lk;erw[k _ (λb o z=>s3 _ _ (l _ _ z))]
 .refine bA (λe=>?_) (λe=>?_)
  .have e:yS ((namesOf rows).map V.str) []=true:=e;cases rows with
   |nil=>erw[absurd rfl hn]
   |cons r0 rs=>erw[absurd e (by show ¬(false=true);decide)]
  .have T2:=hT.same l;obtain⟨ad,m⟩:=T2.ob;obtain⟨_,_,ac,r4⟩:=Pl.mono l hR
   have dg:rL H2 d (V.str r.sh.name) none:=by
    have:=rL.k (k:= .inr r.sh.name) T2.pl;rw[EZ n] at this;erw[this]
   lk;erw[bA (λe2=>?_) (λe2=>absurd (fK (show((2*r.dep:Nat):Int)<=16 by lia)) e2)];lk;erw[a8 r4 M.cl M.n1 (Gf _) ?_];lk;erw[a8 m L.cl L.n4 rfl ?_];lk;exact⟨d,none,rfl,dg,k _ l⟩
theorem Nv(c:Nat):∀l:List Nat,∀y∈l7 c l,y.length<=l.length
 |[],y,h=>by
  rw[abm,oi] at h;rw[h];erw[fx _]
 |a::r,y,h=>by
  rw[xS] at h;by_cases e:a=c
  .rw[eT e] at h;rcases qJ.mp h with rfl|h
   .exact pI _
   .exact je (Nv c r y h) (HY _)
  .rw[eJ e] at h;have b:=Nv c r;cases hz:l7 c r with
   |nil=>erw[absurd hz (QU c r)]
   |cons u v=>
    rw[hz] at h b;rcases qJ.mp h with rfl|h
    .exact aky (b u ll)
    .exact je (b y (mD _ h)) (HY _)
def abi{x y:Str}(h:y∈(cW (fw x)).map xc):y.length<=x.length:=by
 obtain⟨l,a,rfl⟩:=ri.mp h;have:=Nv 32 (fw x) l (yq.mp a).1;rwa[<- bJ,Bl,<-bJ]
def K8(i:eh)(p:Pl):Sp:=λvs H Q _=>∃(t:eh) (x:Str) (n:Int) (g:List Row) (r:Row) (c b a d:eh) (h:List eh),vs=[.ref t,.str x,.int n]/\yZ i p H t g c b a d h/\OkP g/\g.length<64/\x.length<=100000/\rV (fw x)=some r∧
 fits (cq g g.length) g.length r/\r.sh.name∉g.map (·.sh.name)/\∀(H':Hp) (y:eh),(∀e u,e≠c->e≠b->e≠a->e≠d->H e=some u->H' e=some u)->H y=none->yZ i p H' t (g++[r]) c b a d (h++[y])->Q .non H'
def QN{I:eh}{tR:Tok}(F:aG K "take_row" "take_row" pC dV f fd)(T:Txt mg)(hc:CT K I)(xh:mg "MOST_ROWS"=some (.int 64 tR))(hN:aR P w K mg dX 1 "names" (Ga p) λC=>C=I)(hA:aR P w K mg dX 4 "minder_above" (SA p) λC=>C=I)
  (hK:aR P w K mg dX 1 "take" (Ym p) λC=>C=I) (AI:iu P w K mg dX true 7 "child_in" (EF K p none) []) (AK:iu P w K mg dX true 1 "words_in" Li []) (o8:iu P w K mg dX true 1 "blanks_ahead" Qh [])
  (qP:iu P w K mg dX true 4 "stands_well" (YW I p) []):zFn P w K mg dX 8 f fd Ij (K8 I p):=by
 erw[F.Cv qE λvs H Q E y0=>?_];obtain⟨t,x,n,g,r,c,b,a,d,U,rfl,hT,hO,ap,hx,ad,S,N,k⟩:=y0;erw[⟨rfl,λZ A eD s hr=>?_⟩];obtain⟨ld,al⟩:=XJ ad;have l:=hN.d;have h:=hA.d;have m:=hK.d;have wl:∀y∈(cW (fw x)).map xc,y.length<=100000:=λy hy=>je (abi hy) hx
 have t3:∃Y,nh (vL true (fm P w) P w K mg dX GV "take_row" (ah pC) f Z A eD s H E).ib ((cR pC).drop 3) Y/\∀(y:eh) (ab:V) (G:Hp),aL H G->H y=none->p.rep G y r.sh->ab=(if g.length=0 then V.non else V.int (bz (g++[r]) g.length))→
   ((g=[]/\r.dep=0/\r.zW=true)\/(g≠[]/\(∃j:Int,ab=.int j)/\r.dep<=8/\r.sh.name∉g.map (·.sh.name)))->Y {nx:=λ_ H'=>Q .non H',rt:=Q} [some (.ref t),some (.str x),some (.int n),some (.ref y),some (.int ((2*r.dep:Nat):Int)),some ab] G:=by
  refine⟨_,(aa (aH (PW.pt (kB (gy DS (pv 3) fG) (kU (cU (ba (cz qP {pv 0,pv 3,pv 4,pv 5})))))) (ae xw) aw)
   (aa (aH (gy bM (aO aE ⋯ T.dH cg {jD (pv 0) l}) (uj ⋯ xh)) (ae xw) aw)
   (ae (aC (j0 (pv 0) m {pv 3,pv 4,pv 5}))))),?_⟩
  fin2
  intro y ab G L hy J ac hw;have T3:=hT.same L;have hl:g.length<=1000:=by lia
  lk;erw[ZA t y g r c b a d U ab (ot rfl T3 J hl hw (λH4 X=>?_))];have T4:=T3.same X;obtain⟨am,M⟩:=T4.ob;lk;erw[eF M ⟨rfl,rfl,rfl⟩ rfl ?_];erw[l9 t g c b a d U (kb rfl T4 hl (λq H5 s5 hq D=>?_))];have T5:=T4.same s5;obtain⟨an,O⟩:=T5.ob;lk;erw[hY q _ (jl rfl (.inl (eZ.of D)) ?_)];lk;erw[bA (λe=>?_) (λe=>?_)]
  .have e:=V.int.inj (gD e);rw[fC] at e;have:(namesOf g).length=g.length:=fC _
   lia
  erw[ix rfl (eF O ⟨rfl,rfl,rfl⟩ rfl ?_)];erw[ix rfl (ix rfl (ix rfl (ZA t y g r c b a d U ab (jm rfl T5 (Pl.mono s5 (Pl.mono X J)) hl N ac (λH6 k6 T6=>?_)))))];erw[k H6 y (λe u n1 n2 n3 n4 z=>k6 e u n1 n2 n3 n4 (s5 _ _ (X _ _ (L _ _ z)))) hy T6]
 obtain⟨Y,ht,hn⟩:=t3
 refine⟨_,(aa (bB (i:=3) qE.nd (cz AI {cz AK {pv 1}}))
   (aa (bB (i:=4) qE.nd (cz o8 {pv 1}))
   (aa (bB (i:=5) qE.nd (j0 (pv 0) h {pv 4}))
   ht))),?_⟩
 fin2
 lk;erw[⟨hx,λq H1 s1 hq D=>?_⟩];lk;erw[ml q _ r.sh (jm rfl (eZ.of D) al (λz=>(by cases z)) (λz=>(by cases z)) wl (λy H2 s2 W J=>?_))];lk;erw[⟨hx,?_⟩];rw[ld];have v:aL H H2:=λb o z=>s2 _ _ (s1 _ _ z);have T2:=hT.same v;obtain⟨ax,R⟩:=T2.ob;have yn:H y=none:=jX s1 W;lk;erw[eF R ⟨rfl,rfl,rfl⟩ rfl ?_];erw[ix rfl (Ow t g c b a d U r.dep (kb rfl T2 () ?_))];by_cases B:g=[]
 .have hf0:r.dep=0/\r.zW=true:=by
   unfold fits at S;rw[eT (by rw[B];rfl)] at S;erw[S]
  erw[.inl ⟨B,hn y _ H2 v yn J (by rw[eT (by rw[B];rfl)]) (.inl ⟨B,hf0⟩)⟩]
 .obtain ⟨j,j1,j2,j3,j4,j5,j6⟩:=abC hO B S;erw[.inr ⟨j,j1,j2,j3,j4,λG L=>?_⟩];erw[hn y _ G (λb o z=>L _ _ (v _ _ z)) yn (Pl.mono L J) (by rw[eJ (λz=>B (ahE.mp z)),j6]) (.inr ⟨B,⟨_,rfl⟩,j5,N⟩)]
def jx(j:eh)(p:Pl):j8:=λH t g i=>∃(c b a d:eh) (h:List eh),yZ j p H t g c b a d h/\i=λe=>e=t\/e=c\/e=b\/e=a\/e=d\/e∈h
def aaP{I:eh}(F:aG K "read" "read" QS dV f fd)(T:Txt mg)(hc:CT K I)(Rh:zk P w K mg dX true 1 "Tree" I (Jc I p) [])(hN:aR P w K mg dX 1 "names" (Ga p) λC=>C=I)
  (rQ:iu P w K mg dX true 1 "passed_over" OU []) (AH:iu P w K mg dX true 8 "take_row" (K8 I p) []):zFn P w K mg dX 9 f fd HW (Wu (jx I p)):=by
 have j:=hN.d
 rcases Gb,(aa (bB (i:=1) Gb.nd (Z1 Rh (hr.mono (by omega)) ⋯ cy))
   (aa (kj uZ rfl (X4 ⋯ T.ER {fI ahJ akZ ak0 zL (pv 0) {(aj)}}) (QJ rfl (lT (cG (i:=2) Gb.nd rfl (by k_ne)) (lT (cG (i:=3) Gb.nd rfl (by k_ne)) L4))) (ae (aH (cU (ba (cz rQ {pv 3}))) (ae (aC (cz AH {pv 1,pv 3,pv 2}))) aw)))
   (aa (aH (gy (GS (oh hr)) (jD (pv 1) j) (aY cS)) (ae xw) aw)
   (ae (ar (pv 1)))))) with⟨x,out,rfl,⟨hx,_⟩,hp,hO,k⟩
 unfold parse at hp;rw[<- qe x ∅] at hp;have sl:=amK x (c:=10) ∅;have bl:=EH x 10
 have le:∀y∈Txt.split x ⟨#[10]⟩,y.length<=100000:=λy A=>by
  have:=Nv 10 (fw x) (fw y) (by rw[<- qe x ∅];erw[ri.mpr ⟨y,A,rfl⟩]);rw[bJ,bJ] at this
  lia
 lk;intro t dx n1 n2 n3;erw[ml t dx H (ot rfl n1 n2 n3 rfl (λN c b a d s1 f1 f2 f3 f4 L=>⟨rfl,?_⟩))];lk;rw[s10];generalize Txt.split x ⟨#[10]⟩=lns at hp sl le;erw[⟨qi (),rfl,qi (je bl ()),qi (),λq m=>?_⟩];lk;have Z:(upd N q (.lst (lns.map V.str))) q=some (.lst (lns.map V.str)):=af;have U:aL N (upd N q (.lst (lns.map V.str))):=aq m;generalize upd N q (.lst (lns.map V.str))=H2 at Z U;erw[⟨⟨_,eZ.of Z⟩,?_⟩];have R:q≠c/\q≠b/\q≠a/\q≠d:=⟨λz=>(by rw[z,L.ch] at m;cases m),λz=>(by rw[z,L.bl] at m;cases m),λz=>(by rw[z,L.ab] at m;cases m),λz=>(by rw[z,L.pl] at m;cases m)⟩
 refine uV (n:=lns.length) (λi O H'=>H' q=some (.lst (lns.map V.str))/\aL H H'/\∃(g:List Row) (l:List eh) (v2 v3:Option V),yZ I p H' t g c b a d l/\OkP g/\g.length<=64/\scan g i ((lns.drop i).map fw)=.ok out/\(∀y∈l,H y=none)/\O=[some (.str x),some (.ref t),v2,v3])
  ⟨Z,λe u z=>U _ _ (s1 _ _ z),[],[],none,none,L.same U,λi D=>absurd D (y4 _),pI _,hp,λy A=>(by cases A),rfl⟩ ?_ ?_ ?_
 .rintro i O H' D ⟨z,_⟩;exact⟨_,V.str lns[i],eZ.of z,by rw[hV,gx D];rfl⟩
 .rintro i O H' v H3 D ⟨z1,z2,g,l,v2,v3,Tp,Op,l64,sc,fr,rfl⟩ ⟨q3,y,hq3,rfl,A,rfl⟩;have A:=A _ (eZ.of z1);rw[hV,gx D] at A;obtain rfl:V.str lns[i]=y:=hH A;have J:=aq (o:= .tup [.int ((1+i:Nat):Int),V.str lns[i]]) hq3;erw[hY q3 _ (kb rfl (iq.of af) rfl ?_)];have dr:(lns.drop i).map fw=fw lns[i]::(lns.drop (i+1)).map fw:=by rw[ah4 D,tH]
  rw[dr] at sc;have lx:=le lns[i] (ve D);have T3:=Tp.same J;lk;erw[⟨lx,?_⟩];rcases VF sc with⟨G,B⟩|⟨G,r,an,M,ac,ax,B⟩
  .rw[G];lk;exact⟨J _ _ z1,λe u z=>J _ _ (z2 _ _ z),g,l,_,_,T3,Op,l64,B,fr,rfl⟩
  .rw[G];lk;erw[ZA t (lns[i]) _ g r c b a d l (BS rfl T3 Op () lx an M ac (λH4 y k4 al T4=>?_))];refine⟨k4 _ _ R.1 R.2.1 R.2.2.1 R.2.2.2 (J _ _ z1),λe u z=>?_,g++[r],l++[y],_,_,T4,Op.snoc M,by rw[iv];show g.length+1<=64;lia,B,λy' S=>?_,rfl⟩
   .exact k4 e u (ao z f1) (ao z f2) (ao z f3) (ao z f4) (J _ _ (z2 _ _ z))
   .rcases ql.mp S with h|h
    .exact fr y' h
    .rw[oi.mp h];erw[jX (λe u z=>J _ _ (z2 _ _ z)) al]
 .rintro O H' ⟨z1,z2,g,l,v2,v3,Tp,Op,l64,sc,fr,rfl⟩;rw[ajA] at sc;obtain⟨am,rfl⟩:=Za sc;obtain⟨ay,W⟩:=Tp.ob;erw[⟨⟨_,eZ.of z1,by rw[fC];exact fx _⟩,?_⟩];lk;erw[eF W ⟨rfl,rfl,rfl⟩ rfl ?_];erw[l9 t out c b a d l (kb rfl Tp () (λq5 H5 s5 az ap=>?_))];lk;erw[⟨l8 ∅,λq6 ad=>?_⟩];have Y:=aq (o:= .lst []) ad;lk;erw[hh q5 q6 _ ([]) (jm rfl rfl (eZ.of (Y _ _ ap)) (eZ.of af) (KJ _) rfl ?_)];erw[⟨_,rfl,?_⟩];refine bA (λe=>?_) (λe=>?_)
  .have e:yS ((namesOf out).map V.str) []=true:=e;cases out with
   |nil=>erw[absurd rfl am]
   |cons r0 rs=>erw[absurd e (by show ¬(false=true);decide)]
  .lk;erw[k t _ _ (λe u z=>Y _ _ (s5 _ _ (z2 _ _ z))) (λe X=>?_) ⟨c,b,a,d,l,(Tp.same s5).same Y,rfl⟩];rcases X with rfl|rfl|rfl|rfl|rfl|X
   .exact n1
   .exact f1
   .exact f2
   .exact f3
   .exact f4
   .exact fr _ X
end
open PySem L2 Shp Nm Tr Hs Hm Hr PySem.NumText
abbrev zm:List Str:=["self","child"]
def xG:ak zm zm (ah ir):=by kt_ors
def AR:ak Ph Ph (ah ki):=by kt_ors
def qS:ak zm zm (ah fq):=by kt_ors
abbrev yu:List Str:=["self","clock"]
def vR:ak yu yu (ah gh):=by kt_ors
def xM:ak Ph Ph (ah h9):=by kt_ors
def rH:ak yu yu (ah fv):=by kt_ors
def rf:ak Ph Ph (ah eU):=by kt_ors
def lF:ak zi Ph (ah iz):=by kt_ors
def pj:ak zm zm (ah dN):=by kt_ors
def iO:ak Ph Ph (ah cO):=by kt_ors
abbrev vV:List Str:=["self","standing"]
def uO:ak vV vV (ah fP):=by kt_ors
def sy:ak yu yu (ah fF):=by kt_ors
def pk:ak yu yu (ah dQ):=by kt_ors
def pW:ak Ph Ph (ah eB):=by kt_ors
def pL:ak Ph Ph (ah eC):=by kt_ors
def va:ak Ph Ph (ah fQ):=by kt_ors
def nT:ak Ph Ph (ah dC):=by kt_ors
abbrev oW:List Str:=["self","left"]
def f9:ak oW Ph (ah dF):=by kt_ors
section
variable{P:hD}{w:gT}{K:fD}{mg:Str->Option ez}{dX:gm}{f:eh}{fd:oT}{dV:ez}{R:Rep}{TR:Hr.j8}{eu:HC}{T:List Row}{L:Lo}{D:Dy}
structure CS(K:fD)(C:eh):Prop where
 cl:pJ K C
 child:bb K C "child"
 state:bb K C "state"
 asked:bb K C "asked"
 Nh:bb K C "minder"
 place:bb K C "place"
 uE:bb K C "minded"
 Hj:bb K C "begun_at"
 steps:bb K C "steps"
 ME:bb K C "needed"
 Ge:bb K C "granted"
 ay:bb K C "falls"
 good:bb K C "good"
 waiting:bb K C "waiting"
 leaving:bb K C "leaving"
 bu:bb K C "coming"
 Gg:bb K C "gave_up"
theorem wz(d:Nd)(i:Nat):(jE T L D d i).lookup ("child":Str)=some (.ref (L.ch i)):=rfl
theorem Qc(d:Nd)(i:Nat):(jE T L D d i).lookup ("state":Str)=some (.str d.st):=rfl
theorem Ir(d:Nd)(i:Nat):(jE T L D d i).lookup ("asked":Str)=some (.bl d.asked):=rfl
theorem IU(d:Nd)(i:Nat):(jE T L D d i).lookup ("minder":Str)=some (uI T L i):=rfl
theorem xW(d:Nd)(i:Nat):(jE T L D d i).lookup ("place":Str)=some (.int ((f7 T i:Nat):Int)):=rfl
theorem U4(d:Nd)(i:Nat):(jE T L D d i).lookup ("minded":Str)=some (.ref (L.mi i)):=rfl
def TL{i:Nat}(h:fk T i=true)(d:Nd):jE T L D d i=mn T L d i++Sz d:=by
 unfold jE;rw[h]
 rfl
def yw{i:Nat}(h:fk T i=false)(d:Nd):jE T L D d i=mn T L d i++nS (D.fa i) (D.wa i) d:=by
 unfold jE;rw[h]
 rfl
def afI(x y:Str):decide (V.str x=V.str y)=decide (x=y):=by
 by_cases h:x=y
 .rw[h,fK rfl,fK rfl]
 .rw[ik h,ik (λz=>h (V.str.inj z))]
def qd(R:Rep)(TR:Hr.j8)(eu:HC)(C:eh):Sp:=λvs H Q _=>∃(T:List Row) (L:Lo) (a:FS) (D:Dy) (S:HS) (i:Nat),vs=[.ref (L.nd i)]/\Rp R TR eu T L a D S H/\i<T.length/\bx eu T i=C/\Q (.bl (cK S i)) H
def Pz(F:aG K "is_off" "Standing.is_off" ki dV f fd){C:eh}(a:CS K C):zFn P w K mg dX 1 f fd Ph (qd R TR eu C):=by
 rcases AR,(ae (ar (vd bM (au (pv 0) rfl) aj))) with⟨T,L,e,D,S,i,rfl,h,c,rfl,k⟩;have b:=h.cells (.nd i) c;lk;erw[a8 b a.cl a.state (Qc _ _) ?_];lk;rwa[afI]
def jF(R:Rep)(TR:Hr.j8)(eu:HC)(b:Bool)(more:List Row->HS->Nat->List V->Prop)(next:List Row->Nat->HS->HS)(ans:List Row->HS->Nat->V)(C:eh):Sp:=λvs H Q _=>∃(T:List Row) (L:Lo) (a:FS) (D:Dy) (S:HS) (i:Nat) (us:List V),vs=.ref (L.nd i)::us/\more T S i us/\Rp R TR eu T L a D S H/\i<T.length∧
 fk T i=b/\bx eu T i=C/\∀D' H',Goes R TR eu T L a D H D' (next T i S) H'->Q (ans T S i) H'
def uD:List Row->HS->Nat->List V->Prop:=λ_ _ _ us=>us=[]
def Ey:List Row->HS->Nat->List V->Prop:=λ_ S _ us=>us=[.int S.clk]
def o7:List Row->HS->Nat->V:=λ_ _ _=>.non
def nU{H:Hp}{S:HS}{a:FS}{i:Nat}(h:Rp R TR eu T L a D S H)(c:i<T.length)(b:fk T i=true):H (L.nd i)=some (.ins (bx eu T i) (L.dn i) (mn T L (S.nd i) i++Sz (S.nd i))):=by
 have:=h.cells (.nd i) c;rwa[<- TL (D:=D) b]
def br{H:Hp}{S:HS}{a:FS}{i:Nat}(h:Rp R TR eu T L a D S H)(c:i<T.length)(b:fk T i=false):H (L.nd i)=some (.ins (bx eu T i) (L.dn i) (mn T L (S.nd i) i++nS (D.fa i) (D.wa i) (S.nd i))):=by
 have:=h.cells (.nd i) c;rwa[<- yw (D:=D) b]
def yD{H:Hp}{S:HS}{b:FS}{i:Nat}(a:iA TR)(h:Rp R TR eu T L b D S H)(e:i<T.length)(c:fk T i=true)(g:Nd->Nd)(j:(g (S.nd i)).ay=(S.nd i).ay)(l:(g (S.nd i)).wait=(S.nd i).wait):
  Goes R TR eu T L b D H D (up S i g) (upd H (L.nd i) (.ins (bx eu T i) (L.dn i) (mn T L (g (S.nd i)) i++Sz (g (S.nd i))))):=by
 have:=h.node a e g j l;rw[TL c] at this;erw[this]
def lg{H:Hp}{S:HS}{b:FS}{i:Nat}(a:iA TR)(h:Rp R TR eu T L b D S H)(e:i<T.length)(c:fk T i=false)(g:Nd->Nd)(j:(g (S.nd i)).ay=(S.nd i).ay)(l:(g (S.nd i)).wait=(S.nd i).wait):
  Goes R TR eu T L b D H D (up S i g) (upd H (L.nd i) (.ins (bx eu T i) (L.dn i) (mn T L (g (S.nd i)) i++nS (D.fa i) (D.wa i) (g (S.nd i))))):=by
 have:=h.node a e g j l;rw[yw c] at this;erw[this]
def Uq(b:iA TR)(F:aG K "begin" "LeafStanding.begin" gh dV f fd){C:eh}(a:CS K C):zFn P w K mg dX 1 f fd yu (jF R TR eu true Ey oF o7 C):=by
 rcases vR,(aa (aI (pv 0) aj rfl)
   (aa (aI (pv 0) cc rfl)
   (aa (aI (pv 0) (pv 1) rfl)
   (ae (aI (pv 0) ag rfl))))) with⟨T,L,FT,D,S,i,us,rfl,rfl,h,hi,hl,rfl,k⟩
 have c:=nU h hi hl;lk;erw[cb c a.cl a.state (by show 10<1000;decide) ?_];lk;erw[cb af a.cl a.asked (by show 10<1000;decide) ?_];rw[aW];lk;erw[cb af a.cl a.Hj (by show 10<1000;decide) ?_];rw[aW];lk;erw[cb af a.cl a.steps (by show 10<1000;decide) ?_];rw[aW];have g:=yD b h hi hl (λd=>if fk T i then {d with st:="on",asked:=false,beg:=S.clk,steps:=0} else forget {d with st:="on",asked:=false}) (by rw[hl];rfl) (by rw[hl];rfl);erw[k D _ ?_];rw[hl] at g;unfold oF;rwa[hl]
def Wc(p:iA TR)(n:∀{H:Hp} {a:eh} {s:Sh},R H a s->∃e r fs,H a=some (.ins e r fs)/\CF K e/\(s.kind<3->fs.lookup ("grace":Str)=some (.int s.bK)/\fs.lookup ("slow":Str)=some (.int s.cC)))
  (F:aG K "tell" "LeafStanding.tell" h9 dV f fd) {C:eh} (b:CS K C):zFn P w K mg dX 1 f fd Ph (jF R TR eu true uD bj o7 C):=by
 rcases xM,(aa (aI (pv 0) aj rfl)
   (aa (aI (pv 0) cc rfl)
   (aa (aI (pv 0) (au (au (pv 0) rfl) rfl) rfl)
   (ae (aI (pv 0) (au (au (pv 0) rfl) rfl) rfl))))) with⟨T,L,FT,D,S,i,us,rfl,rfl,h,hi,hl,rfl,k⟩
 have t:=nU h hi hl;obtain⟨B,m,u⟩:=h.ch i hi;obtain⟨e,v,A,z,j,q⟩:=n (u H m);obtain⟨y,x⟩:=q (gD hl);have l:L.ch i≠L.nd i:=Ne.symm ((h.tM (.nd i) hi).2.1 i hi).2;have c:∀o,(upd H (L.nd i) o) (L.ch i)=some (.ins e v A):=λo=>by rwa[ai l]
 lk;erw[cb t b.cl b.state (by show 10<1000;decide) ?_];lk;erw[cb af b.cl b.asked (by show 10<1000;decide) ?_];rw[aW];lk;erw[a8 af b.cl b.child rfl ?_];lk;erw[a8 (c _) j.cl j.n4 x ?_];lk;erw[cb af b.cl b.ME (by show 10<1000;decide) ?_];rw[aW];lk;erw[a8 af b.cl b.child rfl ?_];lk;erw[a8 (c _) j.cl j.n3 y ?_];lk;erw[cb af b.cl b.Ge (by show 10<1000;decide) ?_];rw[aW];have g:=yD p h hi hl (λd=>if fk T i then {d with st:="told",asked:=true,need:=(sh T i).cC,ja:=(sh T i).bK} else goDown T i {d with asked:=true}) (by rw[hl];rfl) (by rw[hl];rfl);erw[k D _ ?_];rw[hl] at g;unfold bj;rwa[hl]
def V8(j:aR P w K mg dX 1 "is_off" (qd R TR eu) λC=>C=eu.cL\/C=eu.cM)(F:aG K "steps_at" "LeafStanding.steps_at" fv dV f fd){C:eh}(l:C=eu.cL)(g:CS K C)(o:iA TR):zFn P w K mg dX 2 f fd yu (jF R TR eu true Ey (λ_ _ S=>S) (λT S i=>.bl (bO T i S)) C):=by
 have a:=j.d;rcases rH,(ae (ar (uK (NG (jD (pv 0) a)) (rm (vd oI (au (pv 0) rfl) (pv 1)))))) with⟨T,L,n,D,S,i,us,rfl,rfl,h,b,e,m,k⟩;subst m;have c:=nU h b e;have k:Q (.bl (bO T i S)) H:=k D H (Goes.refl h);unfold bO at k;rw[e,za] at k;lk;erw[iJ (L.nd i) _ _ _ _ ([]) (fT rfl c ⟨.inl l,rfl,rfl⟩ rfl ?_)];erw[iJ T L n D S i (fT rfl h b rfl ?_)];cases ho:cK S i with
 |true=>
  rw[ho] at k;lk;erw[k]
 |false=>
  rw[ho] at k;lk;erw[a8 c g.cl g.Hj rfl ?_];lk;erw[k]
def QE(F:aG K "told_end" "LeafStanding.told_end" eU dV f fd){C:eh}(a:CS K C):zFn P w K mg dX 1 f fd Ph (jF R TR eu true uD (λ_ _ S=>S) (λ_ S i=>.str (d0 (S.nd i))) C):=by
 rcases rf,(aa (aH (gy bM (au (pv 0) rfl) ag) (ae (ar aj)) aw)
   (ae (ar (oS (gy bM (au (pv 0) rfl) ag) aj aj)))) with⟨T,L,FT,D,S,i,us,rfl,rfl,h,hi,hl,rfl,k⟩
 have b:=nU h hi hl;have k:Q (.str (d0 (S.nd i))) H:=k D H (Goes.refl h);unfold d0 at k;lk;erw[a8 b a.cl a.ME rfl ?_];lk;erw[bA (λe=>?_) (λe=>?_)]
 .have e:(S.nd i).need=0:=V.int.inj (gD e);rw[eT e] at k;erw[k]
 .have e:¬(S.nd i).need=0:=λz=>e (fK (hI V.int z));rw[eJ e] at k;lk;erw[a8 b a.cl a.Ge rfl ?_];lk;refine bA (λe2=>?_) (λe2=>?_)
  .have e2:(S.nd i).ja=0:=V.int.inj (gD e2);rw[eT e2] at k;erw[k]
  .have e2:¬(S.nd i).ja=0:=λz=>e2 (fK (hI V.int z));rw[eJ e2] at k;erw[k]
def XZ(l:iA TR){x:eh->Prop}(t:∀{H:Hp} {a:eh} {s:Sh},R H a s->∃p O fs,H a=some (.ins p O fs)/\(s.kind<3->x p)/\fs.lookup ("end_at":Str)=none)
  (Y:aR P w K mg dX 3 "end_at" (Lv R) x) (X:aR P w K mg dX 1 "told_end" (jF R TR eu true uD (λ_ _ S=>S) (λ_ S i=>.str (d0 (S.nd i)))) λC=>C=eu.cL)
  (F:aG K "step" "LeafStanding.step" iz dV f fd) {C:eh} (U:C=eu.cL) (g:CS K C):zFn P w K mg dX 4 f fd Ph (jF R TR eu true (λT S i us=>us=[]/\((S.nd i).st≠"told"->0<=(S.nd i).steps/\((sh T i).kind≠0->(S.nd i).steps<=(sh T i).many))) (λT i S=>(cB T i S).2) (λT S i=>.str (cB T i S).1) C):=by
 have b:=X.d;have c:=Y.d
 rcases lF,(aa (aH (gy bM (au (pv 0) rfl) aj) (aa (yF (pv 0) ag YM)
   (aa (yF (pv 0) ag YM)
   (ae (ar (jD (pv 0) b))))) aw)
   (aa (bB (i:=1) lF.nd (j0 (au (pv 0) rfl) c {au (pv 0) rfl}))
   (aa (yF (pv 0) ag X3)
   (ae (ar (pv 1)))))) with⟨T,L,FT,D,S,i,us,rfl,⟨rfl,m⟩,h,hi,hl,e0,k⟩
 subst e0;have o:=nU h hi hl;have k:∀D' H',Goes R TR eu T L FT D H D' (cB T i S).2 H'->Q (.str (cB T i S).1) H':=k;unfold cB at k;lk;erw[a8 o g.cl g.state rfl ?_];lk;erw[bA (λe=>?_) (λe=>?_)]
 .have e:(S.nd i).st="told":=V.str.inj (gD e);rw[eT e] at k;lk;erw[a8 o g.cl g.ME rfl ?_];lk;erw[⟨_,_,o,by show 10<1000;decide,?_⟩];lk;erw[a8 af g.cl g.Ge rfl ?_];lk;erw[⟨_,_,af,by show 10<1000;decide,?_⟩];rw[aW];have r:=yD l h hi hl (λd=>{d with need:=d.need-1,ja:=d.ja-1}) rfl rfl;have j:=nU r.rp hi hl;lk;erw[iJ (L.nd i) _ _ _ _ ([]) (fT rfl j ⟨U,rfl,rfl⟩ rfl ?_)];exact⟨T,L,FT,D,_,i,[],rfl,rfl,r.rp,hi,hl,rfl,λM I W=>k M I (r.trans W)⟩
 .have e:¬(S.nd i).st="told":=λz=>e (fK (hI V.str z));obtain⟨m,q⟩:=m e;rw[eJ e] at k;obtain⟨oc,n,y⟩:=h.ch i hi;obtain⟨p,u,v,B,J,N⟩:=t (y H n);lk;erw[a8 o g.cl g.child rfl ?_];lk;erw[iJ (L.ch i) p u v _ ([]) (fT rfl B ⟨J (gD hl),rfl,rfl⟩ N ?_)];lk;erw[a8 o g.cl g.steps rfl ?_];erw[m8 (L.ch i) u v (sh T i) _ (jm rfl (y H n) B (gD hl) m q (λZ A=>?_))];have G:=h.same l A;have j:=nU G hi hl;lk;erw[a8 j g.cl g.steps rfl ?_];lk;erw[⟨_,_,j,by show 10<1000;decide,?_⟩];lk;erw[k D _ ((Goes.same l h A).trans (yD l G hi hl (λd=>{d with steps:=d.steps+1}) rfl rfl))]
def Ls(S:HS)(i:Nat)(g g':Nd->Nd):up (up S i g) i g'=up S i λd=>g' (g d):=by
 unfold up
 congr 1
 funext j
 show(if j=i then g' (if j=i then g (S.nd j) else S.nd j) else if j=i then g (S.nd j) else S.nd j)=if j=i then g' (g (S.nd j)) else S.nd j;by_cases e:j=i
 .rw[eT e,eT e,eT e]
 .rw[eJ e,eJ e,eJ e]
def Vg(e:iA TR)(F:aG K "forget" "MinderStanding.forget" cO dV f fd){C:eh}(a:CS K C):zFn P w K mg dX 1 f fd Ph (jF R TR eu false uD (λ_ i S=>up S i forget) o7 C):=by
 rcases iO,(aa (aI (pv 0) (aY cS) rfl)
   (aa (aI (pv 0) ag rfl)
   (aa (aI (pv 0) (aY cS) rfl)
   (aa (aI (pv 0) ag rfl)
   (aa (aI (pv 0) ag rfl)
   (ae (aI (pv 0) cc rfl))))))) with⟨T,L,FT,D,S,i,us,rfl,rfl,h,hi,hl,rfl,k⟩
 have n:=br h hi hl;erw[⟨l8 ∅,λq m=>?_⟩];have p:L.nd i≠q:=ao n m;erw[ix rfl (cb (by rwa[ai p]) a.cl a.ay (by show 12<1000;decide) ?_)];have b:=h.afe e hi hl m (λd=>{d with ay:=[],good:=0}) rfl;rw[yw hl,show({D with fa:=fh D.fa i q}:Dy).fa i=q from bH _ _ _] at b;lk;erw[cb af a.cl a.good (by show 12<1000;decide) ?_];rw[aW]
 change vT _ _ _ _ (upd (upd H q (.lst [])) (L.nd i) (.ins (bx eu T i) (L.dn i) (mn T L (S.nd i) i++nS q (D.wa i) {S.nd i with ay:=[],good:=0})))
 have b:Goes R TR eu T L FT D H {D with fa:=fh D.fa i q} (up S i λd=>{d with ay:=[],good:=0}) (upd (upd H q (.lst [])) (L.nd i) (.ins (bx eu T i) (L.dn i) (mn T L (S.nd i) i++nS q (D.wa i) {S.nd i with ay:=[],good:=0}))):=b;have l:(upd (upd H q (.lst [])) (L.nd i) (.ins (bx eu T i) (L.dn i) (mn T L (S.nd i) i++nS q (D.wa i) {S.nd i with ay:=[],good:=0}))) (L.nd i)=some (.ins (bx eu T i) (L.dn i) (mn T L (S.nd i) i++nS q (D.wa i) {S.nd i with ay:=[],good:=0})):=af;generalize upd (upd H q (.lst [])) (L.nd i) (.ins (bx eu T i) (L.dn i) (mn T L (S.nd i) i++nS q (D.wa i) {S.nd i with ay:=[],good:=0}))=H1 at b l;erw[⟨l8 ∅,λg c=>?_⟩];have j:L.nd i≠g:=ao l c;erw[ix rfl (cb (by rwa[ai j]) a.cl a.waiting (by show 12<1000;decide) ?_)];have o:=b.rp.acj e hi hl c (λd=>{d with wait:=[],cw:=0,com:=0,rD:=false}) rfl;rw[yw hl,show({ ({D with fa:=fh D.fa i q}:Dy) with wa:=fh ({D with fa:=fh D.fa i q}:Dy).wa i g}:Dy).wa i=g from bH _ _ _,show({ ({D with fa:=fh D.fa i q}:Dy) with wa:=fh ({D with fa:=fh D.fa i q}:Dy).wa i g}:Dy).fa i=q from bH _ _ _,Ls,av] at o;lk;erw[cb af a.cl a.leaving (by show 12<1000;decide) ?_];rw[aW];lk;erw[cb af a.cl a.bu (by show 12<1000;decide) ?_];rw[aW];lk;erw[cb af a.cl a.Gg (by show 12<1000;decide) ?_];rw[aW];erw[k _ _ (b.trans o)]
def VN(j:iA TR)(r:aR P w K mg dX 1 "forget" (jF R TR eu false uD (λ_ i S=>up S i forget) o7) λC=>C=eu.cM)(F:aG K "begin" "MinderStanding.begin" fF dV f fd){C:eh}(m:C=eu.cM)(b:CS K C):
  zFn P w K mg dX 2 f fd yu (jF R TR eu false Ey oF o7 C):=by
 have a:=r.d
 rcases sy,(aa (aI (pv 0) aj rfl)
   (aa (aI (pv 0) cc rfl)
   (ae (aC (jD (pv 0) a))))) with⟨T,L,FT,D,S,i,us,rfl,rfl,h,hi,hl,e0,k⟩
 subst e0;have n:=br h hi hl;lk;erw[cb n b.cl b.state (by show 12<1000;decide) ?_];lk;erw[cb af b.cl b.asked (by show 12<1000;decide) ?_];rw[aW];have g:=lg j h hi hl (λd=>{d with st:="on",asked:=false}) rfl rfl;have c:=br g.rp hi hl;erw[ix rfl (iJ (L.nd i) _ _ _ _ ([]) (fT rfl c ⟨m,rfl,rfl⟩ rfl ?_))];erw[l9 T L FT D _ i ([]) (jm rfl rfl g.rp hi hl rfl (λq l o=>?_))];erw[k q l ?_];have p:=g.trans o
 have e:up (up S i λd=>{d with st:="on",asked:=false}) i forget=oF T i S:=by
  rw[Ls];unfold oF;rw[hl]
  rfl
 rwa[<- e]
def UA(F:aG K "steps_at" "MinderStanding.steps_at" dQ dV f fd){C:eh}:zFn P w K mg dX 2 f fd yu (jF R TR eu false Ey (λ_ _ S=>S) (λT S i=>.bl (bO T i S)) C):=by
 rcases pk,(ae (ar cc)) with⟨T,L,c,D,S,i,us,rfl,rfl,h,b,a,rfl,k⟩;have k:Q (.bl (bO T i S)) H:=k D H (Goes.refl h);unfold bO at k;rw[a] at k;erw[k]
def Pb(F:aG K "last_word" "MinderStanding.last_word" dC dV f fd){C:eh}(a:CS K C):zFn P w K mg dX 1 f fd Ph (jF R TR eu false uD (λ_ _ S=>S) (λ_ S i=>.str (eR (S.nd i))) C):=by
 rcases nT,(ae (ar (oS (ba (au (pv 0) rfl)) aj aj))) with⟨T,L,g,D,S,i,us,rfl,rfl,h,c,e,rfl,k⟩;have b:=br h c e;have k:Q (.str (eR (S.nd i))) H:=k D H (Goes.refl h);unfold eR at k;lk;erw[a8 b a.cl a.Gg rfl ?_];lk;cases hg:(S.nd i).rD with
 |true=>
  rw[hg] at k;lk;erw[k]
 |false=>
  rw[hg] at k;lk;erw[k]
def sv(U:List Row)(i:Nat):(kids U i).length<=U.length:=by
 unfold kids;erw[je (AL _ _) (by rw[mq];exact fx _)]
def VH(g:iA TR)(T:Txt mg)(o:iu P w K mg dX true 1 "below" FY [])(F:aG K "go_down" "MinderStanding.go_down" eC dV f fd){C:eh}(a:CS K C):
  zFn P w K mg dX 2 f fd Ph (jF R TR eu false (λT _ _ us=>us=[]/\T.length<=64) (λT i S=>up S i (goDown T i)) o7 C):=by
 rcases pL,(aa (aI (pv 0) aj rfl)
   (aa (aI (pv 0) (aY cS) rfl)
   (aa (aI (pv 0) (cz o {aO aE ⋯ T.dH cg {au (pv 0) rfl}}) rfl)
   (ae (aI (pv 0) ag rfl))))) with⟨U,L,FT,D,S,i,us,rfl,⟨rfl,h64⟩,h,hi,hl,rfl,k⟩
 have q:=br h hi hl;have u:=sv U i;lk;erw[cb q a.cl a.state (by show 12<1000;decide) ?_];have e:=lg g h hi hl (λd=>{d with st:="down"}) rfl rfl;have j:=br e.rp hi hl
 change vT _ _ _ _ (upd H (L.nd i) (.ins (bx eu U i) (L.dn i) (mn U L {S.nd i with st:="down"} i++nS (D.fa i) (D.wa i) {S.nd i with st:="down"})))
 generalize upd H (L.nd i) (.ins (bx eu U i) (L.dn i) (mn U L {S.nd i with st:="down"} i++nS (D.fa i) (D.wa i) {S.nd i with st:="down"}))=H1 at e j;rw[av] at j;erw[⟨l8 ∅,λl b=>?_⟩];have m:L.nd i≠l:=ao j b;erw[ix rfl (cb (by rwa[ai m]) a.cl a.waiting (by show 12<1000;decide) ?_)];have n:=e.rp.acj g hi hl b (λd=>{d with wait:=[],cw:=2^(kids U i).length-1,com:=0}) rfl;have p:=n.rp.mi i hi;rw[yw hl,show({D with wa:=fh D.wa i l}:Dy).wa i=l from bH _ _ _,Ls,av] at n;have c:=e.rp.mi i hi;have r:L.mi i≠l:=ao c b;have t:L.mi i≠L.nd i:=Ne.symm ((h.tM (.nd i) hi).2.1 i hi).1;lk;erw[a8 af a.cl a.uE rfl ?_];lk;erw[hY (L.mi i) _ (jl rfl (.inl (eZ.of (by rwa[ai t,ai r]))) ?_)];lk;rw[fC];erw[⟨(),?_⟩];lk;erw[cb af a.cl a.leaving (by show 12<1000;decide) ?_];rw[aW];lk;erw[cb af a.cl a.bu (by show 12<1000;decide) ?_];rw[aW];erw[k _ _ (e.trans n)]
def X7(g:iA TR)(l:aR P w K mg dX 2 "go_down" (jF R TR eu false (λT _ _ us=>us=[]/\T.length<=64) (λT i S=>up S i (goDown T i)) o7) λC=>C=eu.cM)(F:aG K "tell" "MinderStanding.tell" fQ dV f fd){C:eh}(n:C=eu.cM)(j:CS K C):
  zFn P w K mg dX 3 f fd Ph (jF R TR eu false (λT _ _ us=>us=[]/\T.length<=64) bj o7 C):=by
 have a:=l.d
 rcases va,(aa (aI (pv 0) cc rfl)
   (ae (aC (jD (pv 0) a)))) with⟨U,L,FT,D,S,i,us,rfl,⟨rfl,h64⟩,h,hi,hl,e0,k⟩
 subst e0;have o:=br h hi hl;lk;erw[cb o j.cl j.asked (by show 12<1000;decide) ?_];have c:=lg g h hi hl (λd=>{d with asked:=true}) rfl rfl;have b:=br c.rp hi hl;erw[ix rfl (iJ (L.nd i) _ _ _ _ ([]) (fT rfl b ⟨n,rfl,rfl⟩ rfl ?_))];erw[l9 U L FT D _ i ([]) (jm rfl ⟨rfl,h64⟩ c.rp hi hl rfl (λr m p=>?_))];erw[k r m ?_];have q:=c.trans p
 have e:up (up S i λd=>{d with asked:=true}) i (goDown U i)=bj U i S:=by
  rw[Ls];unfold bj;rw[hl]
  rfl
 rwa[<- e]
open PySem L2 Shp Nm Tr Hs Hm Hr PySem.NumText
def Ie(T:List Row)(m:Nat)(S:HS):Nat->Bool:=λk=>match (kids T m)[k]? with|some j=> !cK S j|none=>false
def UD(m:iA TR)(T:Txt mg)(y:aR P w K mg dX 1 "is_off" (qd R TR eu) λC=>C=eu.cL\/C=eu.cM)(p:CS K eu.cL)(b:CS K eu.cM)(G:iu P w K mg dX true 1 "bit" Lg [])(F:aG K "not_off" "MinderStanding.not_off" eB dV f fd){C:eh}(u:C=eu.cM):
  zFn P w K mg dX 2 f fd Ph (jF R TR eu false (λT _ _ us=>us=[]/\T.length<=64) (λ_ _ S=>S) (λT S i=>.int ((bh T i S:Nat):Int)) C):=by
 have a:=y.d;rcases pW,(ae (ar (aO (WW rfl) ⋯ T.afc adn {nM (x:="each") (fr:=[]) (by kd_p) rfl (ke (au (pv 0) rfl)) (λ_ _ _ _=>(DF (cU (ba (gL (pv 0) a (hr.mono (by omega)) sk))))) (λ_ _ _ _=>(Il G (hr.mono (by omega)) ⋯ sk {Bz (K0:=K) rfl (pv 0) ⋯}))}))) with⟨U,L,N,D,S,i,us,rfl,⟨rfl,M⟩,h,r,I,B,k⟩;subst B;have g:=br h r I;have O:=abe U i;have mi:=h.mi i r
 have c:∀j,CS K (bx eu U j):=λj=>by
  unfold bx
  split
  .exact p
  .exact b
 lk;erw[a8 g ((u ▸ b).cl) ((u ▸ b).uE) rfl ?_];lk;erw[⟨⟨_,eZ.of mi⟩,dq (J:=Yn K (L.mi i)) (n:=(kids U i).length) (λt ys H'=>H'=H/\∃ns:List Int,ys=ns.map V.int/\(∀n∈ns,0<=n)/\ns.sum=((cJ (Ie U i S) t:Nat):Int)/\ns.length<=t) ⟨rfl,[],rfl,λn g=>(by cases g),rfl,fx _⟩ ?_ ?_ ?_ ?_⟩]
 .rintro t ys H' ht ⟨rfl,_⟩;exact⟨_,V.ref (L.nd (kids U i)[t]),eZ.of mi,by rw[hV,gx ht];rfl⟩
 .rintro ys H' ⟨rfl,_⟩;exact⟨_,eZ.of mi,by rw[fC];erw[fx _]⟩
 .rintro t ys H' v H2 ht ⟨rfl,ns,rfl,n0,nsum,nl⟩ ⟨rfl,l⟩;have l:=l _ (eZ.of mi);rw[hV,gx ht] at l;obtain rfl:V.ref (L.nd (kids U i)[t])=v:=hH l;obtain⟨k1,k2,k3⟩:=JA (gx ht)
  have e:Ie U i S t= !cK S (kids U i)[t]:=by
   unfold Ie;rw[gx ht]
  have o:=h.cells (.nd (kids U i)[t]) k3;generalize (kids U i)[t]=j at k1 k2 k3 e o;lk;erw[iJ (L.nd j) _ _ _ _ ([]) (fT rfl o ⟨?_,rfl,rfl⟩ (by unfold jE;cases fk U j<;>rfl) ?_)]
  .unfold bx
   split
   .exact .inl rfl
   .exact .inr rfl
  erw[iJ U L N D S j (fT rfl h k3 rfl ?_)];have bs:cJ (Ie U i S) (t+1)=cJ (Ie U i S) t+if Ie U i S t=true then 2^t else 0:=rfl;cases ho:cK S j with
  |true=>
   rw[ho] at e;lk;erw[⟨n0,?_,()⟩];rw[nsum,bs,e]
   rfl
  |false=>
   rw[ho] at e;lk;erw[a8 o ((c j).cl) ((c j).place) (xW _ _) ?_];rw[k1];lk;erw[⟨(),?_⟩];erw[⟨by rw[fC];exact aP (),rfl,ns++[((2^t:Nat):Int)],by rw[js];rfl,λn g=>?_,?_,by rw[iv];show ns.length+1<=t+1;lia⟩]
   .rcases ql.mp g with z|z
    .exact n0 n z
    .rw[oi.mp z];erw[ajd _]
   .rw[ajP,nsum,bs,e];simp
 .rintro ys H' ⟨rfl,ns,rfl,n0,nsum,nl⟩;erw[⟨by rw[fC];exact tL (aP ()),λq A=>?_⟩];have lt:cJ (Ie U i S) (kids U i).length<2^63:=pD (oO _ _) (aiZ ∅ ());erw[hY q ns (fT rfl (eZ.of af) n0 (by rw[nsum];exact_mod_cast lt) ?_)];rw[nsum];erw[k D _ (Goes.same m h (aq A))]
theorem adA{a n:Nat}(b:a≠0)(h:a<2^n):aj2 a<n:=(ame b).mpr h
def YS(a:Nat)(b:a≠0):ai6 (a:Int)=aj2 a+1:=by
 unfold ai6;rw[eJ (by rw[rz];lia),Int.natAbs_natCast]
def Ss(T:List Row)(L:Lo)(S:HS)(m:Nat):V:=match bL T m S with
 |none=>.non
 |some j=>.ref (L.nd j)
def XS(R:Rep)(TR:Hr.j8)(eu:HC)(C:eh):Sp:=λvs H Q _=>∃(T:List Row) (L:Lo) (a:FS) (D:Dy) (S:HS) (i:Nat),vs=[.ref (L.nd i)]/\Rp R TR eu T L a D S H/\i<T.length/\T.length<=64/\fk T i=false/\bx eu T i=C/\∀D' H',Goes R TR eu T L a D H D' S H'->Q (Ss T L S i) H'
def Oe(u:iA TR)(T:Txt mg)(p:aR P w K mg dX 2 "not_off" (jF R TR eu false (λT _ _ us=>us=[]/\T.length<=64) (λ_ _ S=>S) (λT S i=>.int ((bh T i S:Nat):Int))) λC=>C=eu.cM)(g:CS K eu.cM)
  (F:aG K "last_left" "MinderStanding.last_left" dF dV f fd) {C:eh} (l:C=eu.cM):zFn P w K mg dX 3 f fd Ph (XS R TR eu C):=by
 have a:=p.d
 rcases f9,(aa (bB (i:=1) f9.nd (aB Gj (au (pv 0) rfl) (jD (pv 0) a)))
   (ae (ar (oS (gy qp (pv 1) ag) (gj aA (au (pv 0) rfl) (aB A7 (acB PySem.F.plainAttrs_int PySem.F.slot_int_bit_length PySem.F.type_int_bit_length Cg (pv 1)) ag)) fG)))) with⟨U,L,FT,D,S,i,rfl,h,hi,h64,hl,e0,k⟩
 have c:CS K (bx eu U i):=by rwa[e0,l]
 have n:=br h hi hl;lk;erw[a8 n c.cl c.leaving rfl ?_];lk;erw[iJ (L.nd i) _ _ _ _ ([]) (fT rfl n ⟨e0.trans l,rfl,rfl⟩ rfl ?_)];erw[l9 U L FT D S i ([]) (jm rfl ⟨rfl,h64⟩ h hi hl rfl (λr o j=>?_))];have t:=br j.rp hi hl;have mi:=j.rp.mi i hi;lk;have lt:(S.nd i).cw &&& bh U i S<2^(kids U i).length:=ry akC (oO _ _);have k:Q (Ss U L S i) o:=k r o j;unfold Ss bL at k;have b:=JB (S.nd i).cw (bh U i S);generalize (S.nd i).cw &&& bh U i S=left at k lt b;erw[bA (λe=>?_) (λe=>?_)]
 .have e:(!decide (V.int (wh ((S.nd i).cw:Int) (bh U i S:Int))=V.int 0))=true:=e
  have e:left≠0:=λz=>by
   rw[fK (show V.int (wh ((S.nd i).cw:Int) (bh U i S:Int))=V.int 0 by rw[b,z];rfl)] at e;cases e
  rw[eJ e] at k;have m:=adA e lt;have q:(ai6 (wh ((S.nd i).cw:Int) (bh U i S:Int)):Int)-1=((aj2 left:Nat):Int):=by rw[b,YS left e];lia
  lk;erw[a8 t c.cl c.uE rfl ?_];lk;erw[hh (L.mi i) _ _ (V.ref (L.nd (kids U i)[aj2 left])) (fT rfl (hI V.int q) (eZ.of mi) (bY (by rw[hV,gx m];rfl)) ?_)];rw[gx m] at k;erw[k]
 .have e:left=0:=by
   by_cases z:left=0
   .exact z
   .exact absurd (show(!decide (V.int (wh ((S.nd i).cw:Int) (bh U i S:Int))=V.int 0))=true by
     rw[ik (λy=>z (by have:=V.int.inj y;rw[b] at this;lia))]
     rfl) e
  rw[eT e] at k;erw[k]
open PySem L2 Shp Nm Tr Hs Hm Hr PySem.NumText
def p8:ak Ph Ph (ah eG):=by kt_ors
abbrev pR:List Str:=["self","standing","word","place"]
abbrev gU:List Str:=["self","standing","word"]
def gn:ak pR gU (ah dP):=by kt_ors
abbrev nG:List Str:=["self","clock","child"]
def fJ:ak nG yu (ah cX):=by kt_ors
abbrev pX:List Str:=["self","standing","clock","pair"]
abbrev gY:List Str:=["self","standing","clock"]
def gz:ak pX gY (ah dJ):=by kt_ors
abbrev pF:List Str:=["self","coming"]
def fV:ak pF Ph (ah dD):=by kt_ors
def kf:ak vV vV (ah cx):=by kt_ors
abbrev Xl:List Str:=["falls","clock","span"]
def Vn:ak Xl Xl (ah JJ):=by kt_ors
abbrev Ru:List Str:=["falls","clock","span","most"]
def O7:ak Ru Ru (ah AJ):=by kt_ors
structure MK(P:hD)(w:gT)(K:fD)(mg:Str->Option ez)(dX:gm)(R:Rep)(Cl:Nat->eh->Prop):Prop where
 I:If P w K mg dX 3 R Cl
 fld:∀{H:Hp} {a:eh} {s:Sh},R H a s->∃Cc dx fs,H a=some (.ins Cc dx fs)/\CF K Cc/\fs.lookup ("name":Str)=some (.str s.name)/\(s.kind<3->fs.lookup ("grace":Str)=some (.int s.bK)/\fs.lookup ("slow":Str)=some (.int s.cC))/\(3<=s.kind->fs.lookup ("most":Str)=some (.int s.bK)/\fs.lookup ("span":Str)=some (.int s.cC))
 bg:aR P w K mg dX 3 "begun_again" (NA R) λC=>∃j,Cl j C
 en:aR P w K mg dX 3 "end_at" (Lv R) λC=>∃j,j<3/\Cl j C
 ch:aR P w K mg dX 3 "chosen" (yk R) λC=>∃j,3<=j/\Cl j C
def UB(g:iA TR)(l:aR P w K mg dX 2 "go_down" (jF R TR eu false (λT _ _ us=>us=[]/\T.length<=64) (λT i S=>up S i (goDown T i)) o7) λC=>C=eu.cM)(F:aG K "give_up" "MinderStanding.give_up" eG dV f fd){C:eh}(n:C=eu.cM)(j:CS K C):
  zFn P w K mg dX 3 f fd Ph (jF R TR eu false (λT _ _ us=>us=[]/\T.length<=64) giveUp o7 C):=by
 have a:=l.d
 rcases p8,(aa (aI (pv 0) cc rfl)
   (ae (aC (jD (pv 0) a)))) with⟨U,L,FT,D,S,i,us,rfl,⟨rfl,h64⟩,h,hi,hl,e0,k⟩
 subst e0;have o:=br h hi hl;lk;erw[cb o j.cl j.Gg (by show 12<1000;decide) ?_];have c:=lg g h hi hl (λd=>{d with rD:=true}) rfl rfl;have b:=br c.rp hi hl;erw[ix rfl (iJ (L.nd i) _ _ _ _ ([]) (fT rfl b ⟨n,rfl,rfl⟩ rfl ?_))];erw[l9 U L FT D _ i ([]) (jm rfl ⟨rfl,h64⟩ c.rp hi hl rfl (λr m p=>?_))];erw[k r m ?_];have q:=c.trans p
 have e:up (up S i λd=>{d with rD:=true}) i (goDown U i)=giveUp U i S:=by
  rw[Ls]
  rfl
 rwa[<- e]
def OZ(R:Rep)(TR:Hr.j8)(eu:HC)(a:List Row->HS->Nat->Nat->List V->Prop)(next:List Row->Nat->Nat->HS->HS)(ans:List Row->HS->Nat->Nat->V)(C:eh):Sp:=λvs H Q _=>∃(T:List Row) (L:Lo) (b:FS) (D:Dy) (S:HS) (m i:Nat) (us:List V),vs=.ref (L.nd m):: .ref (L.nd i)::us/\a T S m i us/\Rp R TR eu T L b D S H/\m<T.length/\fk T m=false/\i<T.length/\par T i=some m/\T.length<=64∧
 bx eu T m=C/\∀D' H',Goes R TR eu T L b D H D' (next T m i S) H'->Q (ans T S m i) H'
def Z9(a k:Nat):(a &&& 2^k=0)↔hX a k=false:=by
 constructor
 .intro z;have:=hI (λx=>hX x k) z;rw[yp,Nat.testBit_two_pow_self,amS,aie] at this;erw[this]
 .intro z;erw[ah8 λj=>?_];rw[yp,aie,ajZ];by_cases e:k=j
  .rw[<- e,z]
   rfl
  .rw[ik e,aiU]
def L7(a k:Nat):wh (a:Int) ((2^k:Nat):Int)=0↔hX a k=false:=by
 rw[JB,<-Z9]
 exact_mod_cast Iff.rfl
def Ho(T:List Row){i m:Nat}(b:i<T.length)(a:par T i=some m):f7 T i<(kids T m).length:=by
 unfold f7 kids;rw[a]
 have:((gG (i+1)).filter λj=>decide (par T j=some m)).length<=((gG T.length).filter λj=>decide (par T j=some m)).length:=
  ((List.range_sublist.mpr b).filter _).length_le
 rw[zB,qH,iv,rj,eT (fK a)] at this;erw[this]
def ZF(p:iA TR)(T:Txt mg)(o:aR P w K mg dX 1 "is_off" (qd R TR eu) λC=>C=eu.cL\/C=eu.cM)(j:CS K eu.cL)(b:CS K eu.cM)(u:iu P w K mg dX true 1 "bit" Lg [])(F:aG K "to_be_answered" "MinderStanding.to_be_answered" cx dV f fd){C:eh}(t:C=eu.cM):
  zFn P w K mg dX 2 f fd vV (OZ R TR eu (λ_ _ _ _ us=>us=[]) (λ_ _ _ S=>S) (λT S m i=>.bl (toBe T m i S)) C):=by
 have a:=o.d;rcases kf,(ae (ar (uK (jD (pv 1) a) (rm (vd bM (aB Gj (au (pv 0) rfl) (cz u {au (pv 1) rfl})) ag))))) with⟨U,L,B,D,S,m,i,us,rfl,rfl,h,v,y,g,r,A,q,k⟩;have n:CS K (bx eu U m):=by rwa[q,t]
 have c:CS K (bx eu U i):=by
  unfold bx
  split
  .exact j
  .exact b
 have x:=br h v y;have l:=h.cells (.nd i) g;have pl:=Ho U g r;have G:=sv U m;have k:Q (.bl (toBe U m i S)) H:=k D H (Goes.refl h);unfold toBe at k;lk;erw[iJ (L.nd i) _ _ _ _ ([]) (fT rfl l ⟨?_,rfl,rfl⟩ (by unfold jE;cases fk U i<;>rfl) ?_)]
 .unfold bx
  split
  .exact .inl rfl
  .exact .inr rfl
 erw[iJ U L B D S i (fT rfl h g rfl ?_)];cases ho:cK S i with
 |false=>
  rw[ho] at k;lk;erw[k]
 |true=>
  rw[ho] at k;lk;erw[a8 x n.cl n.good rfl ?_];lk;erw[a8 l c.cl c.place (xW _ _) ?_];lk;erw[⟨(),?_⟩];lk
  have e:decide (V.int (wh ((S.nd m).good:Int) ((2^f7 U i:Nat):Int))=V.int 0)= !Nat.testBit (S.nd m).good (f7 U i):=by
   have:=L7 (S.nd m).good (f7 U i);cases hb:hX (S.nd m).good (f7 U i) with
   |true=>exact ik λz=>by rw[this.mp (V.int.inj z)] at hb;cases hb
   |false=>erw[fK (hI V.int (this.mpr hb))]
  show Q (.bl (decide (V.int (wh ((S.nd m).good:Int) ((2^f7 U i:Nat):Int))=V.int 0))) H;rwa[e]
theorem ad2(a b:Nat):aju (a:Int) (b:Int)=((a ||| b:Nat):Int):=VE a b
def Yf(R:Rep)(TR:Hr.j8)(eu:HC)(C:eh):Sp:=λvs H Q E=>∃wd,isWord wd/\OZ R TR eu (λ_ S m _ us=>us=[.str wd]/\(S.nd m).wait.length<sizeLine) (λT m i S=>lB T m i wd S) (λ_ _ _ _=>.non) C vs H Q E
def aaA(l:iA TR)(T:Txt mg){Cl:Nat->eh->Prop}(x:MK P w K mg dX R Cl)(t:CS K eu.cL)(o:CS K eu.cM)(Z:iu P w K mg dX true 1 "bit" Lg [])(F:aG K "note_end" "MinderStanding.note_end" dP dV f fd){C:eh}(Y:C=eu.cM):
  zFn P w K mg dX 4 f fd gU (Yf R TR eu C):=by
 have a:=x.bg.d
 rcases gn,(aa (bB (i:=3) gn.nd (cz Z {au (pv 1) rfl}))
   (ae (aH (cU (ba (j0 (au (pv 1) rfl) a {pv 2}))) (ae (aI (pv 0) (aB ae0 (au (pv 0) rfl) (pv 3)) rfl)) (ae (aH (PW.pt (dA (gy qp (au (pv 0) rfl) aj) (cQ (gy bM (aB Gj (au (pv 0) rfl) (pv 3)) ag)))) (ae (aC (fI rB wx vq cA (au (pv 0) rfl) {pv 1}))) aw))))) with⟨wd,hw,U,L,FT,D,S,m,i,us,rfl,⟨rfl,hwl⟩,h,hm,hl,hi,hp,h64,e0,k⟩
 have c:CS K (bx eu U m):=by rwa[e0,Y]
 have g:CS K (bx eu U i):=by
  unfold bx
  split
  .exact t
  .exact o
 have hn:=br h hm hl;have v:=h.cells (.nd i) hi;have pl:=Ho U hi hp;have kl:=sv U m;obtain⟨oc,n,B⟩:=h.ch i hi;obtain⟨Cc,N,X,J,O,c3,c4,W,c6,c7⟩:=x.I.inst (B H n);have k:∀D' H',Goes R TR eu U L FT D H D' (lB U m i wd S) H'->Q .non H':=k;unfold lB at k;lk;erw[a8 v g.cl g.place (xW _ _) ?_];lk;erw[⟨(),?_⟩];lk;erw[a8 v g.cl g.child (wz _ _) ?_];lk;erw[eF J ⟨⟨_,O⟩,rfl,rfl⟩ W ?_];erw[ix rfl (m8 (L.ch i) N X (sh U i) wd (fT rfl (B H n) J hw (λM G=>?_)))];have r:=h.same l G;have b:=br r hm hl;have q:=Goes.same l h G;cases hb:begun (sh U i) wd with
 |false=>
  rw[eT hb] at k;lk;erw[a8 b c.cl c.good rfl ?_];lk;erw[cb b c.cl c.good (by show 12<1000;decide) ?_]
  change Q .non (upd M (L.nd m) (.ins (bx eu U m) (L.dn m) (lh "good" (V.int (aju ((S.nd m).good:Int) ((2^f7 U i:Nat):Int))) (mn U L (S.nd m) m++nS (D.fa m) (D.wa m) (S.nd m)))))
  rw[ad2];erw[k D _ (q.trans (lg l r hm hl (λd=>{d with good:=d.good ||| 2^f7 U i}) rfl rfl))]
 |true=>
  rw[eJ (by rw[hb];decide)] at k;lk;erw[a8 b c.cl c.state rfl ?_];lk;erw[bA (λe=>?_) (λe=>?_)]
  .have e:(S.nd m).st≠"down":=λz=>by
    have e:(!decide (V.str (S.nd m).st=V.str "down"))=true:=e;rw[fK (hI V.str z)] at e;cases e
   lk;erw[a8 b c.cl c.bu rfl ?_];lk;have u:=L7 (S.nd m).com (f7 U i);erw[bA (λe2=>?_) (λe2=>?_)]
   .have e2:=u.mp (V.int.inj (gD e2));rw[eT ⟨e,e2⟩] at k;have p:=r.cells (.wa m) ⟨hm,hl⟩;lk;erw[m8 (L.nd m) _ _ _ _ (jm rfl b c.cl c.waiting rfl (.inl ⟨rfl,_,eZ.of p⟩) ?_)];lk;erw[ml _ _ _ (fT rfl rfl p (by rwa[fC]) ?_)];have A:=r.ab6 l hm hl ((S.nd m).wait++[i]);rw[js] at A;erw[k D _ ?_];have g3:=q.trans A
    have e3:(up S m λd=>{d with wait:=d.wait++[i]})=up S m λd=>{d with wait:=(S.nd m).wait++[i]}:=by
     unfold up
     congr 1
     funext j
     by_cases z:j=m
     .rw[eT z,eT z,z]
     .rw[eJ z,eJ z]
    rwa[e3]
   .have e2:¬hX (S.nd m).com (f7 U i)=false:=λz=>e2 (fK (hI V.int (u.mpr z)));rw[eJ (λz=>e2 z.2)] at k;erw[k D _ q]
  .have e:(S.nd m).st="down":=by
    by_cases z:(S.nd m).st="down"
    .exact z
    .exact absurd (show(!decide (V.str (S.nd m).st=V.str "down"))=true by rw[ik (λy=>z (V.str.inj y))];rfl) e
   rw[eJ (λz=>z.1 e)] at k;erw[k D _ q]
def Ib(K:fD):Sp:=λvs H Q _=>∃(p:eh) (c s:Int) (ns:List Int),vs=[.ref p,.int c,.int s]/\eZ K H p (ns.map V.int)/\ns.length<sizeLine/\∀(q:eh) (H':Hp),aL H H'->H q=none->H' q=some (.lst ((bT c s ns).map V.int))->Q (.ref q) H'
theorem AQ(c sp:Int)(ns:List Int):(bT c sp ns).length<=ns.length:=AL _ _
def V7(F:aG K "recent" "recent" JJ dV f fd)(T:Txt mg):zFn P w K mg dX 1 f fd Xl (Ib K):=by
 rcases Vn,(ae (ar (nM (x:="turn") (fr:=[("span",2),("clock",1)]) (by kd_p) rfl (ke (pv 0)) (λ_ _ _ _=>(DF (Gd oI (aB A7 (pv 2) (pv 0)) (pv 1) (HE _)))) (λ_ _ _ _=>(pv 0))))) with⟨p,c,sp,ns,rfl,a,h,k⟩;lk;erw[⟨⟨_,a⟩,dq (J:=Yn K p) (n:=ns.length) (λi ys H'=>H'=H/\ys=(bT c sp (ns.take i)).map V.int) ⟨rfl,rfl⟩ ?_ ?_ ?_ ?_⟩]
 .rintro i ys H' hi ⟨rfl,rfl⟩;exact⟨_,V.int ns[i],a,by rw[hV,gx hi];rfl⟩
 .rintro ys H' ⟨rfl,rfl⟩;exact⟨_,a,by rw[fC];erw[fx _]⟩
 .rintro i ys H' v H2 hi ⟨rfl,rfl⟩ ⟨rfl,b⟩;have b:=b _ a;rw[hV,gx hi] at b;obtain rfl:V.int ns[i]=v:=hH b
  have tk:bT c sp (ns.take (i+1))=bT c sp (ns.take i)++(if c-ns[i]<sp then [ns[i]] else []):=by
   unfold bT;rw[Cb,gx hi,qH];by_cases z:c-ns[i]<sp<;>simp[z]
  lk;erw[bA (λe=>?_) (λe=>?_)]
  .have e:c-ns[i]<sp:=gD e;lk;refine⟨?_,?_⟩
   .have:=AQ c sp (ns.take i);rw[fC];rw[uU] at this
    lia
   .refine ⟨rfl,?_⟩;rw[tk,eT e,js]
    rfl
  .have e:¬c-ns[i]<sp:=λz=>e (fK z);erw[⟨rfl,?_⟩];rw[tk,eJ e,ov]
 .rintro ys H' ⟨rfl,rfl⟩;rw[Bn];erw[⟨?_,λq g=>k q _ (aq g) g af⟩];have:=AQ c sp ns;rw[fC]
  lia
def Ld(K:fD):Sp:=λvs H Q _=>∃(p:eh) (c s m:Int) (ns:List Int),vs=[.ref p,.int c,.int s,.int m]/\eZ K H p (ns.map V.int)/\ns.length<sizeLine/\∀H',aL H H'->Q (.bl (decide (m<((bT c s ns).length:Int)+1))) H'
def QO(F:aG K "too_many" "too_many" AJ dV f fd)(T:Txt mg)(i:iu P w K mg dX true 1 "recent" (Ib K) []):zFn P w K mg dX 2 f fd Ru (Ld K):=by
 rcases O7,(ae (ar (vd Cp (aB fR (aO aE ⋯ T.dH cg {cz i {pv 0,pv 1,pv 2}}) ag) (pv 3)))) with⟨p,c,sp,m,ns,rfl,h,e,k⟩;lk;erw[hh p c sp ns (kb rfl h e (λq j g b a=>?_))];lk;erw[hY q _ (jl rfl (.inl (eZ.of a)) ?_)];lk;rw[fC];erw[k _ g]
def MR(c sp:Int)(ns:List Int):bT c sp (bT c sp ns)=bT c sp ns:=by
 unfold bT;rw[ajf]
 congr 1
 funext x
 cases decide (c-x<sp)<;>rfl
def Oa(R:Rep)(TR:Hr.j8)(eu:HC)(C:eh):Sp:=λvs H Q _=>∃(T:List Row) (L:Lo) (a:FS) (D:Dy) (S:HS) (m:Nat),vs=[.ref (L.nd m),.int S.clk]/\(S.nd m).ay.length<sizeLine/\Rp R TR eu T L a D S H/\m<T.length/\fk T m=false/\bx eu T m=C/\∀D' H',Goes R TR eu T L a D H D' (aJ T m S).2 H'->Q (.bl (aJ T m S).1) H'
def Vi(r:iA TR)(T:Txt mg){Cl:Nat->eh->Prop}(Y:MK P w K mg dX R Cl)(x:CS K eu.cM)(sG:iu P w K mg dX true 1 "recent" (Ib K) [])(M:iu P w K mg dX true 2 "too_many" (Ld K) [])(F:aG K "has_enough" "MinderStanding.has_enough" cX dV f fd){C:eh}(Z:C=eu.cM):
  zFn P w K mg dX 3 f fd yu (Oa R TR eu C):=by
 rcases fJ,(aa (bB (i:=2) fJ.nd (au (pv 0) rfl))
   (aa (aH (gy oI (aO aE ⋯ T.dH cg {au (pv 0) rfl}) (au (pv 2) rfl)) (ae (ar cc)) aw)
   (aa (aI (pv 0) (cz sG {au (pv 0) rfl,pv 1,au (pv 2) rfl}) rfl)
   (ae (ar (cz M {au (pv 0) rfl,pv 1,au (pv 2) rfl,au (pv 2) rfl})))))) with⟨U,L,FT,D,S,m,rfl,hfl,h,hm,hl,e0,k⟩
 have a:CS K (bx eu U m):=by rwa[e0,Z]
 have o:=br h hm hl;obtain⟨oc,u,hR⟩:=h.ch m hm;obtain⟨J,O,X,A,b,c3,c4,W⟩:=Y.fld (hR H u)
 have N:3<=(sh U m).kind:=by
  have:¬(sh U m).kind<3:=yV hl
  lia
 obtain⟨cm,B⟩:=W N;have l:=h.cells (.fa m) ⟨hm,hl⟩;unfold aJ at k;lk;erw[a8 o a.cl a.child rfl ?_];lk;erw[a8 o a.cl a.ay rfl ?_];lk;erw[hY (D.fa m) _ (jl rfl (.inl (eZ.of l)) ?_)];lk;erw[a8 A b.cl b.n6 cm ?_];lk;rw[fC];erw[bA (λe=>?_) (λe=>?_)]
 .have e:((S.nd m).ay.length:Int)<(sh U m).bK:=gD e;rw[eT e] at k;erw[k D H (Goes.refl h)]
 .have e:¬((S.nd m).ay.length:Int)<(sh U m).bK:=λz=>e (fK z);rw[eJ e] at k;dsimp only at k;lk;erw[a8 o a.cl a.ay rfl ?_];lk;erw[a8 A b.cl b.n7 B ?_];erw[hh (D.fa m) S.clk _ _ (kb rfl (eZ.of l) hfl (λq g y G n=>?_))];have j:=h.aeu r hm hl G y (bT S.clk (sh U m).cC (S.nd m).ay) n;rw[yw hl,show({D with fa:=fh D.fa m q}:Dy).fa m=q from bH _ _ _] at j;have v:=y _ _ o;lk;refine cb v a.cl a.ay (by show 12<1000;decide) ?_
  change vT _ _ _ _ (upd g (L.nd m) (.ins (bx eu U m) (L.dn m) (mn U L (S.nd m) m++nS q (D.wa m) (S.nd m))))
  have j:Goes R TR eu U L FT D H {D with fa:=fh D.fa m q} (up S m λd=>{d with ay:=bT S.clk (sh U m).cC (S.nd m).ay}) (upd g (L.nd m) (.ins (bx eu U m) (L.dn m) (mn U L (S.nd m) m++nS q (D.wa m) (S.nd m)))):=j;have I:(upd g (L.nd m) (.ins (bx eu U m) (L.dn m) (mn U L (S.nd m) m++nS q (D.wa m) (S.nd m)))) (L.nd m)=some (.ins (bx eu U m) (L.dn m) (mn U L (S.nd m) m++nS q (D.wa m) (S.nd m))):=af;have t:L.ch m≠L.nd m:=Ne.symm ((h.tM (.nd m) hm).2.1 m hm).2;have c:(upd g (L.nd m) (.ins (bx eu U m) (L.dn m) (mn U L (S.nd m) m++nS q (D.wa m) (S.nd m)))) (L.ch m)=some (.ins J O X):=by rw[ai t];erw[y _ _ A]
  have p:(upd g (L.nd m) (.ins (bx eu U m) (L.dn m) (mn U L (S.nd m) m++nS q (D.wa m) (S.nd m)))) q=some (.lst ((bT S.clk (sh U m).cC (S.nd m).ay).map V.int)):=by rwa[ai (Ne.symm (ao o G))]
  generalize upd g (L.nd m) (.ins (bx eu U m) (L.dn m) (mn U L (S.nd m) m++nS q (D.wa m) (S.nd m)))=H2 at j I c p;lk;erw[a8 I a.cl a.ay rfl ?_];lk;erw[a8 c b.cl b.n7 B ?_];lk;erw[a8 c b.cl b.n6 cm ?_];erw[m8 q S.clk _ _ _ (kb rfl (eZ.of p) (ry (AQ _ _ _) hfl) (λH3 s3=>?_))];rw[MR];have e2:(up S m λd=>{d with ay:=bT S.clk (sh U m).cC (S.nd m).ay})=up S m λd=>{d with ay:=bT S.clk (sh U m).cC (S.nd m).ay}:=rfl;erw[k _ H3 (j.trans (Goes.same r j.rp s3))]
def KO{n ct:Nat}(h:n<2^ct):cJ (λk=>hX n k) ct=n:=by
 refine(Bd λk=>?_).symm;by_cases a:k<ct
 .rw[fK a,za]
 .rw[ik a,ED];erw[akY (pD h (aiZ ∅ ()))]
def UO{S:HS}{m i:Nat}(b:i<T.length)(a:par T i=some m):hX (bh T m S) (f7 T i)= !cK S i:=by
 unfold bh;rw[aU,xv b a,fK (Ho T b a)]
 rfl
def Rr(r:iA TR)(T:Txt mg){Cl:Nat->eh->Prop}(Z:MK P w K mg dX R Cl)(hN:aR P w K mg dX 2 "not_off" (jF R TR eu false (λT _ _ us=>us=[]/\T.length<=64) (λ_ _ S=>S) (λT S i=>.int ((bh T i S:Nat):Int))) λC=>C=eu.cM)(N:CS K eu.cL)(t:CS K eu.cM)
  (F:aG K "turn_for" "MinderStanding.turn_for" dJ dV f fd) {C:eh} (hC:C=eu.cM):
  zFn P w K mg dX 4 f fd gY (OZ R TR eu (λT S m i us=>us=[.int S.clk]/\(S.nd m).ay.length<sizeLine/\(S.nd m).good<2^(kids T m).length/\toBe T m i S=true) iZ (λ_ _ _ _=>.non) C):=by
 have a:=hN.d;have c:=Z.ch.d
 rcases gz,(aa (bB (i:=3) gz.nd (j0 (au (pv 0) rfl) c {au (pv 1) rfl,aO aE ⋯ T.dH cg {au (pv 0) rfl},jD (pv 0) a,au (pv 0) rfl}))
   (aa (aC (fI rB wx vq cA (au (pv 0) rfl) {pv 2}))
   (aa (aI (pv 0) aj rfl)
   (aa (aI (pv 0) (gj bW (pv 3) ag) rfl)
   (ae (aI (pv 0) (gj bW (pv 3) ag) rfl)))))) with⟨U,L,FT,D,S,m,i,us,rfl,⟨rfl,hfl,hgd,htb⟩,h,hm,hl,hi,hp,h64,e0,k⟩
 have b:CS K (bx eu U m):=by rwa[e0,hC]
 have x:CS K (bx eu U i):=by
  unfold bx
  split
  .exact N
  .exact t
 have O:=br h hm hl;have hj:=h.cells (.nd i) hi;have mi:=h.mi m hm;have pl:=Ho U hi hp;have kl:=sv U m
 have X:3<=(sh U m).kind:=by
  have:¬(sh U m).kind<3:=yV hl
  lia
 obtain⟨oc,G,hR⟩:=h.ch m hm;obtain⟨Cc,dc,fc,c1,c2,c3,c4,c5,c6,c7⟩:=Z.I.inst (hR H G);have k:∀D' H',Goes R TR eu U L FT D H D' (iZ U m i S) H'->Q .non H':=k;unfold iZ EV at k;dsimp only at k;unfold toBe at htb;rw[kE,aib] at htb;lk;erw[a8 O b.cl b.child rfl ?_];lk;erw[eF c1 ⟨⟨_,X,c2⟩,rfl,rfl⟩ c7 ?_];lk;erw[a8 hj x.cl x.place (xW _ _) ?_];lk;erw[a8 O b.cl b.uE rfl ?_];lk;erw[hY (L.mi m) _ (jl rfl (.inl (eZ.of mi)) ?_)];rw[fC];lk;erw[iJ (L.nd m) _ _ _ _ ([]) (fT rfl O ⟨e0.trans hC,rfl,rfl⟩ rfl ?_)];erw[l9 U L FT D S m ([]) (jm rfl ⟨rfl,h64⟩ h hm hl rfl (λo H1 u=>?_))];have n1:=br u.rp hm hl;obtain⟨ab,y,M⟩:=u.rp.ch m hm;have W:=u.kp _ _ (λl v z=>((h.tM l v).2.1 m hm).2 z.symm) c1;lk;erw[a8 n1 b.cl b.good rfl ?_];have lt:bh U m S<2^(kids U m).length:=oO _ _;erw[⟨L.ch m,dc,fc,sh U m,f7 U i,(kids U m).length,λk=>hX (bh U m S) k,λk=>hX (S.nd m).good k,by rw[KO lt,KO hgd];rfl,M H1 y,W,X,pl,(),?_,htb.2,λq A s2 hq e=>?_⟩]
 .show hX (bh U m S) (f7 U i)=false;rw[UO hi hp,htb.1]
  rfl
 have B:=u.trans (Goes.same r u.rp s2);have n2:=br B.rp hm hl;have n:=B.rp.cells (.fa m) ⟨hm,hl⟩;generalize Shp.gN (sh U m).kind (f7 U i) (kids U m).length (λk=>hX (bh U m S) k)=pa at k e;generalize anew (sh U m).kind (f7 U i) (kids U m).length (λk=>hX (S.nd m).good k)=pb at k e;lk;erw[m8 (L.nd m) _ _ _ _ (jm rfl n2 b.cl b.ay rfl (.inl ⟨rfl,_,eZ.of n⟩) ?_)];lk;erw[ml _ _ _ (fT rfl rfl n (by rwa[fC]) ?_)];have qf:q≠o.fa m:=λz=>by rw[z] at e;rw[show (Lb.fa m).at L o=o.fa m from rfl,e] at n;cases n
 have p:=B.trans (B.rp.aep r hm hl ((S.nd m).ay++[S.clk]));rw[js] at p
 change vT _ _ _ _ (upd A (o.fa m) (.lst ((S.nd m).ay.map V.int++[V.int S.clk])))
 have p:Goes R TR eu U L FT D H o (up S m λd=>{d with ay:=(S.nd m).ay++[S.clk]}) (upd A (o.fa m) (.lst ((S.nd m).ay.map V.int++[V.int S.clk]))):=p;have g:(upd A (o.fa m) (.lst ((S.nd m).ay.map V.int++[V.int S.clk]))) q=some (.tup [.int ((pa:Nat):Int),.int ((pb:Nat):Int)]):=by rwa[ai qf]
 generalize upd A (o.fa m) (.lst ((S.nd m).ay.map V.int++[V.int S.clk]))=H3 at p g;have J:=br p.rp hm hl;rw[av] at J;lk;erw[cb J b.cl b.state (by show 12<1000;decide) ?_];have qn:q≠L.nd m:=λz=>by rw[z,J] at g;cases g
 lk;erw[hh q _ _ _ (fT rfl rfl (iq.of (by rwa[ai qn])) rfl ?_)];lk;erw[cb af b.cl b.leaving (by show 12<1000;decide) ?_];rw[aW];lk;erw[hh q _ _ _ (fT rfl rfl (iq.of (by rwa[ai qn])) rfl ?_)];lk;erw[cb af b.cl b.bu (by show 12<1000;decide) ?_];rw[aW];have Y:=p.trans (lg r p.rp hm hl (λd=>{d with st:="turning",cw:=pa,com:=pb}) rfl rfl);rw[Ls,av] at Y;erw[k o _ ?_]
 have e4:(up S m λd=>{d with ay:=d.ay++[S.clk],st:="turning",cw:=pa,com:=pb})=up S m λd=>{ ({d with ay:=(S.nd m).ay++[S.clk]}:Nd) with st:="turning",cw:=pa,com:=pb}:=by
  unfold up
  congr 1
  funext j
  by_cases z:j=m
  .rw[eT z,eT z,z]
  .rw[eJ z,eJ z]
 rwa[e4]
def Xr(R:Rep)(TR:Hr.j8)(eu:HC)(C:eh):Sp:=λvs H Q _=>∃(T:List Row) (L:Lo) (a:FS) (D:Dy) (S:HS) (m:Nat),vs=[.ref (L.nd m)]/\Rp R TR eu T L a D S H/\m<T.length/\T.length<=64/\fk T m=false/\bx eu T m=C∧
 ∀H' q,Goes R TR eu T L a D H D (up S m aV) H'->H q=none->H' q=some (.lst ((bu T m S).map λj=>V.ref (L.nd j)))->Q (.ref q) H'
def PX(o:iA TR)(T:Txt mg)(u:CS K eu.cL)(l:CS K eu.cM)(X:iu P w K mg dX true 1 "bit" Lg [])(N:iu P w K mg dX true 1 "without" yE [])
  (F:aG K "turn_back" "MinderStanding.turn_back" dD dV f fd) {C:eh} (W:C=eu.cM):zFn P w K mg dX 2 f fd Ph (Xr R TR eu C):=by
 rcases fV,(aa (bB (i:=1) fV.nd (cz N {au (pv 0) rfl,au (pv 0) rfl}))
   (aa (aI (pv 0) aj rfl)
   (aa (aI (pv 0) ag rfl)
   (aa (aI (pv 0) ag rfl)
   (ae (ar (nM (x:="each") (fr:=[("coming",1)]) (by kd_p) rfl (ke (au (pv 0) rfl)) (λ_ _ _ _=>(DF (Gd qp (aB Gj (pv 1) (Il X (hr.mono (by omega)) ⋯ sk {Bz (K0:=K) rfl (pv 0) ⋯})) ag (HE _)))) (λ_ _ _ _=>(pv 0))))))))) with⟨U,L,FT,D,S,m,rfl,h,hm,h64,hl,e0,k⟩
 have a:CS K (bx eu U m):=by rwa[e0,W]
 have g:∀j,CS K (bx eu U j):=λj=>by
  unfold bx
  split
  .exact u
  .exact l
 have A:=br h hm hl;have Y:=sv U m;lk;erw[a8 A a.cl a.bu rfl ?_];lk;erw[a8 A a.cl a.good rfl ?_];erw[hY ((S.nd m).com) ((S.nd m).good) ⟨rfl,?_⟩];lk;erw[cb A a.cl a.state (by show 12<1000;decide) ?_];lk;erw[cb af a.cl a.leaving (by show 12<1000;decide) ?_];rw[aW];lk;erw[cb af a.cl a.bu (by show 12<1000;decide) ?_];rw[aW];have c:=lg o h hm hl aV rfl rfl;have I:∀q,(upd H (L.nd m) (.ins (bx eu U m) (L.dn m) (mn U L (aV (S.nd m)) m++nS (D.fa m) (D.wa m) (aV (S.nd m))))) q=none->H q=none:=c.al;lk;have b:=c.rp.mi m hm;erw[a8 af a.cl a.uE rfl ?_];lk;erw[⟨⟨_,eZ.of b⟩,?_⟩]
 change Po _ _ _ _ _ (upd H (L.nd m) (.ins (bx eu U m) (L.dn m) (mn U L (aV (S.nd m)) m++nS (D.fa m) (D.wa m) (aV (S.nd m))))) _
 generalize upd H (L.nd m) (.ins (bx eu U m) (L.dn m) (mn U L (aV (S.nd m)) m++nS (D.fa m) (D.wa m) (aV (S.nd m))))=H1 at c I b;erw[dq (J:=Yn K (L.mi m)) (n:=(kids U m).length) (λt ys H'=>H'=H1/\ys=(((kids U m).take t).filter λj=>hX (S.nd m).com (f7 U j)&& !Nat.testBit (S.nd m).good (f7 U j)).map λj=>V.ref (L.nd j)) ⟨rfl,rfl⟩ ?_ ?_ ?_ ?_]
 .rintro t ys H' ht ⟨rfl,_⟩;exact⟨_,V.ref (L.nd (kids U m)[t]),eZ.of b,by rw[hV,gx ht];rfl⟩
 .rintro ys H' ⟨rfl,_⟩;exact⟨_,eZ.of b,by rw[fC];erw[fx _]⟩
 .rintro t ys H' v H2 ht ⟨rfl,rfl⟩ ⟨rfl,p⟩;have p:=p _ (eZ.of b);rw[hV,gx ht] at p;obtain rfl:V.ref (L.nd (kids U m)[t])=v:=hH p;obtain⟨k1,k2,k3⟩:=JA (gx ht);have tk:(kids U m).take (t+1)=(kids U m).take t++[(kids U m)[t]]:=by rw[Cb,gx ht];rfl
  have G:=c.rp.cells (.nd (kids U m)[t]) k3;have M:(((kids U m).take t).filter λj=>hX (S.nd m).com (f7 U j)&& !Nat.testBit (S.nd m).good (f7 U j)).length<=64:=je (AL _ _) (by rw[uU];lia);generalize (kids U m)[t]=j at k1 k2 k3 G tk;lk;erw[a8 G ((g j).cl) ((g j).place) (xW _ _) ?_];lk;erw[⟨by rw[k1];lia,?_⟩];lk;have r:=L7 ((S.nd m).com &&& ((S.nd m).com ^^^ (S.nd m).good)) (f7 U j)
  have O:hX ((S.nd m).com &&& ((S.nd m).com ^^^ (S.nd m).good)) (f7 U j)=(hX (S.nd m).com (f7 U j)&& !Nat.testBit (S.nd m).good (f7 U j)):=by
   rw[yp,RN];cases hX (S.nd m).com (f7 U j)<;>cases hX (S.nd m).good (f7 U j)<;>rfl
  rw[O] at r;erw[bA (λe=>?_) (λe=>?_)]
  .have e:(hX (S.nd m).com (f7 U j)&& !Nat.testBit (S.nd m).good (f7 U j))=true:=by
    have e:(!decide (V.int (wh (((S.nd m).com &&& ((S.nd m).com ^^^ (S.nd m).good):Nat):Int) ((2^f7 U j:Nat):Int))=V.int 0))=true:=e;cases z:(hX (S.nd m).com (f7 U j)&& !Nat.testBit (S.nd m).good (f7 U j)) with
    |true=>rfl
    |false=>rw[fK (hI V.int (r.mpr z))] at e;cases e
   lk;erw[⟨by rw[fC];exact aP (),rfl,?_⟩];rw[tk,qH,rj,eT e,js]
   rfl
  .have e:(hX (S.nd m).com (f7 U j)&& !Nat.testBit (S.nd m).good (f7 U j))=false:=by
    cases z:(hX (S.nd m).com (f7 U j)&& !Nat.testBit (S.nd m).good (f7 U j)) with
    |false=>rfl
    |true=>erw[absurd (show(!decide (V.int (wh (((S.nd m).com &&& ((S.nd m).com ^^^ (S.nd m).good):Nat):Int) ((2^f7 U j:Nat):Int))=V.int 0))=true by rw[ik (λy=>by rw[r.mp (V.int.inj y)] at z;cases z)];rfl) e]
   erw[⟨rfl,?_⟩];rw[tk,qH,rj,eJ (by rw[e];decide),FH,ov]
 .rintro ys H' ⟨rfl,rfl⟩;rw[Bn];have M:(bu U m S).length<=64:=je (AL _ _) ();erw[⟨by rw[fC];exact tL (aP (je M ∅)),λq B=>?_⟩];erw[k _ q (c.trans (Goes.same o c.rp (aq B))) (I q B) af]
open PySem L2 Shp Nm Tr Hs Hm Hr PySem.NumText
abbrev Dc:List Str:=["self","tree"]
def Ca:ak Dc Dc (ah kY):=by kt_ors
def zD:ak vV Ph (ah uc):=by kt_ors
abbrev L3:List Str:=["self","name","standing"]
def zG:ak L3 P4 (ah ue):=by kt_ors
abbrev Mm:List Str:=["self","top"]
def zY:ak Mm Ph (ah uf):=by kt_ors
def yo:ak L3 P4 (ah qZ):=by kt_ors
def Oi:ak Ph Ph (ah Af):=by kt_ors
def Ki:ak Ph Ph (ah u9):=by kt_ors
def qO:ak P4 P4 (ah eX):=by kt_ors
abbrev Kj:List Str:=["self","word","standing"]
def I0:ak Kj Kj (ah rK):=by kt_ors
abbrev JM:List Str:=["self","standing","each"]
def xX:ak JM vV (ah qU):=by kt_ors
def Kw:ak vV vV (ah ur):=by kt_ors
def FA:ak gU gU (ah oC):=by kt_ors
abbrev GD:List Str:=["self","end"]
def vA:ak GD Ph (ah oP):=by kt_ors
abbrev Bg:List Str:=["self","standing","word","minder"]
def rT:ak Bg gU (ah kn):=by kt_ors
abbrev uA:List Str:=["self","minder","standing"]
abbrev jR:List Str:=["self","minder"]
def jz:ak uA jR (ah fB):=by kt_ors
def FL:ak uA uA (ah oQ):=by kt_ors
abbrev Dp:List Str:=["self","minder","last"]
def qF:ak Dp jR (ah kW):=by kt_ors
def lI:ak uA jR (ah ia):=by kt_ors
abbrev aaS:List Str:=["tree"]
def Xk:ak aaS aaS (ah Mh):=by kt_ors
structure CH(K:fD)(C:eh):Prop where
 cl:pJ K C
 tree:bb K C "tree"
 Jq:bb K C "clock"
 entries:bb K C "entries"
 ends:bb K C "ends"
 n8:bb K C "standings"
def Ce(R:Rep)(TR:Hr.j8)(eu:HC)(C:eh):Sp:=λvs H Q _=>∃(T:List Row) (L:Lo) (a:FS) (D:Dy) (S:HS) (i:Nat) (wd:Str),vs=[.ref L.x,.str wd,.ref (L.nd i)]/\Rp R TR eu T L a D S H/\eu.cH=C/\i<T.length/\S.book.length<sizeLine/\∀D' H',Goes R TR eu T L a D H D' (write T wd i S) H'->Q .non H'
def mT(a:CS K eu.cL)(b:CS K eu.cM)(U:List Row)(j:Nat):CS K (bx eu U j):=by
 unfold bx
 split
 .exact a
 .exact b
def Yy(m:iA TR){B:Nat->eh->Prop}(A:MK P w K mg dX R B)(l:CS K eu.cL)(e:CS K eu.cM)(a:CH K eu.cH)(F:aG K "write" "House.write" rK dV f fd){C:eh}:zFn P w K mg dX 1 f fd Kj (Ce R TR eu C):=by
 rcases I0,(ae (aC (fI rB wx vq cA (au (pv 0) rfl) {qR {au (pv 0) rfl,pv 1,au (au (pv 2) rfl) rfl}}))) with⟨U,L,W,D,S,i,wd,rfl,h,Y,p,z,k⟩;have n:=h.cells .hs trivial;have b:=h.cells .en trivial;have y:=h.cells (.nd i) p;have c:=mT l e U i;obtain⟨X,g,v⟩:=h.ch i p;obtain⟨I,J,N,G,t,u,Z,M⟩:=A.fld (v H g);lk;erw[m8 L.x _ _ _ _ (jm rfl n a.cl a.entries rfl (.inl ⟨rfl,_,eZ.of b⟩) ?_)];lk;erw[a8 n a.cl a.Jq rfl ?_];lk;erw[a8 y c.cl c.child (wz _ _) ?_];lk;erw[a8 G t.cl t.n1 u ?_];erw[⟨l8 (by show 3<=100;decide),λq j=>?_⟩];have O:=aq (o:= .tup [.int S.clk,.str wd,.str (sh U i).name]) j;have ne:L.en≠q:=ao b j;lk;erw[ml L.en _ _ (fT rfl rfl (by rwa[ai ne]) (by rwa[fC,h.bkl]) ?_)];have r:=h.entry m (q:=q) (S.clk,wd,(sh U i).name) j;rw[js] at r;erw[k _ _ r]
def mz(R:Rep)(TR:Hr.j8)(eu:HC)(a:List Row->Nat->HS->Prop)(b:List Row->Nat->HS->HS)(C:eh):Sp:=λvs H Q _=>∃(T:List Row) (L:Lo) (c:FS) (D:Dy) (S:HS) (i:Nat),vs=[.ref L.x,.ref (L.nd i)]/\Rp R TR eu T L c D S H/\eu.cH=C/\jB T/\Wf T S/\i<T.length/\a T i S/\(b T i S).book.length<sizeLine∧
 ∀D' H',Goes R TR eu T L c D H D' (b T i S) H'->Q .non H'
def DtB(R:Rep)(TR:Hr.j8)(eu:HC)(C:eh)(s:Sp)(a:List V):Prop:=a=[]/\((C=eu.cL/\s=jF R TR eu true Ey oF o7 C)\/(C=eu.cM/\s=jF R TR eu false Ey oF o7 C))
def KY{U:List Row}{L:Lo}{D:Dy}{d:Nd}{i:Nat}{x:Str}(b:(mn U L d i++Sz d).lookup x=none)(a:(mn U L d i++nS (D.fa i) (D.wa i) d).lookup x=none):(jE U L D d i).lookup x=none:=by
 unfold jE;cases fk U i with
 |true=>erw[b]
 |false=>erw[a]
def aaw{U:List Row}{L:Lo}{D:Dy}{d:Nd}{i:Nat}:(jE U L D d i).length<1000:=by
 unfold jE;cases fk U i with
 |true=>show 10<1000;decide
 |false=>show 12<1000;decide
def sD{U:List Row}{i:Nat}(h:fk U i=true):bx eu U i=eu.cL:=by unfold bx;rw[h];rfl
def fH{U:List Row}{i:Nat}(h:fk U i=false):bx eu U i=eu.cM:=by unfold bx;rw[h];rfl
def acw(U:List Row)(i:Nat):∃sp,DtB R TR eu (bx eu U i) sp []/\∀(L:Lo) (a:FS) (D:Dy) (S:HS) (H:Hp) (Q:VK) (E:XK),Rp R TR eu U L a D S H->i<U.length->(∀D' H',Goes R TR eu U L a D H D' (oF U i S) H'->Q .non H')->sp [.ref (L.nd i),.int S.clk] H Q E:=by
 cases hl:fk U i with
 |true=>exact⟨_,⟨rfl,.inl ⟨sD hl,rfl⟩⟩,λL a D S H Q E h b k=>⟨U,L,a,D,S,i,_,rfl,rfl,h,b,hl,rfl,k⟩⟩
 |false=>exact⟨_,⟨rfl,.inr ⟨fH hl,rfl⟩⟩,λL a D S H Q E h b k=>⟨U,L,a,D,S,i,_,rfl,rfl,h,b,hl,rfl,k⟩⟩
def Cq{U:List Row}{d:Nat}(ok:jB U)(l:List Nat)(e:∀j∈l,j<U.length)(a:HS)(b:Wf U a)(t:Nat):Wf U ((l.take t).foldl (λS j=>bf U d j S) a)/\((l.take t).foldl (λS j=>bf U d j S) a).book.length<=(l.foldl (λS j=>bf U d j S) a).book.length:=by
 constructor
 .exact Wf.foldl _ _ (λj c S w=>Wf.bf ok d j S (e j (ajQ c)) w) b
 .have:=sj (l.drop t) ((l.take t).foldl (λS j=>bf U d j S) a) (f:=λS j=>bf U d j S) (λj _ S=>pB d j S);rw[<- aiQ,ajE] at this;erw[this]
def UE(ad:iA TR)(T:Txt mg)(B:CS K eu.cL)(u:CS K eu.cM)(o:CH K eu.cH){n:Nat}(d:Nat)(hn:2<=n)(a:∀C s m,DtB R TR eu C s m->MethAt P w K mg dX (fm P w) true n "begin" C s m)(hW:aR P w K mg dX 1 "write" (Ce R TR eu) λC=>C=eu.cH)
  (hB:aR P w K mg dX n "begin" (mz R TR eu (λT i _=>cj T d i) (λT i S=>bf T d i S)) λC=>C=eu.cH) (F:aG K "begin" "House.begin" qU dV f fd) {C:eh}:
  zFn P w K mg dX (n+1) f fd vV (mz R TR eu (λT i _=>cj T (d+1) i) (λT i S=>bf T (d+1) i S) C):=by
 have iW:=hW.d;have b:=hB.d
 rcases xX,(aa (aC (j0 (pv 1) a {au (pv 0) rfl}))
   (aa (aC (j0 (pv 0) iW {(aj),pv 1}))
   (ae (kj uZ rfl (ke (au (pv 1) rfl)) (cG (i:=2) xX.nd rfl (by k_ne)) (ae (aC (j0 (pv 0) b {pv 2}))))))) with⟨U,L,FT,D,S,i,rfl,h,e0,ok,wf,hi,hdp,M,k⟩
 have hx:=h.cells .hs trivial;have A:=h.cells (.nd i) hi;have p:=mT B u U i;have k:∀D' H',Goes R TR eu U L FT D H D' (bf U (d+1) i S) H'->Q .non H':=k;have M:(bf U (d+1) i S).book.length<sizeLine:=M;lk;obtain⟨sp,hd,N⟩:=acw (R:=R) (TR:=TR) (eu:=eu) U i;erw[iJ (L.nd i) _ _ _ sp ([]) (fT rfl A hd (KY rfl rfl) ?_)];lk;erw[a8 hx o.cl o.Jq rfl ?_];erw[N L FT D S H _ _ h hi (λD1 H1 I=>?_)];have x1:=I.rp.cells .hs trivial;have w1:=wf.oF ok hi;have W:=w1.write "begun" i;have ac:(write U "begun" i (oF U i S)).book.length<=(bf U (d+1) i S).book.length:=sj _ _ λj _ S=>pB d j S;have ab:=df (T:=U) "begun" i (oF U i S);erw[ix rfl (eF x1 ⟨rfl,rfl,rfl⟩ rfl ?_)];lk;erw[l9 U L FT D1 _ i ("begun") (ot rfl I.rp rfl hi () (λG H2 e=>?_))];have e:=I.trans e;have j2:=e.rp.cells (.nd i) hi;have c:=e.rp.mi i hi;have J:∀j∈kids U i,j<U.length:=λj A=>(cY A).1
 have O:∀(l:Lb),vl U l->L.mi i≠l.at L G:=λl v z=>by
  rcases e.fr l v with y|y
  .exact ((h.tM l v).2.1 i hi).1 (by rw[z,y])
  .rw[<- z,h.mi i hi] at y;cases y
 lk;erw[a8 j2 p.cl p.uE (U4 _ _) ?_];lk;erw[⟨⟨_,eZ.of c⟩,?_⟩];erw[uV (n:=(kids U i).length) (λt r H'=>∃g v,Goes R TR eu U L FT G H2 g (((kids U i).take t).foldl (λS j=>bf U d j S) (write U "begun" i (oF U i S))) H'/\r=[some (.ref L.x),some (.ref (L.nd i)),v]) ⟨G,none,Goes.refl e.rp,rfl⟩ ?_ ?_ ?_]
 .rintro t r H' ht ⟨g,v,g3,_⟩;exact⟨_,V.ref (L.nd (kids U i)[t]),eZ.of (g3.kp _ _ O c),by rw[hV,gx ht];rfl⟩
 .rintro t r H' y H3 ht ⟨g,v,g3,rfl⟩ ⟨rfl,q⟩;have q:=q _ (eZ.of (g3.kp _ _ O c));rw[hV,gx ht] at q;obtain rfl:V.ref (L.nd (kids U i)[t])=y:=hH q;have x3:=g3.rp.cells .hs trivial;obtain⟨Z,_⟩:=Cq (d:=d) ok (kids U i) J _ W t;obtain⟨_,X⟩:=Cq (d:=d) ok (kids U i) J _ W (t+1);have Y:(kids U i)[t]∈kids U i:=ve ht
  have tk:((kids U i).take (t+1)).foldl (λS j=>bf U d j S) (write U "begun" i (oF U i S))=bf U d (kids U i)[t] (((kids U i).take t).foldl (λS j=>bf U d j S) (write U "begun" i (oF U i S))):=by
   rw[Cb,gx ht,aiQ]
   rfl
  rw[tk] at X;erw[ix rfl (eF x3 ⟨rfl,rfl,rfl⟩ rfl ?_)];erw[ix rfl (iJ U L FT g _ ((kids U i)[t]) (BS rfl g3.rp rfl ok Z (J _ Y) (hdp _ Y) (ry X M) (λD4 H4 g4=>?_)))];exact⟨D4,_,by rw[tk];exact g3.trans g4,rfl⟩
 .rintro r H' ⟨g,v,g3,rfl⟩;erw[⟨⟨_,eZ.of (g3.kp _ _ O c),by rw[fC];exact fx _⟩,?_⟩];rw[Bn] at g3;erw[k g H' (e.trans g3)]
def Bp(R:Rep)(TR:Hr.j8)(eu:HC)(C:eh):Sp:=λvs H Q _=>∃(T:List Row) (L:Lo) (a:FS) (D:Dy) (S:HS) (i:Nat) (wd:Str),vs=[.ref L.x,.ref (L.nd i),.str wd]/\Rp R TR eu T L a D S H/\eu.cH=C/\S.ends.length<=S.book.length/\i<T.length/\(aX T i wd S).book.length<sizeLine∧
 ∀D' H',Goes R TR eu T L a D H D' (aX T i wd S) H'->Q .non H'
def Vk(b:iA TR)(m:CS K eu.cL)(l:CS K eu.cM)(g:CH K eu.cH)(B:aR P w K mg dX 1 "write" (Ce R TR eu) λC=>C=eu.cH)(F:aG K "end_by" "House.end_by" oC dV f fd){C:eh}:zFn P w K mg dX 2 f fd gU (Bp R TR eu C):=by
 have iW:=B.d
 rcases FA,(ae (aH (gy qp (pv 2) aj) (aa (aI (pv 1) aj rfl)
   (aa (aC (j0 (pv 0) iW {pv 2,pv 1}))
   (ae (aC (fI rB wx vq cA (au (pv 0) rfl) {qR {pv 1,pv 2}}))))) aw)) with⟨U,L,FT,D,S,i,wd,rfl,h,e0,he,hi,c,k⟩
 have J:=h.cells (.nd i) hi;have j:=mT m l U i;unfold aX at k c;lk;erw[bA (λe=>?_) (λe=>?_)]
 .have e:¬wd="":=λz=>by
   have e:(!decide (V.str wd=V.str ""))=true:=e;rw[fK (hI V.str z)] at e;cases e
  rw[eJ e] at k c
  have M:S.book.length+1<sizeLine:=by
   have:=df (T:=U) wd i (up S i λd=>{d with st:="off"});have c:(write U wd i (up S i λd=>{d with st:="off"})).book.length<sizeLine:=c;rw[this] at c;erw[c]
  have n:=h.node b hi (λd=>{d with st:="off"}) rfl rfl
  have I:lh "state" (V.str "off") (jE U L D (S.nd i) i)=jE U L D {S.nd i with st:="off"} i:=by
   unfold jE;cases fk U i<;>rfl
  lk;erw[hh (L.nd i) _ _ _ (ot rfl J j.cl j.state aaw ?_)]
  change vT _ _ _ _ (upd H (L.nd i) (.ins (bx eu U i) (L.dn i) (lh "state" (V.str "off") (jE U L D (S.nd i) i))))
  rw[I];have O:=n.rp.cells .hs trivial;erw[ix rfl (eF O ⟨rfl,rfl,rfl⟩ rfl ?_)];lk;erw[l9 U L FT D _ i wd (ot rfl n.rp rfl hi (by show S.book.length<sizeLine;lia) (λN W a=>?_))];have a:=n.trans a;have A:=a.rp.cells .hs trivial;have p:=a.rp.cells .qu trivial;lk;erw[m8 L.x _ _ _ _ (jm rfl A g.cl g.ends rfl (.inl ⟨rfl,_,eZ.of p⟩) ?_)];lk;erw[⟨l8 (by show 2<=100;decide),λq r=>?_⟩];have G:=aq (o:= .tup [.ref (L.nd i),.str wd]) r;have t:=Goes.same b a.rp G;have ne:L.qu≠q:=ao p r;have v:N.qs.length=S.ends.length:=a.rp.qsl;lk;erw[ml L.qu _ _ (fT rfl rfl (by rwa[ai ne]) (by rw[fC,v];lia) ?_)];have u:=t.rp.Sk b (q:=q) (e:=(i,wd)) af;rw[js] at u;erw[k _ _ (a.trans (t.trans u))]
 .have e:wd="":=by
   by_cases z:wd=""
   .exact z
   .exact absurd (show(!decide (V.str wd=V.str ""))=true by rw[ik (λy=>z (V.str.inj y))];rfl) e
  rw[eT e] at k;erw[k D H (Goes.refl h)]
def GP(ac:iA TR)(T:Txt mg)(W:CS K eu.cL)(O:CS K eu.cM)(ab:CH K eu.cH){n:Nat}(hn:2<=n)(hL:aR P w K mg dX 1 "last_word" (jF R TR eu false uD (λ_ _ S=>S) (λ_ S i=>.str (eR (S.nd i)))) λC=>C=eu.cM)(hE:aR P w K mg dX 2 "end_by" (Bp R TR eu) λC=>C=eu.cH)
  (hK:aR P w K mg dX 2 "turn_back" (Xr R TR eu) λC=>C=eu.cM) (hB:aR P w K mg dX n "begin" (mz R TR eu (λT i _=>cj T 9 i) (λT i S=>bf T 9 i S)) λC=>C=eu.cH) (F:aG K "end_turning" "House.end_turning" ia dV f fd) {C:eh}:
  zFn P w K mg dX (n+1) f fd jR (mz R TR eu (λT i _=>fk T i=false) aS C):=by
 have a:=hL.d;have c:=hE.d;have b:=hK.d;have g:=hB.d;rcases lI,(ae (aH (gy bM (au (pv 1) rfl) aj) (ae (aC (j0 (pv 0) c {pv 1,jD (pv 1) a}))) (ae (kj uZ rfl (ke (jD (pv 1) b)) (cG (i:=2) lI.nd rfl (by k_ne)) (ae (aC (j0 (pv 0) g {pv 2}))))))) with⟨U,L,G,D,S,i,rfl,h,e0,ok,p,I,u,o,k⟩;have A:=br h I u;have hc:CS K (bx eu U i):=mT W O U i;have hx:=h.cells .hs trivial;have o:(aS U i S).book.length<sizeLine:=o;unfold aS at k o;lk;erw[a8 A hc.cl hc.state rfl ?_];lk;erw[bA (λe=>?_) (λe=>?_)]
 .have e:(S.nd i).st="down":=V.str.inj (gD e);rw[eT e] at k o;lk;erw[eF hx ⟨rfl,rfl,rfl⟩ rfl ?_];lk;erw[iJ (L.nd i) _ _ _ _ ([]) (fT rfl A ⟨fH u,rfl,rfl⟩ rfl ?_)];erw[l9 U L G D S i ([]) (jm rfl rfl h I u rfl (λD1 H1 B=>?_))];erw[l9 U L G D1 S i _ (jm rfl B.rp rfl (by have:=p.wl i;lia) I o (λD2 H2 g2=>k D2 H2 (B.trans g2)))]
 .have e:¬(S.nd i).st="down":=λz=>e (fK (hI V.str z));rw[eJ e] at k o;lk;erw[iJ (L.nd i) _ _ _ _ ([]) (fT rfl A ⟨fH u,rfl,rfl⟩ rfl ?_)];erw[iJ U L G D S i (jm rfl h I ok.n64 u rfl (λH1 q B Z m=>?_))];lk;have w1:Wf U (up S i aV):=p.up (p.wt i) (p.gd i) (p.fl i) (p.wl i) (λz=>by rw[u] at z;cases z);have N:∀j∈bu U i S,j<U.length:=λj A=>(cY (kT A)).1
  have X:∀(l:Lb),vl U l->q≠l.at L D:=λl v z=>by
   rw[z,h.cells l v] at Z;cases Z
  erw[⟨⟨_,eZ.of m⟩,?_⟩];erw[uV (n:=(bu U i S).length) (λt M H'=>∃r v,Goes R TR eu U L G D H1 r (((bu U i S).take t).foldl (λS j=>bf U 9 j S) (up S i aV)) H'/\M=[some (.ref L.x),some (.ref (L.nd i)),v]) ⟨D,none,Goes.refl B.rp,rfl⟩ ?_ ?_ ?_]
  .rintro t M H' ht ⟨r,v,g3,_⟩;exact⟨_,V.ref (L.nd (bu U i S)[t]),eZ.of (g3.kp _ _ X m),by rw[hV,gx ht];rfl⟩
  .rintro t M H' y H3 ht ⟨r,v,g3,rfl⟩ ⟨rfl,J⟩;have J:=J _ (eZ.of (g3.kp _ _ X m));rw[hV,gx ht] at J;obtain rfl:V.ref (L.nd (bu U i S)[t])=y:=hH J;have x3:=g3.rp.cells .hs trivial;obtain⟨w3,_⟩:=Cq (d:=9) ok (bu U i S) N _ w1 t;obtain⟨_,Y⟩:=Cq (d:=9) ok (bu U i S) N _ w1 (t+1);have km:(bu U i S)[t]∈bu U i S:=ve ht
   have tk:((bu U i S).take (t+1)).foldl (λS j=>bf U 9 j S) (up S i aV)=bf U 9 (bu U i S)[t] (((bu U i S).take t).foldl (λS j=>bf U 9 j S) (up S i aV)):=by
    rw[Cb,gx ht,aiQ]
    rfl
   rw[tk] at Y;erw[ix rfl (eF x3 ⟨rfl,rfl,rfl⟩ rfl ?_)];erw[ix rfl (iJ U L G r _ ((bu U i S)[t]) (BS rfl g3.rp rfl ok w3 (N _ km) (ok.deep _ (N _ km)) (ry Y o) (λD4 H4 g4=>?_)))];exact⟨D4,_,by rw[tk];exact g3.trans g4,rfl⟩
  .rintro M H' ⟨r,v,g3,rfl⟩;erw[⟨⟨_,eZ.of (g3.kp _ _ X m),by rw[fC];exact fx _⟩,?_⟩];rw[Bn] at g3;erw[k r H' (B.trans g3)]
def Pm(M:iA TR)(T:Txt mg)(m:CS K eu.cL)(l:CS K eu.cM)(G:CH K eu.cH){n:Nat}(d:Nat)(N:3<=n)(A:aR P w K mg dX 3 "last_left" (XS R TR eu) λC=>C=eu.cM)
  (J:aR P w K mg dX n "end_turning" (mz R TR eu (λT i _=>fk T i=false) aS) λC=>C=eu.cH) (I:aR P w K mg dX n "tell" (mz R TR eu (λT i _=>cj T d i) (λT i S=>cP T d i S)) λC=>C=eu.cH) (F:aG K "put_away" "House.put_away" kW dV f fd) {C:eh}:
  zFn P w K mg dX (n+1) f fd jR (mz R TR eu (λT i _=>fk T i=false/\cj T (d+1) i) (λT i S=>aM T d i S) C):=by
 have b:=A.d;have a:=J.d;have c:=I.d
 rcases qF,(aa (bB (i:=2) qF.nd (jD (pv 1) b))
   (ae (aH (gy DS (pv 2) fG) (ae (aC (j0 (pv 0) a {pv 1}))) (ae (aH (cU (ba (au (pv 2) rfl))) (ae (aC (j0 (pv 0) c {pv 2}))) aw))))) with⟨U,L,FT,D,S,i,rfl,h,e0,ok,wf,hi,⟨hl,hdp⟩,e,k⟩
 have B:=br h hi hl;have O:CS K (bx eu U i):=mT m l U i;have e:(aM U d i S).book.length<sizeLine:=e;have k:∀D' H',Goes R TR eu U L FT D H D' (aM U d i S) H'->Q .non H':=k;unfold aM at k e;lk;erw[iJ (L.nd i) _ _ _ _ ([]) (fT rfl B ⟨fH hl,rfl,rfl⟩ rfl ?_)];erw[iJ U L FT D S i (jm rfl h hi ok.n64 hl rfl (λt z g=>?_))];have y:=g.rp.cells .hs trivial;unfold Ss;cases hll:bL U i S with
 |none=>
  rw[hll] at k e;lk;erw[eF y ⟨rfl,rfl,rfl⟩ rfl ?_];erw[ix rfl (iJ U L FT t S i (BS rfl g.rp rfl ok wf hi hl e (λr p u=>k r p (g.trans u))))]
 |some j=>
  rw[hll] at k e;dsimp only at k e;have x:=lQ hll;have v:=(cY x).1;have o:CS K (bx eu U j):=mT m l U j;have q:=g.rp.cells (.nd j) v;lk;erw[a8 q o.cl o.asked (Ir _ _) ?_];cases ha:(S.nd j).asked with
  |true=>
   rw[ha] at k;lk;erw[k t z g]
  |false=>
   rw[ha] at k e;lk;erw[eF y ⟨rfl,rfl,rfl⟩ rfl ?_];erw[ix rfl (iJ U L FT t S j (BS rfl g.rp rfl ok wf v (hdp j x) e (λr p u=>k r p (g.trans u))))]
def DtT(R:Rep)(TR:Hr.j8)(eu:HC)(C:eh)(s:Sp)(a:List V):Prop:=a=[]/\((C=eu.cL/\s=jF R TR eu true uD bj o7 C)\/(C=eu.cM/\s=jF R TR eu false (λT _ _ us=>us=[]/\T.length<=64) bj o7 C))
def adD(U:List Row)(c:U.length<=64)(i:Nat):∃sp,DtT R TR eu (bx eu U i) sp []/\∀(L:Lo) (a:FS) (D:Dy) (S:HS) (H:Hp) (Q:VK) (E:XK),Rp R TR eu U L a D S H->i<U.length->(∀D' H',Goes R TR eu U L a D H D' (bj U i S) H'->Q .non H')->sp [.ref (L.nd i)] H Q E:=by
 cases hl:fk U i with
 |true=>exact⟨_,⟨rfl,.inl ⟨sD hl,rfl⟩⟩,λL a D S H Q E h b k=>⟨U,L,a,D,S,i,_,rfl,rfl,h,b,hl,rfl,k⟩⟩
 |false=>exact⟨_,⟨rfl,.inr ⟨fH hl,rfl⟩⟩,λL a D S H Q E h b k=>⟨U,L,a,D,S,i,_,rfl,⟨rfl,c⟩,h,b,hl,rfl,k⟩⟩
def Y3(N:iA TR)(T:Txt mg){Cl:Nat->eh->Prop}(Y:MK P w K mg dX R Cl)(y:CS K eu.cL)(x:CS K eu.cM)(ac:CH K eu.cH){n:Nat}(d:Nat)(hn:3<=n)(l:∀C s c,DtT R TR eu C s c->MethAt P w K mg dX (fm P w) true n "tell" C s c)(hW:aR P w K mg dX 1 "write" (Ce R TR eu) λC=>C=eu.cH)
  (hE:aR P w K mg dX 2 "end_by" (Bp R TR eu) λC=>C=eu.cH) (hO:aR P w K mg dX 1 "told_end" (jF R TR eu true uD (λ_ _ S=>S) (λ_ S i=>.str (d0 (S.nd i)))) λC=>C=eu.cL)
  (hP:aR P w K mg dX n "put_away" (mz R TR eu (λT i _=>fk T i=false/\cj T (d+1) i) (λT i S=>aM T d i S)) λC=>C=eu.cH) (F:aG K "tell" "House.tell" ur dV f fd) {C:eh}:
  zFn P w K mg dX (n+1) f fd vV (mz R TR eu (λT i _=>cj T (d+1) i) (λT i S=>cP T (d+1) i S) C):=by
 have iW:=hW.d;have g:=hE.d;have b:=hO.d;have a:=hP.d
 have m:∀C s c,Dt (wJ R) (λC=>∃j,Cl j C) C s c->MethAt P w K mg dX (fm P w) true 3 "leaf" C s c:=by
  rintro C s c ⟨⟨j,z⟩,rfl,rfl⟩;erw[Y.I.leaf z]
 rcases Kw,(aa (aC (j0 (pv 0) iW {(aj),pv 1}))
   (aa (aC (jD (pv 1) l))
   (ae (aH (ba (jD (au (pv 1) rfl) m)) (ae (aC (j0 (pv 0) g {pv 1,jD (pv 1) b}))) (ae (aC (j0 (pv 0) a {pv 1}))))))) with⟨U,L,FT,D,S,i,rfl,h,e0,ok,wf,hi,hdp,o,k⟩
 have hx:=h.cells .hs trivial;have t:=mT y x U i;have o:(cP U (d+1) i S).book.length<sizeLine:=o;have k:∀D' H',Goes R TR eu U L FT D H D' (cP U (d+1) i S) H'->Q .non H':=k;have w1:=wf.write (T:=U) "told" i;have u:=w1.bj (i:=i);have ab:=df (T:=U) "told" i S
 have v:(write U "told" i S).book.length<=(cP U (d+1) i S).book.length:=by
  rw[fA]
  split
  .exact yH (T:=U) i _ (bj U i (write U "told" i S))
  .exact kg (T:=U) d i (bj U i (write U "told" i S))
 rw[fA] at k;rw[fA] at o;erw[ix rfl (eF hx ⟨rfl,rfl,rfl⟩ rfl ?_)];lk;erw[l9 U L FT D S i ("told") (ot rfl h rfl hi (by rw[fA] at v;lia) (λD1 H1 A=>?_))];have j1:=A.rp.cells (.nd i) hi;obtain⟨sp,hd,M⟩:=adD (R:=R) (TR:=TR) (eu:=eu) U ok.n64 i;lk;erw[iJ (L.nd i) _ _ _ sp ([]) (fT rfl j1 hd (KY rfl rfl) ?_)];erw[M L FT D1 _ H1 _ _ A.rp hi (λX O p=>?_)];have p:=A.trans p;have x2:=p.rp.cells .hs trivial;have j2:=p.rp.cells (.nd i) hi;generalize bj U i (write U "told" i S)=S2 at k o u p j2 x2;obtain⟨oc,r,hR⟩:=p.rp.ch i hi;obtain⟨Cc,dc,fc,c1,c2,c3,c4,c5,c6,c7⟩:=Y.I.inst (hR O r);lk;erw[a8 j2 t.cl t.child (wz _ _) ?_];lk;erw[eF c1 ⟨⟨_,c2⟩,rfl,rfl⟩ c4 ?_];erw[hh (L.ch i) dc fc (sh U i) (kb rfl (hR O r) c1 (λH3 s3=>?_))];have q:=p.trans (Goes.same N p.rp s3);have Z:=q.rp.cells .hs trivial;erw[⟨_,rfl,?_⟩];erw[bA (λe=>?_) (λe=>?_)]
 .have hl:fk U i=true:=e;rw[hl] at k o;have j3:=nU q.rp hi hl;lk;erw[eF Z ⟨rfl,rfl,rfl⟩ rfl ?_];lk;erw[iJ (L.nd i) _ _ _ _ ([]) (fT rfl j3 ⟨sD hl,rfl,rfl⟩ rfl ?_)];erw[l9 U L FT X S2 i ([]) (jm rfl rfl q.rp hi hl rfl (λD4 H4 W=>?_))];erw[l9 U L FT D4 S2 i _ (jm rfl W.rp rfl (by have:=u.wl i;lia) hi o (λB G J=>k B G (q.trans (W.trans J))))]
 .have hl:fk U i=false:=by
   cases z:fk U i with
   |true=>erw[absurd z e]
   |false=>rfl
  rw[hl] at k o;lk;erw[eF Z ⟨rfl,rfl,rfl⟩ rfl ?_];erw[ix rfl (iJ U L FT X S2 i (BS rfl q.rp rfl ok u hi ⟨hl,hdp⟩ o (λB G J=>k B G (q.trans J))))]
open PySem L2 Shp Nm Tr Hs Hm Hr PySem.NumText
def T7{K:fD}{H:Hp}{a c:eh}{xs:List V}(e:eZ K H a xs)(b:eZ K H c []):tG K H 1 (.ref a) (.ref c) xs.isEmpty:=by
 erw[.inr ⟨a,c,xs,[],rfl,rfl,?_⟩];cases xs with
 |nil=>erw[.inr ⟨.inl ⟨e,b⟩,rfl,λ_=>true,λj h g z=>(by cases z),rfl⟩]
 |cons x r=>erw[.inl ⟨e,b,λz=>(by cases z),rfl⟩]
def afh(n:Nat):seqIndex? 0 (n+1)=some 0:=by
 show(if (decide ((0:Int)<=0)&&decide ((0:Int)<((n+1:Nat):Int)))=true then some (0:Int).toNat else none)=some 0;rw[fK (show(0:Int)<((n+1:Nat):Int) by lia)]
 rfl
def toBe_enough{U:List Row}{S:HS}{m i:Nat}(a:i≠m)(wd:Str)(j:Nat):toBe U m i (write U wd j (aJ U m S).2)=toBe U m i S:=by
 obtain⟨l,e,_⟩:=sr (T:=U) m S;rw[e];unfold toBe cK;show(decide (((up S m λd=>{d with ay:=l}).nd i).st="off")&& !Nat.testBit ((up S m λd=>{d with ay:=l}).nd m).good (f7 U i))=_;rw[bG _ a,av]
def abU(R:Rep)(TR:Hr.j8)(eu:HC)(C:eh):Sp:=λvs H Q _=>∃(T:List Row) (L:Lo) (a:FS) (D:Dy) (S:HS) (m i:Nat),vs=[.ref L.x,.ref (L.nd m),.ref (L.nd i)]/\Rp R TR eu T L a D S H/\eu.cH=C/\jB T/\Wf T S/\i<T.length/\par T i=some m/\toBe T m i S=true/\(answer T m i S).book.length<sizeLine∧
   ∀D' H',Goes R TR eu T L a D H D' (answer T m i S) H'->Q .non H'
def R8(ab:iA TR)(T:Txt mg)(M:CS K eu.cL)(I:CS K eu.cM)(q:CH K eu.cH){n:Nat}(hn:4<=n)(hN:aR P w K mg dX 3 "has_enough" (Oa R TR eu) λC=>C=eu.cM)(hW:aR P w K mg dX 1 "write" (Ce R TR eu) λC=>C=eu.cH)
  (hG:aR P w K mg dX 3 "give_up" (jF R TR eu false (λT _ _ us=>us=[]/\T.length<=64) giveUp o7) λC=>C=eu.cM)
  (hF:aR P w K mg dX 4 "turn_for" (OZ R TR eu (λT S m i us=>us=[.int S.clk]/\(S.nd m).ay.length<sizeLine/\(S.nd m).good<2^(kids T m).length/\toBe T m i S=true) iZ (λ_ _ _ _=>.non)) λC=>C=eu.cM)
  (hP:aR P w K mg dX n "put_away" (mz R TR eu (λT i _=>fk T i=false/\cj T 10 i) (λT i S=>aM T 9 i S)) λC=>C=eu.cH) (F:aG K "answer" "House.answer" oQ dV f fd) {C:eh}:
  zFn P w K mg dX (n+1) f fd uA (abU R TR eu C):=by
 have a:=hN.d;have iW:=hW.d;have g:=hG.d;have b:=hF.d;have c:=hP.d
 rcases FL,(aa (aH (ba (j0 (pv 1) a {au (pv 0) rfl})) (aa (aC (j0 (pv 0) iW {(aj),pv 1}))
   (ae (aC (jD (pv 1) g)))) (aa (aC (j0 (pv 0) iW {(aj),pv 2}))
   (ae (aC (j0 (pv 1) b {pv 2,au (pv 0) rfl})))))
   (ae (aC (j0 (pv 0) c {pv 1})))) with⟨U,L,FT,D,S,m,i,rfl,h,e0,ok,wf,hi,hp,htb,hb,k⟩
 obtain⟨mi,p⟩:=ok.bV hi hp;have r:m<U.length:=IH mi hi;have hx:=h.cells .hs trivial;have hn:=br h r p;have hc:CS K (bx eu U m):=mT M I U m;rw[lj] at hb;rw[lj] at k;have wN:=wf.bI (m:=m) (i:=i) p;have lN:=yb (T:=U) m i S;have lP:=kg (T:=U) 9 m (bI U m i S);have W:=wf.aJ (m:=m);have G:=(qq (T:=U) m S).1;have fb:=wf.fl m;lk;erw[iJ (L.nd m) _ _ _ _ ([]) (fT rfl hn ⟨fH p,rfl,rfl⟩ rfl ?_)];lk;erw[a8 hx q.cl q.Jq rfl ?_];erw[iJ U L FT D S m (jm rfl () h r p rfl (λZ H1 y=>?_))];have Y:=y.rp.cells .hs trivial
 have v:∀t u,Goes R TR eu U L FT D H t (bI U m i S) u->∀J:VK,(∀H',Q .non H'->J .non H')->∀X,mz R TR eu (λT i _=>fk T i=false/\cj T 10 i) (λT i S=>aM T 9 i S) eu.cH [.ref L.x,.ref (L.nd m)] u J X:=λt u j J hQ X=>
  ⟨U,L,FT,t,_,m,rfl,j.rp,rfl,ok,wN,r,⟨p,gO (ok.deep m r)⟩,hb,λA B o=>hQ _ (k A B (j.trans o))⟩
 unfold bI at v;cases hen:(aJ U m S).1 with
 |true=>
  rw[hen] at v;lk;erw[eF Y ⟨rfl,rfl,rfl⟩ rfl ?_];lk;erw[l9 U L FT Z _ m ("gives up") (ot rfl y.rp rfl r (by rw[G];lia) (λt u j=>?_))];have j:=y.trans j;have O:=br j.rp r p;lk;erw[iJ (L.nd m) _ _ _ _ ([]) (fT rfl O ⟨fH p,rfl,rfl⟩ rfl ?_)];erw[l9 U L FT t _ m ([]) (jm rfl ⟨rfl,ok.n64⟩ j.rp r p rfl (λA B o=>?_))];have o:=j.trans o;have N:=o.rp.cells .hs trivial;erw[ix rfl (eF N ⟨rfl,rfl,rfl⟩ rfl ?_)];exact⟨_,rfl,v A B o _ (λ_ z=>z) E⟩
 |false=>
  rw[hen] at v;lk;erw[eF Y ⟨rfl,rfl,rfl⟩ rfl ?_];lk;erw[l9 U L FT Z _ i ("answers") (ot rfl y.rp rfl hi (by rw[G];lia) (λt u j=>?_))];have j:=y.trans j;have O:=br j.rp r p;have x2:=j.rp.cells .hs trivial
  have ck:(aJ U m S).2.clk=S.clk:=by
   obtain⟨l,e,_⟩:=sr (T:=U) m S;rw[e]
   rfl
  lk;erw[iJ (L.nd m) _ _ _ _ ([]) (fT rfl O ⟨fH p,rfl,rfl⟩ rfl ?_)];lk;erw[a8 x2 q.cl q.Jq rfl ?_];have f2:=W.fl m;rw[G] at f2;erw[Ow U L FT t _ m i _ (R3 rfl ⟨rfl,?_,(W.write (T:=U) "answers" i).gd m,by rwa[toBe_enough (ai9 mi)]⟩ j.rp r p hi hp ok.n64 rfl (λA B o=>?_))]
  .show ((aJ U m S).2.nd m).ay.length<sizeLine
   lia
  have o:=j.trans o;have N:=o.rp.cells .hs trivial;erw[ix rfl (eF N ⟨rfl,rfl,rfl⟩ rfl ?_)];exact⟨_,rfl,v A B o _ (λ_ z=>z) E⟩
def Qb(J:iA TR)(T:Txt mg)(W:CS K eu.cL)(O:CS K eu.cM)(ac:CH K eu.cH){n:Nat}(hn:4<=n)(hO:aR P w K mg dX 2 "to_be_answered" (OZ R TR eu (λ_ _ _ _ us=>us=[]) (λ_ _ _ S=>S) (λT S m i=>.bl (toBe T m i S))) λC=>C=eu.cM)
  (hA:aR P w K mg dX n "answer" (abU R TR eu) λC=>C=eu.cH) (F:aG K "answer_waiting" "House.answer_waiting" fB dV f fd) {C:eh}:
  zFn P w K mg dX (n+1) f fd jR (mz R TR eu (λT i _=>fk T i=false) (λT m S=>bt T (S.nd m).wait.length m S) C):=by
 have a:=hO.d;have c:=hA.d
 rcases jz,(ae (Pw uZ (PW.pt (dA (gy bM (au (pv 1) rfl) aj) (cQ (gy (Wr (Te hr)) (au (pv 1) rfl) (aY cS))))) (aa (bB (i:=2) jz.nd (fI rB alf alg Ou (au (pv 1) rfl) {(ag)}))
   (ae (aH (ba (j0 (pv 1) a {pv 2})) (ae (aC (j0 (pv 0) c {pv 1,pv 2}))) aw))))) with⟨U,L,FT,D,S,m,rfl,h,e0,ok,wf,hm,hl,hb,k⟩
 have A:CS K (bx eu U m):=mT W O U m;have k:∀D' H',Goes R TR eu U L FT D H D' (bt U (S.nd m).wait.length m S) H'->Q .non H':=k;have hb:(bt U (S.nd m).wait.length m S).book.length<sizeLine:=hb;erw[⟨λj σ H'=>∃l b v,Goes R TR eu U L FT D H l b H'/\Wf U b/\bt U (b.nd m).wait.length m b=bt U (S.nd m).wait.length m S/\j=(b.nd m).wait.length/\σ=[some (.ref L.x),some (.ref (L.nd m)),v],⟨_,D,S,none,Goes.refl h,wf,rfl,rfl,rfl⟩,?_⟩];rintro j σ H1 ⟨l,b,v,G,w1,e1,rfl,rfl⟩;have n1:=br G.rp hm hl;lk;erw[a8 n1 A.cl A.state rfl ?_];lk;erw[bA (λe=>?_) (λe=>?_)]
 .have e:(b.nd m).st="on":=V.str.inj (gD e);have wa:=G.rp.cells (.wa m) ⟨hm,hl⟩;lk;erw[a8 n1 A.cl A.waiting rfl ?_];lk;erw[⟨l8 (by show 0<=100;decide),λq hq=>?_⟩];have N:=aq (o:= .lst []) hq;have y:=G.trans (Goes.same J G.rp N);lk;erw[hh (l.wa m) q 1 _ (fT rfl rfl ∅ (T7 (eZ.of (N _ _ wa)) (eZ.of af)) ?_)];generalize upd H1 q (.lst [])=H2 at N y;erw[⟨_,rfl,?_⟩];cases hw:(b.nd m).wait with
  |nil=>
   erw[aeS ?_];rw[uk (.inr hw)] at e1;rw[<- e1] at k;erw[k l H2 y]
  |cons i r=>
   erw[ae1 ⟨λX H'=>∃j',j'<(i::r).length/\∃l b v,Goes R TR eu U L FT D H l b H'/\Wf U b/\bt U (b.nd m).wait.length m b=bt U (S.nd m).wait.length m S/\j'=(b.nd m).wait.length/\X=[some (.ref L.x),some (.ref (L.nd m)),v],λ_ _ z=>z,?_⟩];obtain⟨B,I⟩:=NX ok e hw;obtain⟨M,b2⟩:=w1.c9 ok hm hl hw;obtain⟨Z,hp⟩:=w1.wt m i (by rw[hw];erw[ll]);have n2:=br y.rp hm hl;have t:=y.rp.cells (.wa m) ⟨hm,hl⟩;rw[show cont eu U L l b (.wa m)=.lst ((b.nd m).wait.map λj=>V.ref (L.nd j)) from rfl,hw] at t;lk;erw[m8 (L.nd m) _ _ _ _ (jm rfl n2 A.cl A.waiting rfl (.inl ⟨rfl,_,eZ.of t⟩) ?_)];lk;erw[m8 (l.wa m) _ 0 0 (V.ref (L.nd i)) (an8 rfl rfl t ∅ ∅ (afh _) rfl ?_)];have Y:=y.trans (y.rp.ab6 J hm hl r);have ab:=Lz (T:=U) m i r b
   have g:(c9 U m i r b).book.length<sizeLine:=by
    have:=qg (T:=U) ((c9 U m i r b).nd m).wait.length m (c9 U m i r b);rw[<- B,e1] at this
    lia
   have ej:(i::r).length=(b.nd m).wait.length:=by rw[hw]
   change vT _ _ _ _ (upd H2 (l.wa m) (.lst (r.map λj=>V.ref (L.nd j))))
   have n3:=br Y.rp hm hl;erw[ix rfl (iJ (L.nd m) _ _ _ _ ([]) (fT rfl n3 ⟨fH hl,rfl,rfl⟩ rfl ?_))];erw[ix rfl (Ow U L FT l _ m i ([]) (R3 rfl rfl Y.rp hm hl Z hp ok.n64 rfl (λD4 H4 u=>?_)))];have u:=Y.trans u;have x4:=u.rp.cells .hs trivial;unfold c9 at B I M g;erw[⟨_,rfl,?_⟩];erw[bA (λp=>?_) (λp=>?_)]
   .have p:toBe U m i (up b m λd=>{d with wait:=r})=true:=p;rw[eT p] at B I M g;erw[ix rfl (eF x4 ⟨rfl,rfl,rfl⟩ rfl ?_)];lk;erw[l9 U L FT D4 _ m i (R3 rfl u.rp rfl ok b2 Z hp p g (λD5 H5 g5=>?_))];exact⟨_,by rwa[ej],D5,_,_,u.trans g5,M,B.symm.trans e1,rfl,rfl⟩
   .have p:¬toBe U m i (up b m λd=>{d with wait:=r})=true:=p;rw[eJ p] at B I M;exact⟨_,by rwa[ej],D4,_,_,u,b2,B.symm.trans e1,rfl,rfl⟩
 .have e:¬(b.nd m).st="on":=λz=>e (fK (hI V.str z));rw[uk (.inl e)] at e1;rw[<- e1] at k;erw[k l H1 G]
def Zn(R:Rep)(TR:Hr.j8)(eu:HC)(C:eh):Sp:=λvs H Q _=>∃(T:List Row) (L:Lo) (a:FS) (D:Dy) (S:HS) (i:Nat) (wd:Str),vs=[.ref L.x,.ref (L.nd i),.str wd]/\Rp R TR eu T L a D S H/\eu.cH=C/\jB T/\Wf T S/\(∀m,(S.nd m).wait.length+S.ends.length+1<=S.book.length)/\i<T.length/\isWord wd/\(pV T i wd S).book.length<sizeLine∧
 ∀D' H',Goes R TR eu T L a D H D' (pV T i wd S) H'->Q .non H'
def Zo(ad:iA TR)(T:Txt mg)(G:CS K eu.cL)(J:CS K eu.cM)(ab:CH K eu.cH){n:Nat}(hn:4<=n)(hN:aR P w K mg dX 4 "note_end" (Yf R TR eu) λC=>C=eu.cM)
  (hP:aR P w K mg dX n "put_away" (mz R TR eu (λT i _=>fk T i=false/\cj T 10 i) (λT i S=>aM T 9 i S)) λC=>C=eu.cH) (hA:aR P w K mg dX n "answer_waiting" (mz R TR eu (λT i _=>fk T i=false) (λT m S=>bt T (S.nd m).wait.length m S)) λC=>C=eu.cH)
  (F:aG K "hear" "House.hear" kn dV f fd) {C:eh}:zFn P w K mg dX (n+1) f fd gU (Zn R TR eu C):=by
 erw[F.Cv rT λvs H Q E y0=>?_];obtain⟨U,L,M,D,S,i,wd,rfl,h,e0,ok,wf,N,r,hw,hb,k⟩:=y0;erw[⟨rfl,λW A eD s hr=>?_⟩];have g:=mT G J U i;have Z:=h.cells (.nd i) r;have b:=hN.d;have c:=hP.d;have a:=hA.d;cases hp:par U i with
 |none=>
  rw[sE hp] at k
  refine⟨_,(aa (bB (i:=3) rT.nd (au (pv 1) rfl))
   (aa (aH (gy DS (pv 3) fG) (ae TU) aw)
   (aa (aH (cU (ba (au (pv 1) rfl))) (ae (aC (j0 (pv 3) b {pv 1,pv 2}))) aw)
   (aa (aH (gy qp (au (pv 3) rfl) aj) (ae (aC (j0 (pv 0) c {pv 3}))) aw)
   (ae (aC (j0 (pv 0) a {pv 3}))))))),?_⟩
  fin2
  have Y:uI U L i=.non:=by unfold uI;rw[hp]
  lk;erw[a8 Z g.cl g.Nh (IU _ _) ?_];rw[Y];lk;erw[k D H (Goes.refl h)]
 |some m=>
  have Y:uI U L i=.ref (L.nd m):=by unfold uI;rw[hp]
  rw[n9 hp] at k;rw[n9 hp] at hb;obtain⟨mi,o⟩:=ok.bV r hp;have u:m<U.length:=IH mi r;have hc:CS K (bx eu U m):=mT G J U m;have hn:=br h u o;have lA:=qg (T:=U) ((dY U m i wd S).nd m).wait.length m (dY U m i wd S);have w1:=wf.bX (wd:=wd) r hp o (N m);have w2:=wf.dY ok (wd:=wd) r hp (N m)
  have lH:S.book.length<=(dY U m i wd S).book.length:=by
   have e:=Ao (T:=U) m i wd S;unfold dY
   split
   .rw[e];erw[fx _]
   .rw[<- e];erw[kg 9 m _]
  have t3:∃X,nh (vL true (fm P w) P w K mg dX Bg "House.hear" (ah kn) f W A eD s H E).ib ((cR kn).drop 3) X/\∀(q:Dy) (t:Hp),Goes R TR eu U L M D H q (bX U m i wd S) t->X {nx:=λ_ H'=>Q .non H',rt:=Q} [some (.ref L.x),some (.ref (L.nd i)),some (.str wd),some (.ref (L.nd m))] t:=by
   refine⟨_,(aa (aH (gy qp (au (pv 3) rfl) aj) (ae (aC (j0 (pv 0) c {pv 3}))) aw)
   (ae (aC (j0 (pv 0) a {pv 3})))),?_⟩
   fin2
   intro q t l;have n1:=br l.rp u o;have x1:=l.rp.cells .hs trivial
   have j:∀v B,Goes R TR eu U L M D H v (dY U m i wd S) B->∀O:VK,(∀H',Q .non H'->O .non H')->∀E',mz R TR eu (λT i _=>fk T i=false) (λT m S=>bt T (S.nd m).wait.length m S) eu.cH [.ref L.x,.ref (L.nd m)] B O E':=λv B p O hQ E'=>
    ⟨U,L,M,v,_,m,rfl,p.rp,rfl,ok,w2,u,o,hb,λD3 H3 g3=>hQ _ (k D3 H3 (p.trans g3))⟩
   have lP:((bX U m i wd S).nd m).st≠"on"->(aM U 9 m (bX U m i wd S)).book.length<=(dY U m i wd S).book.length:=λz=>by
    unfold dY;rw[eJ z];erw[fx _]
   unfold dY at j;lk;erw[a8 n1 hc.cl hc.state rfl ?_];lk;erw[bA (λe=>?_) (λe=>?_)]
   .have e:((bX U m i wd S).nd m).st≠"on":=λz=>by
     have e:(!decide (V.str ((bX U m i wd S).nd m).st=V.str "on"))=true:=e;rw[fK (hI V.str z)] at e;cases e
    rw[eJ e] at j;lk;erw[eF x1 ⟨rfl,rfl,rfl⟩ rfl ?_];erw[ix rfl (iJ U L M q _ m (BS rfl l.rp rfl ok w1 u ⟨o,gO (ok.deep m u)⟩ (ry (je (lP e) lA) hb) (λv B p=>?_)))];have p:=l.trans p;have x2:=p.rp.cells .hs trivial;erw[ix rfl (eF x2 ⟨rfl,rfl,rfl⟩ rfl ?_)];exact⟨_,rfl,j v B p _ (λ_ z=>z) E⟩
   .have e:((bX U m i wd S).nd m).st="on":=by
     by_cases z:((bX U m i wd S).nd m).st="on"
     .exact z
     .exact absurd (show(!decide (V.str ((bX U m i wd S).nd m).st=V.str "on"))=true by rw[ik (λy=>z (V.str.inj y))];rfl) e
    rw[eT e] at j;erw[ix rfl (eF x1 ⟨rfl,rfl,rfl⟩ rfl ?_)];exact⟨_,rfl,j q t l _ (λ_ z=>z) E⟩
  obtain⟨X,ht,I⟩:=t3
  refine⟨_,(aa (bB (i:=3) rT.nd (au (pv 1) rfl))
   (aa (aH (gy DS (pv 3) fG) (ae TU) aw)
   (aa (aH (cU (ba (au (pv 1) rfl))) (ae (aC (j0 (pv 3) b {pv 1,pv 2}))) aw)
   ht))),?_⟩
  fin2
  unfold bX at I;lk;erw[a8 Z g.cl g.Nh (IU _ _) ?_];rw[Y];lk;erw[a8 Z g.cl g.asked (Ir _ _) ?_];cases ha:(S.nd i).asked with
  |true=>
   rw[ha] at I;lk;erw[I D H (Goes.refl h)]
  |false=>
   rw[ha] at I;have ac:=N m;lk;erw[iJ (L.nd m) _ _ _ _ ([]) (fT rfl hn ⟨fH o,rfl,rfl⟩ rfl ?_)];lk;erw[⟨wd,hw,U,L,M,D,S,m,i,_,rfl,⟨rfl,()⟩,h,u,o,r,hp,ok.n64,rfl,λq t l=>?_⟩];erw[I q t l]
def CM(R:Rep)(TR:Hr.j8)(eu:HC)(C:eh):Sp:=λvs H Q _=>∃(T:List Row) (L:Lo) (a:FS) (D:Dy) (S S':HS) (n:Nat),vs=[.ref L.x]/\Rp R TR eu T L a D S H/\eu.cH=C/\jB T/\Wf T S/\aZ T n S=some S'/\S'.book.length<sizeLine∧
 ∀D' H',Goes R TR eu T L a D H D' S' H'->Q .non H'
def RS(A:iA TR)(T:Txt mg)(ac:CS K eu.cL)(ab:CS K eu.cM)(g:CH K eu.cH){n:Nat}(hn:1<=n)(hA:aR P w K mg dX n "hear" (Zn R TR eu) λC=>C=eu.cH)
  (F:aG K "settle" "House.settle" oP dV f fd) {C:eh}:zFn P w K mg dX (n+1) f fd Ph (CM R TR eu C):=by
 have l:=hA.d
 rcases vA,(ae (Pw uZ (gy (Wr (Te hr)) (au (pv 0) rfl) (aY cS)) (aa (bB (i:=1) vA.nd (fI rB alf alg Ou (au (pv 0) rfl) {(ag)}))
   (ae (aC (j0 (pv 0) l {gj bW (pv 1) ag,gj bW (pv 1) ag})))))) with⟨U,L,FT,D,S,S',fu,rfl,h,e0,ok,wf,hs,hb,k⟩
 erw[⟨λj X H'=>∃c b v,Goes R TR eu U L FT D H c b H'/\Wf U b/\aZ U j b=some S'/\X=[some (.ref L.x),v],⟨fu,D,S,none,Goes.refl h,wf,hs,rfl⟩,?_⟩];rintro j X H1 ⟨c,b,v,u,w1,e1,rfl⟩;have x1:=u.rp.cells .hs trivial;have q1:=u.rp.cells .qu trivial;have B:=u.rp.qsl;lk;erw[a8 x1 g.cl g.ends rfl ?_];lk;erw[⟨l8 (by show 0<=100;decide),λq p=>?_⟩];have G:=aq (o:= .lst []) p;have m:=u.trans (Goes.same A u.rp G);lk;erw[hh L.qu q 1 _ (fT rfl rfl ∅ (T7 (eZ.of (G _ _ q1)) (eZ.of af)) ?_)];generalize upd H1 q (.lst [])=H2 at G m;erw[⟨_,rfl,?_⟩];cases he:b.ends with
 |nil=>
  rw[he] at B;have I:c.qs=[]:=ahE.mp B;rw[I];erw[aeS ?_]
  have e1:b=S':=by
   cases j with
   |zero=>
    unfold aZ at e1;rw[eT he] at e1;erw[hH e1]
   |succ j=>
    unfold aZ at e1;rw[he] at e1;erw[hH e1]
  rw[<- e1] at k;erw[k c H2 m]
 |cons e r=>
  obtain⟨i,wd⟩:=e;cases j with
  |zero=>
   unfold aZ at e1;rw[eJ (by rw[he];erw[λz=>by cases z])] at e1;cases e1
  |succ j=>
   have e1:aZ U j (pV U i wd {b with ends:=r})=some S':=by
    unfold aZ at e1;rw[he] at e1;erw[e1]
   obtain⟨W,O,Y,w5⟩:=w1.pop he;cases p:c.qs with
   |nil=>rw[p,he] at B;cases B
   |cons a qs=>
    erw[ae1 ⟨λJ H'=>∃Z,Z<j+1/\∃c b v,Goes R TR eu U L FT D H c b H'/\Wf U b/\aZ U Z b=some S'/\J=[some (.ref L.x),v],λ_ _ z=>z,?_⟩];have x2:=m.rp.cells .hs trivial;have y:=m.rp.cells .qu trivial;rw[show cont eu U L c b .qu=.lst (c.qs.map V.ref) from rfl,p] at y;have N:=m.rp.qs 0 a (i,wd) (by rw[p];rfl) (by rw[he];rfl);lk;erw[m8 L.x _ _ _ _ (jm rfl x2 g.cl g.ends rfl (.inl ⟨rfl,_,eZ.of y⟩) ?_)];lk;erw[m8 L.qu _ 0 0 (V.ref a) (an8 rfl rfl y ∅ ∅ (afh _) rfl ?_)];have M:=m.trans (m.rp.popped A p he);have x3:=M.rp.cells .hs trivial
    have na:a≠L.qu:=λz=>by
     rw[z] at N;rw[show (Lb.qu).at L c=L.qu from rfl,N] at y;cases y
    have t:(upd H2 L.qu (.lst (qs.map V.ref))) a=some (.tup (XB L (i,wd))):=by rwa[ai na]
    erw[ix rfl (eF x3 ⟨rfl,rfl,rfl⟩ rfl ?_)];lk;erw[hh a _ _ _ (fT rfl rfl (iq.of t) rfl ?_)];lk;erw[hh a _ _ _ (fT rfl rfl (iq.of t) rfl ?_)];have lb:=kN (T:=U) j _ S' e1;erw[l9 U L FT _ _ i wd (R3 rfl M.rp rfl ok W O Y w5 (ry lb hb) (λD4 H4 g4=>?_))];exact⟨j,EU _,D4,_,_,M.trans g4,W.pV ok Y O,e1,rfl⟩
open PySem L2 Shp Nm Tr Hs Hm Hr PySem.NumText
structure TrI(P:hD)(w:gT)(K:fD)(mg:Str->Option ez)(dX:gm)(TR:Hr.j8)(cT:eh):Prop where
 loc:iA TR
 ins:∀{H:Hp} {t:eh} {T:List Row} {FT:FS},TR H t T FT->∃dx fs,H t=some (.ins cT dx fs)/\fs.lookup ("find":Str)=none
 find:aR P w K mg dX 2 "find" (λC vs H Q _=>∃(t:eh) (T:List Row) (FT:FS) (i:Nat),vs=[.ref t,.str (sh T i).name]/\TR H t T FT/\i<T.length/\(T.map (·.sh.name)).Nodup/\C=cT/\∀H',aL H H'->Q (.int (i:Int)) H') λC=>C=cT
def Ju(R:Rep)(TR:Hr.j8)(eu:HC)(C:eh):Sp:=λvs H Q _=>∃(T:List Row) (L:Lo) (a:FS) (D:Dy) (S:HS) (i:Nat),vs=[.ref L.x,.str (sh T i).name]/\Rp R TR eu T L a D S H/\eu.cH=C/\i<T.length/\(T.map (·.sh.name)).Nodup/\∀H',aL H H'->Q (.ref (L.nd i)) H'
def RM{n:eh}(j:TrI P w K mg dX TR n)(T:Txt mg)(a:CH K eu.cH)(F:aG K "standing_called" "House.standing_called" eX dV f fd){C:eh}:zFn P w K mg dX 3 f fd P4 (Ju R TR eu C):=by
 have b:=j.find.d;rcases qO,(ae (ar (gj aA (au (pv 0) rfl) (j0 (au (pv 0) rfl) b {pv 1})))) with⟨U,L,m,D,S,i,rfl,h,q,e,nd,k⟩;have c:=h.cells .hs trivial;obtain⟨o,r,t1,l⟩:=j.ins h.tr;lk;erw[a8 c a.cl a.n8 rfl ?_];lk;erw[a8 c a.cl a.tree rfl ?_];lk;erw[eF t1 ⟨rfl,rfl,rfl⟩ l ?_];erw[ix rfl (hh L.t U m i (ot rfl h.tr e nd rfl (λp g=>?_)))];lk;erw[hh L.sa _ _ (V.ref (L.nd i)) (fT rfl rfl (eZ.of (g _ _ h.sa)) (bY (by rw[hV,zq e];rfl)) (k _ g))]
def YY(R:Rep)(TR:Hr.j8)(eu:HC)(C:eh):Sp:=λvs H Q _=>∃(T:List Row) (L:Lo) (a:FS) (D:Dy) (S:HS) (i:Nat),vs=[.ref L.x,.str (sh T i).name]/\Rp R TR eu T L a D S H/\eu.cH=C/\i<T.length/\(T.map (·.sh.name)).Nodup/\∀H',aL H H'->Q (.str (S.nd i).st) H'
def VX(n:iA TR)(e:CS K eu.cL)(c:CS K eu.cM)(l:aR P w K mg dX 3 "standing_called" (Ju R TR eu) λC=>C=eu.cH)(F:aG K "doing" "House.doing" qZ dV f fd){C:eh}:zFn P w K mg dX 4 f fd P4 (YY R TR eu C):=by
 have a:=l.d
 rcases yo,(aa (bB (i:=2) yo.nd (j0 (pv 0) a {pv 1}))
   (ae (ar (au (pv 2) rfl)))) with⟨U,L,FT,D,S,i,rfl,h,e0,hi,nd,k⟩
 have j:=h.cells .hs trivial;have b:=mT e c U i;lk;erw[eF j ⟨rfl,rfl,rfl⟩ rfl ?_];erw[ix rfl (iJ U L FT D S i (ot rfl h rfl hi nd (λo g=>?_)))];have m:=g _ _ (h.cells (.nd i) hi);lk;exact⟨L.nd i,_,_,_,_,rfl,m,b.cl,b.state,Qc _ _,k _ g⟩
def HZ(T:List Row)(S:HS):List Str:=((gG T.length).filter λi=> !cK S i).map λi=>(sh T i).name
def Xq(R:Rep)(TR:Hr.j8)(eu:HC)(C:eh):Sp:=λvs H Q _=>∃(T:List Row) (L:Lo) (a:FS) (D:Dy) (S:HS),vs=[.ref L.x]/\Rp R TR eu T L a D S H/\eu.cH=C/\T.length<=64/\∀(q:eh) (H':Hp),aL H H'->H q=none->H' q=some (.lst ((HZ T S).map V.str))->Q (.ref q) H'
def ad1(y:iA TR){G:Nat->eh->Prop}(B:MK P w K mg dX R G)(l:CS K eu.cL)(j:CS K eu.cM)(b:CH K eu.cH)(u:aR P w K mg dX 1 "is_off" (qd R TR eu) λC=>C=eu.cL\/C=eu.cM)(F:aG K "on" "House.on" Af dV f fd){C:eh}:zFn P w K mg dX 2 f fd Ph (Xq R TR eu C):=by
 have a:=u.d;rcases Oi,(ae (ar (nM (x:="standing") (fr:=[]) (by kd_p) rfl (ke (au (pv 0) rfl)) (λ_ _ _ _=>(DF (cU (ba (gL (pv 0) a (hr.mono (by omega)) sk))))) (λ_ _ _ _=>(Bz (K0:=K) rfl (Bz (K0:=K) rfl (pv 0) ⋯) ⋯))))) with⟨U,L,O,D,S,rfl,h,e0,N,k⟩;have A:=h.cells .hs trivial;lk;erw[a8 A b.cl b.n8 rfl ?_];lk;erw[⟨⟨_,eZ.of h.sa⟩,dq (J:=Yn K L.sa) (n:=U.length) (λt ys H'=>H'=H/\ys=(((gG t).filter λi=> !cK S i).map λi=>(sh U i).name).map V.str) ⟨rfl,rfl⟩ ?_ ?_ ?_ ?_⟩]
 .rintro t ys H' ht ⟨rfl,_⟩;exact⟨_,V.ref (L.nd t),eZ.of h.sa,by rw[hV,zq ht];rfl⟩
 .rintro ys H' ⟨rfl,_⟩;exact⟨_,eZ.of h.sa,by rw[fC,mq];erw[fx _]⟩
 .rintro t ys H' v H2 ht ⟨rfl,rfl⟩ ⟨rfl,e⟩;have e:=e _ (eZ.of h.sa);rw[hV,zq ht] at e;obtain rfl:V.ref (L.nd t)=v:=hH e;have o:=h.cells (.nd t) ht;have c:=mT l j U t;obtain⟨X,g,I⟩:=h.ch t ht;obtain⟨W,Y,fc,M,p,z,c4,Z⟩:=B.fld (I _ g);have r:((gG t).filter λi=> !cK S i).length<=64:=je (AL _ _) (by rw[mq];lia);lk;refine iJ (L.nd t) _ _ _ _ ([]) (fT rfl o ⟨?_,rfl,rfl⟩ (KY rfl rfl) ?_)
  .unfold bx
   split
   .exact .inl rfl
   .exact .inr rfl
  erw[iJ U L O D S t (fT rfl h ht rfl ?_)];cases ho:cK S t with
  |true=>
   lk;rw[zB,qH,rj,eJ (by rw[ho];decide),FH,ov]
  |false=>
   lk;erw[a8 o c.cl c.child (wz _ _) ?_];lk;erw[a8 M p.cl p.n1 z ?_];erw[⟨by rw[fC,fC];exact aP (),rfl,?_⟩];rw[zB,qH,rj,eT (by rw[ho];rfl),js,js]
   rfl
 .rintro ys H' ⟨rfl,rfl⟩
  have r:(HZ U S).length<=64:=by
   unfold HZ;rw[fC];erw[je (AL _ _) (by rw[mq];lia)]
  erw[⟨by rw[fC];exact tL (aP (je r ∅)),λq m=>?_⟩];erw[k q _ (aq m) m af]
def ace(H:Hp)(q:eh)(es:List Ent):Prop:=∃a:List eh,H q=some (.lst (a.map V.ref))/\a.length=es.length/\∀(i:Nat) (x:eh) (e:Ent),a[i]? =some x->es[i]? =some e->H x=some (.tup (QB e))
def Sy{S:Type}(R:HR S)(book:S->List Ent)(C:eh):Sp:=λvs H Q _=>∃(x:eh) (s:S) (F:FS) (a:eh) (fs:List (Str×V)),vs=[.ref x]/\R H x s F/\H x=some (.ins C a fs)∧
 ∀(q:eh) (H':Hp),aL H H'->H q=none->ace H' q (book s)->Q (.ref q) H'
def MA(b:fD)(R:Rep)(TR:Hr.j8)(eu:HC)(C:eh):Sp:=λvs H Q _=>∃(T:List Row) (L:Lo) (a:FS) (D:Dy) (S:HS),vs=[.ref L.x]/\Rp R TR eu T L a D S H/\eu.cH=C/\∀(q:eh) (H':Hp),aL H H'->H q=none->ace H' q S.book->Q (.ref q) H'
def W8(T:Txt mg)(a:CH K eu.cH)(F:aG K "rows" "House.rows" u9 dV f fd){C:eh}:zFn P w K mg dX 1 f fd Ph (MA K R TR eu C):=by
 rcases Ki,(ae (ar (cv NU ⋯ T.YG SE {au (pv 0) rfl}))) with⟨U,L,m,D,S,rfl,h,l,k⟩;have j:=h.cells .hs trivial;have b:=h.cells .en trivial;lk;erw[a8 j a.cl a.entries rfl ?_];lk;erw[hY L.en _ (jl rfl (.inl (eZ.of b)) (λq c=>?_))];have g:=aq (o:= .lst (D.bk.map V.ref)) c;erw[k q _ g c ⟨D.bk,af,h.bkl,λi x e e1 e2=>g _ _ (h.bk i x e e1 e2)⟩]
def DtS(R:Rep)(TR:Hr.j8)(eu:HC)(C:eh)(s:Sp)(a:List V):Prop:=a=[]/\((C=eu.cL/\s=jF R TR eu true Ey (λ_ _ S=>S) (λT S i=>.bl (bO T i S)) C)\/(C=eu.cM/\s=jF R TR eu false Ey (λ_ _ S=>S) (λT S i=>.bl (bO T i S)) C))
def acX(U:List Row)(i:Nat):∃sp,DtS R TR eu (bx eu U i) sp []/\∀(L:Lo) (a:FS) (D:Dy) (S:HS) (H:Hp) (Q:VK) (E:XK),Rp R TR eu U L a D S H->i<U.length->(∀D' H',Goes R TR eu U L a D H D' S H'->Q (.bl (bO U i S)) H')->sp [.ref (L.nd i),.int S.clk] H Q E:=by
 cases hl:fk U i with
 |true=>exact⟨_,⟨rfl,.inl ⟨sD hl,rfl⟩⟩,λL a D S H Q E h b k=>⟨U,L,a,D,S,i,_,rfl,rfl,h,b,hl,rfl,k⟩⟩
 |false=>exact⟨_,⟨rfl,.inr ⟨fH hl,rfl⟩⟩,λL a D S H Q E h b k=>⟨U,L,a,D,S,i,_,rfl,rfl,h,b,hl,rfl,k⟩⟩
def S9(R:Rep)(TR:Hr.j8)(eu:HC)(C:eh):Sp:=λvs H Q _=>∃(T:List Row) (L:Lo) (a:FS) (D:Dy) (S S':HS) (n:Nat),vs=[.ref L.x]/\Rp R TR eu T L a D S H/\eu.cH=C/\jB T/\Wf T S/\By T n S=some S'/\S'.book.length<sizeLine/\∀D' H',Goes R TR eu T L a D H D' S' H'->Q .non H'
def WG(O:iA TR)(T:Txt mg)(ad:CS K eu.cL)(ac:CS K eu.cM)(e:CH K eu.cH){n:Nat}(hn:4<=n)(a:∀C s r,DtS R TR eu C s r->MethAt P w K mg dX (fm P w) true 2 "steps_at" C s r)
  (hP:aR P w K mg dX 4 "step" (jF R TR eu true (λT S i us=>us=[]/\((S.nd i).st≠"told"->0<=(S.nd i).steps/\((sh T i).kind≠0->(S.nd i).steps<=(sh T i).many))) (λT i S=>(cB T i S).2) (λT S i=>.str (cB T i S).1)) λC=>C=eu.cL)
  (hE:aR P w K mg dX 2 "end_by" (Bp R TR eu) λC=>C=eu.cH) (hS:aR P w K mg dX n "settle" (CM R TR eu) λC=>C=eu.cH) (F:aG K "turn" "House.turn" uc dV f fd) {C:eh}:zFn P w K mg dX (n+1) f fd Ph (S9 R TR eu C):=by
 have j:=hP.d;have c:=hE.d;have g:=hS.d
 rcases zD,(aa (yF (pv 0) ag X3)
   (ae (kj uZ rfl (ke (au (pv 0) rfl)) (cG (i:=1) zD.nd rfl (by k_ne)) (ae (aH (ba (j0 (pv 1) a {au (pv 0) rfl})) (aa (aC (j0 (pv 0) c {pv 1,jD (pv 1) j}))
   (ae (aC (jD (pv 0) g)))) aw))))) with⟨U,L,FT,D,S,S',fu,rfl,h,e0,ok,wf,hs,hb,k⟩
 have Z:=h.cells .hs trivial;lk;erw[a8 Z e.cl e.Jq rfl ?_];lk;erw[⟨_,_,Z,by show 5<1000;decide,?_⟩];have q:=h.tick O (S.clk+1);have eH:upd H L.x (.ins eu.cH L.dx (lh "clock" (V.int (S.clk+1)) (zJ L S)))=upd H L.x (.ins eu.cH L.dx (zJ L {S with clk:=S.clk+1})):=rfl;rw[eH];generalize upd H L.x (.ins eu.cH L.dx (zJ L {S with clk:=S.clk+1}))=H1 at q;have Y:=q.rp.cells .hs trivial;have w1:Wf U {S with clk:=S.clk+1}:=wf.tick _;have hs:(gG U.length).foldlM (λS i=>eI U fu i S) {S with clk:=S.clk+1}=some S':=hs;generalize ({S with clk:=S.clk+1}:HS)=S1 at q Y w1 hs;have N:∀(l:Lb),vl U l->L.sa≠l.at L D:=λl v z=>(h.tM l v).1 z.symm;have m:=q.rp.sa;lk;erw[a8 Y e.cl e.n8 rfl ?_];lk;erw[⟨⟨_,eZ.of m⟩,?_⟩];erw[uV (n:=U.length) (λt G H'=>∃p b v,Goes R TR eu U L FT D H1 p b H'/\Wf U b/\((gG U.length).drop t).foldlM (λS i=>eI U fu i S) b=some S'/\G=[some (.ref L.x),v]) ⟨D,S1,none,Goes.refl q.rp,w1,hs,rfl⟩ ?_ ?_ ?_]
 .rintro t G H' ht ⟨p,b,v,g2,_⟩;exact⟨_,V.ref (L.nd t),eZ.of (g2.kp _ _ N m),by rw[hV,zq ht];rfl⟩
 .rintro t G H' y H3 ht ⟨p,b,v,g2,w2,e2,rfl⟩ ⟨rfl,A⟩;have A:=A _ (eZ.of (g2.kp _ _ N m));rw[hV,zq ht] at A;obtain rfl:V.ref (L.nd t)=y:=hH A
  have dr:(gG U.length).drop t=t::(gG U.length).drop (t+1):=by
   rw[ah4 (by rwa[mq]),alO]
  rw[dr,aif] at e2;have j2:=g2.rp.cells (.nd t) ht;have x2:=g2.rp.cells .hs trivial;obtain⟨sp,hd,M⟩:=acX (R:=R) (TR:=TR) (eu:=eu) U t;lk;erw[iJ (L.nd t) _ _ _ sp ([]) (fT rfl j2 hd (KY rfl rfl) ?_)];lk;erw[a8 x2 e.cl e.Jq rfl ?_];erw[M L FT p b _ _ _ g2.rp ht (λD3 H3 o=>?_)];have o:=g2.trans o;rw[tT] at e2;erw[⟨_,rfl,?_⟩];erw[bA (λst=>?_) (λst=>?_)]
  .have st:bO U t b=true:=st;rw[eT st] at e2;have wE:=w2.fY ht st;cases es:aZ U fu (fY U t b) with
   |none=>rw[es] at e2;cases e2
   |some J=>
    rw[es] at e2;have e2:((gG U.length).drop (t+1)).foldlM (λS i=>eI U fu i S) J=some S':=e2;have W:=SH (T:=U) _ _ _ e2;have l3:=kN (T:=U) _ _ _ es
    have I:fk U t=true:=by
     unfold bO at st;rw[kE,kE] at st;erw[st.1.1]
    have ho:(b.nd t).st≠"off":=by
     unfold bO at st;rw[kE,kE,aib] at st;erw[yV st.1.2]
    have j3:=nU o.rp ht I;have x3:=o.rp.cells .hs trivial;lk;erw[eF x3 ⟨rfl,rfl,rfl⟩ rfl ?_];lk;erw[iJ (L.nd t) _ _ _ _ ([]) (fT rfl j3 ⟨sD I,rfl,rfl⟩ rfl ?_)];erw[l9 U L FT D3 b t ([]) (jm rfl ⟨rfl,λz=>w2.st t I ho z⟩ o.rp ht I rfl (λD4 H4 B=>?_))];have B:=o.trans B;have X:=alQ (T:=U) t b;have ab:=w2.wl t;erw[l9 U L FT D4 _ t _ (jm rfl B.rp rfl (by rw[X.1,X.2];lia) ht (ry (je l3 W) hb) (λD5 H5 u=>?_))];have u:=B.trans u;have x5:=u.rp.cells .hs trivial;erw[ix rfl (eF x5 ⟨rfl,rfl,rfl⟩ rfl ?_)];erw[l9 U L FT D5 _ J fu (an8 rfl u.rp rfl ok wE es (ry W hb) (λD6 H6 g6=>?_))];exact⟨D6,J,_,u.trans g6,(Wf.settle ok _ _ _ es wE).1,e2,rfl⟩
  .have st:¬bO U t b=true:=st;rw[eJ st] at e2;exact⟨D3,b,_,o,w2,e2,rfl⟩
 .rintro G H' ⟨p,b,v,g2,w2,e2,rfl⟩;rw[akX (by rw[mq];erw[fx _])] at e2;have e2:b=S':=hH e2;subst e2;erw[⟨⟨_,eZ.of (g2.kp _ _ N m),by rw[fC,mq];exact fx _⟩,?_⟩];erw[k p H' (q.trans g2)]
def To(R:Rep)(TR:Hr.j8)(eu:HC)(b:eh)(C:eh):Sp:=λvs H Q E=>∃(T:List Row) (L:Lo) (a:FS) (D:Dy) (S:HS),vs=[.ref L.x]/\Rp R TR eu T L a D S H/\eu.cH=C/\jB T/\Wf T S/\S.ends=[]∧
 (cK S 0=true->E (.ref b) none H)/\(cK S 0=false->∃(n:Nat) (S':HS),EA T n S=some S'/\S'.book.length<sizeLine/\∀D' H',Goes R TR eu T L a D H D' S' H'->Q .non H')
def WN(ab:iA TR)(T:Txt mg){p:eh}(O:mg "NotOn"=some (.ref p))(B:Ec K p)(m:CS K eu.cL)(l:CS K eu.cM)(e:CH K eu.cH){n:Nat}(hn:4<=n)(y:aR P w K mg dX 1 "is_off" (qd R TR eu) λC=>C=eu.cL\/C=eu.cM)
  (hT:aR P w K mg dX n "tell" (mz R TR eu (λT i _=>cj T 10 i) (λT i S=>cP T 10 i S)) λC=>C=eu.cH) (X:aR P w K mg dX n "settle" (CM R TR eu) λC=>C=eu.cH) (F:aG K "stop" "House.stop" uf dV f fd) {C:eh}:zFn P w K mg dX (n+1) f fd Ph (To R TR eu p C):=by
 erw[F.ok1 zY λvs H Q E M=>?_];obtain⟨U,L,r,D,S,rfl,h,e0,ok,t,he,k1,k2⟩:=M;have a:=y.d;have c:=hT.d;have b:=X.d
 refine⟨rfl,λI A eD s q=>⟨_,(aa (bB (i:=1) zY.nd (gj aA (au (pv 0) rfl) ag))
   (aa (aH (ba (gL (pv 1) a (q.mono (by omega)) (passes dE))) (ae (Iv rfl dE B ⋯ O {(aj)})) aw)
   (ae (aH (cU (ba (au (pv 1) rfl))) (aa (aC (xR (pv 0) c (q.mono (by omega)) (passes dE) {pv 1}))
   (ae (aC (gL (pv 0) b (q.mono (by omega)) (passes dE))))) aw)))),?_⟩⟩
 fin2
 have x:=h.cells .hs trivial;have g:=mT m l U 0;have u:=h.cells (.nd 0) ok.n0;lk;erw[a8 x e.cl e.n8 rfl ?_];lk;erw[hh L.sa _ _ (V.ref (L.nd 0)) (fT rfl rfl (eZ.of h.sa) (bY (j:=0) (by rw[hV,zq ok.n0];rfl)) ?_)];lk;erw[iJ (L.nd 0) _ _ _ _ ([]) (fT rfl u ⟨?_,rfl,rfl⟩ (KY rfl rfl) ?_)]
 .unfold bx
  split
  .exact .inl rfl
  .exact .inr rfl
 erw[iJ U L r D S 0 (fT rfl h ok.n0 rfl ?_)];cases ho:cK S 0 with
 |true=>
  lk;exact⟨l8 (by show 1<=100;decide),k1 ho⟩
 |false=>
  obtain⟨G,S',e1,v,k⟩:=k2 ho;unfold EA at e1;lk;erw[a8 u g.cl g.asked (Ir _ _) ?_];cases ha:(S.nd 0).asked with
  |true=>
   rw[ha,eT rfl] at e1;have e1:S=S':=hH e1;subst e1;lk;erw[k D H (Goes.refl h)]
  |false=>
   rw[ha,eJ jt] at e1;have Y:=kN (T:=U) _ _ _ e1;lk;erw[eF x ⟨rfl,rfl,rfl⟩ rfl ?_];erw[ix rfl (iJ U L r D S 0 (BS rfl h rfl ok t ok.n0 (gO (ok.deep 0 ok.n0)) (ry Y v) (λW H1 o=>?_)))];have N:=o.rp.cells .hs trivial;erw[ix rfl (eF N ⟨rfl,rfl,rfl⟩ rfl ?_)];exact⟨U,L,r,W,_,S',G,rfl,o.rp,rfl,ok,Wf.cP ok 10 0 S ok.n0 t,e1,v,λJ z Z=>k J z (o.trans Z)⟩
def SD(R:Rep)(TR:Hr.j8)(eu:HC)(c b:eh)(C:eh):Sp:=λvs H Q E=>∃(T:List Row) (L:Lo) (a:FS) (D:Dy) (S:HS) (i:Nat),vs=[.ref L.x,.str (sh T i).name]/\Rp R TR eu T L a D S H/\eu.cH=C/\jB T/\Wf T S/\i<T.length/\((T.map (·.sh.name)).Nodup/\(sh T i).name.length<=12)∧
 (fk T i=false->∀H',aL H H'->E (.ref c) none H')/\(fk T i=true->cK S i=true->∀H',aL H H'->E (.ref b) none H')/\(fk T i=true->cK S i=false->∃(n:Nat) (S':HS),HX T n i S=some S'/\S'.book.length<sizeLine/\∀D' H',Goes R TR eu T L a D H D' S' H'->Q .non H')
def abM{x:Str}(h:x.length<=12):(aj4++x).length<=sizeLine:=by
 rw[ajo];erw[l8 (by show 0+x.length<=100;lia)]
def Sn{x y:Str}(h:x.length<=12)(a:y.length<=60):(aj4++x++y).length<=sizeLine:=by
 rw[ajo,ajo];erw[l8 (by show 0+x.length+y.length<=100;lia)]
def W0(t:iA TR)(T:Txt mg){Cl:Nat->eh->Prop}(hS:MK P w K mg dX R Cl){O N:eh}(Bw:mg "NoLeaf"=some (.ref O))(Gv:Ec K O)(lC:mg "NotOn"=some (.ref N))(nX:Ec K N)(W:CS K eu.cL)(M:CS K eu.cM)(ab:CH K eu.cH){n:Nat}(hn:4<=n)
  (hC:aR P w K mg dX 3 "standing_called" (Ju R TR eu) λC=>C=eu.cH) (hO:aR P w K mg dX 1 "is_off" (qd R TR eu) λC=>C=eu.cL\/C=eu.cM) (hE:aR P w K mg dX 2 "end_by" (Bp R TR eu) λC=>C=eu.cH) (X:aR P w K mg dX n "settle" (CM R TR eu) λC=>C=eu.cH)
  (F:aG K "trip" "House.trip" ue dV f fd) {C:eh}:zFn P w K mg dX (n+1) f fd P4 (SD R TR eu O N C):=by
 erw[F.ok1 zG λvs H Q E y0=>?_];obtain⟨U,L,G,D,S,i,rfl,h,e0,ok,Y,r,⟨nd,u⟩,k1,k2,k3⟩:=y0;have a:=hC.d;have g:=hO.d;have c:=hE.d;have l:=X.d
 have m:∀C s q,Dt (wJ R) (λC=>∃j,Cl j C) C s q->MethAt P w K mg dX (fm P w) true 3 "leaf" C s q:=by
  rintro C s q ⟨⟨j,z⟩,rfl,rfl⟩;erw[hS.I.leaf z]
 refine⟨rfl,λac A eD s y=>⟨_,(aa (bB (i:=2) zG.nd (xR (pv 0) a (y.mono (by omega)) (passes dE) {pv 1}))
   (aa (aH (cU (ba (gL (au (pv 2) rfl) m (y.mono (by omega)) (passes dE)))) (ae (Iv rfl dE Gv ⋯ Bw {TJ (Gi (ab4 (pv 1)) (Gi aj Zd))})) aw)
   (aa (aH (ba (gL (pv 2) g (y.mono (by omega)) (passes dE))) (ae (Iv rfl dE nX ⋯ lC {TJ (Gi (ab4 (pv 1)) (Gi aj Zd))})) aw)
   (aa (aC (xR (pv 0) c (y.mono (by omega)) (passes dE) {pv 2,(aj)}))
   (ae (aC (gL (pv 0) l (y.mono (by omega)) (passes dE)))))))),?_⟩⟩
 fin2
 have hx:=h.cells .hs trivial;have B:=mT W M U i;lk;erw[eF hx ⟨rfl,rfl,rfl⟩ rfl ?_];erw[ix rfl (iJ U L G D S i (ot rfl h rfl r nd (λZ s1=>?_)))];have h1:=h.same t s1;have j1:=h1.cells (.nd i) r;obtain⟨oc,x,hR⟩:=h1.ch i r;obtain⟨Cc,dc,fc,c1,c2,c3,c4,c5,c6,c7⟩:=hS.I.inst (hR Z x);lk;erw[a8 j1 B.cl B.child (wz _ _) ?_];lk;erw[eF c1 ⟨⟨_,c2⟩,rfl,rfl⟩ c4 ?_];erw[hh (L.ch i) dc fc (sh U i) (kb rfl (hR Z x) c1 (λH2 s2=>?_))];have p:aL H H2:=λb o z=>s2 _ _ (s1 _ _ z);have J:=h.same t p;have j2:=J.cells (.nd i) r;have x2:=J.cells .hs trivial;erw[⟨_,rfl,?_⟩];erw[bA (λe=>?_) (λe=>?_)]
 .have hl:fk U i=false:=by
   cases z:fk U i with
   |false=>rfl
   |true=>
    have e:(!decide ((sh U i).kind<3))=true:=e;rw[show decide ((sh U i).kind<3)=fk U i from rfl,z] at e;cases e
  lk;erw[.inr ⟨_,rfl,l8 (),_,rfl,abM u,_,rfl,Sn u ∅,Sn u ∅,l8 (by show 1<=100;decide),k1 hl _ p⟩]
 .have hl:fk U i=true:=by
   cases z:fk U i with
   |true=>rfl
   |false=>erw[absurd (show(!decide ((sh U i).kind<3))=true by rw[show decide ((sh U i).kind<3)=fk U i from rfl,z];rfl) e]
  lk;erw[iJ (L.nd i) _ _ _ _ ([]) (fT rfl j2 ⟨.inl (sD hl),rfl,rfl⟩ (KY rfl rfl) ?_)];erw[iJ U L G D S i (fT rfl J r rfl ?_)];cases ho:cK S i with
  |true=>
   lk;erw[.inr ⟨_,rfl,l8 (),_,rfl,abM u,_,rfl,Sn u ∅,Sn u ∅,l8 (by show 1<=100;decide),k2 hl ho _ p⟩]
  |false=>
   obtain⟨fu,S',e1,hb,k⟩:=k3 hl ho;unfold HX at e1;have l1:=kN (T:=U) _ _ _ e1;have wl:=Y.wl i;lk;erw[eF x2 ⟨rfl,rfl,rfl⟩ rfl ?_];lk;erw[l9 U L G D S i ("fallen") (jm rfl J rfl () r (ry l1 hb) (λD1 H3 v=>?_))];have v:=(Goes.same t h p).trans v;have x3:=v.rp.cells .hs trivial;erw[ix rfl (eF x3 ⟨rfl,rfl,rfl⟩ rfl ?_)];exact⟨U,L,G,D1,_,S',fu,rfl,v.rp,rfl,ok,Y.aX r λ_=>.inr (.inl rfl),e1,hb,λD2 H4 g2=>k D2 H4 (v.trans g2)⟩
end
open PySem L2 Shp Nm Tr Hs Hm Hr PySem.NumText
abbrev KC:List Str:=["child"]
def Hz:ak KC KC (ah rM):=by kt_ors
abbrev IB:List Str:=["tree","standings","place","child","standing","minder"]
def dW:ak IB aaS (ah oX):=by kt_ors
section
variable{P:hD}{w:gT}{K:fD}{mg:Str->Option ez}{dX:gm}{f:eh}{fd:oT}{dV:ez}{eu:HC}{p:Pl}
def SX(x:eh)(H H':Hp):Prop:=∀b o,b≠x->H b=some o->H' b=some o
theorem SX.trans{x:eh}{H i g:Hp}(a:SX x H i)(b:SX x i g):SX x H g:=λc o h e=>b c o h (a c o h e)
def fs0(ch q:eh):List (Str×V):=[("child",.ref ch),("state",.str "off"),("asked",.bl false),("minder",.non),("place",.int 0),("minded",.ref q)]
def FQ(K:fD):Sp:=λvs H Q _=>∃(x a C ch:eh),vs=[.ref x,.ref ch]/\H x=some (.ins C a [])/\CS K C/\∀(q:eh) (H':Hp),SX x H H'->H q=none->H' q=some (.lst [])->H' x=some (.ins C a (fs0 ch q))->Q .non H'
def Xo(F:aG K "__init__" "Standing.__init__" ir dV f fd):zFn P w K mg dX 1 f fd zm (FQ K):=by
 rcases xG,(aa (aI (pv 0) (pv 1) rfl)
   (aa (aI (pv 0) aj rfl)
   (aa (aI (pv 0) cc rfl)
   (aa (aI (pv 0) fG rfl)
   (aa (aI (pv 0) ag rfl)
   (ae (aI (pv 0) (aY cS) rfl))))))) with⟨x,dx,C,ch,rfl,hx,hc,k⟩
 lk;erw[cb hx hc.cl hc.child (by show 0<1000;decide) ?_];lk;erw[cb af hc.cl hc.state (by show 1<1000;decide) ?_];rw[aW];lk;erw[cb af hc.cl hc.asked (by show 2<1000;decide) ?_];rw[aW];lk;erw[cb af hc.cl hc.Nh (by show 3<1000;decide) ?_];rw[aW];lk;erw[cb af hc.cl hc.place (by show 4<1000;decide) ?_];rw[aW];erw[⟨l8 ∅,λq c=>?_⟩];have g:q≠x:=λz=>by rw[z,af] at c;cases c
 have a:H q=none:=by rw[ai g] at c;erw[c]
 erw[ix rfl (cb (by rw[ai (Ne.symm g)];exact af) hc.cl hc.uE (by show 5<1000;decide) ?_)];erw[k q _ (λb o h e=>?_) a (by rw[ai g];exact af) af];rw[ai h,ai (ao e a),ai h];erw[e]
def acu:List (Str×V):=[("begun_at",.int 0),("steps",.int 0),("needed",.int 0),("granted",.int 0)]
def OK(K:fD):Sp:=λvs H Q _=>∃(x a C ch:eh),vs=[.ref x,.ref ch]/\H x=some (.ins C a [])/\CS K C/\∀(q:eh) (H':Hp),SX x H H'->H q=none->H' q=some (.lst [])->H' x=some (.ins C a (fs0 ch q++acu))->Q .non H'
def Vb(F:aG K "__init__" "LeafStanding.__init__" fq dV f fd)(a:K4 P w K mg dX true 1 "Standing" "__init__" (FQ K) []):zFn P w K mg dX 2 f fd zm (OK K):=by
 rcases qS,(aa (aC (GA a (hr.mono (by omega)) ⋯ cy {pv 0,pv 1}))
   (aa (aI (pv 0) ag rfl)
   (aa (aI (pv 0) ag rfl)
   (aa (aI (pv 0) ag rfl)
   (ae (aI (pv 0) ag rfl)))))) with⟨x,dx,C,ch,rfl,hx,hc,k⟩
 lk;erw[hh x dx C ch (kb rfl hx hc (λq m i c j l=>?_))];have h:q≠x:=λz=>by rw[z,hx] at c;cases c
 lk;erw[cb l hc.cl hc.Hj (by show 6<1000;decide) ?_];lk;erw[cb af hc.cl hc.steps (by show 7<1000;decide) ?_];rw[aW];lk;erw[cb af hc.cl hc.ME (by show 8<1000;decide) ?_];rw[aW];lk;erw[cb af hc.cl hc.Ge (by show 9<1000;decide) ?_];rw[aW];erw[k q _ (λb o g e=>by rw[ai g];exact i b o g e) c (by rwa[ai h]) af]
def aaB(fa wa:eh):List (Str×V):=[("falls",.ref fa),("good",.int 0),("waiting",.ref wa),("leaving",.int 0),("coming",.int 0),("gave_up",.bl false)]
def Lm(K:fD)(b:eh):Sp:=λvs H Q _=>∃(x a ch q:eh),vs=[.ref x]/\H x=some (.ins b a (fs0 ch q))/\∀(fa wa:eh) (H':Hp),SX x H H'->H fa=none->H wa=none->fa≠wa->H' fa=some (.lst [])->H' wa=some (.lst [])->H' x=some (.ins b a (fs0 ch q++aaB fa wa))->Q .non H'
def QV(F:aG K "forget" "MinderStanding.forget" cO dV f fd){C:eh}(c:CS K C):zFn P w K mg dX 1 f fd Ph (Lm K C):=by
 rcases iO,(aa (aI (pv 0) (aY cS) rfl)
   (aa (aI (pv 0) ag rfl)
   (aa (aI (pv 0) (aY cS) rfl)
   (aa (aI (pv 0) ag rfl)
   (aa (aI (pv 0) ag rfl)
   (ae (aI (pv 0) cc rfl))))))) with⟨x,dx,ch,q,rfl,hx,k⟩
 erw[⟨l8 ∅,λfa g=>?_⟩];have h:fa≠x:=λz=>by rw[z,hx] at g;cases g
 erw[ix rfl (cb (by rwa[ai (Ne.symm h)]) c.cl c.ay (by show 6<1000;decide) ?_)];lk;erw[cb af c.cl c.good (by show 7<1000;decide) ?_];rw[aW];erw[⟨l8 ∅,λwa a=>?_⟩];have l:wa≠x:=λz=>by rw[z,af] at a;cases a
 have j:fa≠wa:=λz=>by rw[<- z,ai h,af] at a;cases a
 have i:H wa=none:=by rw[ai l,ai (Ne.symm j)] at a;erw[a]
 erw[ix rfl (cb (by rw[ai (Ne.symm l)];exact af) c.cl c.waiting (by show 8<1000;decide) ?_)];lk;erw[cb af c.cl c.leaving (by show 9<1000;decide) ?_];rw[aW];lk;erw[cb af c.cl c.bu (by show 10<1000;decide) ?_];rw[aW];lk;erw[cb af c.cl c.Gg (by show 11<1000;decide) ?_];rw[aW];erw[k fa wa _ (λb o m e=>?_) g i j ?_ ?_ af]
 .rwa[ai m,ai (ao e i),ai m,ai (ao e g)]
 .rw[ai h,ai j,ai h];erw[af]
 .rw[ai l];erw[af]
def OB(K:fD)(b:eh):Sp:=λvs H Q _=>∃(x a ch:eh),vs=[.ref x,.ref ch]/\H x=some (.ins b a [])/\∀(q fa wa:eh) (H':Hp),SX x H H'->H q=none->H fa=none->H wa=none->fa≠wa->q≠fa->q≠wa->H' q=some (.lst [])->H' fa=some (.lst [])->H' wa=some (.lst [])->H' x=some (.ins b a (fs0 ch q++aaB fa wa))->Q .non H'
def Vy{j:eh}(L:CS K j)(F:aG K "__init__" "MinderStanding.__init__" dN dV f fd)(b:K4 P w K mg dX true 1 "Standing" "__init__" (FQ K) [])(M:aR P w K mg dX 1 "forget" (Lm K) λC=>C=j):zFn P w K mg dX 2 f fd zm (OB K j):=by
 have c:=M.d
 rcases pj,(aa (aC (GA b (hr.mono (by omega)) ⋯ cy {pv 0,pv 1}))
   (ae (aC (jD (pv 0) c)))) with⟨x,dx,ch,rfl,hx,k⟩
 lk;erw[hh x dx j ch (kb rfl hx L (λq G t l r i=>?_))];have D:q≠x:=λz=>by rw[z,hx] at l;cases l
 lk;erw[eF i ⟨rfl,rfl,rfl⟩ rfl ?_];erw[hh x dx ch q (jl rfl i (λfa wa v u h g I J y B=>?_))]
 have fr:∀a,a≠x->G a=none->H a=none:=λa A e=>by
  cases z:H a with
  |none=>rfl
  |some o=>rw[t a o A z] at e;cases e
 have m:fa≠x:=λz=>by rw[z,i] at h;cases h
 have n:wa≠x:=λz=>by rw[z,i] at g;cases g
 erw[k q fa wa v (t.trans u) l (fr fa m h) (fr wa n g) I (ao r h) (ao r g) (u q _ D r) J y B]
def fsX(a:Bool)(ch q fa wa:eh):List (Str×V):=fs0 ch q++if a then acu else aaB fa wa
def XX(R:Rep)(eu:HC):Sp:=λvs H Q _=>∃(ch:eh) (s:Sh),vs=[.ref ch]/\R H ch s/\∀(x a q fa wa:eh) (H':Hp),aL H H'->H x=none->H q=none->x≠q->(¬s.kind<3->H fa=none/\H wa=none/\fa≠wa/\q≠fa/\q≠wa/\x≠fa/\x≠wa/\H' fa=some (.lst [])/\H' wa=some (.lst []))->H' q=some (.lst [])→
 H' x=some (.ins (if s.kind<3 then eu.cL else eu.cM) a (fsX (decide (s.kind<3)) ch q fa wa))->Q (.ref x) H'
def ZS{R:Rep}{Y:Nat->eh->Prop}(X:MK P w K mg dX R Y)(M:CS K eu.cL)(g:zk P w K mg dX true 2 "LeafStanding" eu.cL (OK K) [])(c:zk P w K mg dX true 2 "MinderStanding" eu.cM (OB K eu.cM) [])
  (F:aG K "standing_of" "standing_of" rM dV f fd):zFn P w K mg dX 4 f fd KC (XX R eu):=by
 have l:∀C s n,Dt (wJ R) (λC=>∃j,Y j C) C s n->MethAt P w K mg dX (fm P w) true 3 "leaf" C s n:=by
  rintro C s n ⟨⟨j,z⟩,rfl,rfl⟩;erw[X.I.leaf z]
 rcases Hz,(ae (ar (oS (ba (jD (pv 0) l)) (uz g (hr.mono (by omega)) ⋯ cy {pv 0}) (uz c (hr.mono (by omega)) ⋯ cy {pv 0})))) with⟨ch,sp,rfl,S,k⟩;obtain⟨Cc,dc,fc,Z,c2,c3,c4,c5,c6,c7⟩:=X.I.inst S;lk;erw[eF Z ⟨⟨_,c2⟩,rfl,rfl⟩ c4 ?_];erw[hh ch dc fc sp (kb rfl S Z (λy D=>?_))]
 have fr:∀a,y a=none->H a=none:=λa e=>by
  cases z:H a with
  |none=>rfl
  |some o=>rw[D _ _ z] at e;cases e
 erw[⟨_,rfl,?_⟩];erw[bA (λe=>?_) (λe=>?_)]
 .have e:sp.kind<3:=gD e;rw[eT e,fK e] at k;lk;intro x i u t n3;erw[hh x i eu.cL ch (kb rfl af M (λq L J m G B=>⟨rfl,?_⟩))];have U:q≠x:=λz=>by rw[z,af] at m;cases m
  have N:y q=none:=by
   rw[ai U] at m;by_cases z:q=i
   .rwa[z]
   .rw[ai z] at m;erw[m]
  erw[k x i q q q L (λb o A=>?_) (fr x u) (fr q N) (Ne.symm U) (λz=>absurd e z) G B];have h:=D _ _ A;have v:b≠x:=ao h u;erw[J b o v (by rwa[ai v,ai (ao h t)])]
 .have e:¬sp.kind<3:=λz=>e (fK z);rw[eJ e,ik e] at k;lk;intro x i u t n3;refine ml x i ch (jl rfl af (λq fa wa L J m W O d1 d2 d3 G f2 w2 B=>⟨rfl,?_⟩))
  have nx:∀a,(upd (upd y i (.own x)) x (.ins eu.cM i [])) a=none->a≠x/\y a=none:=λa r=>by
   have T:a≠x:=λz=>by rw[z,af] at r;cases r
   erw[⟨T,?_⟩];rw[ai T] at r;by_cases z:a=i
   .rwa[z]
   .rw[ai z] at r;erw[r]
  erw[k x i q fa wa L (λb o A=>?_) (fr x u) (fr q (nx q m).2) (Ne.symm (nx q m).1) (λ_=>⟨fr fa (nx fa W).2,fr wa (nx wa O).2,d1,d2,d3,Ne.symm (nx fa W).1,Ne.symm (nx wa O).1,f2,w2⟩) G B];have h:=D _ _ A;have v:b≠x:=ao h u;erw[J b o v (by rwa[ai v,ai (ao h t)])]
theorem Qm(f:Str)(v:V):∀fs:List (Str×V),(lh f v fs).length<=fs.length+1
 |[]=>fx _
 |(g,x)::r=>by
  unfold lh
  split
  .exact HY _
  .exact aky (Qm f v r)
def Wb(K:fD)(g:eh):Sp:=λvs H Q _=>∃(a xs q h d2 c ch:eh) (e b:List (Str×V)) (ys:List V),vs=[.ref a,.ref xs]/\H a=some (.ins g h e)/\e.lookup ("minded":Str)=some (.ref q)/\H q=some (.lst ys)/\ys.length<1000/\H xs=some (.ins c d2 b)/\b.length<900/\a≠xs/\CS K c∧
 Q .non (upd (upd H xs (.ins c d2 (lh "place" (.int (ys.length:Int)) (lh "minder" (.ref a) b)))) q (.lst (ys++[.ref xs])))
def ZY{c:eh}(T:Txt mg)(a:CS K c)(F:aG K "mind" "MinderStanding.mind" fP dV f fd):zFn P w K mg dX 1 f fd vV (Wb K c):=by
 rcases uO,(aa (aI (pv 1) (pv 0) rfl)
   (aa (aI (pv 1) (aO aE ⋯ T.dH cg {au (pv 0) rfl}) rfl)
   (ae (aC (fI rB wx vq cA (au (pv 0) rfl) {pv 1}))))) with⟨xm,xs,q,d1,d2,C2,ch,f1,f2,ys,rfl,h1,hq,h2,hy,h3,hl,nx,hc2,k⟩
 have b:q≠xs:=λz=>by rw[z,h3] at h2;cases h2
 have pl:(lh "minder" (.ref xm) f2).length<1000:=by
  have:=Qm "minder" (.ref xm) f2
  lia
 lk;erw[hh xs _ _ _ (ot rfl h3 hc2.cl hc2.Nh () ?_)];lk;erw[a8 (by rwa[ai nx]) a.cl a.uE hq ?_];lk;erw[hY q _ (jl rfl (.inl (eZ.of (by rwa[ai b]))) ?_)];lk;erw[hh xs _ _ _ (ot rfl af hc2.cl hc2.place pl ?_)];rw[aW];lk;erw[m8 xm _ _ _ _ (jm rfl (by rwa[ai nx]) a.cl a.uE hq (.inl ⟨rfl,_,eZ.of (by rwa[ai b])⟩) ?_)];lk;exact⟨q,_,_,rfl,rfl,by rwa[ai b],aP (),k⟩
structure Ad where
 nd:Nat->eh
 dn:Nat->eh
 mi:Nat->eh
 fa:Nat->eh
 wa:Nat->eh
inductive Lc
 |nd (i:Nat)
 |mi (i:Nat)
 |fa (i:Nat)
 |wa (i:Nat)
def Lc.at(A:Ad):Lc->eh
 |.nd i=>A.nd i
 |.mi i=>A.mi i
 |.fa i=>A.fa i
 |.wa i=>A.wa i
def Lc.ok(T:List Row)(t:Nat):Lc->Prop
 |.nd i=>i<t
 |.mi i=>i<t
 |.fa i=>i<t/\fk T i=false
 |.wa i=>i<t/\fk T i=false
def uv(T:List Row)(A:Ad)(i:Nat):V:=match par T i with
 |none=>.non
 |some m=>.ref (A.nd m)
def F2(T:List Row)(A:Ad)(ch:Nat->eh)(i:Nat):List (Str×V):=([("child",.ref (ch i)),("state",.str "off"),("asked",.bl false),("minder",uv T A i),("place",.int ((f7 T i:Nat):Int)),("minded",.ref (A.mi i))]:List (Str×V))++(if fk T i then acu else aaB (A.fa i) (A.wa i):List (Str×V))
def acg(eu:HC)(T:List Row)(ch:Nat->eh)(A:Ad)(t:Nat):Lc->HO
 |.nd i=>.ins (bx eu T i) (A.dn i) (F2 T A ch i)
 |.mi i=>.lst (((gG t).filter λj=>decide (par T j=some i)).map λj=>V.ref (A.nd j))
 |.fa _=>.lst []
 |.wa _=>.lst []
structure Made(eu:HC)(T:List Row)(ch:Nat->eh)(H0:Hp)(sa:eh)(A:Ad)(t:Nat)(H:Hp):Prop where
 same:aL H0 H
 sl:H sa=some (.lst ((gG t).map λi=>V.ref (A.nd i)))
 s0:H0 sa=none
 cell:∀l:Lc,l.ok T t->H (l.at A)=some (acg eu T ch A t l)
 new:∀l:Lc,l.ok T t->H0 (l.at A)=none
 inj:∀l l':Lc,l.ok T t->l'.ok T t->l.at A=l'.at A->l=l'
 sn:∀l:Lc,l.ok T t->l.at A≠sa
def Ad.put(A:Ad)(t:Nat)(x a q fa wa:eh):Ad:=⟨fh A.nd t x,fh A.dn t a,fh A.mi t q,fh A.fa t fa,fh A.wa t wa⟩
theorem Lc.Aj{A:Ad}{T:List Row}{t:Nat}{x a q fa wa:eh}:∀{l:Lc},l.ok T t->l.at (A.put t x a q fa wa)=l.at A
 |.nd i,h=>eP x (kx h)
 |.mi i,h=>eP q (kx h)
 |.fa i,h=>eP fa (kx h.1)
 |.wa i,h=>eP wa (kx h.1)
theorem Lc.split{T:List Row}{t:Nat}:∀{l:Lc},l.ok T (t+1)->l.ok T t\/l=.nd t\/l=.mi t\/(l=.fa t/\fk T t=false)\/(l=.wa t/\fk T t=false)
 |.nd i,h=>by
  have h:i<t+1:=h;by_cases e:i=t
  .exact .inr (.inl (by rw[e]))
  .exact .inl (show i<t by lia)
 |.mi i,h=>by
  have h:i<t+1:=h;by_cases e:i=t
  .exact .inr (.inr (.inl (by rw[e])))
  .exact .inl (show i<t by lia)
 |.fa i,h=>by
  have h:i<t+1/\fk T i=false:=h;by_cases e:i=t
  .exact .inr (.inr (.inr (.inl ⟨by rw[e],by rw[<- e];erw[h.2]⟩)))
  .exact .inl ⟨by have:=h.1;lia,h.2⟩
 |.wa i,h=>by
  have h:i<t+1/\fk T i=false:=h;by_cases e:i=t
  .exact .inr (.inr (.inr (.inr ⟨by rw[e],by rw[<- e];erw[h.2]⟩)))
  .exact .inl ⟨by have:=h.1;lia,h.2⟩
def Made.next{T:List Row}{ch:Nat->eh}{O H B:Hp}{G:eh}{A:Ad}{t:Nat}{x a q fa wa:eh}(h:Made eu T ch O G A t H)(tok:∀{j m:Nat},j<=t->par T j=some m->m<j)
  (nx:H x=none) (nq:H q=none) (v:fk T t=false->H fa=none/\H wa=none/\fa≠wa/\q≠fa/\q≠wa/\x≠fa/\x≠wa) (W:x≠q)
  (keep:∀b o,b≠G->(∀m,par T t=some m->b≠A.mi m)->H b=some o->B b=some o)
  (Q:B G=some (.lst (((gG t).map λi=>V.ref (A.nd i))++[.ref x]))) (U:∀m,par T t=some m->B (A.mi m)=some (.lst ((((gG t).filter λj=>decide (par T j=some m)).map λj=>V.ref (A.nd j))++[.ref x])))
  (Z:B x=some (.ins (bx eu T t) a (F2 T (A.put t x a q fa wa) ch t))) (hq:B q=some (.lst [])) (Y:fk T t=false->B fa=some (.lst [])/\B wa=some (.lst [])):Made eu T ch O G (A.put t x a q fa wa) (t+1) B:=by
 have N:∀l:Lc,l.ok T t->H (l.at A)≠none:=λl s z=>by rw[h.cell l s] at z;cases z
 have M:∀i,i<t->(A.put t x a q fa wa).nd i=A.nd i:=λi D=>eP x (kx D);have L:(A.put t x a q fa wa).nd t=x:=bH _ _ _;have rng:∀l:List Nat,(∀j∈l,j<t)->l.map (λj=>V.ref ((A.put t x a q fa wa).nd j))=l.map λj=>V.ref (A.nd j):=λl s=>ai5 λj u=>by rw[M j (s j u)]
 have X:∀j i,j∈((gG t).filter λj=>decide (par T j=some i))->j<t:=λj i u=>pf.mp (yq.mp u).1
 have C:∀b,H b=none->O b=none:=λb e=>by
  cases z:O b with
  |none=>rfl
  |some o=>rw[h.same _ _ z] at e;cases e
 have r:(Lc.nd t).at (A.put t x a q fa wa)=x:=bH _ _ _;have n:(Lc.mi t).at (A.put t x a q fa wa)=q:=bH _ _ _;have g:(Lc.fa t).at (A.put t x a q fa wa)=fa:=bH _ _ _;have c:(Lc.wa t).at (A.put t x a q fa wa)=wa:=bH _ _ _;have R:H G≠none:=λz=>by rw[h.sl] at z;cases z
 have fresh:∀l:Lc,l.ok T (t+1)->¬l.ok T t->H (l.at (A.put t x a q fa wa))=none:=λl s hn=>by
  rcases Lc.split s with z|rfl|rfl|⟨rfl,z⟩|⟨rfl,z⟩
  .exact absurd z hn
  .rwa[r]
  .rwa[n]
  .rw[g];exact(v z).1
  .rw[c];exact(v z).2.1
 erw[⟨λb o e=>?_,?_,h.s0,λl s=>?_,λl s=>?_,λl J s I e=>?_,λl s=>?_⟩]
 .refine keep b o (ao e h.s0) (λm F=>?_) (h.same _ _ e);erw[ao e (h.new (.mi m) (tok (fx _) F))]
 .rw[Q,zB,js,rng _ (λj u=>pf.mp u),alT,L]
 .rcases Lc.split s with z|rfl|rfl|⟨rfl,z⟩|⟨rfl,z⟩
  .rw[Lc.Aj z];have hs:=h.sn l z;by_cases S:∃m,par T t=some m/\l=.mi m
   .obtain ⟨m,F,rfl⟩:=S;show B (A.mi m)=some (.lst (((gG (t+1)).filter λj=>decide (par T j=some m)).map λj=>V.ref ((A.put t x a q fa wa).nd j)));rw[U m F,zB,qH,rj,eT (fK F),FH,js,rng _ (λj u=>X j m u),alT,L]
   .have k:B (l.at A)=some (acg eu T ch A t l):=keep _ _ hs (λm F y=>S ⟨m,F,h.inj l (.mi m) z (tok (fx _) F) y⟩) (h.cell l z);rw[k]
    congr 1
    cases l with
    |nd i=>
     have D:i<t:=z;show HO.ins _ (A.dn i) (F2 T A ch i)=HO.ins _ ((A.put t x a q fa wa).dn i) (F2 T (A.put t x a q fa wa) ch i);have e1:(A.put t x a q fa wa).dn i=A.dn i:=eP a (kx D);have e2:(A.put t x a q fa wa).mi i=A.mi i:=eP q (kx D);have e3:(A.put t x a q fa wa).fa i=A.fa i:=eP fa (kx D);have e4:(A.put t x a q fa wa).wa i=A.wa i:=eP wa (kx D)
     have e5:uv T (A.put t x a q fa wa) i=uv T A i:=by
      unfold uv;cases hp:par T i with
      |none=>rfl
      |some m=>
       show V.ref _=V.ref _;rw[M m (IH (tok (tL D) hp) D)]
     unfold F2;rw[e1,e2,e3,e4,e5]
    |mi i=>
     show HO.lst _=HO.lst _;rw[zB,qH,rj,eJ (λy=>S ⟨i,gD y,rfl⟩),FH,ov,rng _ (λj u=>X j i u)]
    |fa i=>rfl
    |wa i=>rfl
  .rw[r,Z];show some (HO.ins _ _ _)=some (HO.ins _ ((A.put t x a q fa wa).dn t) _);rw[show (A.put t x a q fa wa).dn t=a from bH _ _ _]
  .rw[n,hq];show some (HO.lst [])=some (HO.lst _)
   have:((gG (t+1)).filter λj=>decide (par T j=some t))=[]:=aik.mpr λj u y=>by
    have u:=pf.mp u;have:=tok () (gD y)
    lia
   rw[this]
   rfl
  .rw[g,(Y z).1]
   rfl
  .rw[c,(Y z).2]
   rfl
 .by_cases z:l.ok T t
  .rw[Lc.Aj z];erw[h.new l z]
  .exact C _ (fresh l s z)
 .by_cases z:l.ok T t
  .by_cases z':J.ok T t
   .rw[Lc.Aj z,Lc.Aj z'] at e;erw[h.inj l J z z' e]
   .have f:=fresh J I z';rw[<- e,Lc.Aj z] at f;erw[absurd f (N l z)]
  .by_cases z':J.ok T t
   .have f:=fresh l s z;rw[e,Lc.Aj z'] at f;erw[absurd f (N J z')]
   .rcases Lc.split s with y|rfl|rfl|⟨rfl,y⟩|⟨rfl,y⟩<;>rcases Lc.split I with E|rfl|rfl|⟨rfl,E⟩|⟨rfl,E⟩<;>first|rfl|exact absurd y z|exact absurd E z'|skip
    .rw[r,n] at e;erw[absurd e W]
    .rw[r,g] at e;erw[absurd e (v E).2.2.2.2.2.1]
    .rw[r,c] at e;erw[absurd e (v E).2.2.2.2.2.2]
    .rw[r,n] at e;erw[absurd e.symm W]
    .rw[n,g] at e;erw[absurd e (v E).2.2.2.1]
    .rw[n,c] at e;erw[absurd e (v E).2.2.2.2.1]
    .rw[r,g] at e;erw[absurd e.symm (v y).2.2.2.2.2.1]
    .rw[n,g] at e;erw[absurd e.symm (v y).2.2.2.1]
    .rw[g,c] at e;erw[absurd e (v y).2.2.1]
    .rw[r,c] at e;erw[absurd e.symm (v y).2.2.2.2.2.2]
    .rw[n,c] at e;erw[absurd e.symm (v y).2.2.2.2.1]
    .rw[g,c] at e;erw[absurd e.symm (v y).2.2.1]
 .by_cases z:l.ok T t
  .rw[Lc.Aj z];erw[h.sn l z]
  .intro y;have f:=fresh l s z;rw[y] at f;erw[R f]
theorem Made.mono{T:List Row}{ch:Nat->eh}{c H H':Hp}{a:eh}{A:Ad}{t:Nat}(h:Made eu T ch c a A t H)(e:aL H H'):Made eu T ch c a A t H':=
 ⟨λb o z=>e _ _ (h.same _ _ z),e _ _ h.sl,h.s0,λl g=>e _ _ (h.cell l g),h.new,h.inj,h.sn⟩
def VJ{T:List Row}{i m:Nat}(h:par T i=some m):bz T i=(m:Int):=by
 unfold par at h
 split at h
 .cases h
 .rename_i h1
  have:=hH h
  lia
def Tw(h:eh)(p:Pl)(eu:HC):Sp:=λvs H Q _=>∃(t:eh) (T:List Row) (c b a d:eh) (e:List eh),vs=[.ref t]/\yZ h p H t T c b a d e/\T.length<=64/\(∀{j m:Nat},j<T.length->par T j=some m->m<j/\fk T m=false)/\(∀j,0<j->j<T.length->∃m,par T j=some m)∧
 ∀(g:eh) (A:Ad) (H':Hp),Made eu T (λi=>e.getD i 0) H g A T.length H'->Q (.ref g) H'
def Xg{cT:eh}(T:Txt mg)(hc:CT K cT)(ap:CS K eu.cL)(ac:CS K eu.cM)(rF:iu P w K mg dX true 4 "standing_of" (XX p.rep eu) [])(hM:aR P w K mg dX 1 "mind" (Wb K) λC=>C=eu.cM)
  (F:aG K "standings_of" "standings_of" oX dV f fd):zFn P w K mg dX 5 f fd aaS (Tw cT p eu):=by
 have J:=hM.d
 rcases dW,(aa (bB (i:=1) dW.nd (aY cS))
   (aa (kj uZ rfl (Zx ⋯ T.ER {au (pv 0) rfl}) (QJ rfl (lT (cG (i:=2) dW.nd rfl (by k_ne)) (lT (cG (i:=3) dW.nd rfl (by k_ne)) L4))) (aa (bB (i:=4) dW.nd (cz rF {pv 3}))
   (aa (aH (gy Cp (pv 2) ag) (aa (bB (i:=5) dW.nd (gj aA (pv 1) (gj aA (au (pv 0) rfl) (pv 2))))
   (ae (aC (j0 (pv 5) J {pv 4})))) aw)
   (ae (aC (fI rB wx vq cA (pv 1) {pv 4}))))))
   (ae (ar (pv 1))))) with⟨tr,U,c,b,a,d,as,rfl,hT,h64,tok,top,k⟩
 obtain⟨dx,ad⟩:=hT.ob;erw[⟨l8 ∅,λt S=>?_⟩];have s1:=aq (o:= .lst []) S;have L:(upd H t (.lst [])) t=some (.lst []):=af;lk;erw[a8 (s1 _ _ ad) hc.cl hc.n1 rfl ?_];lk;erw[⟨⟨_,eZ.of (s1 _ _ hT.ch)⟩,?_⟩];generalize upd H t (.lst [])=H1 at s1 L
 refine uV (n:=U.length) (λi σ H'=>∃(A:Ad) (v2 v3 v4 v5:Option V),Made eu U (λi=>as.getD i 0) H t A i H'/\σ=[some (.ref tr),some (.ref t),v2,v3,v4,v5])
  ⟨⟨λ_=>0,λ_=>0,λ_=>0,λ_=>0,λ_=>0⟩,none,none,none,none,⟨s1,L,S,λl r=>?_,λl r=>?_,λl l' r=>?_,λl r=>?_⟩,rfl⟩ ?_ ?_ ?_
 .cases l<;>first|exact absurd r (y4 _)|erw[absurd r.1 (y4 _)]
 .cases l<;>first|exact absurd r (y4 _)|erw[absurd r.1 (y4 _)]
 .cases l<;>first|exact absurd r (y4 _)|erw[absurd r.1 (y4 _)]
 .cases l<;>first|exact absurd r (y4 _)|erw[absurd r.1 (y4 _)]
 .rintro i σ H' hi ⟨A,v2,v3,v4,v5,M,_⟩;have D:i<as.length:=by rwa[hT.ln]
  exact⟨_,V.ref as[i],eZ.of (M.same _ _ hT.ch),by rw[hV,gx D];rfl⟩
 .rintro i σ H' v H3 hi ⟨A,v2,v3,v4,v5,M,rfl⟩ ⟨q3,y,hq3,rfl,hy,rfl⟩;have D:i<as.length:=by rwa[hT.ln]
  have hy:=hy _ (eZ.of (M.same _ _ hT.ch));rw[hV,gx D] at hy;obtain rfl:V.ref as[i]=y:=hH hy;have W:as.getD i 0=as[i]:=by rw[nN,gx D];rfl
  have s3:=aq (o:= .tup [.int ((0+i:Nat):Int),V.ref as[i]]) hq3;erw[hY q3 _ (kb rfl (iq.of af) rfl ?_)];have B:=M.mono s3;have Ta:=hT.same B.same;generalize upd H' q3 (.tup [.int ((0+i:Nat):Int),V.ref as[i]])=Ha at s3 B Ta;have hR:=Ta.rp i _ (gx D);lk;erw[hY (as[i]) (sh U i) (jl rfl hR (λx G q fa wa H4 s4 nx nq xq nf Y R=>?_))];have O:=B.mono s4;have T4:=Ta.same s4;have u:∀b,Ha b=none->b≠t:=λb e z=>by rw[z,B.sl] at e;cases e
  have al:(if (sh U i).kind<3 then eu.cL else eu.cM)=bx eu U i:=by
   unfold bx fk;by_cases z:(sh U i).kind<3
   .rw[eT z,fK z,eT rfl]
   .rw[eJ z,ik z,eJ jt]
  rw[al] at R;have g:fk U i=false->Ha fa=none/\Ha wa=none/\fa≠wa/\q≠fa/\q≠wa/\x≠fa/\x≠wa/\H4 fa=some (.lst [])/\H4 wa=some (.lst []):=λz=>nf (yV z);have lr:((gG i).map λj=>V.ref (A.nd j)).length<sizeLine:=by rw[fC,mq];erw[aP ()]
  have xs:x≠t:=u x nx;have qs:q≠t:=u q nq;by_cases i0:i=0
  .have p0:par U i=none:=by rw[i0];rfl
   lk;erw[bA (λe=>?_) (λe=>?_)]
   .have e:((0:Int)<((0+i:Nat):Int)):=gD e
    lia
   lk;erw[⟨.inl ⟨rfl,_,eZ.of O.sl⟩,?_⟩];lk;erw[ml t _ _ (fT rfl rfl O.sl lr ?_)];erw[⟨A.put i x G q fa wa,_,_,_,_,B.next (λhj h=>(tok (ry hj hi) h).1) nx nq (λz=>⟨(g z).1,(g z).2.1,(g z).2.2.1,(g z).2.2.2.1,(g z).2.2.2.2.1,(g z).2.2.2.2.2.1,(g z).2.2.2.2.2.2.1⟩) xq (λb o hb _ e=>by rw[ai hb];exact s4 _ _ e) af (λm I=>by rw[p0] at I;cases I) ?_ (by rwa[ai qs]) (λz=>?_),rfl⟩]
   .rw[ai xs,R];unfold fsX F2 uv;rw[p0];dsimp only;rw[W,show(A.put i x G q fa wa).mi i=q from bH _ _ _,show(A.put i x G q fa wa).fa i=fa from bH _ _ _,show(A.put i x G q fa wa).wa i=wa from bH _ _ _,show f7 U i=0 by rw[i0];rfl]
    rfl
   .obtain ⟨z1,z2,_,_,_,_,_,z3,z4⟩:=g z;exact⟨by rwa[ai (u fa z1)],by rwa[ai (u wa z2)]⟩
  .obtain ⟨m,I⟩:=top i () hi;obtain⟨mi,r⟩:=tok hi I;obtain⟨dt,X⟩:=T4.ob;have nm:=O.cell (.nd m) mi;have qm:=O.cell (.mi m) mi;have am:A.nd m≠x:=ao (B.cell (.nd m) mi) nx;have ay:A.mi m≠x:=ao (B.cell (.mi m) mi) nx;have ax:A.mi m≠q:=ao (B.cell (.mi m) mi) nq;have N:A.mi m≠t:=B.sn (.mi m) mi
   have yl:(((gG i).filter λj=>decide (par U j=some m)).map λj=>V.ref (A.nd j)).length=f7 U i:=by
    unfold f7;rw[fC,I]
   lk;erw[bA (λe=>?_) (λe=>?_)]
   .lk;erw[a8 X hc.cl hc.n3 rfl ?_];lk;refine hh a _ _ (V.int (m:Int)) (fT rfl rfl (eZ.of T4.ab) ?_ ?_)
    .rw[show ((0+i:Nat):Int)=((i:Nat):Int) by lia];erw[bY ?_];unfold kQ;rw[hV,zq hi];show some (if i=0 then V.non else V.int (bz U i))=_;rw[eJ i0,VJ I]
    lk;erw[hh t _ _ (V.ref (A.nd m)) (fT rfl rfl (eZ.of O.sl) (bY (by rw[hV,zq mi];rfl)) ?_)];lk;erw[iJ (A.nd m) _ _ _ _ ([]) (fT rfl nm ⟨fH r,rfl,rfl⟩ ?_ ?_)]
    .unfold F2;rw[r]
     rfl
    erw[ix rfl (ZA (A.nd m) x (A.mi m) _ G (bx eu U i) 0 _ _ _ (R3 rfl nm rfl qm (by rw[yl];have:=Ho U hi I;have:=sv U m;lia) R ?_ am (mT ap ac U i) ?_))]
    .unfold fsX;cases decide ((sh U i).kind<3) with
     |true=>show 10<900;decide
     |false=>show 12<900;decide
    rw[yl];lk;erw[⟨.inl ⟨rfl,_,eZ.of (by rw[ai (Ne.symm N),ai (Ne.symm xs)];exact O.sl)⟩,?_⟩];lk;erw[ml t _ _ (fT rfl rfl (by rw[ai (Ne.symm N),ai (Ne.symm xs)];exact O.sl) lr ?_)];erw[⟨A.put i x G q fa wa,_,_,_,_,B.next (λhj h=>(tok (ry hj hi) h).1) nx nq (λz=>⟨(g z).1,(g z).2.1,(g z).2.2.1,(g z).2.2.2.1,(g z).2.2.2.2.1,(g z).2.2.2.2.2.1,(g z).2.2.2.2.2.2.1⟩) xq (λb o hb an e=>?_) af (λm' Z=>?_) ?_ ?_ (λz=>?_),rfl⟩]
    .rw[ai hb,ai (an m I),ai (ao e nx)];erw[s4 _ _ e]
    .rw[I] at Z;cases Z;rw[ai N];erw[af]
    .rw[ai xs,ai (Ne.symm ay),af];unfold fsX F2 uv;rw[I];dsimp only;rw[W,show(A.put i x G q fa wa).mi i=q from bH _ _ _,show(A.put i x G q fa wa).fa i=fa from bH _ _ _,show(A.put i x G q fa wa).wa i=wa from bH _ _ _];rw[show (A.put i x G q fa wa).nd m=A.nd m from eP x (kx mi)];unfold fk;cases decide ((sh U i).kind<3)<;>rfl
    .rwa[ai qs,ai (Ne.symm ax),ai (Ne.symm xq)]
    .obtain ⟨z1,z2,_,_,_,z5,z6,z3,z4⟩:=g z;have y1:fa≠A.mi m:=Ne.symm (ao (B.cell (.mi m) mi) z1);have y2:wa≠A.mi m:=Ne.symm (ao (B.cell (.mi m) mi) z2);exact⟨by rwa[ai (u fa z1),ai y1,ai (Ne.symm z5)],by rwa[ai (u wa z2),ai y2,ai (Ne.symm z6)]⟩
   .exact absurd (fK (show(0:Int)<((0+i:Nat):Int) by lia)) e
 .rintro σ H' ⟨A,v2,v3,v4,v5,M,rfl⟩;erw[⟨⟨_,eZ.of (M.same _ _ hT.ch),by rw[fC,hT.ln];exact fx _⟩,?_⟩];lk;erw[k t A H' M]
def S0:HS:=⟨0,[],[],λ_=>tV⟩
def Made.rp{cT:eh}{T:List Row}{C c b a d:eh}{g:List eh}{Q H:Hp}{x G en qu B:eh}{A:Ad}(ok:jB T)(n:yZ cT p Q C T c b a d g)(M:Made eu T (λi=>g.getD i 0) Q B A T.length H)(W:H x=some (.ins eu.cH G (zJ ⟨x,G,en,qu,B,C,A.nd,A.dn,A.mi,λi=>g.getD i 0⟩ S0)))(F:H en=some (.lst []))(D:H qu=some (.lst []))(eq:en≠qu)
  (R:∀l:Lc,l.ok T T.length->l.at A≠x/\l.at A≠en/\l.at A≠qu) (ns:B≠x/\B≠en/\B≠qu) (nF:∀e,(e=C\/e=c\/e=b\/e=a\/e=d\/e∈g)->e≠x/\e≠en/\e≠qu):
  Rp p.rep (jx cT p) eu T ⟨x,G,en,qu,B,C,A.nd,A.dn,A.mi,λi=>g.getD i 0⟩ (λe=>e=C\/e=c\/e=b\/e=a\/e=d\/e∈g) ⟨A.fa,A.wa,[],[]⟩ S0 H:=by
 have O:=n.same M.same
 have J:∀i,i<T.length->g.getD i 0∈g:=λi q=>by
  have:i<g.length:=by rwa[O.ln]
  rw[nN,gx this];erw[ve this]
 have r:∀e,(e=C\/e=c\/e=b\/e=a\/e=d\/e∈g)->Q e≠none:=by
  rintro e (rfl|rfl|rfl|rfl|rfl|S) z
  .obtain ⟨dt,h⟩:=n.ob;rw[h] at z;cases z
  .rw[n.ch] at z;cases z
  .rw[n.bl] at z;cases z
  .rw[n.ab] at z;cases z
  .rw[n.pl] at z;cases z
  .obtain ⟨i,q,e2⟩:=ai1.mp S;obtain⟨_,_,dz,h⟩:=n.rp i e (by rw[gx q,e2]);rw[h] at z;cases z
 have cell:∀l:Lb,vl T l->H (l.at ⟨x,G,en,qu,B,C,A.nd,A.dn,A.mi,λi=>g.getD i 0⟩ ⟨A.fa,A.wa,[],[]⟩)=some (cont eu T ⟨x,G,en,qu,B,C,A.nd,A.dn,A.mi,λi=>g.getD i 0⟩ ⟨A.fa,A.wa,[],[]⟩ S0 l):=λl v=>by
  cases l with
  |hs=>erw[W]
  |en=>erw[F]
  |qu=>erw[D]
  |nd i=>
   show H (A.nd i)=_;rw[show H (A.nd i)=_ from M.cell (.nd i) v];show some (HO.ins _ _ (F2 T A (λi=>g.getD i 0) i))=some (HO.ins _ _ (jE T _ _ tV i));unfold F2 jE uv mn uI
   rfl
  |fa i=>erw[M.cell (.fa i) v]
  |wa i=>erw[M.cell (.wa i) v]
 have I:∀l:Lb,vl T l->(l=.hs\/l=.en\/l=.qu)\/∃E:Lc,E.ok T T.length/\E.at A=l.at ⟨x,G,en,qu,B,C,A.nd,A.dn,A.mi,λi=>g.getD i 0⟩ ⟨A.fa,A.wa,[],[]⟩/\((∃i,l=.nd i/\E=.nd i)\/(∃i,l=.fa i/\E=.fa i)\/∃i,l=.wa i/\E=.wa i):=λl v=>by
  cases l with
  |hs=>erw[.inl (.inl rfl)]
  |en=>erw[.inl (.inr (.inl rfl))]
  |qu=>erw[.inl (.inr (.inr rfl))]
  |nd i=>erw[.inr ⟨.nd i,v,rfl,.inl ⟨i,rfl,rfl⟩⟩]
  |fa i=>erw[.inr ⟨.fa i,v,rfl,.inr (.inl ⟨i,rfl,rfl⟩)⟩]
  |wa i=>erw[.inr ⟨.wa i,v,rfl,.inr (.inr ⟨i,rfl,rfl⟩)⟩]
 have xe:x≠en:=λz=>by rw[<- z,W] at F;cases F
 have Z:x≠qu:=λz=>by rw[<- z,W] at D;cases D
 erw[⟨cell,λl E v v' e=>?_,M.sl,λi q=>?_,λi q=>?_,⟨c,b,a,d,g,O,rfl⟩,λe S z=>?_,rfl,λk a e h=>(by cases h),rfl,λk a e h=>(by cases h),λl v=>⟨?_,λi q=>⟨?_,?_⟩,λz=>?_⟩⟩]
 .rcases I l v with u|⟨m,s,t,X⟩<;>rcases I E v' with h2|⟨m',N,L,Y⟩
  .rcases u with rfl|rfl|rfl<;>rcases h2 with rfl|rfl|rfl<;>first|rfl|exact absurd e xe|exact absurd e.symm xe|exact absurd e Z|exact absurd e.symm Z|exact absurd e eq|erw[absurd e.symm eq]
  .obtain ⟨n1,n2,n3⟩:=R m' N;rw[L] at n1 n2 n3;rcases u with rfl|rfl|rfl
   .exact absurd e.symm n1
   .exact absurd e.symm n2
   .exact absurd e.symm n3
  .obtain ⟨n1,n2,n3⟩:=R m s;rw[t] at n1 n2 n3;rcases h2 with rfl|rfl|rfl
   .exact absurd e n1
   .exact absurd e n2
   .exact absurd e n3
  .have:=M.inj m m' s N (by rw[t,L,e]);subst this;rcases X with⟨i,rfl,rfl⟩|⟨i,rfl,rfl⟩|⟨i,rfl,rfl⟩<;>rcases Y with⟨j,rfl,e2⟩|⟨j,rfl,e2⟩|⟨j,rfl,e2⟩<;>cases e2<;>rfl
 .exact M.cell (.mi i) q
 .have hi':i<g.length:=by rwa[O.ln]
  have U:g.getD i 0=g[i]:=by rw[nN,gx hi'];rfl
  obtain⟨r1,r2,dz,r3⟩:=O.rp i _ (gx hi');show ∃o,H (g.getD i 0)=some o/\_;rw[U];erw[⟨_,r3,λH' h'=>⟨r1,r2,dz,?_⟩⟩];show H' (g.getD i 0)=_;rw[U];have h':H' (g.getD i 0)=_:=h';rw[U] at h';erw[h']
 .have:=r e S;cases y:Q e with
  |none=>erw[this y]
  |some o=>rw[M.same _ _ y] at z;cases z
 .intro z;rcases I l v with u|⟨m,s,t,_⟩
  .rcases u with rfl|rfl|rfl
   .exact ns.1 z.symm
   .exact ns.2.1 z.symm
   .exact ns.2.2 z.symm
  .exact M.sn m s (t.trans z)
 .intro z;rcases I l v with u|⟨m,s,t,X⟩
  .have nm:=R (.mi i) q;rcases u with rfl|rfl|rfl
   .exact nm.1 z.symm
   .exact nm.2.1 z.symm
   .exact nm.2.2 z.symm
  .have:=M.inj m (.mi i) s q (t.trans z);rcases X with⟨j,_,rfl⟩|⟨j,_,rfl⟩|⟨j,_,rfl⟩<;>cases this
 .intro z;rcases I l v with u|⟨m,s,t,_⟩
  .have nm:=nF (g.getD i 0) (.inr (.inr (.inr (.inr (.inr (J i q))))));rcases u with rfl|rfl|rfl
   .exact nm.1 z.symm
   .exact nm.2.1 z.symm
   .exact nm.2.2 z.symm
  .have:=M.new m s;rw[t,z] at this;erw[r _ (.inr (.inr (.inr (.inr (.inr (J i q)))))) this]
 .rcases I l v with u|⟨m,s,t,_⟩
  .have nm:=nF _ z;rcases u with rfl|rfl|rfl
   .exact nm.1 rfl
   .exact nm.2.1 rfl
   .exact nm.2.2 rfl
  .have:=M.new m s;rw[t] at this;erw[r _ z this]
open PySem L2 Shp Nm Tr Hs Hm Hr PySem.NumText
def Made.rebase{T:List Row}{ch:Nat->eh}{a c i:Hp}{j x:eh}{A:Ad}{t:Nat}{o:HO}(M:Made eu T ch c j A t i)(h:∀b u,a b=some u->c b=some u/\b≠x)(m:c x≠none):Made eu T ch a j A t (upd i x o):=by
 have fr:∀b,c b=none->a b=none/\b≠x:=λb e=>by
  erw[⟨?_,λz=>m (by rwa[<- z])⟩];cases z:a b with
  |none=>rfl
  |some u=>rw[(h b u z).1] at e;cases e
 erw[⟨λb u e=>?_,?_,(fr _ M.s0).1,λl g=>?_,λl g=>(fr _ (M.new l g)).1,M.inj,M.sn⟩]
 .rw[ai (h b u e).2];erw[M.same _ _ (h b u e).1]
 .rw[ai (fr _ M.s0).2];erw[M.sl]
 .rw[ai (fr _ (M.new l g)).2];erw[M.cell l g]
structure acs(cT:eh)(p:Pl)(eu:HC)(T:List Row)(H0:Hp)(L:Lo)(FT:FS)(D:Dy)(H':Hp):Prop where
 same:aL H0 H'
 rp:Rp p.rep (jx cT p) eu T L FT D (new T) H'
 lb:∀l,vl T l->H0 (l.at L D)=none
 sa:H0 L.sa=none
 mi:∀i,i<T.length->H0 (L.mi i)=none
 ch:∀i,i<T.length->FT (L.ch i)
 bk:∀a,a∈D.bk->H0 a=none
def TZ(g:eh)(p:Pl)(eu:HC):Sp:=λvs H Q _=>∃(x b c:eh) (a:Hp) (T:List Row) (e:FS),vs=[.ref x,.ref c]/\a x=none/\a b=none/\b≠x/\H=upd (upd a b (.own x)) x (.ins eu.cH b [])/\jx g p a c T e/\jB T/\(new T).book.length<sizeLine∧
 ∀(L:Lo) (D:Dy) (H':Hp),L.x=x->acs g p eu T a L e D H'->Q .non H'
def Ys{cT:eh}(T:Txt mg)(m:CH K eu.cH){n:Nat}(hn:5<=n)(oB:iu P w K mg dX true 5 "standings_of" (Tw cT p eu) [])(hB:aR P w K mg dX n "begin" (mz p.rep (jx cT p) eu (λT i _=>cj T 10 i) (λT i S=>bf T 10 i S)) λC=>C=eu.cH)
  (F:aG K "__init__" "House.__init__" kY dV f fd):zFn P w K mg dX (n+1) f fd Dc (TZ cT p eu):=by
 have r:=hB.d
 rcases Ca,(aa (aI (pv 0) (pv 1) rfl)
   (aa (aI (pv 0) ag rfl)
   (aa (aI (pv 0) (aY cS) rfl)
   (aa (aI (pv 0) (aY cS) rfl)
   (aa (aI (pv 0) (cz oB {pv 1}) rfl)
   (ae (aC (j0 (pv 0) r {gj aA (au (pv 0) rfl) ag})))))))) with⟨x,dx,tr,H0,U,FT,rfl,h0,h1,h2,eH,⟨c,b,a,d,as,hT,rfl⟩,ok,hlen,k⟩
 have hx:H x=some (.ins eu.cH dx []):=by rw[eH];erw[af]
 have I:∀b u,H0 b=some u->H b=some u/\b≠x:=λb u e=>⟨by rwa[eH,ai (ao e h0),ai (ao e h1)],ao e h0⟩
 have f0:∀b,b≠x->H b=none->H0 b=none:=λb hb e=>by
  rw[eH,ai hb] at e;by_cases z:b=dx
  .rwa[z]
  .rw[ai z] at e;erw[e]
 lk;erw[cb hx m.cl m.tree (by show 0<1000;decide) ?_];lk;erw[cb af m.cl m.Jq (by show 1<1000;decide) ?_];rw[aW];have X:(upd H x (.ins eu.cH dx [("tree",.ref tr),("clock",.int 0)])) x=some (.ins eu.cH dx [("tree",.ref tr),("clock",.int 0)]):=af;have s1:∀b u,H0 b=some u->(upd H x (.ins eu.cH dx [("tree",.ref tr),("clock",.int 0)])) b=some u:=λb u e=>by rw[ai (I b u e).2];exact(I b u e).1
 have f1:∀b,b≠x->(upd H x (.ins eu.cH dx [("tree",.ref tr),("clock",.int 0)])) b=none->H0 b=none:=λb hb e=>by rw[ai hb] at e;erw[f0 b hb e]
 change vT _ _ _ _ (upd H x (.ins eu.cH dx [("tree",.ref tr),("clock",.int 0)]))
 generalize upd H x (.ins eu.cH dx [("tree",.ref tr),("clock",.int 0)])=H1 at X s1 f1;erw[⟨l8 ∅,λen O=>?_⟩];obtain⟨p1,p2,p3,p4,p5,p6⟩:=yx (o:= .lst []) (gs:=[("tree",.ref tr),("clock",.int 0),("entries",.ref en)]) X O;erw[ix rfl (cb p6 m.cl m.entries (by show 2<1000;decide) ?_)]
 change vT _ _ _ _ (upd (upd H1 en (.lst [])) x (.ins eu.cH dx [("tree",.ref tr),("clock",.int 0),("entries",.ref en)]))
 generalize upd (upd H1 en (.lst [])) x (.ins eu.cH dx [("tree",.ref tr),("clock",.int 0),("entries",.ref en)])=H2 at p1 p2 p3 p4;erw[⟨l8 ∅,λqu D=>?_⟩];obtain⟨Z,r2,r3,r4,r5,r6⟩:=yx (o:= .lst []) (gs:=[("tree",.ref tr),("clock",.int 0),("entries",.ref en),("ends",.ref qu)]) p1 D;erw[ix rfl (cb r6 m.cl m.ends (by show 3<1000;decide) ?_)]
 change vT _ _ _ _ (upd (upd H2 qu (.lst [])) x (.ins eu.cH dx [("tree",.ref tr),("clock",.int 0),("entries",.ref en),("ends",.ref qu)]))
 generalize upd (upd H2 qu (.lst [])) x (.ins eu.cH dx [("tree",.ref tr),("clock",.int 0),("entries",.ref en),("ends",.ref qu)])=H3 at Z r2 r3 r4;have s3:∀b u,H0 b=some u->H3 b=some u/\b≠x:=λb u e=>⟨r3 b u (I b u e).2 (p3 b u (I b u e).2 (s1 b u e)),(I b u e).2⟩;have N:H0 en=none:=f1 en p5 O;have Y:H0 qu=none:=f1 qu r5 (p4 qu r5 D).1;have eq:en≠qu:=Ne.symm (p4 qu r5 D).2;have W:H3 en=some (.lst []):=r3 en _ p5 p2;have T3:=hT.same λb u e=>(s3 b u e).1;lk;erw[l9 tr U c b a d as (ot rfl T3 ok.n64 ok.bV ok.up (λt A G M=>?_))];have xs:∀e,H3 e=none->e≠x/\e≠en/\e≠qu:=λe z=>⟨λy=>(by rw[y,Z] at z;cases z),λy=>(by rw[y,W] at z;cases z),λy=>(by rw[y,r2] at z;cases z)⟩;have x4:=M.same _ _ Z;lk;erw[cb x4 m.cl m.n8 (by show 4<1000;decide) ?_];have B:=M.rebase (o:= .ins eu.cH dx (zJ ⟨x,dx,en,qu,t,tr,A.nd,A.dn,A.mi,λi=>as.getD i 0⟩ S0)) s3 (λz=>by rw[Z] at z;cases z);have ac:upd G x (.ins eu.cH dx (lh "standings" (V.ref t) [("tree",V.ref tr),("clock",V.int 0),("entries",V.ref en),("ends",V.ref qu)]))=upd G x (.ins eu.cH dx (zJ ⟨x,dx,en,qu,t,tr,A.nd,A.dn,A.mi,λi=>as.getD i 0⟩ S0)):=rfl;rw[ac];have x5:(upd G x (.ins eu.cH dx (zJ ⟨x,dx,en,qu,t,tr,A.nd,A.dn,A.mi,λi=>as.getD i 0⟩ S0))) x=some (.ins eu.cH dx (zJ ⟨x,dx,en,qu,t,tr,A.nd,A.dn,A.mi,λi=>as.getD i 0⟩ S0)):=af;have L:(upd G x (.ins eu.cH dx (zJ ⟨x,dx,en,qu,t,tr,A.nd,A.dn,A.mi,λi=>as.getD i 0⟩ S0))) en=some (.lst []):=by rw[ai p5];erw[M.same _ _ W]
 have J:(upd G x (.ins eu.cH dx (zJ ⟨x,dx,en,qu,t,tr,A.nd,A.dn,A.mi,λi=>as.getD i 0⟩ S0))) qu=some (.lst []):=by rw[ai r5];erw[M.same _ _ r2]
 generalize upd G x (.ins eu.cH dx (zJ ⟨x,dx,en,qu,t,tr,A.nd,A.dn,A.mi,λi=>as.getD i 0⟩ S0))=H5 at B x5 L J;have rp:=B.rp ok hT x5 L J eq (λl hl=>xs _ (M.new l hl)) (xs _ M.s0) (λe he=>?_)
 .have sa5:=rp.sa;lk;erw[eF x5 ⟨rfl,rfl,rfl⟩ rfl ?_];lk;erw[a8 x5 m.cl m.n8 rfl ?_];lk;erw[hh t _ _ (V.ref (A.nd 0)) (fT rfl rfl (eZ.of sa5) (bY (j:=0) (by rw[hV,zq ok.n0];rfl)) ?_)];refine iJ U _ _ _ S0 0 (BS rfl rp rfl ok Wf.zero ok.n0 (gO (ok.deep 0 ok.n0)) hlen (λD' H' g=>?_))
  have al:∀b,H5 b=none->H0 b=none:=λb e=>by
   cases z:H0 b with
   |none=>rfl
   |some u=>rw[B.same _ _ z] at e;cases e
  have l0:∀l,vl U l->H0 (l.at ⟨x,dx,en,qu,t,tr,A.nd,A.dn,A.mi,λi=>as.getD i 0⟩ ⟨A.fa,A.wa,[],[]⟩)=none:=λl v=>by
   cases l with
   |hs=>erw[h0]
   |en=>erw[N]
   |qu=>erw[Y]
   |nd i=>erw[B.new (.nd i) v]
   |fa i=>erw[B.new (.fa i) v]
   |wa i=>erw[B.new (.wa i) v]
  erw[k _ D' H' rfl ⟨λb u e=>g.kp b u (λl v z=>?_) (B.same _ _ e),g.rp,λl v=>?_,B.s0,λi R=>B.new (.mi i) R,λi R=>?_,λq hq=>?_⟩]
  .rw[z,l0 l v] at e;cases e
  .rcases g.fr l v with z|z
   .rw[z];erw[l0 l v]
   .exact al _ z
  .refine .inr (.inr (.inr (.inr (.inr ?_))));have:i<as.length:=by rwa[hT.ln]
   show as.getD i 0∈as;rw[nN,gx this];erw[ve this]
  .rcases g.fb q hq with z|z
   .cases z
   .exact al _ z
 .have hne:H0 e≠none:=by
   rcases he with rfl|rfl|rfl|rfl|rfl|he
   .obtain ⟨dt,h⟩:=hT.ob;rw[h];erw[λz=>by cases z]
   .rw[hT.ch];erw[λz=>by cases z]
   .rw[hT.bl];erw[λz=>by cases z]
   .rw[hT.ab];erw[λz=>by cases z]
   .rw[hT.pl];erw[λz=>by cases z]
   .obtain ⟨i,R,e2⟩:=ai1.mp he;obtain⟨_,_,dz,h⟩:=hT.rp i e (by rw[gx R,e2]);rw[h];erw[λz=>by cases z]
  exact⟨λz=>hne (by rwa[z]),λz=>hne (by rwa[z]),λz=>hne (by rwa[z])⟩
def Ov(c:eh)(p:Pl)(eu:HC):Sp:=λvs H Q _=>∃(a:eh) (T:List Row) (b:FS),vs=[.ref a]/\jx c p H a T b/\jB T/\(new T).book.length<sizeLine/\∀(L:Lo) (D:Dy) (H':Hp),acs c p eu T H L b D H'->Q (.ref L.x) H'
def WK{a:eh}{n:Nat}(h:zk P w K mg dX true n "House" eu.cH (TZ a p eu) [])(F:aG K "built" "built" Mh dV f fd):zFn P w K mg dX (n+2) f fd aaS (Ov a p eu):=by
 rcases Xk,(ae (ar (uz h (hr.mono (by omega)) ⋯ cy {pv 0}))) with⟨g,U,q,rfl,l,ok,o,k⟩;lk;intro x i c m b;erw[iJ x i g H U q (BS rfl c m b rfl l ok o (λL D H' e j=>⟨rfl,?_⟩))];rw[<- e];erw[k L D H' j]
def aab{o:eh}:iA (jx o p):=by
 rintro H H' t T s k ⟨c,b,a,d,l,g,rfl⟩;erw[⟨c,b,a,d,l,⟨g.ob.imp λr h=>k _ _ (.inl rfl) h,k _ _ (.inr (.inl rfl)) g.ch,g.ln,λi x e=>?_,k _ _ (.inr (.inr (.inl rfl))) g.bl,k _ _ (.inr (.inr (.inr (.inl rfl)))) g.ab,k _ _ (.inr (.inr (.inr (.inr (.inl rfl))))) g.pl,g.n1,g.n2,g.n3⟩,rfl⟩];obtain⟨m,j,q,n⟩:=g.rp i x e;exact⟨m,j,q,k _ _ (.inr (.inr (.inr (.inr (.inr (S4 e)))))) n⟩
theorem PK{cm:Bool}{k:Nat}{ps:List Str}{sp:Sp}(h:∀vs H Q E,¬sp vs H Q E):aD P w K mg dX (fm P w) cm k f fd ps sp:=⟨λvs H Q E z=>(h vs H Q E z).elim,λ_ _ _ H _ _ vs Q E _ _ _ _ z=>(h vs H Q E z).elim⟩
theorem SF{j k:Nat}{m:Str}{sp:eh->Sp}{a:eh->Prop}(h:aR P w K mg dX j m sp a)(i:j<=k):aR P w K mg dX k m sp a:=λC c=>by
 obtain⟨f,fd,ps,ds,n,b,l,e,g⟩:=h C c;exact⟨f,fd,ps,ds,n,b,l.mono i,e,g⟩
def ad0{cm:Bool}{j k:Nat}{x:Str}{sp:Sp}{a:List V}(c:iu P w K mg dX cm j x sp a)(i:j<=k):iu P w K mg dX cm k x sp a:=by
 obtain⟨f,fd,ps,ds,g,b,l,e,h⟩:=c;exact⟨f,fd,ps,ds,g.mono i,b,l,e,h⟩
end
open PySem L2 Shp Nm Tr Hs Hm Hr PySem.NumText
section
variable{P:hD}{w:gT}{K:fD}{mg:Str->Option ez}{dX:gm}{f:eh}{fd:oT}{dV:ez}{eu:HC}{p:Pl}{R:Rep}{TR:Hr.j8}
def foot(T:List Row)(L:Lo)(a:FS)(D:Dy):FS:=λb=>(∃l,vl T l/\b=l.at L D)\/b=L.sa\/(∃i,i<T.length/\(b=L.mi i\/b=L.ch i))\/a b\/b∈D.bk
def Kc{a:Type}(R:Rep)(TR:Hr.j8)(eu:HC)(Pd:a->List Row->HS->Prop):HR a:=λH x s F=>∃(T:List Row) (L:Lo) (b:FS) (D:Dy) (S:HS),L.x=x/\Rp R TR eu T L b D S H/\jB T/\Wf T S/\S.ends=[]/\(T.map (·.sh.name)).Nodup/\Pd s T S/\F=foot T L b D
section
variable{σ:Type}{Pd:σ->List Row->HS->Prop}{H H':Hp}{T:List Row}{L:Lo}{FT:FS}{D D':Dy}{S S':HS}
def Y8(h:Rp R TR eu T L FT D S H){b:eh}(a:foot T L FT D b):H b≠none:=by
 rcases a with⟨l,v,rfl⟩|rfl|⟨i,g,rfl|rfl⟩|a|a
 .rw[h.cells l v];erw[λz=>by cases z]
 .rw[h.sa];erw[λz=>by cases z]
 .rw[h.mi i g];erw[λz=>by cases z]
 .obtain ⟨o,e,_⟩:=h.ch i g;rw[e];erw[λz=>by cases z]
 .exact h.own b a
 .obtain ⟨k,hk,e⟩:=ai1.mp a;have c:k<S.book.length:=by rwa[<- h.bkl]
  rw[h.bk k b S.book[k] (by rw[gx hk,e]) (gx c)];erw[λz=>by cases z]
def VQ(n:iA TR)(h:Rp R TR eu T L FT D S H)(q:S.ends=[])(k:∀b o,foot T L FT D b->H b=some o->H' b=some o):Rp R TR eu T L FT D S H':=by
 erw[⟨λl v=>k _ _ (.inl ⟨l,v,rfl⟩) (h.cells l v),h.inj,k _ _ (.inr (.inl rfl)) h.sa,λi c=>k _ _ (.inr (.inr (.inl ⟨i,c,.inl rfl⟩))) (h.mi i c),λi c=>?_,n H H' _ _ _ (λb o m e=>k b o (.inr (.inr (.inr (.inl m)))) e) h.tr,λb m=>?_,h.bkl,λj a e e1 e2=>k _ _ (.inr (.inr (.inr (.inr (S4 e1))))) (h.bk j a e e1 e2),h.qsl,λj a e e1 e2=>?_,h.tM⟩]
 .obtain ⟨o,e,g⟩:=h.ch i c;exact⟨o,k _ _ (.inr (.inr (.inl ⟨i,c,.inr rfl⟩))) e,g⟩
 .cases e:H b with
  |none=>erw[absurd e (h.own b m)]
  |some o=>rw[k b o (.inr (.inr (.inr (.inl m)))) e];erw[λz=>by cases z]
 .rw[q] at e2;cases e2
def Vf(g:Goes R TR eu T L FT D H D' S' H'){b:eh}(a:foot T L FT D' b):foot T L FT D b\/H b=none:=by
 rcases a with⟨l,v,rfl⟩|rfl|a|a|a
 .rcases g.fr l v with z|z
  .exact .inl (.inl ⟨l,v,z⟩)
  .exact .inr z
 .exact .inl (.inr (.inl rfl))
 .exact .inl (.inr (.inr (.inl a)))
 .exact .inl (.inr (.inr (.inr (.inl a))))
 .rcases g.fb b a with z|z
  .exact .inl (.inr (.inr (.inr (.inr z))))
  .exact .inr z
def adB(a:iA TR):uu (Kc R TR eu Pd) λC=>C=eu.cH:=by
 erw[⟨?_,?_,?_⟩]
 .rintro H x s F b ⟨T,L,FT,D,S,rfl,h,ok,wf,he,nd,pd,rfl⟩ hb;erw[Y8 h hb]
 .rintro H H' x s F k ⟨T,L,FT,D,S,rfl,h,ok,wf,he,nd,pd,rfl⟩;exact⟨T,L,FT,D,S,rfl,VQ a h he k,ok,wf,he,nd,pd,rfl⟩
 .rintro H x s F ⟨T,L,FT,D,S,rfl,h,ok,wf,he,nd,pd,rfl⟩;exact⟨_,_,_,h.cells .hs trivial,rfl,rfl,rfl,rfl,rfl,rfl,rfl⟩
theorem sQ{s c:σ}(h:Rp R TR eu T L FT D S H)(ok:jB T)(nd:(T.map (·.sh.name)).Nodup)(g:Goes R TR eu T L FT D H D' S' H')(i:Wf T S')(m:S'.ends=[])(j:Pd c T S'):Moved (Kc R TR eu Pd) H (foot T L FT D) L.x c H' (foot T L FT D'):=
 ⟨λb o a e=>g.kp b o (λl v z=>a (.inl ⟨l,v,z⟩)) e,λb a=>Vf g a,⟨T,L,FT,D',S',rfl,g.rp,ok,i,m,nd,j,rfl⟩⟩
def C8(h:Rp R TR eu T L FT D S H){C a:eh}{fs:List (Str×V)}(e:H L.x=some (.ins C a fs)):eu.cH=C:=by
 have:=h.cells .hs trivial;rw[show (Lb.hs).at L D=L.x from rfl,e] at this;exact(HO.ins.inj (hH this)).1.symm
def Xw(m:aR P w K mg dX 1 "rows" (MA K R TR eu) λC=>C=eu.cH){kk:Nat}(o:1<=kk)(book:σ->List Ent)(i:∀s T S,Pd s T S->S.book=book s):aR P w K mg dX kk "rows" (Sy (Kc R TR eu Pd) book) λC=>C=eu.cH:=by
 intro C r;obtain⟨f,fd,ps,ds,u,j,g,a,b⟩:=m C r;erw[⟨f,fd,ps,ds,u,j,(g.mono o).imp ?_,a,b⟩];rintro vs H Q E ⟨x,s,F,z,fs,rfl,⟨T,L,FT,D,S,rfl,h,ok,v,y,nd,t,rfl⟩,c,k⟩;erw[m8 T L FT D S (kb rfl h (C8 h c) (λq H' n e l=>k q H' n e ?_))];rwa[<- i s T S t]
def Vj(m:aR P w K mg dX 4 "doing" (YY R TR eu) λC=>C=eu.cH){kk:Nat}(o:4<=kk)(b:σ->Str->Option Str)(hd:∀s T S nm wd,Pd s T S->b s nm=some wd->∃i,i<T.length/\(sh T i).name=nm/\(S.nd i).st=wd):aR P w K mg dX kk "doing" (TM (Kc R TR eu Pd) b) λC=>C=eu.cH:=by
 intro C q;obtain⟨f,fd,ps,ds,t,n,l,c,e⟩:=m C q;erw[⟨f,fd,ps,ds,t,n,(l.mono o).imp ?_,c,e⟩];rintro vs H Q E ⟨x,nm,wd,s,F,y,fs,rfl,⟨T,L,FT,D,S,rfl,h,ok,u,v,nd,r,rfl⟩,g,a,k⟩;obtain⟨i,j,rfl,rfl⟩:=hd s T S nm wd r a;exact⟨T,L,FT,D,S,i,rfl,h,C8 h g,j,nd,k⟩
def acP(m:aR P w K mg dX 2 "on" (Xq R TR eu) λC=>C=eu.cH){kk:Nat}(o:2<=kk)(on:σ->List Str)(e:∀s T S,Pd s T S->HZ T S=on s):aR P w K mg dX kk "on" (afb (Kc R TR eu Pd) on) λC=>C=eu.cH:=by
 intro C r;obtain⟨f,fd,ps,ds,u,j,i,a,b⟩:=m C r;erw[⟨f,fd,ps,ds,u,j,(i.mono o).imp ?_,a,b⟩];rintro vs H Q E ⟨x,s,F,z,fs,rfl,⟨T,L,FT,D,S,rfl,h,ok,v,y,nd,t,rfl⟩,c,k⟩;erw[m8 T L FT D S (fT rfl h (C8 h c) ok.n64 (λq H' n g l=>k q H' n g ?_))];rwa[<- e s T S t]
def aa7{g:eh}{s:σ}{e:Hp}(n:acs g p eu T e L FT D H)(ok:jB T)(nd:(T.map (·.sh.name)).Nodup)(h:Pd s T (new T)):Kc p.rep (jx g p) eu Pd H L.x s (foot T L FT D)/\∀b,foot T L FT D b->FT b\/e b=none:=by
 erw[⟨⟨T,L,FT,D,new T,rfl,n.rp,ok,Wf.new ok,Gy 10 0 _,nd,h,rfl⟩,?_⟩];rintro b (⟨l,v,rfl⟩|rfl|⟨i,c,rfl|rfl⟩|a|a)
 .exact .inr (n.lb l v)
 .exact .inr n.sa
 .exact .inr (n.mi i c)
 .exact .inl (n.ch i c)
 .exact .inl a
 .exact .inr (n.bk b a)
end
abbrev SG:=List Row×HS×Nat
def PdG(s:SG)(T:List Row)(S:HS):Prop:=s.1=T/\s.2.1=S/\fO T/\Jv T S/\gB T S+S.book.length<=3*T.length+s.2.2*(T.length*cost T)
def Z6(R:HR SG)(C:eh):Sp:=λvs H Q _=>∃(x:eh) (T:List Row) (S:HS) (c:Nat) (F:FS) (b:eh) (fs:List (Str×V)),vs=[.ref x]/\R H x (T,S,c) F/\H x=some (.ins C b fs)/\(c+1)*T.length<=2200/\∀S' H' a,(∃f,By T f S=some S')->Moved R H F x (T,S',c+1) H' a->Q .non H'
def Zz(R:HR SG)(b:eh)(C:eh):Sp:=λvs H Q E=>∃(x:eh) (T:List Row) (S:HS) (c:Nat) (F:FS) (e:eh) (fs:List (Str×V)),vs=[.ref x]/\R H x (T,S,c) F/\H x=some (.ins C e fs)/\(c+1)*T.length<=2200∧
 (cK S 0=false->∀S' H' a,(∃f,EA T f S=some S')->Moved R H F x (T,S',c+1) H' a->Q .non H')/\(cK S 0=true->∀H' a,Moved R H F x (T,S,c) H' a->E (.ref b) none H')
def ZQ(R:HR SG)(b e:eh)(C:eh):Sp:=λvs H Q E=>∃(x:eh) (T:List Row) (S:HS) (c:Nat) (F:FS) (g:eh) (fs:List (Str×V)) (i:Nat),vs=[.ref x,.str (sh T i).name]/\R H x (T,S,c) F/\H x=some (.ins C g fs)/\(c+1)*T.length<=2200/\i<T.length∧
 (fk T i=false->∀H' a,Moved R H F x (T,S,c) H' a->E (.ref b) none H')/\(fk T i=true->cK S i=true->∀H' a,Moved R H F x (T,S,c) H' a->E (.ref e) none H')∧
 (fk T i=true->cK S i=false->∀S' H' a,(∃f,HX T f i S=some S')->Moved R H F x (T,S',c+1) H' a->Q .non H')
def G1(s:SG)(nm:Str):Option Str:=((gG s.1.length).find? λi=>decide ((sh s.1 i).name=nm)).map λi=>(s.2.1.nd i).st
structure VA(P:hD)(w:gT)(K:fD)(mg:Str->Option ez)(dX:gm)(kk:Nat)(R:HR SG)(Cl:eh->Prop)(cL cN:eh):Prop where
 I:uu R Cl
 rows:aR P w K mg dX kk "rows" (Sy R λs=>s.2.1.book) Cl
 La:aR P w K mg dX kk "doing" (TM R G1) Cl
 on:aR P w K mg dX kk "on" (afb R λs=>HZ s.1 s.2.1) Cl
 turn:aR P w K mg dX kk "turn" (Z6 R) Cl
 stop:aR P w K mg dX kk "stop" (Zz R cN) Cl
 IW:aR P w K mg dX kk "trip" (ZQ R cL cN) Cl
def budget{T:List Row}{c b:Nat}(h:(c+1)*T.length<=2200)(a:T.length<=64)(e:b<=3*T.length+(c+1)*(T.length*cost T)):b<sizeLine:=by
 have e1:(c+1)*(T.length*cost T)=((c+1)*T.length)*cost T:=(Nat.mul_assoc _ _ _).symm;have e2:cost T<=1764:=by unfold cost wB;lia
 have e3:((c+1)*T.length)*cost T<=2200*1764:=amI h e2;rw[GX]
 lia
def aaX{T:List Row}(h:fO T){i:Nat}(a:i<T.length):(sh T i).name.length<=12:=by
 unfold sh;rw[nN,gx a];exact(h.sh _ (ve a)).nm.2.1
def afz{kk n:Nat}{cL Y:eh}(N:iA TR)(hk:4<=kk)(X:n<=kk)(m1:aR P w K mg dX 1 "rows" (MA K R TR eu) λC=>C=eu.cH)
  (m2:aR P w K mg dX 4 "doing" (YY R TR eu) λC=>C=eu.cH)
  (m3:aR P w K mg dX 2 "on" (Xq R TR eu) λC=>C=eu.cH)
  (m4:aR P w K mg dX n "turn" (S9 R TR eu) λC=>C=eu.cH) (m5:aR P w K mg dX n "stop" (To R TR eu Y) λC=>C=eu.cH) (m6:aR P w K mg dX n "trip" (SD R TR eu cL Y) λC=>C=eu.cH):VA P w K mg dX kk (Kc R TR eu PdG) (λC=>C=eu.cH) cL Y:=by
 refine⟨adB N,Xw m1 () _ (λs T S h=>by rw[h.2.1]),
  Vj m2 hk G1 (λs T S nm wd h hd=>?_),
  acP m3 () _ (λs T S h=>by rw[h.1,h.2.1]),
  ?_,?_,?_
  ⟩
 .obtain ⟨rfl,rfl,_⟩:=h;unfold G1 at hd;cases hf:(gG s.1.length).find? λi=>decide ((sh s.1 i).name=nm) with
  |none=>rw[hf] at hd;cases hd
  |some i=>
   rw[hf] at hd;exact⟨i,pf.mp (akr hf),gD (amz (p:=λi=>decide ((sh s.1 i).name=nm)) hf),hH hd⟩
 .intro C hC;obtain⟨f,fd,ps,ds,O,J,u,B,G⟩:=m4 C hC;erw[⟨f,fd,ps,ds,O,J,(u.mono X).imp ?_,B,G⟩];rintro vs H Q E ⟨x,a,S0,c,F,Z,fs,rfl,⟨T,L,r,D,S,rfl,h,ok,m,q,nd,⟨e1,e2,b,j,l⟩,rfl⟩,I,A,k⟩;have e1:a=T:=e1;have e2:S0=S:=e2;subst e1 e2;obtain⟨o,S',t1,M,t,v,t5⟩:=Zy b m j q;have l:gB a S0+S0.book.length<=3*a.length+c*(a.length*cost a):=l;have e:gB a S'+S'.book.length<=3*a.length+(c+1)*(a.length*cost a):=by rw[M6,Q9];lia
  exact⟨a,L,r,D,S0,S',o,rfl,h,C8 h I,ok,m,t1,budget A b.len (),λD' H' g=>k S' H' _ ⟨o,t1⟩ (sQ (s:=(a,S0,c)) h ok nd g M v ⟨rfl,rfl,b,t,e⟩)⟩
 .intro C hC;obtain⟨f,fd,ps,ds,O,J,u,B,G⟩:=m5 C hC;erw[⟨f,fd,ps,ds,O,J,(u.mono X).imp ?_,B,G⟩];rintro vs H Q E ⟨x,a,S0,c,F,Z,fs,rfl,⟨T,L,r,D,S,rfl,h,ok,m,q,nd,⟨e1,e2,b,j,l⟩,rfl⟩,I,A,k1,k2⟩;have e1:a=T:=e1;have e2:S0=S:=e2;subst e1 e2;have l:gB a S0+S0.book.length<=3*a.length+c*(a.length*cost a):=l;erw[m8 a L r D S0 (an8 rfl h (C8 h I) ok m q (λz=>k2 z H _ (sQ (s:=(a,S0,c)) h ok nd (Goes.refl h) m q ⟨rfl,rfl,b,j,l⟩)) (λz=>?_))];obtain⟨o,S',t1,M,t,v,t5⟩:=SW b m j q z;have e:gB a S'+S'.book.length<=3*a.length+(c+1)*(a.length*cost a):=by rw[M6,Q9];lia
  exact⟨o,S',t1,budget A b.len (),λD' H' g=>k1 z S' H' _ ⟨o,t1⟩ (sQ (s:=(a,S0,c)) h ok nd g M v ⟨rfl,rfl,b,t,e⟩)⟩
 .intro C hC;obtain⟨f,fd,ps,ds,O,J,u,B,G⟩:=m6 C hC;erw[⟨f,fd,ps,ds,O,J,(u.mono X).imp ?_,B,G⟩];rintro vs H Q E ⟨x,a,S0,c,F,Z,fs,i,rfl,⟨T,L,r,D,S,rfl,h,ok,m,q,nd,⟨e1,e2,b,j,l⟩,rfl⟩,I,A,W,k1,k2,k3⟩;have e1:a=T:=e1;have e2:S0=S:=e2;subst e1 e2;have l:gB a S0+S0.book.length<=3*a.length+c*(a.length*cost a):=l;have mv:∀H',aL H H'->Moved (Kc R TR eu PdG) H (foot a L r D) L.x (a,S0,c) H' (foot a L r D):=λH' y=>sQ (s:=(a,S0,c)) h ok nd (Goes.same N h y) m q ⟨rfl,rfl,b,j,l⟩;erw[iJ a L r D S0 i (R3 rfl h (C8 h I) ok m W ⟨nd,aaX b W⟩ (λz H' y=>k1 z H' _ (mv H' y)) (λz U H' y=>k2 z U H' _ (mv H' y)) (λz U=>?_))];obtain⟨o,S',t1,M,t,v,t5⟩:=Td b m j q W z U;have cl:cost a<=a.length*cost a:=Nat.le_mul_of_pos_left _ ok.n0;have e:gB a S'+S'.book.length<=3*a.length+(c+1)*(a.length*cost a):=by rw[M6,Q9];lia
  exact⟨o,S',t1,budget A b.len (),λD' H' g=>k3 z U S' H' _ ⟨o,t1⟩ (sQ (s:=(a,S0,c)) h ok nd g M v ⟨rfl,rfl,b,t,e⟩)⟩
def Qq(TR:Hr.j8)(R:HR SG):Sp:=λvs H Q _=>∃(t:eh) (T:List Row) (a:FS),vs=[.ref t]/\TR H t T a/\fO T/\∀(x:eh) (H':Hp) (F:FS),aL H H'->(∀b,F b->a b\/H b=none)->R H' x (T,new T,0) F->Q (.ref x) H'
def ac6{b:eh}{n kk:Nat}(m:n<=kk)(c:iu P w K mg dX true n "built" (Ov b p eu) []):iu P w K mg dX true kk "built" (Qq (jx b p) (Kc p.rep (jx b p) eu PdG)) []:=by
 obtain⟨f,fd,ps,ds,y,e,r,g,l⟩:=c;erw[⟨f,fd,ps,ds,(y.mono m).imp ?_,e,r,g,l⟩];rintro vs H Q E ⟨t,T,o,rfl,q,a,k⟩;have ok:=fO.tok a;obtain⟨j,h⟩:=XW a;have v:=a.len;erw[ml t T o (fT rfl q ok (by rw[GX];lia) (λL D H' n=>?_))];obtain⟨u,i⟩:=aa7 (Pd:=PdG) (s:=(T,new T,0)) n ok a.nd ⟨rfl,rfl,a,j,by rwa[ajS]⟩;erw[k L.x H' _ n.same i u]
end
open PySem L2 Shp Nm Tr Hs Hm Hr PySem.NumText
section
variable{P:hD}{w:gT}{K:fD}{mg:Str->Option ez}{dX:gm}{f:eh}{fd:oT}{dV:ez}
structure ExF(K:fD)(cE cL cN:eh):Prop where
 xL:Jx K cL
 xN:Jx K cN
 iL:VO K cL
 iN:VO K cN
 LL:tW K (.ref cL) (.ref cL)=some true
 LN:tW K (.ref cL) (.ref cN)=some false
 NL:tW K (.ref cN) (.ref cL)=some false
 NN:tW K (.ref cN) (.ref cN)=some true
 EL:su K cL (.ref cE)=some true
 EN:su K cN (.ref cE)=some true
 NM:su K cN (.ref cN)=some true
def Sg(R:HR SG):Sp:=λvs H Q _=>∃(x:eh) (T:List Row) (S:HS) (c:Nat) (F:FS) (i:Nat),vs=[.ref x,.str (sh T i).name]/\R H x (T,S,c) F/\(c+1)*T.length<=2200/\i<T.length∧
 (fk T i=false->∀H' a,Moved R H F x (T,S,c) H' a->Q (.str "leaf") H')/\(fk T i=true->cK S i=true->∀H' a,Moved R H F x (T,S,c) H' a->Q (.str "off") H')∧
 (fk T i=true->cK S i=false->∀S' H' a,(∃f,HX T f i S=some S')->Moved R H F x (T,S',c+1) H' a->Q (.str "") H')
theorem Moved.same{R:HR SG}{g:eh->Prop}(I:uu R g){H H' c:Hp}{F a:FS}{x:eh}{s:SG}(m:Moved R H F x s H' a)(e:aL H' c):Moved R H F x s c a:=⟨λb o h z=>e _ _ (m.1 b o h z),m.2.1,I.same e m.2.2⟩
def Y2{kk:Nat}{R:HR SG}{O:eh->Prop}{u j g:eh}(F:aG K "_law_tried" "_law_tried" N5 dV f fd)(T:Txt mg)(G:VA P w K mg dX kk R O j g)(X:ExF K u j g)(J:mg "MinderError"=some (.ref u))(W:Ec K u)(a:mg "NoLeaf"=some (.ref j))(b:mg "NotOn"=some (.ref g)):
  zFn P w K mg dX (kk+1) f fd Tn (Sg R):=by
 erw[F.okN IQ (λvs H Q E h=>?_) (λab A eD s0 H vs Q E N h=>?_)]
 .obtain ⟨x,U,S,c,F,i,rfl,_⟩:=h
  rfl
 .obtain ⟨x,U,S,c,F,i,rfl,hR,hc,hi,k1,k2,k3⟩:=h;have m:=G.IW.d;obtain⟨Z,p,q,n,y,n1,n2,n3,n4,n5,L⟩:=G.I.inst hR
  refine⟨_,(aa (QK ⟨rfl,rfl,rfl⟩ (λD C E' Y hP=>(ae (bB (i:=2) IQ.nd (xR (pv 0) m (N.mono (by omega)) (passes Y) {pv 1}))))
    aw
    (aeG (i:=3) ⟨rfl,rfl,rfl⟩ IQ.nd rfl rfl ⋯ J W (λe=>(aa (aH (PW.pt (dA (ba (aO (yC (K0:=K) rfl) ⋯ T.gI fN {pv 3,yL ⋯ a})) (cQ (cU (ba (aO (yC (K0:=K) rfl) ⋯ T.gI fN {pv 3,yL ⋯ b})))))) (ae (ar aj)) aw)
   (aa (aH (PW.pt (dA (ba (aO (yC (K0:=K) rfl) ⋯ T.gI fN {pv 3,yL ⋯ b})) (cQ (cU (ba (aO (yC (K0:=K) rfl) ⋯ T.gI fN {pv 3,yL ⋯ a})))))) (ae (ar aj)) aw)
   (ae (ar aj)))))
    MP))
   (aa (aH (gy DS (pv 2) fG) (ae (ar aj)) aw)
   (ae (ar aj)))),?_⟩
  fin2
  lk;erw[iJ x Z p q _ _ (fT rfl n ⟨y,rfl,rfl⟩ L ?_)];lk;erw[Ow x U S c F p q i (an8 rfl hR n hc hi (λz r B l=>?_) (λz v r B l=>?_) (λz v S' r B M l=>?_))]
  .refine hY j true (jl rfl X.EL (λe s=>?_));have t:=aq (o:=vr e j none) s;have xe:(upd r e (vr e j none)) e=some (vr e j none):=af;have l:=Moved.same G.I l t;lk;erw[m8 e j _ _ true (jm rfl xe X.xL X.iL rfl X.LL ?_)];lk;erw[m8 e j _ _ false (jm rfl xe X.xL X.iL rfl X.LN ?_)];lk;erw[k1 z _ _ l]
  .refine hY g true (jl rfl X.EN (λe s=>?_));have t:=aq (o:=vr e g none) s;have xe:(upd r e (vr e g none)) e=some (vr e g none):=af;have l:=Moved.same G.I l t;lk;erw[m8 e g _ _ false (jm rfl xe X.xN X.iN rfl X.NL ?_)];lk;erw[m8 e g _ _ true (jm rfl xe X.xN X.iN rfl X.NN ?_)];lk;erw[m8 e g _ _ false (jm rfl xe X.xN X.iN rfl X.NL ?_)];lk;erw[k2 z v _ _ l]
  .lk;erw[k3 z v S' _ _ M l]
def K1(R:HR SG):Sp:=λvs H Q _=>∃(x:eh) (T:List Row) (S:HS) (c:Nat) (F:FS),vs=[.ref x]/\R H x (T,S,c) F/\(c+1)*T.length<=2200∧
 (cK S 0=true->∀H' a,Moved R H F x (T,S,c) H' a->Q (.str "off") H')/\(cK S 0=false->∀S' H' a,(∃f,EA T f S=some S')->Moved R H F x (T,S',c+1) H' a->Q (.str "") H')
def QH{kk:Nat}{R:HR SG}{N:eh->Prop}{J p g:eh}(F:aG K "_law_stopped" "_law_stopped" DK dV f fd)(T:Txt mg)(G:VA P w K mg dX kk R N p g)(X:ExF K J p g)(B:mg "NotOn"=some (.ref g))(r:Ec K g):
  zFn P w K mg dX (kk+1) f fd K5 (K1 R):=by
 erw[F.okN HV (λvs H Q E h=>?_) (λs A eD Y H vs Q E C h=>?_)]
 .obtain ⟨x,U,S,c,F,rfl,_⟩:=h
  rfl
 .obtain ⟨x,U,S,c,F,rfl,hR,hc,k1,k2⟩:=h;have a:=G.stop.d;obtain⟨W,l,m,b,n,n1,n2,Z,n4,q,n6⟩:=G.I.inst hR
  refine⟨_,(aa (QK ⟨rfl,rfl,rfl⟩ (λD t E' O hP=>(ae (bB (i:=1) HV.nd (gL (pv 0) a (C.mono (by omega)) (passes O)))))
    aw
    (XH ⟨rfl,rfl,rfl⟩ ⋯ B r (λe=>(ae (ar aj)))
    MP))
   (aa (aH (gy DS (pv 1) fG) (ae (ar aj)) aw)
   (ae (ar aj)))),?_⟩
  fin2
  lk;erw[iJ x W l m _ _ (fT rfl b ⟨n,rfl,rfl⟩ q ?_)];lk;erw[l9 x U S c F l m (ot rfl hR b hc (λz S' L M y j=>?_) (λz L M j=>?_))]
  .lk;erw[k2 z S' _ _ y j]
  .refine hY g true (jl rfl X.NM (λe u=>?_));have v:=aq (o:=vr e g none) u;have j:=Moved.same G.I j v;lk;erw[k1 z _ _ j]
def Yx(K:fD)(R:HR SG):Sp:=λvs H Q _=>∃(x a:eh) (T:List Row) (S:HS) (c:Nat) (F:FS) (cell:Int),vs=[.ref x,.ref a,.int cell]/\R H x (T,S,c) F/\eZ K H a (T.map λr=>V.str r.sh.name)/\0<T.length/\(c+2)*T.length<=2200∧
 ∀S' wd b H' e,JC T (vX T.length cell) S S' wd->b<=c+2->Moved R H F x (T,S',b) H' e->Q (.str wd) H'
def Moved.trans{R:HR SG}{q:eh->Prop}(I:uu R q){H j g:Hp}{F n l:FS}{x:eh}{p s i:SG}(h:R H x p F)(m:Moved R H F x s j n)(c:Moved R j n x i g l):Moved R H F x i g l:=by
 erw[⟨λb o a e=>c.1 b o (λz=>?_) (m.1 b o a e),λb a=>?_,c.2.2⟩]
 .rcases m.2.1 b z with y|y
  .exact a y
  .rw[e] at y;cases y
 .rcases c.2.1 b a with y|y
  .exact m.2.1 b y
  .by_cases z:F b
   .exact .inl z
   .right
    cases w:H b with
    |none=>rfl
    |some o=>rw[m.1 b o z w] at y;cases y
def aac{kk:Nat}{R:HR SG}{Cl:eh->Prop}{cL cN:eh}(F:aG K "_law_deed" "_law_deed" RE dV f fd)(T:Txt mg)(G:VA P w K mg dX kk R Cl cL cN)(MH:iu P w K mg dX true (kk+1) "_law_tried" (Sg R) [])(Ej:iu P w K mg dX true (kk+1) "_law_stopped" (K1 R) []):
  zFn P w K mg dX (kk+2) f fd XM (Yx K R):=by
 erw[F.okN Sx (λvs H Q E h=>?_) (λac A eD s0 H vs Q E hr h=>?_)]
 .obtain ⟨x,np,U,S,c,F,cell,rfl,_⟩:=h
  rfl
 .obtain ⟨x,np,U,S,c,F,cell,rfl,hR,hN,n0,hc,k⟩:=h;have D:=G.turn.d;have Y:(c+1)*U.length<=2200:=je (ajU _ ()) hc
  refine⟨_,(aa (aH (gy sO (aB bF (pv 2) ag) (qR {(ag),(ag)})) (ae (ar (cz MH {pv 0,gj aA (pv 1) (aB bF (aB cZ (pv 2) ag) (aO aE ⋯ T.dH cg {pv 1}))}))) aw)
   (aa (aH (PW.pt (dA (gy bM (aB bF (pv 2) ag) ag) (cQ (gy bM (aB bF (aB cZ (pv 2) ag) ag) ag)))) (ae (ar (cz Ej {pv 0}))) aw)
   (aa (kj uZ rfl (jo ⋯ T.i8 {aB fR ag (aB bF (aB cZ (pv 2) ag) ag)}) (cG (i:=3) Sx.nd rfl (by k_ne)) (ae (aH (gy Tv (jD (pv 0) D) fG) (ae (ar aj)) aw)))
   (ae (ar aj))))),?_⟩
  fin2
  lk;erw[⟨l8 (by show 2<=100;decide),λq hq=>?_⟩];have Z:=aq (o:= .tup [.int 9,.int 10]) hq;have X:(upd H q (.tup [.int 9,.int 10])) q=some (.tup [.int 9,.int 10]):=af;lk;erw[hY q _ (fT rfl (.inr (iq.of X)) rfl rfl ?_)];generalize upd H q (.tup [.int 9,.int 10])=H1 at Z X;have L:=G.I.same Z hR;have l:Moved R H F x (U,S,c) H1 F:=⟨λb o _ e=>Z _ _ e,λb hb=>.inl hb,L⟩;have O:=eZ.same hN Z;lk;erw[bA (λe=>?_) (λe=>?_)]
  .have e:(decide ((9:Int)=cell%12)||(decide ((10:Int)=cell%12)||false))=true:=e
   have e:cell%12=9\/cell%12=10:=by
    rw[aiC,xk,kP,kP] at e
    lia
   have dk:vX U.length cell=.IW (cell/12%(U.length:Int)).toNat:=eT e;rw[dk] at k;have p0:(0:Int)<(U.length:Int):=by lia
   have m0:=akO (cell/12) (show(U.length:Int)≠0 by lia);have m1:=aje (cell/12) p0;obtain⟨i,hi⟩:∃i:Nat,cell/12%(U.length:Int)=(i:Int):=⟨(cell/12%(U.length:Int)).toNat,()⟩;have il:i<U.length:=by lia
   rw[hi,M0] at k
   have nm:(U.map λr=>V.str r.sh.name)[i]? =some (V.str (sh U i).name):=by
    rw[hV,gx il];unfold sh;rw[nN,gx il]
    rfl
   lk;erw[hY np _ (jl rfl (.inl O) ?_)];lk;rw[fC];erw[⟨p0,?_⟩];lk;erw[hh np _ _ (V.str (sh U i).name) (fT rfl (hI V.int hi) O (bY nm) ?_)];erw[iJ x U S c F i (jm rfl L Y il (λz H' B a=>?_) (λz z2 H' B a=>?_) (λz z2 S' H' B t a=>?_))]
   .exact k S "leaf" c H' B (.inl ⟨z,rfl,rfl⟩) () (Moved.trans G.I hR l a)
   .exact k S "off" c H' B (.inr (.inl ⟨z,z2,rfl,rfl⟩)) () (Moved.trans G.I hR l a)
   .exact k S' "" (c+1) H' B (.inr (.inr ⟨z,z2,t,rfl⟩)) () (Moved.trans G.I hR l a)
  .have e:¬(decide ((9:Int)=cell%12)||(decide ((10:Int)=cell%12)||false))=true:=e
   have e:¬(cell%12=9\/cell%12=10):=λz=>e (by
    rw[aiC,xk,kP,kP]
    lia)
   have ab:(cell%12=11/\cell/12%5=3)->vX U.length cell=.stop:=λz=>by
    unfold vX;rw[eJ e,eT z]
   have W:¬(cell%12=11/\cell/12%5=3)->vX U.length cell=.turns (1+cell/12%2).toNat:=λz=>by
    unfold vX;rw[eJ e,eJ z]
   lk;erw[bA (λe1=>?_) (λe1=>?_)]
   .have e1:cell%12=11:=V.int.inj (gD e1);lk;refine bA (λe2=>?_) (λe2=>?_)
    .have e2:cell/12%5=3:=V.int.inj (gD e2);rw[ab ⟨e1,e2⟩] at k;lk;refine m8 x U S c F (fT rfl L Y (λz H' B a=>?_) (λz S' H' B t a=>?_))
     .exact k S "off" c H' B (.inl ⟨z,rfl,rfl⟩) () (Moved.trans G.I hR l a)
     .exact k S' "" (c+1) H' B (.inr ⟨z,t,rfl⟩) () (Moved.trans G.I hR l a)
    .have e2:¬cell/12%5=3:=λz=>e2 (fK (hI V.int z));rw[W (λz=>e2 z.2)] at k;lk;have m2:cell/12%2=0\/cell/12%2=1:=by lia
     erw[⟨(by show -2^62<=1+cell/12%2;lia),(by show 1+cell/12%2<2^62;lia),?_⟩];erw[kX (lo:=0) (n:=(1+cell/12%2).toNat) (λj J C=>∃(m:HS) (u:FS) (v:Option V),Gq U j S m/\Moved R H F x (U,m,c+j) C u/\J=[some (.ref x),some (.ref np),some (.int cell),v]) ⟨S,F,none,.zero S,l,rfl⟩ ?_ ?_]
     .rintro j J C hj ⟨m,u,v,t,a,rfl⟩;have p:=a.2.2;obtain⟨C5,s,y,g,N,n1,n2,n3,n4,n5,n6⟩:=G.I.inst p;lk;erw[iJ x C5 s y _ _ (fT rfl g ⟨N,rfl,rfl⟩ n4 ?_)];erw[l9 x U m (c+j) u s y (fT rfl p g (je (ajU _ ()) hc) (λS3 H3 F3 t3 M=>?_))];lk;exact⟨S3,F3,_,.succ t t3,Moved.trans G.I hR a M,rfl⟩
     .rintro J C ⟨m,u,v,t,a,rfl⟩;lk;erw[k m "" (c+(1+cell/12%2).toNat) C u ⟨t,rfl⟩ () a]
   .have e1:¬cell%12=11:=λz=>e1 (fK (hI V.int z));rw[W (λz=>e1 z.1)] at k;lk;have m2:cell/12%2=0\/cell/12%2=1:=by lia
    erw[⟨(by show -2^62<=1+cell/12%2;lia),(by show 1+cell/12%2<2^62;lia),?_⟩];erw[kX (lo:=0) (n:=(1+cell/12%2).toNat) (λj J C=>∃(m:HS) (u:FS) (v:Option V),Gq U j S m/\Moved R H F x (U,m,c+j) C u/\J=[some (.ref x),some (.ref np),some (.int cell),v]) ⟨S,F,none,.zero S,l,rfl⟩ ?_ ?_]
    .rintro j J C hj ⟨m,u,v,t,a,rfl⟩;have p:=a.2.2;obtain⟨C5,s,y,g,N,n1,n2,n3,n4,n5,n6⟩:=G.I.inst p;lk;erw[iJ x C5 s y _ _ (fT rfl g ⟨N,rfl,rfl⟩ n4 ?_)];erw[l9 x U m (c+j) u s y (fT rfl p g (je (ajU _ ()) hc) (λS3 H3 F3 t3 M=>?_))];lk;exact⟨S3,F3,_,.succ t t3,Moved.trans G.I hR a M,rfl⟩
    .rintro J C ⟨m,u,v,t,a,rfl⟩;lk;erw[k m "" (c+(1+cell/12%2).toNat) C u ⟨t,rfl⟩ () a]
open PySem L2 Shp Nm Tr Hs Hm Hr Lw Gn PySem.NumText
theorem yc{c b:TS}{D:Ends}{e:St}{H:Hp}(M:St->Hp->Prop)(h:∀N:St->Hp->Prop,(∀a H',M a H'->N a H')->c {D with nx:=N} e H)(g:∀a H',M a H'->b D a H'):vT c b D e H:=h _ g
def acM{T:List Row}{i m:Nat}(h:par T i=some m):bz T i=(m:Int):=by
 unfold par at h
 split at h
 .cases h
 .have:=hH h
  lia
def adi{T:List Row}{i m:Nat}(h:bz T i=(m:Int)):par T i=some m:=by
 unfold par;rw[h,eJ (),M0]
def Z2{T:List Row}{i:Nat}(h:par T i=none):bz T i<0:=by
 unfold par at h
 split at h
 .assumption
 .cases h
def UN(l:List Nat):(l.map λk:Nat=>V.int (k:Int)).all fX=true:=by rw[ajL];erw[vc.mpr λ_ _=>rfl]
def eq_nil(l:List Nat):yS (l.map λk:Nat=>V.int (k:Int)) []=decide (l=[]):=by
 cases l with
 |nil=>rfl
 |cons a r=>rfl
def yy{a:Bool}{H:Hp}{q p:eh}{l:List Nat}{Q:VK}(c:H q=some (.lst (l.map λk:Nat=>V.int (k:Int))))(b:H p=none)(k:Q (.bl (if a then !decide (l=[]) else decide (l=[]))) (upd H p (.lst []))):adI K a (.ref q) (.ref p) (upd H p (.lst [])) Q:=by
 erw[⟨q,p,_,[],rfl,rfl,eZ.of (aq b _ _ c),eZ.of af,UN l,rfl,?_⟩];rwa[eq_nil]
def abJ:Sp:=λvs H Q _=>∃(a:eh) (A:rk) (G:Hp) (T:List Row) (ls:LN) (i:Nat) (t:Int),vs=[.ref a,.ref A.s,.int (i:Int)]/\xo G a T/\Fz A H G/\iQ H T.length ls A/\fO T/\i<T.length/\acd T ls i/\∀H',gg A H H'->iQ H' T.length (qx T ls ⟨t,"told",i⟩) A->Q (.bl true) H'
def Wt(F:aG K "_law_tells" "_law_tells" NS dV f fd)(T:Txt mg):zFn P w K mg dX 1 f fd O8 abJ:=by
 rcases Qa,(aa (aH (PW.pt (kB (cU (ba (gj aA (mB (pv 1) aj) (pv 2)))) (kB (ba (gj aA (mB (pv 1) aj) (pv 2))) (kU (gy (Ep (oh hr)) (mB (pv 1) aj) (aY cS)))))) (ae (ar cc)) aw)
   (aa (kj uZ rfl (Em ⋯ T.i8 {aB fR (pv 2) ag,aO aE ⋯ T.dH cg {gj bW (pv 0) ag}}) (cG (i:=3) Qa.nd rfl (by k_ne)) (ae (aH (PW.pt (dA (gy bM (gj aA (gj bW (pv 0) ag) (pv 3)) (gj aA (gj bW (pv 0) ag) (pv 2))) (cQ (ba (gj aA (mB (pv 1) aj) (pv 3)))))) (ae (ar cc)) aw)))
   (aa (Dx cc (HL (mB (pv 1) aj) (pv 2) set_list))
   (ae (ar cc))))) with⟨tp,A,G,U,ls,i,t,rfl,ht,fz,hs,ok,hi,⟨o1,o2,o3,o4⟩,k⟩
 have B:=ok.len;lk;erw[mu hs.xa ?_];lk;erw[kc (eZ.of hs.on) (bZ hi) ?_];rw[o1];lk;erw[mu hs.gtl ?_];lk;erw[kc (eZ.of hs.tl) (bZ hi) ?_];rw[o2];lk;obtain⟨q,x,d2⟩:=hs.Mp;erw[mu x ?_];lk;erw[⟨l8 ∅,λp r=>?_⟩];erw[yy d2 r ?_];rw[o3];have c:=aq (o:= .lst []) r;generalize upd H p (.lst [])=H1 at c;have a:=hs.same c;have h:=ht.same ((fz.but (gg.of_same c)).sub);obtain⟨O,z,M,C,J,t1,R,l,D,L,N,I⟩:=id h;lk;erw[kA (iq.of t1) rfl ?_];lk;erw[hY z _ (jl rfl (.inl (eZ.of l)) ?_)];rw[fC,mq];lk;erw[⟨⟨(),(),(),()⟩,?_⟩];erw[kX (lo:=(i:Int)+1) (n:=((U.length:Int)-((i:Int)+1)).toNat) (λj g H'=>H'=H1/\∃v,g=[some (.ref tp),some (.ref A.s),some (.int (i:Int)),v]) ⟨rfl,_,rfl⟩ ?_ ?_]
 .rintro j g H' hj ⟨rfl,v,rfl⟩;have u:(i:Int)+1+(j:Int)=((i+1+j:Nat):Int):=by lia
  rw[u];have b:i+1+j<U.length:=by lia
  have m:i<i+1+j:=by lia
  generalize i+1+j=y at b m;lk;erw[kA (iq.of t1) rfl ?_];lk;erw[kc (eZ.of l) (bZ b) ?_];lk;erw[kA (iq.of t1) rfl ?_];lk;erw[kc (eZ.of l) (bZ hi) ?_];lk;erw[bA (λe=>?_) (λe=>?_)]
  .have e:bz U y=bz U i:=V.int.inj (gD e);have pe:par U y=par U i:=by unfold par;rw[e]
   lk;erw[mu a.xa ?_];lk;erw[kc (eZ.of a.on) (bZ b) ?_];rw[o4 y m b pe];lk;exact⟨_,rfl⟩
  .exact ⟨rfl,_,rfl⟩
 .rintro g H' ⟨rfl,v,rfl⟩;lk;erw[mu a.gtl ?_];lk;erw[abu a.tl (NI (by rwa[fC,mq])) ?_];lk;erw[k _ ((gg.of_same c).trans (gg.upd (.inr (.inl rfl)))) (a.abN i true)]
def Zs:Sp:=λvs H Q _=>∃(a:eh) (A:rk) (G:Hp) (T:List Row) (ls:LN) (i:Nat) (t:Int) (wd:Str),vs=[.ref a,.ref A.s,.str wd,.int (i:Int)]/\xo G a T/\Fz A H G/\iQ H T.length ls A/\fO T/\i<T.length/\isWord wd/\Gk T ls wd i/\∀H',gg A H H'->iQ H' T.length (qx T ls ⟨t,wd,i⟩) A->Q (.bl true) H'
def afD{x y z u:Str}:x9 (.str x) [.str y,.str z,.str u]=(decide (x=y)||(decide (x=z)||decide (x=u))):=by
 rw[qj];simp only[x9,nt,XP,alS,xk,rz,kP,aiC];exact⟨λz=>z.imp Eq.symm λz=>z.imp Eq.symm Eq.symm,λz=>z.imp Eq.symm λz=>z.imp Eq.symm Eq.symm⟩
def afy{x y z:Str}:x9 (.str x) [.str y,.str z]=(decide (x=y)||decide (x=z)):=by
 rw[qj];simp only[x9,nt,XP,alS,xk,rz,kP,aiC];exact⟨λz=>z.imp Eq.symm Eq.symm,λz=>z.imp Eq.symm Eq.symm⟩
def DZ{T:List Row}{i:Nat}:∃a,(words (sh T i))[0]? =some a/\decide (V.str a=V.str "leaf")=fk T i/\decide (V.str a=V.str "minder")= !fk T i:=by
 cases hl:fk T i with
 |true=>exact⟨_,(RC hl).1,rfl,rfl⟩
 |false=>exact⟨_,NR hl,rfl,rfl⟩
def Z4(F:aG K "_law_ends" "_law_ends" Q2 dV f fd)(T:Txt mg):zFn P w K mg dX 1 f fd Ww Zs:=by
 rcases MD,(aa (bB (i:=4) MD.nd (vd bM (gj aA (gj aA (gj bW (pv 0) ag) (pv 3)) ag) aj))
   (aa (aH (PW.pt (kB (cU (ba (gj aA (mB (pv 1) aj) (pv 3)))) (kU (gy (Ep (oh hr)) (mB (pv 1) aj) (aY cS))))) (ae (ar cc)) aw)
   (aa (aH (PW.pt (kB (PW.pt (dA (gy sO (pv 2) (qR {(aj),(aj),(aj)})) (cQ (cU (ba (pv 4)))))) (kU (PW.pt (dA (gy bM (pv 2) aj) (cQ (ba (pv 4)))))))) (ae (ar cc)) aw)
   (aa (aH (PW.pt (dA (gy sO (pv 2) (qR {(aj),(aj)})) (cQ (cU (ba (gj aA (mB (pv 1) aj) (pv 3))))))) (ae (ar cc)) aw)
   (aa (kj uZ rfl (jo ⋯ T.i8 {aO aE ⋯ T.dH cg {gj bW (pv 0) ag}}) (cG (i:=5) MD.nd rfl (by k_ne)) (ae (aH (PW.pt (dA (gy bM (gj aA (gj bW (pv 0) ag) (pv 5)) (pv 3)) (cQ (ba (gj aA (mB (pv 1) aj) (pv 5)))))) (ae (ar cc)) aw)))
   (aa (Dx cc (HL (mB (pv 1) aj) (pv 3) set_list))
   (ae (ar cc)))))))) with⟨tp,A,G,U,ls,i,t,wd,rfl,ht,fz,hs,ok,hi,iw,⟨o1,o2,o3,o4,o5,o6⟩,k⟩
 have ad:=ok.len;have m:=ht.same fz.sub;obtain⟨gp,ep,wp,np,y,t1,t0,t2,t3,t4,t5,t6⟩:=id m;have O:y[i]? =some (y[i]'()):=gx _;generalize y[i]'()=x at O;have tx:=t5 i x O;obtain⟨hd,W,C,_⟩:=DZ (T:=U) (i:=i);erw[Iw (M:=λg H'=>aL H H'/\g=[some (.ref tp),some (.ref A.s),some (.str wd),some (.int (i:Int)),some (.bl (fk U i)),none]) (λN D=>?_) ?_]
 .lk;erw[kA (iq.of t1) rfl ?_];lk;erw[kc (eZ.of t3) (bY (by rw[hV,O];rfl)) ?_];lk;erw[kc (eZ.of tx) (QF W) ?_];lk;rw[C];erw[mu hs.xa ?_];lk;erw[kc (eZ.of hs.on) (bZ hi) ?_];rw[o1];lk;obtain⟨q,d1,d2⟩:=hs.Mp;erw[mu d1 ?_];lk;erw[⟨l8 ∅,λp Z=>?_⟩];erw[yy d2 Z ?_];rw[o2];have u:=aq (o:= .lst []) Z;generalize upd H p (.lst [])=J at u;lk;erw[⟨l8 (by show 3<=100;decide),λr h=>?_⟩];lk;erw[hY r _ (fT rfl (.inr (iq.of af)) rfl rfl ?_)];have c:=u.trans (aq (o:= .tup [V.str "done",V.str "fallen",V.str "cut"]) h);generalize upd J r (.tup [V.str "done",V.str "fallen",V.str "cut"])=l at c;erw[⟨_,rfl,?_⟩];rw[eJ jt,afD];have a:=D [some (.ref tp),some (.ref A.s),some (.str wd),some (.int (i:Int)),some (.bl (fk U i)),none] l ⟨c,rfl⟩;cases e1:(decide (wd="done")||(decide (wd="fallen")||decide (wd="cut"))) with
  |true=>
   have e2:wd="done"\/wd="fallen"\/wd="cut":=by
    rw[xk,xk,kP,kP,kP] at e1;erw[e1]
   have S:=o3 e2;rw[S] at a ⊢;lk;erw[bA (λe=>?_) (λe=>a)];have e:wd="gave up":=V.str.inj (gD e);rw[e] at e2;rcases e2 with z|z|z<;>erw[absurd z ∅]
  |false=>
   lk;erw[bA (λe=>?_) (λe=>a)];have e:wd="gave up":=V.str.inj (gD e);have S:=o4 e;rw[S] at a ⊢;lk;erw[a]
 rintro ac J ⟨u,rfl⟩;have I:=hs.same u;erw[yc (M:=λg H'=>aL H H'/\g=[some (.ref tp),some (.ref A.s),some (.str wd),some (.int (i:Int)),some (.bl (fk U i)),none]) (λN D=>?_) ?_]
 .lk;erw[⟨l8 (by show 2<=100;decide),λr h=>?_⟩];lk;erw[hY r _ (fT rfl (.inr (iq.of af)) rfl rfl ?_)];have c:=aq (o:= .tup [V.str "ended",V.str "cut"]) h;generalize upd J r (.tup [V.str "ended",V.str "cut"])=l at c;have b:=I.same c;erw[⟨_,rfl,?_⟩];rw[eJ jt,afy];have a:=D [some (.ref tp),some (.ref A.s),some (.str wd),some (.int (i:Int)),some (.bl (fk U i)),none] l ⟨u.trans c,rfl⟩;cases e1:(decide (wd="ended")||decide (wd="cut")) with
  |true=>
   have e2:wd="ended"\/wd="cut":=by
    rw[xk,kP,kP] at e1;erw[e1]
   lk;erw[mu b.gtl ?_];lk;erw[kc (eZ.of b.tl) (bZ hi) ?_];rw[o5 e2];lk;erw[a]
  |false=>
   lk;erw[a]
 rintro ab l ⟨c,rfl⟩;have b:=hs.same c;have B:=m.same c;obtain⟨gp,ep,wp,np,y,X,u0,Y,u3,u4,u5,u6⟩:=id B;lk;erw[kA (iq.of X) rfl ?_];lk;erw[hY ep _ (jl rfl (.inl (eZ.of Y)) ?_)];rw[fC,mq];lk;erw[⟨(),(),?_⟩];erw[kX (lo:=0) (n:=(U.length:Int).toNat) (λj L H'=>H'=l/\∃v,L=[some (.ref tp),some (.ref A.s),some (.str wd),some (.int (i:Int)),some (.bl (fk U i)),v]) ⟨rfl,_,rfl⟩ ?_ ?_]
 .rintro j L H' hj ⟨rfl,v,rfl⟩;rw[akE];have R:j<U.length:=by lia
  lk;erw[kA (iq.of X) rfl ?_];lk;erw[kc (eZ.of Y) (bZ R) ?_];lk;erw[bA (λe=>?_) (λe=>?_)]
  .have e:bz U j=(i:Int):=V.int.inj (gD e);lk;erw[mu b.xa ?_];lk;erw[kc (eZ.of b.on) (bZ R) ?_];rw[o6 j R (adi e)];lk;exact⟨_,rfl⟩
  .exact ⟨rfl,_,rfl⟩
 .rintro L H' ⟨rfl,v,rfl⟩;lk;erw[mu b.xa ?_];lk;erw[abu b.on (NI (by rwa[fC,mq])) ?_];lk;erw[k _ ((gg.of_same c).trans (gg.upd (.inl rfl))) (by rw[WR iw];exact b.aca i false)]
def ab1:Sp:=λvs H Q _=>∃(a:eh) (A:rk) (G:Hp) (T:List Row) (ls:LN) (i:Nat) (t:Int),vs=[.ref a,.ref A.s,.int (i:Int)]/\xo G a T/\Fz A H G/\iQ H T.length ls A/\fO T/\i<T.length/\ls.due.length<=64/\Zk T ls i/\∀H',gg A H H'->iQ H' T.length (qx T ls ⟨t,"begun",i⟩) A->Q (.bl true) H'
def Ux(F:aG K "_law_begins" "_law_begins" IV dV f fd)(T:Txt mg):zFn P w K mg dX 1 f fd O8 ab1:=by
 rcases DH,(aa (bB (i:=3) DH.nd (gj aA (gj bW (pv 0) ag) (pv 2)))
   (aa (aH (PW.pt (kB (ba (gj aA (mB (pv 1) aj) (pv 2))) (kU (PW.pt (dA (gy ab2 (pv 3) ag) (cQ (cU (ba (gj aA (mB (pv 1) aj) (pv 3)))))))))) (ae (ar cc)) aw)
   (aa (aH (PW.pt (dA (gy (Ep (oh hr)) (mB (pv 1) aj) (aY cS)) (cQ (gy qp (gj aA (mB (pv 1) aj) ag) (pv 2))))) (ae (ar cc)) aw)
   (aa (aH (PW.pt (dA (gy (GS (oh hr)) (mB (pv 1) aj) (aY cS)) (dA (gy oI (pv 3) ag) (cQ (gy Cp (mB (pv 1) aj) ag))))) (ae (ar cc)) aw)
   (aa (aH (gy (GS (oh hr)) (mB (pv 1) aj) (aY cS)) (ae (kj uZ rfl (Em ⋯ T.i8 {pv 2,aO aE ⋯ T.dH cg {gj bW (pv 0) ag}}) (cG (i:=4) DH.nd rfl (by k_ne)) (ae (aH (PW.pt (kB (gy bM (pv 4) (pv 2)) (kU (PW.pt (dA (gy Cp (pv 4) (pv 2)) (dA (gy Cp (gj aA (gj bW (pv 0) ag) (pv 4)) (gj aA (gj bW (pv 0) ag) (pv 2))) (cQ (gy bM (aO aE ⋯ T.dH cg {mB (pv 1) aj}) (aB A7 (pv 4) (pv 2)))))))))) (ae (FZ (CC hr) (pv 1) aj (aB GI (mB (pv 1) aj) (aY {pv 4})) rfl)) aw)))) aw)
   (aa (FZ (CC hr) (pv 1) aj (wo BJ (mB (pv 1) aj) (uJ ag) Nw) rfl)
   (aa (FZ (CC hr) (pv 1) aj (aB fR (mB (pv 1) aj) ag) rfl)
   (aa (Dx cc (HL (mB (pv 1) aj) (pv 2) set_list))
   (aa (Dx cc (HL (mB (pv 1) aj) (pv 2) set_list))
   (ae (ar cc))))))))))) with⟨tp,A,G,U,ls,i,t,rfl,ht,fz,hs,ok,hi,dl,⟨o1,o2,o3,o4⟩,k⟩
 have az:=ok.len;have tok:=fO.tok ok;obtain⟨f1,f2,f3,f4⟩:=eS hi;have ab:=ht.same fz.sub;obtain⟨gp,ep,wp,np,as,t1,t0,t2,t3,t4,t5,t6⟩:=id ab
 have pc:(par U i=none/\bz U i<0)\/∃m,par U i=some m/\bz U i=(m:Int)/\m<U.length:=by
  cases z:par U i with
  |none=>erw[.inl ⟨rfl,Z2 z⟩]
  |some m=>erw[.inr ⟨m,rfl,acM z,by have:=(tok.bV hi z).1;lia⟩]
 erw[W7 (M:=λc H'=>aL H H'/\c=[some (.ref tp),some (.ref A.s),some (.int (i:Int)),some (.int (bz U i)),none]) (λN g=>?_) ?_]
 .have b:=g [some (.ref tp),some (.ref A.s),some (.int (i:Int)),some (.int (bz U i)),none] H ⟨aL.refl _,rfl⟩;lk;erw[kA (iq.of t1) rfl ?_];lk;erw[kc (eZ.of t2) (bZ hi) ?_];lk;erw[mu hs.xa ?_];lk;erw[kc (eZ.of hs.on) (bZ hi) ?_];rw[o1];lk;rcases pc with⟨_,z⟩|⟨m,z,e,hm⟩
  .rw[ik (show ¬0<=bz U i by lia)];lk;erw[b]
  .rw[e] at b ⊢;rw[fK (show(0:Int)<=(m:Int) by lia)];lk;erw[mu hs.xa ?_];lk;erw[kc (eZ.of hs.on) (bZ hm) ?_];rw[o2 m z];lk;erw[b]
 rintro aK H1 ⟨s1,rfl⟩;have S:=hs.same s1;erw[yc (M:=λc H'=>aL H H'/\c=[some (.ref tp),some (.ref A.s),some (.int (i:Int)),some (.int (bz U i)),none]) (λN g=>?_) ?_]
 .obtain ⟨q,d1,d2⟩:=S.Mp;lk;erw[mu d1 ?_];lk;erw[⟨l8 ∅,λp B=>?_⟩];erw[yy d2 B ?_];have O:=aq (o:= .lst []) B;generalize upd H1 p (.lst [])=H2 at O;have b:=g [some (.ref tp),some (.ref A.s),some (.int (i:Int)),some (.int (bz U i)),none] H2 ⟨s1.trans O,rfl⟩;have x:=S.same O;rcases o3 with z|z
  .rw[z];lk;erw[b]
  .obtain ⟨r,z⟩:∃r,ls.due=i::r:=by
    cases y:ls.due with
    |nil=>rw[y] at z;cases z
    |cons a r=>rw[y] at z;exact⟨r,by rw[hH z]⟩
   obtain⟨q2,d3,d4⟩:=x.Mp;rw[z] at d4 ⊢;lk;erw[mu d3 ?_];lk;erw[kc (eZ.of d4) (bY (j:=0) rfl) ?_];lk;erw[bA (λe=>?_) (λ_=>b)];erw[absurd e (by simp)]
 rintro aF H2 ⟨O,rfl⟩;have x:=hs.same O;erw[yc (M:=λc H'=>aL H H'/\c=[some (.ref tp),some (.ref A.s),some (.int (i:Int)),some (.int (bz U i)),none]) (λN g=>?_) ?_]
 .obtain ⟨q,d1,d2⟩:=x.Mp;lk;erw[mu d1 ?_];lk;erw[⟨l8 ∅,λp B=>?_⟩];erw[yy d2 B ?_];have L:=aq (o:= .lst []) B;generalize upd H2 p (.lst [])=H3 at L;have b:=g [some (.ref tp),some (.ref A.s),some (.int (i:Int)),some (.int (bz U i)),none] H3 ⟨O.trans L,rfl⟩;have u:=x.same L;by_cases z:ls.due=[]
  .rw[z];lk;rcases pc with⟨y,e⟩|⟨m,y,e,hm⟩
   .rw[fK e];lk;erw[mu u.gct ?_];rw[o4 z y];lk;erw[b]
   .rw[e] at b ⊢;rw[ik (show ¬(m:Int)<0 by lia)];lk;erw[b]
  .rw[ik z];lk;erw[b]
 rintro aN H3 ⟨L,rfl⟩;have u:=hs.same L;obtain⟨D,J⟩:∃D,D=if ls.due=[] then iH i (en U i-i) else ls.due:=⟨_,rfl⟩
 have a0:D.length<=64:=by
  rw[J]
  split
  .rw[aiK];lia
  .exact dl
 erw[yc (M:=λc H'=>gg A H H'/\iQ H' U.length {ls with due:=D} A/\∃v,c=[some (.ref tp),some (.ref A.s),some (.int (i:Int)),some (.int (bz U i)),v]) (λN g=>?_) ?_]
 .obtain ⟨q,d1,d2⟩:=u.Mp;lk;erw[mu d1 ?_];lk;erw[⟨l8 ∅,λp B=>?_⟩];erw[yy d2 B ?_];have C:=aq (o:= .lst []) B;generalize upd H3 p (.lst [])=H4 at C;have h:=u.same C;have C:=L.trans C;by_cases z:ls.due=[]
  .rw[z];rw[eT z] at J;lk;obtain⟨al,Z,ap,ax,am,u1,u0,u2,u3,u4,u5,u6⟩:=ab.same C;erw[kA (iq.of u1) rfl ?_];lk;erw[hY Z _ (jl rfl (.inl (eZ.of u2)) ?_)];rw[fC,mq];lk;erw[⟨⟨(),(),(),()⟩,?_⟩];refine kX (lo:=(i:Int)) (n:=((U.length:Int)-(i:Int)).toNat) (λj σ H'=>gg A H H'/\iQ H' U.length {ls with due:=iH i (min j (en U i-i))} A/\∃v,σ=[some (.ref tp),some (.ref A.s),some (.int (i:Int)),some (.int (bz U i)),v]) ⟨gg.of_same C,by rw[Nat.zero_min];show iQ H4 U.length {ls with due:=[]} A;rwa[<- z],_,rfl⟩ ?_ ?_
   .rintro j σ H' hj ⟨b5,hs5,v,rfl⟩;rw[show (i:Int)+(j:Int)=((i+j:Nat):Int) by lia];have hk:i+j<U.length:=by lia
    obtain⟨al,Z,ap,ax,am,u1,u0,u2,u3,u4,u5,u6⟩:=ht.same (fz.but b5).sub;obtain⟨q5,e5,Y⟩:=hs5.Mp;dsimp only[Bo];erw[Yu (decide (j<en U i-i)) (λN g=>?_) ?_]
    .lk;refine bA (λe=>?_) (λe=>?_)
     .have e:j=0:=by have:=V.int.inj (gD e);lia
      rw[fK (show j<en U i-i by lia)] at g;erw[g]
     have e:j≠0:=λz=>e (fK (hI V.int ()));lk;rw[fK (show(i:Int)<((i+j:Nat):Int) by lia)];lk;erw[kA (iq.of u1) rfl ?_];lk;erw[kc (eZ.of u0) (bZ hk) ?_];lk;erw[kA (iq.of u1) rfl ?_];lk;erw[kc (eZ.of u0) (bZ hi) ?_];lk;erw[bA (λe2=>?_) (λe2=>?_)]
     .have e2:dp U i<dp U (i+j):=by
       have:((dp U i:Nat):Int)<((dp U (i+j):Nat):Int):=gD e2
       lia
      lk;erw[mu e5 ?_];lk;erw[hY q5 _ (jl rfl (.inl (eZ.of Y)) ?_)];rw[fC,aiK];lk
      have:decide (V.int ((min j (en U i-i):Nat):Int)=V.int (((i+j:Nat):Int)-(i:Int)))=decide (j<en U i-i):=by
       rw[qj,kP,kP];erw[⟨λz=>?_,λz=>hI V.int ()⟩];have z:=V.int.inj z;by_cases y:j=en U i-i
       .rcases f4 with f4|f4
        .lia
        .rw[show en U i=i+j by lia] at f4
         lia
       .lia
      rwa[this]
     .have e2:¬dp U i<dp U (i+j):=λz=>e2 (fK (by show((dp U i:Nat):Int)<((dp U (i+j):Nat):Int);lia));rw[ik (λz=>e2 (f3 (i+j) () ()))] at g;erw[g]
    by_cases y:j<en U i-i
    .rw[fK y,eT rfl];lk;erw[mu e5 ?_];lk;erw[⟨l8 (by show 1<=100;decide),λp6 ad=>?_⟩];have s6:=aq (o:= .lst [V.int ((i+j:Nat):Int)]) ad;have c6:(upd H' p6 (.lst [V.int ((i+j:Nat):Int)])) p6=some (.lst [V.int ((i+j:Nat):Int)]):=af;generalize upd H' p6 (.lst [V.int ((i+j:Nat):Int)])=H6 at s6 c6;erw[⟨q5,p6,_,_,rfl,rfl,s6 _ _ Y,c6,by rw[fC,aiK];exact eV (by show _+1<=1000;lia),λp7 W=>?_⟩];have l:=hs5.same s6;have nq:=l.ltA W
     have el:(iH i (min j (en U i-i))).map (λk:Nat=>V.int (k:Int))++[V.int ((i+j:Nat):Int)]=(iH i (min (j+1) (en U i-i))).map λk:Nat=>V.int (k:Int):=by
      rw[show min (j+1) (en U i-i)=min j (en U i-i)+1 by lia,alP,js,show min j (en U i-i)=j by lia];rw[Q9]
      rfl
     rw[el];have s7:=aq (o:= .lst ((iH i (min (j+1) (en U i-i))).map λk:Nat=>V.int (k:Int))) W;have c7:(upd H6 p7 (.lst ((iH i (min (j+1) (en U i-i))).map λk:Nat=>V.int (k:Int)))) p7=_:=af;generalize upd H6 p7 (.lst ((iH i (min (j+1) (en U i-i))).map λk:Nat=>V.int (k:Int)))=X at s7 c7;obtain⟨H8,g8,R,an⟩:=(l.same s7).abR c7 nq;lk;exact⟨A.s,H8,rfl,g8,(b5.trans (gg.of_same (s6.trans s7))).trans R,an,_,rfl⟩
    .rw[ik y,eJ jt];exact⟨b5,by rwa[show min (j+1) (en U i-i)=min j (en U i-i) by lia],_,rfl⟩
   .rintro σ H' ⟨b5,hs5,v,rfl⟩;erw[g _ _ ⟨b5,?_,v,rfl⟩];rwa[J,<-show min ((U.length:Int)-(i:Int)).toNat (en U i-i)=en U i-i by lia]
  .rw[ik z];rw[eJ z] at J;lk;erw[g _ _ ⟨gg.of_same C,by rwa[J],_,rfl⟩]
 rintro ay H4 ⟨b4,h,v,rfl⟩;obtain⟨q4,e4,c4⟩:=h.Mp;lk;erw[mu e4 ?_];lk;erw[⟨q4,_,rfl,eZ.of c4,λp5 ac=>?_⟩]
 have e5:DR (D.map λk:Nat=>V.int (k:Int)) (some 1) none=D.tail.map λk:Nat=>V.int (k:Int):=by
  rw[show (some 1:Option Int)=some ((1:Nat):Int) from rfl,LF,<-alp,List.drop_one]
 show acZ 1 _ (upd H4 p5 (.lst (DR (D.map λk:Nat=>V.int (k:Int)) (some 1) none))) _;rw[e5];have nq:=h.ltA ac;have s5:=aq (o:= .lst (D.tail.map λk:Nat=>V.int (k:Int))) ac;have Y:(upd H4 p5 (.lst (D.tail.map λk:Nat=>V.int (k:Int)))) p5=_:=af;generalize upd H4 p5 (.lst (D.tail.map λk:Nat=>V.int (k:Int)))=H5 at s5 Y;obtain⟨H6,g6,b6,l⟩:=(h.same s5).abR Y nq;lk;erw[⟨A.s,H6,rfl,g6,?_⟩];lk;erw[mu l.gct ?_];lk;obtain⟨X,g7,b7,I⟩:=l.aeB (ls.cnt+1);erw[⟨A.s,X,rfl,g7,?_⟩];lk;erw[mu I.xa ?_];lk;erw[abu I.on (NI (by rwa[fC,mq])) ?_];have h8:=I.aca i true;have R:gg A X (upd X A.a (.lst (((gG U.length).map λk=>V.bl (ls.on k)).set i (.bl true)))):=gg.upd (.inl rfl);have R:=((b4.trans (gg.of_same s5)).trans b6).trans (b7.trans R);generalize upd X A.a (.lst (((gG U.length).map λk=>V.bl (ls.on k)).set i (.bl true)))=H8 at h8 R;lk;erw[mu h8.gtl ?_];lk;erw[abu h8.tl (NI (by rwa[fC,mq])) ?_];lk;erw[k _ (R.trans (gg.upd (.inr (.inl rfl)))) ?_];rw[QY,<-J];erw[h8.abN i false]
open PySem L2 Shp Nm Tr Hs Hm Hr Lw Gn PySem.NumText
def NY{T:List Row}(h:fO T){i:Nat}(a:i<T.length):(T.map λr=>r.sh.name)[i]? =some (sh T i).name/\∀m,m<i->(T.map λr=>r.sh.name)[m]? ≠some (sh T i).name:=by
 have e:(T.map λr=>r.sh.name)[i]? =some (sh T i).name:=by rw[hV,gx a,O1 a];rfl
 erw[⟨e,λm c z=>?_⟩];have b:(T.map λr=>r.sh.name).length=T.length:=fC _;have:=(al8 (by rw[b];lia) h.nd).mp (z.trans e.symm)
 lia
def Om(K:fD):Sp:=λvs H Q _=>∃(a e:eh) (A:rk) (G:Hp) (T:List Row) (ls:LN) (i:Nat) (t:Int) (wd:Str),vs=[.ref a,.ref A.s,.ref e]/\xo G a T/\iq K G e [.int t,.str wd,.str (sh T i).name]/\Fz A H G/\iQ H T.length ls A/\fO T/\i<T.length/\ls.due.length<=64/\okN T ls ⟨t,wd,i⟩∧
 ∀H',gg A H H'->iQ H' T.length (qx T ls ⟨t,wd,i⟩) A->Q (.bl true) H'
def X5(F:aG K "_law_entry" "_law_entry" MG dV f fd)(T:Txt mg)(C:iu P w K mg dX true 1 "_law_begins" ab1 [])(B:iu P w K mg dX true 1 "_law_tells" abJ [])(D:iu P w K mg dX true 1 "_law_ends" Zs []):zFn P w K mg dX 2 f fd S7 (Om K):=by
 rcases OC,(aa (bB (i:=3) OC.nd (fI rB PySem.F.slot_list_index PySem.F.type_list_index WT (gj bW (pv 0) ag) {gj bW (pv 2) ag}))
   (aa (aH (gy bM (gj bW (pv 2) ag) aj) (ae (ar (cz C {pv 0,pv 1,pv 3}))) aw)
   (aa (aH (gy bM (gj bW (pv 2) ag) aj) (ae (ar (cz B {pv 0,pv 1,pv 3}))) aw)
   (aa (aH (gy bM (gj bW (pv 2) ag) aj) (ae (ar (NG (gj aA (mB (pv 1) aj) (pv 3))))) aw)
   (aa (aH (gy bM (gj bW (pv 2) ag) aj) (ae (ar (uK (gj aA (mB (pv 1) aj) (pv 3)) (rm (vd bM (gj aA (gj aA (gj bW (pv 0) ag) (pv 3)) ag) aj))))) aw)
   (ae (ar (cz D {pv 0,pv 1,gj bW (pv 2) ag,pv 3})))))))) with⟨tp,e,A,G,U,ls,i,t,wd,rfl,ht,he,fz,hs,ok,hi,dl,b,k⟩
 have j:=ht.same fz.sub;have a:=iq.same fz.sub he;obtain⟨L,M,J,n,l,t1,N,O,p,R,o,c⟩:=id j;obtain⟨I,u⟩:=NY ok hi;have c:H n=some (.lst ((U.map λr=>r.sh.name).map V.str)):=by rwa[aiw]
 lk;erw[kA (iq.of t1) rfl ?_];erw[⟨.inl ⟨rfl,_,eZ.of c⟩,?_⟩];lk;erw[kA a rfl ?_];lk;erw[hh n _ _ i (ot rfl rfl (eZ.of c) I u ?_)];lk;erw[kA a rfl ?_];lk;erw[bA (λe1=>?_) (λe1=>?_)]
 .have e1:wd="begun":=V.str.inj (gD e1);subst e1;lk;erw[l9 tp A G U ls i t (BS rfl ht fz hs ok hi dl b k)]
 have e1:wd≠"begun":=λz=>e1 (fK (hI V.str z));lk;erw[kA a rfl ?_];lk;erw[bA (λe2=>?_) (λe2=>?_)]
 .have e2:wd="told":=V.str.inj (gD e2);subst e2;lk;erw[l9 tp A G U ls i t (an8 rfl ht fz hs ok hi b k)]
 have e2:wd≠"told":=λz=>e2 (fK (hI V.str z));lk;erw[kA a rfl ?_];lk;erw[bA (λe3=>?_) (λe3=>?_)]
 .have e3:wd="answers":=V.str.inj (gD e3);subst e3;lk;erw[mu hs.xa ?_];lk;erw[kc (eZ.of hs.on) (bZ hi) ?_];have b:ls.on i=false:=b;rw[b];lk;erw[k _ (gg.of_same (aL.refl _)) hs]
 have e3:wd≠"answers":=λz=>e3 (fK (hI V.str z));lk;erw[kA a rfl ?_];lk;erw[bA (λe4=>?_) (λe4=>?_)]
 .have e4:wd="gives up":=V.str.inj (gD e4);subst e4;obtain⟨v,y⟩:ls.on i=true/\fk U i=false:=b;obtain⟨hd,m,_,g⟩:=DZ (T:=U) (i:=i);have h:l[i]? =some (l[i]'()):=gx _;generalize l[i]'()=x at h;have q:=o i x h;lk;erw[mu hs.xa ?_];lk;erw[kc (eZ.of hs.on) (bZ hi) ?_];rw[v];lk;erw[kA (iq.of t1) rfl ?_];lk;erw[kc (eZ.of p) (bY (by rw[hV,h];rfl)) ?_];lk;erw[kc (eZ.of q) (QF m) ?_];lk;rw[g,y];erw[k _ (gg.of_same (aL.refl _)) hs]
 have e4:wd≠"gives up":=λz=>e4 (fK (hI V.str z))
 have b:isWord wd/\Gk U ls wd i:=by
  unfold okN at b;rw[eJ e1,eJ e2,eJ e3,eJ e4] at b;erw[b]
 lk;erw[kA a rfl ?_];lk;erw[Ow tp A G U ls i t wd (BS rfl ht fz hs ok hi b.1 b.2 k)]
def YD{T:List Row}{S:HS}{n k:Nat}(h:fO T)(a:k<T.length):G1 (T,S,n) (sh T k).name=some (S.nd k).st:=by
 obtain⟨e,c⟩:=NY h a;unfold G1;dsimp only;rw[show (gG T.length).find? (λi=>decide ((sh T i).name=(sh T k).name))=some k from ?_]
 .rfl
 .rw[List.find?_range_eq_some];erw[⟨fK rfl,pf.mpr a,λj b=>?_⟩];rw[ik]
  .rfl
  .intro z;erw[c j b (by rw[(NY h (IH b a)).1,z])]
def G8{T:List Row}{S:HS}{ls:LN}(h:mf T S ls):(((gG T.length).filter ls.on).map λk:Nat=>V.str (sh T k).name)=(HZ T S).map V.str:=by
 unfold HZ;rw[aiw,al7 λk a=>h.on k (pf.mp a)]
 rfl
def Uu{a:Type}(p:a->Bool)(l:List a)(x:a):(l++[x]).filter p=l.filter p++if p x=true then [x] else []:=by
 rw[qH,rj,FH]
theorem C9(p:Nat->Bool){a n:Nat}(h:a<=n)(b:n<=100):((gG a).filter p).length<=100:=je (AL _ _) (by rw[mq];lia)
def ab3(R:HR SG):Sp:=λvs H Q _=>∃(x a:eh) (A:rk) (T:List Row) (S:HS) (n:Nat) (ls:LN) (F:FS),vs=[.ref x,.ref a,.ref A.s]/\R H x (T,S,n) F/\xo H a T/\iQ H T.length ls A/\fO T/\mf T S ls/\∀H',aL H H'->Q (.bl true) H'
def UC{kk:Nat}{R:HR SG}{Cl:eh->Prop}{cL cN:eh}(F:aG K "_law_agrees" "_law_agrees" Hi dV f fd)(T:Txt mg)(G:VA P w K mg dX kk R Cl cL cN):zFn P w K mg dX (kk+1) f fd O0 (ab3 R):=by
 have l:=G.on.d;have c:=G.La.d
 rcases yB,(aa (A8 (j:=3) yB.nd rfl (by k_ne) (x:="_law_k") (fr:=[("_law_tree_here",1),("_law_state",2)]) (by kd_p) rfl (jo ⋯ T.i8 {aO aE ⋯ T.dH cg {gj bW (pv 1) ag}}) (λ_ _ _ _=>(DF (ba (gj (yj (K0:=K) rfl) (TF (CC hr) (pv 2) aj (λ_ _=>rfl)) (pv 0))))) (λ_ _ _ _=>(gj (yj (K0:=K) rfl) (gj (abA (K0:=K) rfl) (pv 1) ag) (pv 0))))
   (aa (bB (i:=4) yB.nd (jD (pv 0) l))
   (aa (aH (PW.pt (kB (cU (ba (aO Pr ⋯ T.gI fN {pv 4,X2 ⋯ T.YG SE}))) (kB (gy (Ep (oh hr)) (pv 4) (pv 3)) (kU (gy (Ep (oh hr)) (mB (pv 2) aj) (aY cS)))))) (ae (ar cc)) aw)
   (aa (aC (fI rB wx vq cA (pv 4) {(aj)}))
   (aa (aH (gy (Ep (oh hr)) (jD (pv 0) l) (pv 3)) (ae (ar cc)) aw)
   (aa (kj uZ rfl (jo ⋯ T.i8 {aO aE ⋯ T.dH cg {gj bW (pv 1) ag}}) (cG (i:=5) yB.nd rfl (by k_ne)) (ae (aH (gy bM (vd bM (j0 (pv 0) c {gj aA (gj bW (pv 1) ag) (pv 5)}) aj) (gj aA (mB (pv 2) aj) (pv 5))) (ae (ar cc)) aw)))
   (ae (ar cc)))))))) with⟨x,tp,A,U,S,n,ls,Fx,rfl,hR,ht,hs,ok,lk,k⟩
 have ad:=ok.len;obtain⟨gp,ep,wp,np,as,t1,t0,t2,t3,t4,t5,z⟩:=id ht;lk;erw[kA (iq.of t1) rfl ?_];lk;erw[hY np _ (jl rfl (.inl (eZ.of z)) ?_)];rw[fC];lk;erw[⟨(),(),dq (J:=Mo 0 U.length) (n:=U.length) (λa ys H'=>H'=H/\ys=((gG a).filter ls.on).map λk:Nat=>V.str (sh U k).name) ⟨rfl,rfl⟩ (λa ys H' y _=>y) (λys H' _=>fx _) ?_ ?_⟩]
 .rintro a ys H' v H2 y ⟨rfl,rfl⟩ ⟨rfl,rfl⟩;have tk:=Uu ls.on (gG a) a;rw[<- zB] at tk;have le:=C9 ls.on (tL y) (show U.length<=100 by lia);generalize (gG a).filter ls.on=l0 at tk le;rw[akE];lk;erw[mu hs.xa ?_];lk;erw[kc (eZ.of hs.on) (bZ y) ?_];cases hn:ls.on a with
  |true=>
   rw[eT hn] at tk;lk;erw[kA (iq.of t1) rfl ?_];lk;erw[kc (eZ.of z) (bY (by rw[hV,gx y];rfl)) ?_];exact⟨by rw[fC];exact aP (),rfl,by rw[tk,js];show _++[V.str U[a].sh.name]=_++[V.str (sh U a).name];rw[O1 y]⟩
  |false=>
   rw[eJ (by rw[hn];decide),ov] at tk;lk;rw[tk]
 rintro ys H' ⟨rfl,rfl⟩;rw[G8 lk];erw[⟨by rw[<- G8 lk,fC];exact tL (aP (by have:=C9 ls.on (fx U.length) (show U.length<=100 by lia);lia)),λq hq=>?_⟩]
 have ol:(HZ U S).length<=100:=by
  have:=C9 ls.on (fx U.length) (show U.length<=100 by lia);have e:=hI List.length (G8 lk);rw[fC,fC] at e
  lia
 generalize e_s1:upd H' q _=H1;have O:=gS e_s1 hq;have q1:=gA e_s1;obtain⟨C,dx,fs,hi,hC,l1,l2,l3,l4,l5,l6⟩:=G.I.inst (G.I.same O hR);lk;erw[⟨x,C,dx,fs,_,_,rfl,hi,⟨hC,rfl,rfl⟩,l3,?_⟩];lk;erw[⟨x,_,Fx,dx,fs,rfl,G.I.same O hR,hi,λB H2 W ab M=>?_⟩];lk;erw[⟨_,_,.type "list",.type "list",true,rfl,.lst M,⟨"list",.inl ⟨rfl,rfl⟩⟩,Pe,?_⟩];lk;erw[⟨B,q,_,_,rfl,rfl,eZ.of M,eZ.of (W _ _ q1),B8 _,B8 _,?_⟩];rw[GL,fK rfl];lk;obtain⟨q',d1,d2⟩:=(hs.same (O.trans W)).Mp;erw[mu d1 ?_];lk;erw[⟨l8 ∅,λp hp=>?_⟩];erw[yy d2 hp ?_];rw[lk.du];have N:=aq (o:= .lst []) hp;generalize upd H2 p (.lst [])=H3 at N;lk;erw[⟨.inl ⟨rfl,_,eZ.of (N _ _ M)⟩,?_⟩];lk;erw[⟨B,_,_,rfl,rfl,N _ _ M,(by rw[fC];exact aP ()),?_⟩];have s4:aL H1 (upd H3 B (.lst ((HZ U S).map V.str++[V.str ""]))):=oq (W.trans N) ab;generalize upd H3 B (.lst ((HZ U S).map V.str++[V.str ""]))=H4 at s4;have m:=O.trans s4;obtain⟨C',h,g,b,u,_,_,ac,_⟩:=G.I.inst (G.I.same m hR);lk;erw[⟨x,C',h,g,_,_,rfl,b,⟨u,rfl,rfl⟩,ac,?_⟩];lk;erw[⟨x,_,Fx,h,g,rfl,G.I.same m hR,b,λp5 H5 s5 al p6=>?_⟩];lk;erw[⟨p5,q,_,_,rfl,rfl,eZ.of p6,eZ.of (s5 _ _ (s4 _ _ q1)),B8 _,B8 _,?_⟩];rw[GL,fK rfl];have r:=m.trans s5;obtain⟨gp,ep,wp,np,as,t1,t0,t2,t3,t4,t5,z⟩:=id (ht.same r);lk;erw[kA (iq.of t1) rfl ?_];lk;erw[hY np _ (jl rfl (.inl (eZ.of z)) ?_)];rw[fC];lk;erw[⟨(),(),?_⟩];erw[kX (lo:=0) (n:=(U.length:Int).toNat) (λj Y H6=>aL H5 H6/\∃v,Y=[some (.ref x),some (.ref tp),some (.ref A.s),some (.ref q),some (.ref B),v]) ⟨aL.refl _,_,rfl⟩ ?_ ?_]
 .rintro j Y H6 hj ⟨s6,v,rfl⟩;rw[akE];have D:j<U.length:=by lia
  have t:=r.trans s6;obtain⟨C',h,g,b,u,_,X,_⟩:=G.I.inst (G.I.same t hR);lk;erw[⟨x,C',h,g,_,_,rfl,b,⟨u,rfl,rfl⟩,X,?_⟩];lk;erw[kA (iq.of (s6 _ _ t1)) rfl ?_];lk;erw[kc (eZ.of (s6 _ _ z)) (bY (by rw[hV,gx D];rfl)) ?_];lk;erw[⟨x,_,_,_,Fx,h,g,rfl,G.I.same t hR,b,(by rw[<- O1 D];exact YD ok D),λH7 Z=>?_⟩];have L:=hs.same (t.trans Z);lk;erw[mu L.xa ?_];lk;erw[kc (eZ.of L.on) (bZ D) ?_];rw[lk.on j D,show decide (V.str (S.nd j).st=V.str "off")=cK S j from decide_eq_decide.mpr ⟨V.str.inj,hI V.str⟩];cases cK S j with
  |true=>
   lk;exact⟨s6.trans Z,_,rfl⟩
  |false=>
   lk;exact⟨s6.trans Z,_,rfl⟩
 .rintro Y H6 ⟨s6,v,rfl⟩;lk;erw[k _ (r.trans s6)]
open PySem L2 Shp Nm Tr Hs Hm Hr Lw Gn PySem.NumText
def TY(K:fD):Sp:=λvs H Q _=>∃(a:eh) (ns:List Int),vs=[.ref a]/\eZ K H a (ns.map V.int)/\∀H',Q (.bl true) H'
def comp_const{n:Nat}{v:V}{c:St}{fr:List (Str×Nat)}{a:TE}{H:Hp}{Q:VK}(g:n<=1000)(e:∀u H' R,R v H'->a (inner c fr u) H' R)(k:∀p,H p=none->Q (.ref p) (upd H p (.lst ((gG n).map λ_=>v)))):Po (Mo 0 n) c fr afm a H Q:=by
 erw[dq (n:=n) (λi ys H'=>H'=H/\ys=(gG i).map λ_=>v) ⟨rfl,rfl⟩ (λi ys H' b _=>b) (λys H' _=>fx _) ?_ ?_]
 .rintro i ys H' u H2 b ⟨rfl,rfl⟩ ⟨rfl,rfl⟩;erw[e _ _ _ ⟨by rw[fC,mq];exact aP (),rfl,?_⟩];rw[zB,js]
  rfl
 .rintro ys H' ⟨rfl,rfl⟩;exact⟨tL (by rw[fC,mq];erw[aP g]),k⟩
theorem abY{T:List Row}:∀{es:List En} {ls:LN},(Gn.rd T).Ok ls es->∀{j:Nat} (a:j<es.length),okN T ((Gn.rd T).run ls (es.take j)) es[j]
 |e::es,ls,h,0,_=>h.1
 |e::es,ls,h,j+1,a=>abY (ls:=qx T ls e) h.2 (Nat.lt_of_succ_lt_succ a)
def YZ{T:List Row}{ls:LN}{es:List En}{j:Nat}(h:j<es.length):(Gn.rd T).run ls (es.take (j+1))=qx T ((Gn.rd T).run ls (es.take j)) es[j]:=by
 rw[Cb,gx h,Gr.ux]
 rfl
theorem Sd{T:List Row}(h:T.length<=64):∀(es:List En) (ls:LN),(∀e∈es,e.i<T.length)->ls.due.length<=64->((Gn.rd T).run ls es).due.length<=64
 |[],_,_,h=>h
 |e::es,ls,hi,hd=>by
  erw[Sd h es (qx T ls e) (λx a=>hi x (mD _ a)) ?_];have:=(eS (hi e (ll ..))).2.1;unfold qx
  split
  .show ((if ls.due=[] then iH e.i (en T e.i-e.i) else ls.due).tail).length<=64;rw[List.length_tail]
   split
   .rw[aiK];lia
   .lia
  .split
   .exact hd
   .split<;>erw[hd]
structure Jl(R:HR SG)(H:Hp)(tp x q:eh)(A:rk)(cs:List V)(T:List Row)(S:HS)(n:Nat)(ls:LN)(met:Nat)(c:Int):Prop where
 ex:∃(F:FS) (B G:Hp),R H x (T,S,n) F/\Bb F H B/\Fz A B G/\xo G tp T/\G q=some (.lst cs)/\iQ B T.length ls A
 az:∀y,¬A.z y
 wf:Wf T S
 jv:Jv T S
 en:S.ends=[]
 rd:∃es:List En,S.book.drop met=es.map (Wa T)/\met<=S.book.length/\(∀e∈es,e.i<T.length)/\(Gn.rd T).Ok ls es/\mf T S ((Gn.rd T).run ls es)/\(∀e∈es,c<=e.t/\e.t<=S.clk)/\es.Pairwise λa b=>a.t<=b.t
 du:ls.due=[]
 ck:c<=S.clk
section
variable{R:HR SG}{Cl:eh->Prop}{H H':Hp}{tp x q:eh}{A:rk}{cs:List V}{U:List Row}{S:HS}{n met:Nat}{ls:LN}{c:Int}
def Jl.get(h:Jl R H tp x q A cs U S n ls met c):H q=some (.lst cs):=by
 obtain⟨F,B,G,j,a,b,i,e,g⟩:=h.ex;erw[a.1 _ _ (b.sub _ _ e)]
def Jl.same(I:uu R Cl)(h:Jl R H tp x q A cs U S n ls met c)(s:aL H H'):Jl R H' tp x q A cs U S n ls met c:=by
 obtain⟨F,B,G,j,a,b,g,i,e⟩:=h.ex;exact⟨⟨F,B,G,I.same s j,a.same s,b,g,i,e⟩,h.az,h.wf,h.jv,h.en,h.rd,h.du,h.ck⟩
def Jl.lk(h:Jl R H tp x q A cs U S n ls met c)(z:met=S.book.length):mf U S ls:=by
 obtain⟨es,b,_,_,_,a,_⟩:=h.rd;rw[z,ajA] at b;rw[ai3.mp b.symm] at a;erw[a]
def afX{p:eh}{xs:List V}{m:Nat}(h:iQ H m ls A)(e:H p=some (.tup xs)):RJ A H p=some (.tup xs):=by
 unfold RJ
 rw[eJ (λy=>by
  obtain⟨q,a,_,_⟩:=h.d;rcases y with y|y|y
  .rw[y,h.on] at e;cases e
  .rw[y,h.tl] at e;cases e
  .rw[y,a] at e;cases e)]
 erw[e]
end
def WY{T:List Row}{S S':HS}{ls:LN}{i:Nat}{cell:Int}{a:Str}(lk:mf T S ls)(c:i<T.length)(e:cell%12=9\/cell%12=10)(g:cell/12%(T.length:Int)=(i:Int))(d:JC T (vX T.length cell) S S' a):a=if fk T i=false then "leaf" else if ls.on i=false then "off" else "":=by
 rw[show vX T.length cell=.IW i by unfold vX;rw[eT e,g,M0]] at d;have on:=lk.on i c;rcases d with⟨z,_,rfl⟩|⟨z,b,_,rfl⟩|⟨z,b,_,rfl⟩
 .rw[eT z]
 .rw[b] at on;rw[eJ (by rw[z];decide),eT (show ls.on i=false from on)]
 .rw[b] at on;rw[eJ (by rw[z];decide),eJ (by rw[on];decide)]
def Qd{T:List Row}{S S':HS}{ls:LN}{cell:Int}{a:Str}(lk:mf T S ls)(b:0<T.length)(e:cell%12=11)(e2:cell/12%5=3)(d:JC T (vX T.length cell) S S' a):a=if ls.on 0=false then "off" else "":=by
 rw[show vX T.length cell=.stop by unfold vX;rw[eJ (),eT ⟨e,e2⟩]] at d;have on:=lk.on 0 b;rcases d with⟨z,_,rfl⟩|⟨z,_,rfl⟩
 .rw[z] at on;rw[eT (show ls.on 0=false from on)]
 .rw[z] at on;rw[eJ (by rw[on];decide)]
def OY{T:List Row}{S S':HS}{cell:Int}{a:Str}(e:¬(cell%12=9\/cell%12=10))(e2:¬(cell%12=11/\cell/12%5=3))(d:JC T (vX T.length cell) S S' a):a="":=by
 rw[show vX T.length cell=.turns (1+cell/12%2).toNat by unfold vX;rw[eJ e,eJ e2]] at d;erw[d.2]
def aeL{x:Int}:x9 (.int x) [.int 9,.int 10]=true↔(x=9\/x=10):=by
 show(decide ((9:Int)=x)||(decide ((10:Int)=x)||false))=true↔_;rw[aiC,xk,kP,kP];exact⟨λz=>z.imp Eq.symm Eq.symm,λz=>z.imp Eq.symm Eq.symm⟩
def aaI{T:List Row}{i:Nat}(a:i<T.length):x9 (.str (sh T i).name) (T.map λr=>V.str r.sh.name)=true:=by
 simp only[x9,amo];erw[⟨V.str (sh T i).name,ri.mpr ⟨T[i],ve a,by rw[O1 a]⟩,?_⟩];simp[nt]
def Yc{T:List Row}(h:fO T):(new T).ends=[]:=by rw[Jg h];rfl
def adw{kk:Nat}{R:HR SG}{Cl:eh->Prop}{cL cN:eh}{TR:Hr.j8}(c8:kk<=50)(F:aG K "law" "law" P6 dV f fd)(T:Txt mg)(G:VA P w K mg dX kk R Cl cL cN)
  (fM:iu P w K mg dX true 1 "_law_cell_at" (RT K) []) (Rn:iu P w K mg dX true 3 "_law_tree" (W5 K) []) (R4:iu P w K mg dX true 1 "_law_text" (Wo K) []) (RG:iu P w K mg dX true kk "read" (Wu TR) []) (an:iu P w K mg dX true kk "built" (Qq TR R) [])
  (Nn:iu P w K mg dX true 2 "_law_entry" (Om K) []) (JF:iu P w K mg dX true (kk+1) "_law_agrees" (ab3 R) []) (RD:iu P w K mg dX true (kk+2) "_law_deed" (Yx K R) []):zFn P w K mg dX 63 f fd acb (TY K):=by
 erw[F.Cv gu λvs H Q E y0=>?_];obtain⟨sa,ns,rfl,hS,k⟩:=y0;erw[⟨rfl,λcr Ar eD s0 hr=>?_⟩];have aF:=G.rows.d
 have t8:∃t,nh (vL true (fm P w) P w K mg dX abF "law" (ah P6) f cr Ar eD s0 H E).ib ((cR P6).drop 6) t/\∀(H1:Hp) (J x:eh) (A:rk) (U:List Row) (F:FS) (B G0:Hp),eZ K H1 sa (ns.map V.int)->fO U->U.length<=11->R H1 x (U,new U,0) F->Bb F H1 B->Fz A B G0->xo G0 J U->iQ B U.length Gn.ls0 A->(∀y,¬A.z y)→
   t {nx:=λ_ H'=>Q .non H',rt:=Q} [some (.ref sa),some (.int (U.length:Int)),some (.ref J),some (.ref x),some (.ref A.s),some (.int 0),some (.int 0),none,none,none,none,none] H1:=by
  refine⟨_,(aa (kj uZ rfl (ke (aB GI (aY {(ag)}) (wo BJ (pv 0) (uJ (aB fR ag (pv 1))) (uJ (aB fR ag (pv 1)))))) (cG (i:=7) gu.nd rfl (by k_ne)) (aa (bB (i:=8) gu.nd aj)
   (aa (aH (gy sO (aB bF (pv 7) ag) (qR {(ag),(ag)})) (aa (bB (i:=9) gu.nd (aB bF (aB cZ (pv 7) ag) (pv 1)))
   (ae (aH (gy bM (gj aA (gj aA (gj bW (pv 2) ag) (pv 9)) ag) aj) (ae (bB (i:=8) gu.nd aj)) (ae (aH (PW.pt (dA (cU (ba (gj aA (mB (pv 4) aj) (pv 9)))) (cQ (gy Cp (pv 5) ag)))) (ae (bB (i:=8) gu.nd aj)) aw))))) aw)
   (aa (aH (PW.pt (dA (gy bM (aB bF (pv 7) ag) ag) (dA (gy bM (aB bF (aB cZ (pv 7) ag) ag) ag) (cQ (cU (ba (gj aA (mB (pv 4) aj) ag))))))) (ae (bB (i:=8) gu.nd aj)) aw)
   (aa (aH (PW.pt (dA (gy Cp (pv 5) ag) (cQ (gy qp (cz RD {pv 3,gj bW (pv 2) ag,pv 7}) (pv 8))))) (ae (ar cc)) aw)
   (aa (bB (i:=10) gu.nd (jD (pv 3) aF))
   (aa (kj uZ rfl (ke (wo BJ (pv 10) (uJ (pv 5)) Nw)) (cG (i:=11) gu.nd rfl (by k_ne)) (aa (aH (PW.pt (kB (cU (ba (aO Pr ⋯ T.gI fN {pv 11,X2 ⋯ T.aa6 Zb}))) (kB (gy qp (aO aE ⋯ T.dH cg {pv 11}) ag) (kB (gy Ck (gj bW (pv 11) ag) (gj bW (pv 2) ag)) (kU (gy oI (gj bW (pv 11) ag) (pv 6))))))) (ae (ar cc)) aw)
   (aa (bB (i:=6) gu.nd (gj bW (pv 11) ag))
   (ae (aH (cU (ba (cz Nn {pv 2,pv 4,pv 11}))) (ae (ar cc)) aw)))))
   (aa (bB (i:=5) gu.nd (aO aE ⋯ T.dH cg {pv 10}))
   (ae (aH (cU (ba (cz JF {pv 3,pv 2,pv 4}))) (ae (ar cc)) aw))))))))))
   (ae (ar cc))),?_⟩
  fin2
  intro H0 J x A U F B G0 ci ok a2 c4 bD be c3 bS az;have n0:0<U.length:=ai7.mpr ok.ne;lk;erw[⟨l8 (by show 1<=100;decide),λq0 cC=>?_⟩];generalize e_h1:upd H0 q0 _=Ha;have Y:=gS e_h1 cC;have cu:=gA e_h1;lk;erw[hY sa _ (jl rfl (eZ.same ci Y) (λq1 bU=>?_))];obtain⟨l,ec,lc⟩:=U8 ns (3+U.length) (45+U.length) ();have ec:DR (ns.map V.int) (some (3+(U.length:Int))) (some (45+(U.length:Int)))=l.map V.int:=ec;rw[ec];have lc:l.length<=42:=by lia
  generalize e_h2:upd Ha q1 _=H1;have bi:=Y.trans (gS e_h2 bU);erw[hh q0 q1 _ _ (ot rfl rfl (gS e_h2 bU _ _ cu) (gA e_h2) (eV (by rw[fC];show 1+l.length<=1000;lia)) λq hq=>?_)];have hR:=G.I.same bi c4;have b2:=bD.same bi;show(_:Prop);rw[show [V.int 0]++l.map V.int=(0::l).map V.int from rfl];have lc:(0::l).length<=43:=by show l.length+1<=43;lia
  generalize (0::l)=l at lc;have nb:∀{y o},B y=some o->y≠q:=λz=>ao (b2.1 _ _ z) hq
  have bq:B q=none:=by
   cases z:B q with
   |none=>rfl
   |some o=>erw[absurd rfl (nb z)]
  have gq:G0 q=none:=by
   cases z:G0 q with
   |none=>rfl
   |some o=>rw[be.sub _ _ z] at bq;cases bq
  have nq:¬F q:=λz=>G.I.own hR z hq;have qa:¬A.has q:=(bS.ltA bq).1;have sH:aL H1 (upd H1 q (.lst (l.map V.int))):=aq hq;obtain⟨a0,g1,g2,g3,g4,g5⟩:=Gn.acL ok
  have b6:Jl R (upd H1 q (.lst (l.map V.int))) J x q A (l.map V.int) U (new U) 0 Gn.ls0 0 0:=by
   erw[⟨⟨F,upd B q (.lst (l.map V.int)),upd G0 q (.lst (l.map V.int)),G.I.same sH hR,b2.upd nq,⟨λy o z=>?_,λy z=>?_⟩,c3.same (aq gq),af,bS.same (aq bq)⟩,az,Wf.new (fO.tok ok),(XW ok).1,Yc ok,⟨a0,by rwa[ala],pI _,λe O=>(g3 e O).1,g4,g5,λe O=>?_,Lw.Ht (c:=0) λe O=>(g3 e O).2⟩,rfl,by rw[g1];exact Jn _⟩]
   .by_cases v:y=q
    .rw[v,af] at z ⊢;erw[z]
    .rw[ai v] at z ⊢;erw[be.sub _ _ z]
   .rw[ai (λv=>qa (by rwa[<- v]))];erw[be.no y z]
   .rw[g1,(g3 e O).2];exact⟨Jn _,Jn _⟩
  have q1:(upd H1 q (.lst (l.map V.int))) q=some (.lst (l.map V.int)):=af;generalize upd H1 q (.lst (l.map V.int))=H2 at b6 q1;erw[⟨q,rfl,⟨_,eZ.of q1⟩,?_⟩]
  refine uV (n:=l.length) (λj σ H'=>∃(S:HS) (n met:Nat) (c:Int) (ls:LN) (v7 v8 v9 al r:Option V),σ=[some (.ref sa),some (.int (U.length:Int)),some (.ref J),some (.ref x),some (.ref A.s),some (.int (met:Int)),some (.int c),v7,v8,v9,al,r]/\Jl R H' J x q A (l.map V.int) U S n ls met c/\n<=2*j/\(0<met->met=S.book.length))
   ⟨new U,0,0,0,Gn.ls0,_,_,_,_,_,rfl,b6,fx _,λz=>absurd z ∅⟩ ?_ ?_ ?_
  .rintro j σ H' hj ⟨S,n,met,c,ls,v7,v8,v9,al,r,rfl,u,_⟩;exact⟨_,V.int l[j],eZ.of u.get,by rw[hV,gx hj];rfl⟩
  .rintro j σ H' v H3 hj ⟨S,n,met,c,ls,v7,v8,v9,al,r,rfl,u,hn,hm⟩ ⟨rfl,hv⟩;have hv:=hv _ (eZ.of u.get);rw[hV,gx hj] at hv;obtain rfl:V.int l[j]=v:=hH hv;generalize l[j]=cell;dsimp only[Bo];refine Iw (M:=λa3 H'=>aL H3 H'/\∃wd v9,a3=[some (.ref sa),some (.int (U.length:Int)),some (.ref J),some (.ref x),some (.ref A.s),some (.int (met:Int)),some (.int c),some (.int cell),some (.str wd),v9,al,r]/\(0<met->∀S' g,JC U (vX U.length cell) S S' g->g=wd)) (λN hN=>?_) ?_
   .obtain ⟨F4,B4,G4,r1,r2,r3,r4,r5,r6⟩:=u.ex;have ht:=(r4.same r3.sub).same r2.1;have hs:=Y4 r2 r6 (λy f=>G.I.own r1 f);lk;erw[⟨l8 (by show 2<=100;decide),λp hp=>?_⟩];lk;erw[hY p _ (fT rfl (.inr (iq.of af)) rfl rfl ?_)];have s1:=aq (o:= .tup [V.int 9,V.int 10]) hp;generalize upd H3 p (.tup [V.int 9,V.int 10])=H4 at s1;have ax:=hs.same s1;obtain⟨gp,ep,wp,np,as,t1,t0,t2,t3,t4,t5,t6⟩:=id (ht.same s1);erw[⟨_,rfl,?_⟩];rw[eJ jt];refine bA (λe=>?_) (λe=>?_)
    .have e:cell%12=9\/cell%12=10:=aeL.mp e;have p0:(0:Int)<(U.length:Int):=by lia
     have m0:=akO (cell/12) (show(U.length:Int)≠0 by lia);have m1:=aje (cell/12) p0;obtain⟨i,hi⟩:∃i:Nat,cell/12%(U.length:Int)=(i:Int):=⟨(cell/12%(U.length:Int)).toNat,()⟩;have il:i<U.length:=by lia
     obtain⟨hd,cp,_,ca⟩:=DZ (T:=U) (i:=i);have hx:as[i]? =some (as[i]'()):=gx _;generalize as[i]'()=y at hx;have tx:=t5 i y hx;have ac:decide (V.int (cell%12)=V.int 11)=false:=ik λz=>by have:=V.int.inj z;lia
     have dw:∀wd:Str,(mf U S ls->wd=if fk U i=false then "leaf" else if ls.on i=false then "off" else "")\/met=0->0<met->∀S' g,JC U (vX U.length cell) S S' g->g=wd:=λwd h m S' g d=>by
      have lk:=u.lk (hm m);rcases h with h|h
      .rw[h lk];erw[WY lk il e hi d]
      .lia
     lk;erw[⟨p0,?_⟩];dsimp only;rw[hi];lk;erw[kA (iq.of t1) rfl ?_];lk;erw[kc (eZ.of t3) (bY (by rw[hV,hx];rfl)) ?_];lk;erw[kc (eZ.of tx) (QF cp) ?_];lk;rw[ca];cases hl:fk U i with
     |false=>
      lk;rw[ac];lk;erw[hN _ _ ⟨s1,_,_,rfl,dw _ (.inl λ_=>by rw[eT hl])⟩]
     |true=>
      lk;erw[mu ax.xa ?_];lk;erw[kc (eZ.of ax.on) (bZ il) ?_];cases ho:ls.on i with
      |false=>
       lk;erw[bA (λem=>?_) (λem=>?_)]
       .lk;rw[ac];lk;erw[hN _ _ ⟨s1,_,_,rfl,dw _ (.inl λ_=>by rw[eJ (by rw[hl];decide),eT ho])⟩]
       .have em:¬(0:Int)<(met:Int):=λz=>em (fK z);lk;rw[ac];lk;erw[hN _ _ ⟨s1,_,_,rfl,dw _ (.inr ())⟩]
      |true=>
       lk;rw[ac];lk;erw[hN _ _ ⟨s1,_,_,rfl,dw _ (.inl λ_=>by rw[eJ (by rw[hl];decide),eJ (by rw[ho];decide)])⟩]
    .have e:¬(cell%12=9\/cell%12=10):=λz=>e (aeL.mpr z);lk;refine bA (λe1=>?_) (λe1=>?_)
     .have e1:cell%12=11:=V.int.inj (gD e1);lk;refine bA (λe2=>?_) (λe2=>?_)
      .have e2:cell/12%5=3:=V.int.inj (gD e2);lk;erw[mu ax.xa ?_];lk;erw[kc (eZ.of ax.on) (bZ (i:=0) n0) ?_];cases ho:ls.on 0 with
       |false=>
        lk;erw[hN _ _ ⟨s1,_,_,rfl,λm S' g d=>by rw[Qd (u.lk (hm m)) n0 e1 e2 d,eT ho]⟩]
       |true=>
        lk;erw[hN _ _ ⟨s1,_,_,rfl,λm S' g d=>by rw[Qd (u.lk (hm m)) n0 e1 e2 d,eJ (by rw[ho];decide)]⟩]
      .have e2:¬cell/12%5=3:=λz=>e2 (fK (hI V.int z));erw[hN _ _ ⟨s1,_,_,rfl,λm S' g d=>OY e (λz=>e2 z.2) d⟩]
     .have e1:¬cell%12=11:=λz=>e1 (fK (hI V.int z));erw[hN _ _ ⟨s1,_,_,rfl,λm S' g d=>OY e (λz=>e1 z.1) d⟩]
   rintro c7 H4 ⟨s4,wd,bR,rfl,hw⟩;have u:=u.same G.I s4;erw[yc (M:=λa3 H'=>(∃S' n',Jl R H' J x q A (l.map V.int) U S' n' ls met c/\n'<=n+2)/\a3=[some (.ref sa),some (.int (U.length:Int)),some (.ref J),some (.ref x),some (.ref A.s),some (.int (met:Int)),some (.int c),some (.int cell),some (.str wd),bR,al,r]) (λN hN=>?_) ?_]
   .lk;refine bA (λem=>?_) (λem=>?_)
    .have em:(0:Int)<(met:Int):=gD em;obtain⟨F4,B4,G4,r1,r2,r3,r4,r5,r6⟩:=u.ex;obtain⟨gp,ep,wp,np,as,t1,t0,t2,t3,t4,t5,t6⟩:=(r4.same r3.sub).same r2.1;have c1:(n+2)*U.length<=2200:=je (amI (show n+2<=88 by lia) a2) ∅;lk;erw[kA (iq.of t1) rfl ?_];lk;erw[l9 x np U S n F4 cell (ot rfl r1 (eZ.of t6) n0 c1 (λS' g n' H5 F5 dr bK mv=>?_))];have ew:g=wd:=hw () S' g dr;subst ew;have p0:(0:Int)<(U.length:Int):=by lia
     have m1:=aje (cell/12) p0
     obtain⟨cD,De,go,w',j',e'⟩:=Gr.aa5 (Gn.reads ok) ok u.wf u.jv u.en (λi hi=>by
      unfold vX at hi
      split at hi
      .cases hi;lia
      .split at hi<;>cases hi) dr
     obtain⟨es,i1,i2,i3,i4,i5,i6,i7⟩:=u.rd;obtain⟨wk,cV⟩:=go _ i5;have ec:=De.clk;have me:=hm ()
     have a0:es=[]:=by
      rw[me,ajA] at i1;erw[ai3.mp i1.symm]
     subst a0;lk;rw[fK rfl];lk;erw[hN _ _ ⟨⟨S',n',⟨⟨F5,B4,G4,mv.2.2,r2.moved mv,r3,r4,r5,r6⟩,u.az,w',j',e',⟨cD,?_,?_,λe z=>(De.lt e z).1,wk,cV,λe z=>?_,De.srt⟩,u.du,?_⟩,bK⟩,rfl⟩]
     .rw[De.bk,me,List.drop_left]
     .rw[De.bk,iv];lia
     .have:=(De.lt e z).2;have:=u.ck
      constructor<;>lia
     .have:=u.ck
      lia
    .lk;erw[hN _ _ ⟨⟨S,n,u,()⟩,rfl⟩]
   rintro da H5 ⟨⟨S',n',D,bK⟩,rfl⟩;obtain⟨F5,B4,G4,r1,r2,r3,r4,r5,r6⟩:=D.ex;obtain⟨X,b8,i2,iE,c5,a1,bE,cf⟩:=D.rd;obtain⟨C,dx,fs,b1,hC,n1,_⟩:=G.I.inst r1;lk;erw[eF b1 ⟨hC,rfl,rfl⟩ n1 ?_];erw[m8 x _ F5 dx fs (kb rfl r1 b1 (λq7 H7 s7 c2 ra=>?_))];obtain⟨rs,b0,a7,ce⟩:=ra;have a7:rs.length=S'.book.length:=a7;have bw:=Y4 r2 r6 (λy f=>G.I.own r1 f);have ch:=bw.ltA c2;have r2:=r2.same s7;have r1:=G.I.same s7 r1;have bm:=bw.same s7;lk;erw[hY q7 _ (jl rfl (eZ.of b0) (λq8 b3=>?_))];rw[LF,<-alp];have bg:=bm.ltA b3;generalize e_s8:upd H7 q8 _=H8;have s8:=gS e_s8 b3;have ay:=gA e_s8;have r2:=r2.same s8;have r1:=G.I.same s8 r1;have bn:=bm.same s8;have bV:Fz {A with z:=F5} H8 G4:=⟨λy o z=>r2.1 _ _ (r3.sub _ _ z),r3.no⟩
   have c6:met+X.length=S'.book.length:=by
    have:=hI List.length b8;rw[aid,fC] at this
    lia
   have dl:(rs.drop met).length=X.length:=by rw[aid];lia
   have sm:∀a,((Gn.rd U).run ls (X.take a)).due.length<=64:=λa=>Sd ok.len _ _ (λe O=>iE e (ajQ O)) (by rw[D.du];erw[pI _]);have bv:∀{Z:Hp},gg A H8 Z->xo Z J U:=λW=>r4.same (bV.but W).sub;erw[⟨q8,rfl,⟨_,eZ.of ay⟩,?_⟩];erw[uV (n:=X.length) (λa σ H'=>∃(c':Int) (r:Option V),σ=[some (.ref sa),some (.int (U.length:Int)),some (.ref J),some (.ref x),some (.ref A.s),some (.int (met:Int)),some (.int c'),some (.int cell),some (.str wd),bR,some (.ref q7),r]/\gg A H8 H'/\iQ H' U.length ((Gn.rd U).run ls (X.take a)) {A with z:=F5}/\c'<=S'.clk/\∀e∈X.drop a,c'<=e.t) ⟨c,_,rfl,λ_ _ _ z=>z,bn,D.ck,λe O=>(bE e O).1⟩ ?_ ?_ ?_]
   .rintro a σ H' Y ⟨c',r,rfl,W,_⟩;exact⟨_,V.ref ((rs.drop met)[a]'()),eZ.of (W _ _ bg.1 ay),by rw[hV,gx ()];rfl⟩
   .rintro a σ H' v Z Y ⟨c',r,rfl,W,hl9,hc1,hc2⟩ ⟨rfl,hv⟩;have hv:=hv _ (eZ.of (W _ _ bg.1 ay));have bo:a<(rs.drop met).length:=by lia
    rw[hV,gx bo] at hv;obtain rfl:V.ref (rs.drop met)[a]=v:=hH hv
    have O:=ce (met+a) (rs.drop met)[a] (Wa U X[a]) (by rw[<- aj8];erw[gx bo]) (by
     show(S'.book)[_]? =_;rw[<- aj8,b8,hV,gx Y];rfl)
    have O:H7 (rs.drop met)[a]=some (.tup [.int X[a].t,.str X[a].wd,.str (sh U X[a].i).name]):=O;generalize (rs.drop met)[a]=y at O;have eE:=iE _ (ve Y);have tE:=(bE _ (ve Y)).2;have cE:=hc2 X[a] (by rw[ah4 Y];erw[ll ..]);have oE:=abY c5 Y
    have rE:∀e∈X.drop (a+1),X[a].t<=e.t:=λe O=>by
     have s:=cf.drop (i:=a);rw[ah4 Y] at s;exact(List.pairwise_cons.mp s).1 e O
    have rS:=YZ (T:=U) (ls:=ls) Y;generalize X[a]=ee at O eE tE cE oE rE rS;have aK:=afX bn (s8 _ _ O);have bQ:=(aa9 {A with z:=F5} H8).but W;have am:=bQ.sub _ _ aK;obtain⟨gp,ep,wp,np,as,t1,t0,t2,t3,t4,t5,t6⟩:=id (bv W);lk;erw[⟨_,_,.type "tuple",.type "tuple",true,rfl,.tup am,⟨"tuple",.inl ⟨rfl,rfl⟩⟩,Pe,?_⟩];lk;erw[hY y _ (jl rfl (.inr (iq.of am)) ?_)];lk;erw[kA (iq.of am) rfl ?_];lk;erw[kA (iq.of t1) rfl ?_];lk;erw[hY np _ (fT rfl (.inl (eZ.of t6)) rfl (by rw[ajL];exact vc.mpr λ_ _=>rfl) ?_)];erw[⟨_,rfl,?_⟩];rw[eT rfl,aaI eE];lk;erw[kA (iq.of am) rfl ?_];lk;erw[bA (λz=>?_) (λ_=>?_)]
    .have z:ee.t<c':=gD z
     lia
    lk;erw[kA (iq.of am) rfl ?_];lk;erw[ex9 J y {A with z:=F5} (RJ {A with z:=F5} H8) U _ ee.i ee.t ee.wd (R3 rfl (r4.same (aak bV)) (iq.of aK) bQ hl9 ok eE (sm a) oE (λco cw cM=>?_))];lk;exact⟨W.trans cw,by rwa[rS],tE,rE⟩
   .rintro σ Z ⟨c',r,rfl,W,hl9,hc1,_⟩;rw[Bn] at hl9;have cT:Z q7=some (.lst (rs.map V.ref)):=W _ _ ch.1 (s8 _ _ b0);erw[⟨⟨_,eZ.of (W _ _ bg.1 ay),by rw[fC];lia⟩,?_⟩];obtain⟨B9,p1,p2,p3,p4⟩:=ac0 r2 r3 r6 D.az W hl9;have r9:=G.I.mono (λy o f z=>W y o (p4 y f) z) r1;have cm:Jl R Z J x q A (l.map V.int) U S' n' ((Gn.rd U).run ls X) S'.book.length c':=⟨⟨F5,B9,G4,r9,p1,p2,r4,r5,p3⟩,D.az,D.wf,D.jv,D.en,⟨[],by rw[ajA];rfl,fx _,λe z=>(by cases z),trivial,a1,λe z=>(by cases z),.nil⟩,a1.du,hc1⟩;lk;erw[hY q7 _ (jl rfl (.inl (eZ.of cT)) ?_)];rw[fC,a7];lk;erw[Ow x J {A with z:=F5} U S' n' _ F5 (jm rfl r9 (bv W) hl9 ok a1 (λco s10=>?_))];lk;exact⟨S',n',S'.book.length,c',_,_,_,_,_,_,rfl,cm.same G.I s10,(),λ_=>rfl⟩
  .rintro σ H' ⟨S,n,met,c,ls,v7,v8,v9,al,r,rfl,u,_⟩;erw[⟨⟨_,eZ.of u.get,by rw[fC];exact fx _⟩,?_⟩];lk;erw[k _]
 obtain⟨tt,ht,hn⟩:=t8
 refine⟨_,(aa (bB (i:=1) gu.nd (aB fR ag (aB bF (cz fM {pv 0,(ag)}) ag)))
   (aa (bB (i:=2) gu.nd (cz Rn {pv 0,(ag),pv 1,cz fM {pv 0,(ag)}}))
   (aa (bB (i:=3) gu.nd (cz an {cz RG {cz R4 {pv 2}}}))
   (aa (bB (i:=4) gu.nd (ZL (B5 aj (nM (x:="_law_k") (fr:=[]) (by kd_p) rfl (jo ⋯ T.i8 {pv 1}) (λ_ _ _ _=>Di) (λ_ _ _ _=>cc)) (B5 aj (nM (x:="_law_k") (fr:=[]) (by kd_p) rfl (jo ⋯ T.i8 {pv 1}) (λ_ _ _ _=>Di) (λ_ _ _ _=>cc)) (B5 aj (aY cS) (B5 aj ag abk)))) rfl rfl (Q4 _ _) ∅))
   (aa (bB (i:=5) gu.nd ag)
   (aa (bB (i:=6) gu.nd ag)
   ht)))))),?_⟩
 fin2
 lk;erw[ml sa _ ns (kb rfl hS ∅ ?_)];have c0:=de (ns.getD (alM 0) 0) (n:=11) ∅;obtain⟨ct,cF⟩:∃ct:Nat,1+ns.getD (alM 0) 0%11=(ct:Int):=⟨(1+ns.getD (alM 0) 0%11).toNat,()⟩;lk;dsimp only;rw[cF];erw[ml sa _ ns (kb rfl hS ∅ ?_)];lk;erw[m8 sa ns 2 _ ct (ot rfl hS ∅ () () (λJ dp ep wp np H1 U s1 u1 u2 u3 u4=>?_))];have ok:=u3.ok;subst u4;have a2:U.length<=11:=by lia
 lk;erw[iJ J dp ep wp np U (fT rfl u1 u2 ok (λH2 s2=>?_))];have cd:=(xo.of u1 u2).same s2;have cn:=eZ.same (eZ.same hS s1) s2;lk;erw[hY _ U (fT rfl ⟨by rw[<- bJ,Bl];exact PV ok,trivial⟩ (by rw[Bl];exact JS ok) ok (λt H3 FT s3 f3 hT=>?_))];lk;erw[ml t U FT (kb rfl hT ok (λx H4 F s4 f4 hR=>?_))];have a5:aL H2 H4:=s3.trans s4
 have nf:∀b,F b->H2 b=none:=λb f=>by
  rcases f4 b f with z|z
  .exact f3 b z
  .cases y:H2 b with
   |none=>rfl
   |some o=>rw[s3 _ _ y] at z;cases z
 have cH:=eZ.same cn a5;lk;intro p hp
 have aN:∀{Hn:Hp} {y:eh},aL H4 Hn->Hn y=none->H4 y=none:=λ{Hn y} s z=>by
  cases v:H4 y with
  |none=>rfl
  |some o=>rw[s _ _ v] at z;cases z
 generalize e_s5:upd H4 p _=H5;have s5:=gS e_s5 hp;have p5:=gA e_s5;lk;erw[⟨(),(),comp_const (n:=U.length) () (λ_ _ _ h=>h) (λa Y=>?_)⟩];generalize e_s6:upd H5 a _=H6;have s6:=gS e_s6 Y;have a6:=gA e_s6;lk;erw[⟨(),(),comp_const (n:=U.length) () (λ_ _ _ h=>h) (λb hb=>?_)⟩];generalize e_s7:upd H6 b _=H7;have s7:=gS e_s7 hb;have b7:=gA e_s7;lk;erw[⟨l8 ∅,λd hd=>?_⟩];generalize e_s8:upd H7 d _=H8;have s8:=gS e_s8 hd;have d8:=gA e_s8;lk;erw[⟨s8 _ _ (s7 _ _ (s6 _ _ p5)),[(.inr "on",.ref a),(.inr "told",.ref b),(.inr "due",.ref d),(.inr "begun",.int 0)],rfl,by show 4<=15;decide,?_⟩];have ap:a≠p:=Ne.symm (ao p5 Y);have bp:b≠p:=Ne.symm (ao (s6 _ _ p5) hb);have b5:d≠p:=Ne.symm (ao (s7 _ _ (s6 _ _ p5)) hd);have ab:a≠b:=ao a6 hb;have ad:a≠d:=ao (s7 _ _ a6) hd;have bd:b≠d:=ao b7 hd;have a4:=aN s5 Y;have b4:=aN (s5.trans s6) hb;have d4:=aN ((s5.trans s6).trans s7) hd;rw[show D8 [] [((.inr "on":Key),V.ref a),(.inr "told",.ref b),(.inr "due",.ref d),(.inr "begun",.int 0)]=kv ⟨a,b,p,λ_=>False⟩ d 0 from rfl];have s9:aL H4 (upd H8 p (.dK (kv ⟨a,b,p,λ_=>False⟩ d 0))):=oq (((s5.trans s6).trans s7).trans s8) hp;have p9:(upd H8 p (.dK (kv ⟨a,b,p,λ_=>False⟩ d 0))) p=_:=af;have k9:∀{y o},y≠p->H8 y=some o->(upd H8 p (.dK (kv ⟨a,b,p,λ_=>False⟩ d 0))) y=some o:=λn z=>by rwa[ai n]
 have a9:=k9 ap (s8 _ _ (s7 _ _ a6));have W:=k9 bp (s8 _ _ b7);have d9:=k9 b5 d8;generalize upd H8 p (.dK (kv ⟨a,b,p,λ_=>False⟩ d 0))=Z at s9 p9 a9 W d9;have fr:∀{y},H4 y=none->¬F y:=λh f=>G.I.own hR f h
 have n2:∀{y},H4 y=none->H2 y=none:=λ{y} h=>by
  cases z:H2 y with
  |none=>rfl
  |some o=>rw[a5 _ _ z] at h;cases h
 classical
 have get:∀{y o},Z y=some o->H4 y=none->(if F y then none else Z y)=some o:=λ{y o} z h=>by rwa[eJ (fr h)]
 have L:iQ (λy=>if F y then none else Z y) U.length Gn.ls0 ⟨a,b,p,λ_=>False⟩:=by
  erw[⟨⟨d,get p9 hp,get d9 d4,λz=>?_,λz=>z⟩,get a9 a4,get W b4,ab,λ_ z=>absurd z id⟩];rcases z with z|z|z
  .exact ad z.symm
  .exact bd z.symm
  .exact b5 z
 lk;erw[hn Z J x ⟨a,b,p,λ_=>False⟩ U F (λy=>if F y then none else Z y) H2 (eZ.same cH s9) ok a2 (G.I.same s9 hR) ⟨λy o z=>?_,λy f=>eT f⟩ ⟨λy o z=>?_,λy z=>?_⟩ cd L (λ_ z=>z)]
 .have z:(if F y then none else Z y)=some o:=z;by_cases f:F y
  .rw[eT f] at z;cases z
  .rw[eJ f] at z;erw[z]
 .show (if F y then none else Z y)=some o;rw[eJ (λf=>by rw[nf y f] at z;cases z)];erw[s9 _ _ (a5 _ _ z)]
 .rcases z with z|z|z
  .rw[z];erw[n2 a4]
  .rw[z];erw[n2 b4]
  .rw[z];erw[n2 hp]
end
open PySem L2 Shp Nm Tr Hs Hm Hr Lw Gn PySem.NumText
def all_mk{l:akM}{w:gT}{K:fD}{h:gm}{mg:Str->Option ez}{fa:eh}(X:K.In h)(G:h.Ns mainGlobals mg)(cs:mg "law"=some (.ref fa))
  {ay S6 KQ OQ IK mI ku jk lS nk jq jy mQ hU jA kC jI gW iM iT kF iK gw gR fS gQ gr gC eN zZ wI tU Co CK BU zT Ik Cy jj zI zM BA yt wu BC jN xH tD mM TQ LH yr EC LK sT bR my qz nI qk zX jT ip nA vm mR vi gf lD kh Cr vE vh oH so mP KU Et vx IC vn Be Ew Ez mJ zC Iz xZ zN Hk X6 Le W3 wF Bk Yi YJ Ts Lj YU PR Sa Xp SS OW ax iU Jr gk jM Im fg dh yG SR y D L J M N r MB Ni BO rZ ph oN:eh}
  {NK DY Av As:ez}
  {YA Yv Nq DG Aa AZ:Option eh}
  {YI XD MN DA Al AO:Array (Option ez)}
  {R1 Qi Fn RV Rj Fp Np Ih QW Rw R7 Rq Rk xu AN Ab yg wR xI wM:Tok}
  {aN ch O9 FK CD BB:Nat}
  (Z:Nos K ["ValueError","all","enumerate","int","isinstance","len","list","min","range","str","sum","tuple"])
  (UP:BR K mainGlobals "FIGURES"=some (some (.str "0123456789" R1)))
  (Qv:BR K mainGlobals "GREATEST"=some (some (.int 1000000 Qi)))
  (GC:BR K mainGlobals "MOST_FIGURES"=some (some (.int 7 Fn)))
  (UT:BR K mainGlobals "LETTERS"=some (some (.str "abcdefghijklmnopqrstuvwxyz" RV)))
  (UW:BR K mainGlobals "LONGEST"=some (some (.int 12 Rj)))
  (Ji:BR K mainGlobals "FEWEST_WORDS"=some (some (.int 6 Fp)))
  (Pn:BR K mainGlobals "MOST_ROWS"=some (some (.int 64 Np)))
  (JT:BR K mainGlobals "MOST_BLANKS"=some (some (.int 16 Ih)))
  (co:Gls K [("bit",ay),("below",S6),("without",KQ),("recent",OQ),("too_many",IK),("standing_of",zZ),("standings_of",wI),("built",TQ),("made_of",LH),("told_plainly",yr),("number_in",EC),("is_name",LK),("leaf_in",KU),("minder_in",Et),("by_first_word",vx),("child_in",IC),("passed_over",zC),("words_in",Iz),("blanks_ahead",xZ),("stands_well",zN),("take_row",Hk),("read",X6),("_law_cell_at",Le),("_law_name",W3),("_law_minder_words",wF),("_law_leaf_words",Bk),("_law_tree",Yi),("_law_text",YJ),("_law_tried",Ts),("_law_stopped",Lj),("_law_deed",YU),("_law_begins",PR),("_law_tells",Sa),("_law_ends",Xp),("_law_entry",SS),("_law_agrees",OW),("law",ax),("MinderError",iU),("NoNumber",Jr),("NoLeaf",gk)])
  (dL:Gls K [("NotOn",jM),("Standing",Im),("LeafStanding",fg),("MinderStanding",dh),("House",yG),("Child",SR),("Leaf",y),("Steady",D),("Faller",L),("Minder",J),("AllMinder",M),("RestMinder",N),("Tree",r),("FALLS",MB),("KEEPS",Ni)])
  (Xj:K.lookup MB=some ⟨.type "tuple",YA,.seq #[.str "fallen" QW,.str "gave up" Rw] aN,YI⟩)
  (Wq:K.lookup Ni=some ⟨.type "tuple",Yv,.seq #[.str "always" R7,.str "fallen" Rq,.str "never" Rk] ch,XD⟩)
  (Fb:ES K fg [("begin",lS),("is_off",ku),("step",mQ),("steps_at",jq),("tell",nk),("told_end",jy),("__init__",jk)])
  (A9:ES K dh [("begin",jI),("forget",jA),("give_up",iK),("go_down",iT),("has_enough",fS),("is_off",ku),("last_left",gr),("last_word",gw),("mind",kC),("not_off",iM),("note_end",gR),("steps_at",gW),("tell",kF),("to_be_answered",eN),("turn_back",gC),("turn_for",gQ),("__init__",hU)])
  (Xm:ES K yG [("answer",xH),("answer_waiting",jN),("begin",zM),("doing",zT),("end_by",yt),("end_turning",mM),("hear",BC),("on",Ik),("put_away",tD),("rows",Cy),("settle",wu),("standing_called",jj),("stop",BU),("tell",BA),("trip",CK),("turn",Co),("write",zI),("__init__",tU)])
  (ei:ES K y [("begun_again",bR),("end_at",zX),("leaf",qz),("words",nI),("work_words",qk),("__init__",my)])
  (Vr:ES K D [("begun_again",bR),("end_at",vm),("leaf",qz),("words",nI),("work_words",nA),("worked_out",ip),("__init__",jT)])
  (VI:ES K L [("begun_again",bR),("end_at",vi),("leaf",qz),("words",nI),("work_words",mR),("worked_out",ip),("__init__",jT)])
  (UJ:ES K J [("begun_again",bR),("chosen",vE),("leaf",lD),("way",Cr),("words",kh),("__init__",gf)])
  (Na:ES K M [("begun_again",bR),("chosen",oH),("leaf",lD),("way",vh),("words",kh),("__init__",gf)])
  (J4:ES K N [("begun_again",bR),("chosen",mP),("leaf",lD),("way",so),("words",kh),("__init__",gf)])
  (Z3:ES K r [("find",Ew),("minder_above",mJ),("names",Be),("take",Ez),("__init__",vn)])
  (yv:ByV K Im "__init__" mI)
  (BH:ByV K SR "__init__" sT)
  (DM:ByV K y "__init__" my)
  (V0:aQ K ay "bit" "bit" Xn .none/\aQ K S6 "below" "below" Mw .none/\aQ K KQ "without" "without" DB .none/\aQ K OQ "recent" "recent" JJ .none/\aQ K IK "too_many" "too_many" AJ .none/\aQ K mI "__init__" "Standing.__init__" ir .none/\aQ K ku "is_off" "Standing.is_off" ki .none/\aQ K jk "__init__" "LeafStanding.__init__" fq .none/\aQ K lS "begin" "LeafStanding.begin" gh .none/\aQ K nk "tell" "LeafStanding.tell" h9 .none/\aQ K jq "steps_at" "LeafStanding.steps_at" fv .none/\aQ K jy "told_end" "LeafStanding.told_end" eU .none/\aQ K mQ "step" "LeafStanding.step" iz .none/\aQ K hU "__init__" "MinderStanding.__init__" dN .none/\aQ K jA "forget" "MinderStanding.forget" cO .none/\aQ K kC "mind" "MinderStanding.mind" fP .none/\aQ K jI "begin" "MinderStanding.begin" fF .none/\aQ K gW "steps_at" "MinderStanding.steps_at" dQ .none/\aQ K iM "not_off" "MinderStanding.not_off" eB .none/\aQ K iT "go_down" "MinderStanding.go_down" eC .none/\True)
  (V1:aQ K kF "tell" "MinderStanding.tell" fQ .none/\aQ K iK "give_up" "MinderStanding.give_up" eG .none/\aQ K gw "last_word" "MinderStanding.last_word" dC .none/\aQ K gR "note_end" "MinderStanding.note_end" dP .none/\aQ K fS "has_enough" "MinderStanding.has_enough" cX .none/\aQ K gQ "turn_for" "MinderStanding.turn_for" dJ .none/\aQ K gr "last_left" "MinderStanding.last_left" dF .none/\aQ K gC "turn_back" "MinderStanding.turn_back" dD .none/\aQ K eN "to_be_answered" "MinderStanding.to_be_answered" cx .none/\aQ K zZ "standing_of" "standing_of" rM .none/\aQ K wI "standings_of" "standings_of" oX .none/\aQ K tU "__init__" "House.__init__" kY .none/\aQ K Co "turn" "House.turn" uc .none/\aQ K CK "trip" "House.trip" ue .none/\aQ K BU "stop" "House.stop" uf .none/\aQ K zT "doing" "House.doing" qZ .none/\aQ K Ik "on" "House.on" Af .none/\aQ K Cy "rows" "House.rows" u9 .none/\aQ K jj "standing_called" "House.standing_called" eX .none/\aQ K zI "write" "House.write" rK .none/\True)
  (V2:aQ K zM "begin" "House.begin" qU .none/\aQ K BA "tell" "House.tell" ur .none/\aQ K yt "end_by" "House.end_by" oC .none/\aQ K wu "settle" "House.settle" oP .none/\aQ K BC "hear" "House.hear" kn .none/\aQ K jN "answer_waiting" "House.answer_waiting" fB .none/\aQ K xH "answer" "House.answer" oQ .none/\aQ K tD "put_away" "House.put_away" kW .none/\aQ K mM "end_turning" "House.end_turning" ia .none/\aQ K TQ "built" "built" Mh .none/\aQ K LH "made_of" "made_of" DV .none/\aQ K yr "told_plainly" "told_plainly" oz .none/\aQ K EC "number_in" "number_in" wX (.ref BO)/\aQ K LK "is_name" "is_name" Dw .none/\aQ K sT "__init__" "Child.__init__" kK .none/\aQ K bR "begun_again" "Child.begun_again" iC .none/\aQ K my "__init__" "Leaf.__init__" mr (.ref rZ)/\aQ K qz "leaf" "Leaf.leaf" xJ .none/\aQ K nI "words" "Leaf.words" u7 .none/\aQ K qk "work_words" "Leaf.work_words" j9 .none/\True)
  (V3:aQ K zX "end_at" "Leaf.end_at" qK .none/\aQ K jT "__init__" "Worker.__init__" jU (.ref ph)/\aQ K ip "worked_out" "Worker.worked_out" iG .none/\aQ K nA "work_words" "Steady.work_words" hZ .none/\aQ K vm "end_at" "Steady.end_at" mm .none/\aQ K mR "work_words" "Faller.work_words" ig .none/\aQ K vi "end_at" "Faller.end_at" mG .none/\aQ K gf "__init__" "Minder.__init__" jY (.ref oN)/\aQ K lD "leaf" "Minder.leaf" qQ .none/\aQ K kh "words" "Minder.words" oJ .none/\aQ K Cr "way" "Minder.way" uQ .none/\aQ K vE "chosen" "Minder.chosen" mw .none/\aQ K vh "way" "AllMinder.way" lZ .none/\aQ K oH "chosen" "AllMinder.chosen" jc .none/\aQ K so "way" "RestMinder.way" kZ .none/\aQ K mP "chosen" "RestMinder.chosen" iy .none/\aQ K KU "leaf_in" "leaf_in" Dv .none/\aQ K Et "minder_in" "minder_in" wQ .none/\aQ K vx "by_first_word" "by_first_word" mj .none/\aQ K IC "child_in" "child_in" Ax .none/\True)
  (V4:aQ K vn "__init__" "Tree.__init__" lV .none/\aQ K Be "names" "Tree.names" ud .none/\aQ K Ew "find" "Tree.find" wU .none/\aQ K Ez "take" "Tree.take" xV .none/\aQ K mJ "minder_above" "Tree.minder_above" iI .none/\aQ K zC "passed_over" "passed_over" rq .none/\aQ K Iz "words_in" "words_in" AB .none/\aQ K xZ "blanks_ahead" "blanks_ahead" oj .none/\aQ K zN "stands_well" "stands_well" qI .none/\aQ K Hk "take_row" "take_row" pC .none/\aQ K X6 "read" "read" QS .none/\aQ K Le "_law_cell_at" "_law_cell_at" Ef .none/\aQ K W3 "_law_name" "_law_name" He .none/\aQ K wF "_law_minder_words" "_law_minder_words" ow .none/\aQ K Bk "_law_leaf_words" "_law_leaf_words" jJ .none/\aQ K Yi "_law_tree" "_law_tree" Aw .none/\aQ K YJ "_law_text" "_law_text" RZ .none/\aQ K Ts "_law_tried" "_law_tried" N5 .none/\aQ K Lj "_law_stopped" "_law_stopped" DK .none/\aQ K YU "_law_deed" "_law_deed" RE .none/\True)
  (V5:aQ K PR "_law_begins" "_law_begins" IV .none/\aQ K Sa "_law_tells" "_law_tells" NS .none/\aQ K Xp "_law_ends" "_law_ends" Q2 .none/\aQ K SS "_law_entry" "_law_entry" MG .none/\aQ K OW "_law_agrees" "_law_agrees" Hi .none/\aQ K ax "law" "law" P6 .none/\True)
  (OH:K.lookup BO=some ⟨NK,Nq,.seq #[.int 1000000 xu] O9,MN⟩)
  (FJ:K.lookup rZ=some ⟨DY,DG,.seq #[.int 0 AN,.int 0 Ab] FK,DA⟩)
  (Ci:K.lookup ph=some ⟨Av,Aa,.seq #[.int 0 yg,.int 0 wR] CD,Al⟩)
  (Cu:K.lookup oN=some ⟨As,AZ,.seq #[.int 1 xI,.int 1 wM] BB,AO⟩)
  (FF:Fv K fg)
  (Bh:Fv K dh)
  (YN:Fv K yG)
  (eg:Fv K y)
  (Ul:Fv K D)
  (UK:Fv K L)
  (Ui:Fv K J)
  (Mf:Fv K M)
  (Kv:Fv K N)
  (ZW:Fv K r)
  (E6:Es K fg ["asked","begun_at","child","coming","falls","gave_up","good","granted","leaving","minded","minder","needed","place","state","steps","waiting"])
  (Bt:Es K dh ["asked","begun_at","child","coming","falls","gave_up","good","granted","leaving","minded","minder","needed","place","state","steps","waiting"])
  (Xh:Es K yG ["clock","ends","entries","standings","tree"])
  (dc:Es K y ["grace","keep","many","most","name","slow","span"])
  (VP:Es K D ["grace","keep","many","most","name","slow","span"])
  (Ur:Es K L ["grace","keep","many","most","name","slow","span"])
  (U0:Es K J ["grace","keep","many","most","name","slow","span"])
  (NV:Es K M ["grace","keep","many","most","name","slow","span"])
  (JK:Es K N ["grace","keep","many","most","name","slow","span"])
  (c0:Es K r ["above","blanks","children","places"])
  (E0:E2 K fg)
  (B3:E2 K dh)
  (XR:E2 K yG)
  (dI:E2 K y)
  (UI:E2 K D)
  (VT:E2 K L)
  (VY:E2 K J)
  (MF:E2 K M)
  (Kd:E2 K N)
  (b0:E2 K r)
  (wc:su K gk (.ref iU)=some true)
  (Dz:su K gk (.ref gk)=some true)
  (E4:su K gk (.ref jM)=some false)
  (xg:su K jM (.ref iU)=some true)
  (Fc:su K jM (.ref gk)=some false)
  (yf:su K jM (.ref jM)=some true)
  (qT:ai2 K iU bmV "ValueError.__new__"=true)
  (Ag:ai2 K Jr bmV "ValueError.__new__"=true)
  (Gv:ai2 K gk bmV "ValueError.__new__"=true)
  (nX:ai2 K jM bmV "ValueError.__new__"=true)
  (Uc:abc K gk)
  (CV:VO K gk)
  (W6:abc K jM)
  (GU:VO K jM)
  (x6:y≠D)
  (xD:y≠L)
  (xf:y≠J)
  (qr:y≠M)
  (o9:y≠N)
  (sL:D≠L)
  (rX:D≠J)
  (mW:D≠M)
  (lJ:D≠N)
  (tS:L≠J)
  (mV:L≠M)
  (lG:L≠N)
  (nv:J≠M)
  (lM:J≠N)
  (jn:M≠N)
  (vf:gk≠jM):
  ∃fd:oT,(∀(s:eW) (u:ez),aku s fd ⟨[u],[]⟩ [("_law_script",u)])/\∀dX:gm,K.In dX->dX.Ns mainGlobals mg->aD l.prog w K mg dX (fm l.prog w) true 63 fa fd ["_law_script"] (TY K):=by
 obtain⟨Nu,ee,OO,el,Mn,ck,dV,ce,bV,dk,dw,cd,_⟩:=Z;have T:Txt mg:=⟨Bq X G Nu,Bq X G ee,Bq X G OO,Bq X G el,Bq X G Mn,Bq X G ck,Bq X G dV,Bq X G ce,Bq X G bV,Bq X G dk,Bq X G dw,Bq X G cd⟩;have nZ:=mE X G UP;have AV:=mE X G Qv;have og:=mE X G GC;have Eo:=mE X G UT;have C6:=mE X G UW;have eQ:=mE X G Ji;have xh:=mE X G Pn;have rC:=mE X G JT;obtain⟨ed,b2,Vc,W2,QR,Kx,Iu,eo,Vt,GH,OT,U5,Vv,OG,Fe,R5,Kb,Q6,GJ,JP,RH,ep,UG,c6,G3,LY,c3,db,du,U2,b7,Zr,c2,b1,ej,WH,dz,JO,Rc,XY,_⟩:=co;obtain⟨ZU,RU,JD,Eb,bd,dt,b6,Wh,Yp,XO,OM,Mu,dH,ZR,ZH,_⟩:=dL;have PY:=mE X G OT;have qN:=mE X G JO;have Ae:=mE X G Rc;have Bw:=mE X G XY;have lC:=mE X G ZU;have Ro:=mE X G RU;have Ip:=mE X G JD;have Dm:=mE X G Eb;have ci:=mE X G bd;have cn:=mE X G dt;have Xy:=mE X G b6;have We:=mE X G Wh;have Wx:=mE X G Yp;have WS:=mE X G XO;have PQ:=mE X G OM;have N0:=mE X G Mu;have b4:=mE X G dH;have qw:=mE X G ZR;have M7:=mE X G ZH;have qA:∀H:Hp,iq K H MB [V.str "fallen",V.str "gave up"]:=λH=>.inr ⟨_,_,_,Xj,rfl,rfl,tL (aP (show 2<=1000 by decide)),(.cons ⟨_,rfl⟩ (.cons ⟨_,rfl⟩ .nil))⟩;have N8:∀H:Hp,iq K H Ni [V.str "always",V.str "fallen",V.str "never"]:=λH=>.inr ⟨_,_,_,Wq,rfl,rfl,tL (aP (show 3<=1000 by decide)),(.cons ⟨_,rfl⟩ (.cons ⟨_,rfl⟩ (.cons ⟨_,rfl⟩ .nil)))⟩;obtain⟨vW,uF,xT,qY,xF,rR,rg,_⟩:=Fb;obtain⟨tu,iP,pN,pT,mx,rO,nE,nV,vb,pZ,oo,ou,uo,jH,nJ,oR,oU,_⟩:=A9;obtain⟨Fh,rW,Hw,HB,Fj,xE,JR,P0,B2,JY,Fu,rN,JN,J5,Kt,JV,Jw,B1,_⟩:=Xm;obtain⟨yT,GO,M9,Kk,AG,CQ,_⟩:=ei;obtain⟨vU,CZ,Ja,Fi,xx,wV,Az,_⟩:=Vr;obtain⟨vS,D7,Hl,FD,w9,xb,AM,_⟩:=VI;obtain⟨vI,DO,HJ,JX,FO,A6,_⟩:=UJ;obtain⟨qM,zh,BX,Eh,A3,vN,_⟩:=Na;obtain⟨pM,xn,Ah,B7,zr,ui,_⟩:=J4;obtain⟨Mz,wK,JU,Nz,Dq,_⟩:=Z3;obtain⟨bg,dl,Up,Zc,Q5,mL,jV,jC,lO,nB,ju,tZ,nj,hJ,ji,vO,kr,g9,rJ,q9,_⟩:=V0;obtain⟨kH,qW,om,pS,nO,pK,pH,pG,kz,Kl,Hc,sW,Mq,Mj,Ng,KD,QM,M8,sN,Kh,_⟩:=V1;obtain⟨zv,BF,Hb,Js,Mr,uR,Jo,t9,mK,bv,Uo,IS,Qt,V6,tj,bQ,lX,qC,nR,qD,_⟩:=V2;obtain⟨zP,jS,iD,mU,vy,m9,vH,fW,lq,jP,Bx,vz,vB,oZ,tm,ng,VS,OD,Fm,RB,_⟩:=V3;obtain⟨vC,NO,Ox,Pq,zf,Ku,Qx,Gp,Ko,RA,ec,Vx,c7,ID,LU,bq,ac,c8,U6,c1,_⟩:=V4;obtain⟨Wl,er,bE,dd,Zl,cw,_⟩:=V5;obtain⟨_,mO⟩:=mL.d;have yP:=mO.binds (ps:=zm) λ_ _ _ _ _ _=>ln2 λ_ _=>rfl;obtain⟨_,ka⟩:=jV.d;have qy:=ka.binds (ps:=Ph) λ_ _ _ _ _ _=>ti λ_=>rfl;obtain⟨_,jr⟩:=jC.d;have sY:=jr.binds (ps:=zm) λ_ _ _ _ _ _=>ln2 λ_ _=>rfl;obtain⟨_,lR⟩:=lO.d;have wD:=lR.binds (ps:=yu) λ_ _ _ _ _ _=>ln2 λ_ _=>rfl;obtain⟨_,mZ⟩:=nB.d;have yO:=mZ.binds (ps:=Ph) λ_ _ _ _ _ _=>ti λ_=>rfl;obtain⟨_,jh⟩:=ju.d;have sP:=jh.binds (ps:=yu) λ_ _ _ _ _ _=>ln2 λ_ _=>rfl;obtain⟨_,mY⟩:=nj.d;have zu:=mY.binds (ps:=Ph) λ_ _ _ _ _ _=>ti λ_=>rfl;obtain⟨_,gZ⟩:=hJ.d;have qc:=gZ.binds (ps:=zm) λ_ _ _ _ _ _=>ln2 λ_ _=>rfl;obtain⟨_,jZ⟩:=kr.d;have uC:=jZ.binds (ps:=yu) λ_ _ _ _ _ _=>ln2 λ_ _=>rfl;obtain⟨_,gX⟩:=g9.d;have qb:=gX.binds (ps:=yu) λ_ _ _ _ _ _=>ln2 λ_ _=>rfl;obtain⟨_,kG⟩:=kH.d;have we:=kG.binds (ps:=Ph) λ_ _ _ _ _ _=>ti λ_=>rfl;obtain⟨_,sU⟩:=sW.d;have Dn:=sU.binds (ps:=Dc) λ_ _ _ _ _ _=>ln2 λ_ _=>rfl;obtain⟨_,zA⟩:=zv.d;have zK:=zA.binds (ps:=vV) λ_ _ _ _ _ _=>ln2 λ_ _=>rfl;obtain⟨_,BL⟩:=BF.d;have Cs:=BL.binds (ps:=vV) λ_ _ _ _ _ _=>ln2 λ_ _=>rfl;obtain⟨_,rY⟩:=t9.d;have CY:=rY.binds (ps:=jR) λ_ _ _ _ _ _=>ln2 λ_ _=>rfl;obtain⟨_,ny⟩:=mK.d;have zo:=ny.binds (ps:=jR) λ_ _ _ _ _ _=>ln2 λ_ _=>rfl;obtain⟨_,xK⟩:=Qt.d;have KA:=xK.M1 (ps:=ye) (ds:=[.int 1000000 xu]) OH rfl λ_ _ _ _ _ _=>lnD (n:=1) rfl (ti λ_=>⟨_,rfl,rfl⟩);obtain⟨_,sF⟩:=tj.d;have Dl:=sF.binds (ps:=Ek) λ_ _ _ _ _ _=>ln3 λ_ _ _=>rfl;obtain⟨_,bS⟩:=bQ.d;have cu:=bS.binds (ps:=zi) λ_ _ _ _ _ _=>ln2 λ_ _=>rfl;obtain⟨_,lU⟩:=lX.d;have qG:=lU.M1 (ps:=E9) (ds:=[]) FJ rfl λ_ _ _ _ _ _=>lnD (n:=5) rfl (ln5 λ_ _ _ _ _=>⟨_,rfl,rfl⟩);obtain⟨_,qB⟩:=qC.d;have xY:=qB.binds (ps:=Ph) λ_ _ _ _ _ _=>ti λ_=>rfl;obtain⟨_,nH⟩:=nR.d;have ub:=nH.binds (ps:=Ph) λ_ _ _ _ _ _=>ti λ_=>rfl;obtain⟨_,qv⟩:=qD.d;have BD:=qv.binds (ps:=Ph) λ_ _ _ _ _ _=>ti λ_=>rfl;obtain⟨_,zS⟩:=zP.d;have J9:=zS.binds (ps:=J8) λ_ _ _ _ _ _=>ln2 λ_ _=>rfl;obtain⟨_,jO⟩:=jS.d;have nD:=jO.M1 (ps:=BY) (ds:=[]) Ci rfl λ_ _ _ _ _ _=>lnD (n:=6) rfl (ln6 λ_ _ _ _ _ _=>⟨_,rfl,rfl⟩);obtain⟨_,h7⟩:=iD.d;have ni:=h7.binds (ps:=J8) λ_ _ _ _ _ _=>ln2 λ_ _=>rfl;obtain⟨_,nz⟩:=mU.d;have zp:=nz.binds (ps:=Ph) λ_ _ _ _ _ _=>ti λ_=>rfl;obtain⟨_,vt⟩:=vy.d;have Fg:=vt.binds (ps:=J8) λ_ _ _ _ _ _=>ln2 λ_ _=>rfl;obtain⟨_,m7⟩:=m9.d;have yR:=m7.binds (ps:=Ph) λ_ _ _ _ _ _=>ti λ_=>rfl;obtain⟨_,vw⟩:=vH.d;have Fy:=vw.binds (ps:=J8) λ_ _ _ _ _ _=>ln2 λ_ _=>rfl;obtain⟨_,fZ⟩:=fW.d;have ij:=fZ.M1 (ps:=Ba) (ds:=[]) Cu rfl λ_ _ _ _ _ _=>lnD (n:=5) rfl (ln5 λ_ _ _ _ _=>⟨_,rfl,rfl⟩);obtain⟨_,lE⟩:=lq.d;have qL:=lE.binds (ps:=Ph) λ_ _ _ _ _ _=>ti λ_=>rfl;obtain⟨_,jW⟩:=jP.d;have oY:=jW.binds (ps:=Ph) λ_ _ _ _ _ _=>ti λ_=>rfl;obtain⟨_,Bi⟩:=Bx.d;have Nj:=Bi.binds (ps:=Ph) λ_ _ _ _ _ _=>ti λ_=>rfl;obtain⟨_,vj⟩:=vz.d;have Fo:=vj.binds (ps:=FN) λ_ _ _ _ _ _=>ln5 λ_ _ _ _ _=>rfl;obtain⟨_,vF⟩:=vB.d;have E1:=vF.binds (ps:=Ph) λ_ _ _ _ _ _=>ti λ_=>rfl;obtain⟨_,oV⟩:=oZ.d;have AE:=oV.binds (ps:=FN) λ_ _ _ _ _ _=>ln5 λ_ _ _ _ _=>rfl;obtain⟨_,tO⟩:=tm.d;have C7:=tO.binds (ps:=Ph) λ_ _ _ _ _ _=>ti λ_=>rfl;obtain⟨_,mS⟩:=ng.d;have y8:=mS.binds (ps:=FN) λ_ _ _ _ _ _=>ln5 λ_ _ _ _ _=>rfl;obtain⟨_,vD⟩:=vC.d;have FP:=vD.binds (ps:=Ph) λ_ _ _ _ _ _=>ti λ_=>rfl;obtain⟨_,az⟩:=cw.d;have HP:=FF.d;have Dh:=Bh.d;have cf:=YN.d;have b5:=eg.d;have Wy:=Ul.d;have WU:=UK.d;have XC:=Ui.d;have Qo:=Mf.d;have NF:=Kv.d;have cC:=ZW.d;obtain⟨vM,rG,vZ,uP,vQ,ua,xp,t7,sJ,uW,uT,uw,wj,vY,vK,tP,_⟩:=E6;obtain⟨tX,pz,sI,rh,sf,pU,uh,pQ,pP,rn,rA,rb,sR,sM,tw,pY,_⟩:=Bt;obtain⟨Jh,Kz,DT,AY,Ka,_⟩:=Xh;obtain⟨J0,NZ,L0,L6,N7,LQ,MW,_⟩:=dc;obtain⟨Fl,IE,Iy,Hd,Jk,IM,Gx,_⟩:=VP;obtain⟨E8,Hu,Jm,Jd,HG,Hy,HU,_⟩:=Ur;obtain⟨E3,G7,GW,Je,Ig,G9,JH,_⟩:=U0;obtain⟨Ai,Bs,Ct,Cf,BG,CJ,CN,_⟩:=NV;obtain⟨yW,Au,A1,Ap,AW,Aq,AS,_⟩:=JK;obtain⟨Km,Jj,CU,HH,_⟩:=c0;have wG:=lO.mt vW;have vJ:=jV.mt uF;have ze:=nj.mt xT;have sC:=ju.mt qY;have yX:=nB.mt xF;have uH:=kr.mt tu;have sx:=jV.mt rO;have pO:=g9.mt ou;have vP:=kH.mt uo;have zU:=zv.mt Hw;have yU:=mK.mt xE;have Dr:=t9.mt B2;have BQ:=BF.mt J5;have z9:=bQ.mt yT;have Kp:=zP.mt GO;have Od:=qC.mt M9;have Mt:=nR.mt Kk;have BI:=qD.mt AG;have xP:=bQ.mt vU;have FC:=vy.mt CZ;have JZ:=qC.mt Ja;have GZ:=nR.mt Fi;have zj:=mU.mt xx;have y7:=iD.mt wV;have wW:=bQ.mt vS;have E7:=vH.mt D7;have Kn:=qC.mt Hl;have JE:=nR.mt FD;have y6:=m9.mt w9;have zb:=iD.mt xb;have x8:=bQ.mt vI;have E5:=vz.mt DO;have Ke:=lq.mt HJ;have MO:=Bx.mt JX;have Ii:=jP.mt FO;have tY:=bQ.mt qM;have An:=oZ.mt zh;have Ds:=lq.mt BX;have FI:=vB.mt Eh;have BV:=jP.mt A3;have qX:=bQ.mt pM;have zt:=ng.mt xn;have Br:=lq.mt Ah;have D0:=tm.mt B7;have A2:=jP.mt zr;have Ia:=jC.mk rg E0;have Eg:=hJ.mk oU B3;have ZP:=sW.mk B1 XR;have b3:=lX.mk CQ dI;have Yl:=jS.mk Az UI;have WM:=jS.mk AM VT;have Wm:=fW.mk A6 VY;have Pk:=fW.mk vN MF;have Nx:=fW.mk ui Kd;have ea:=vC.mk Dq b0;have xU:=mL.bc yv;have Bm:=tj.bc BH;have CW:=lX.bc DM;have e:=cs.symm.trans (mE X G dz);cases e;erw[⟨_,az.bl (p:=λfd=>∀(s:eW) (u:ez),aku s fd ⟨[u],[]⟩ [("_law_script",u)]) λ_ _ _ _ _ _ s v=>BindsTo.of_eq rfl,λdX _ _=>?_⟩];have nQ:CF K y:=⟨b5,N7,NZ,J0,LQ,L0,L6,MW⟩;have dU:CF K D:=⟨Wy,Jk,IE,Fl,IM,Iy,Hd,Gx⟩;have dR:CF K L:=⟨WU,HG,Hu,E8,Hy,Jm,Jd,HU⟩;have gP:CF K J:=⟨XC,Ig,G7,E3,G9,GW,Je,JH⟩;have cV:CF K M:=⟨Qo,BG,Bs,Ai,CJ,Ct,Cf,CN⟩;have cF:CF K N:=⟨NF,AW,Au,yW,Aq,A1,Ap,AS⟩
 have inj:∀i j:Nat,(i=0\/i=1\/i=2\/i=3\/i=4\/i=5)->(j=0\/j=1\/j=2\/j=3\/j=4\/j=5)->(λj:Nat=>match j with|0=>y|1=>D|2=>L|3=>J|4=>M|_=>N) i=(λj:Nat=>match j with|0=>y|1=>D|2=>L|3=>J|4=>M|_=>N) j->i=j:=by
  rintro i j (rfl|rfl|rfl|rfl|rfl|rfl) (rfl|rfl|rfl|rfl|rfl|rfl) h
  .rfl
  .exact absurd h x6
  .exact absurd h xD
  .exact absurd h xf
  .exact absurd h qr
  .exact absurd h o9
  .exact absurd h.symm x6
  .rfl
  .exact absurd h sL
  .exact absurd h rX
  .exact absurd h mW
  .exact absurd h lJ
  .exact absurd h.symm xD
  .exact absurd h.symm sL
  .rfl
  .exact absurd h tS
  .exact absurd h mV
  .exact absurd h lG
  .exact absurd h.symm xf
  .exact absurd h.symm rX
  .exact absurd h.symm tS
  .rfl
  .exact absurd h nv
  .exact absurd h lM
  .exact absurd h.symm qr
  .exact absurd h.symm mW
  .exact absurd h.symm mV
  .exact absurd h.symm nv
  .rfl
  .exact absurd h jn
  .exact absurd h.symm o9
  .exact absurd h.symm lJ
  .exact absurd h.symm lG
  .exact absurd h.symm lM
  .exact absurd h.symm jn
  .rfl
 obtain⟨p,e0,e1,e2,e3,e4,e5,W,A,B,P,ab,Y,O⟩:∃p:Pl,p.c 0=y/\p.c 1=D/\p.c 2=L/\p.c 3=J/\p.c 4=M/\p.c 5=N/\p.pr 0/\p.pr 1/\p.pr 2/\p.pr 3/\p.pr 4/\p.pr 5/\(∀j,p.pr j->(j=0\/j=1\/j=2\/j=3\/j=4\/j=5)):=⟨⟨_,λj=>(j=0\/j=1\/j=2\/j=3\/j=4\/j=5),inj⟩,rfl,rfl,rfl,rfl,rfl,rfl,(.inl rfl),(.inr (.inl rfl)),(.inr (.inr (.inl rfl))),(.inr (.inr (.inr (.inl rfl)))),(.inr (.inr (.inr (.inr (.inl rfl))))),(.inr (.inr (.inr (.inr (.inr (rfl)))))),λ_ h=>h⟩;subst e0 e1 e2 e3 e4 e5;have k0:K4 l.prog w K mg dX true 1 "Child" "__init__" (FR K) []:=⟨_,_,_,_,_,Bm,YE sF,cn,Dl,.nil⟩;have kL:K4 l.prog w K mg dX true 2 "Leaf" "__init__" (F8 K) []:=⟨_,_,_,_,_,CW,Qe lU k0,Xy,qG,.nil⟩;have iL:=aay (p:=p) nQ W (Qe (dX:=dX) lU k0);have iS:=Ug (p:=p) dU A (Pc (dX:=dX) jO kL);have iF:=UX (p:=p) dR B (Pc (dX:=dX) jO kL);have i3:=DL (p:=p) (j:=3) ∅ gP P (GN (dX:=dX) fZ k0);have i4:=DL (p:=p) (j:=4) ∅ cV ab (GN (dX:=dX) fZ k0);have i5:=DL (p:=p) (j:=5) ∅ cF Y (GN (dX:=dX) fZ k0);have cE:aR l.prog w K mg dX 1 "work_words" (AA p.rep) λC=>C=p.c 0:=λC e=>by subst e;exact⟨_,_,_,_,nQ.cl,BI,YX qv W,BD,.nil⟩
 have c4:aR l.prog w K mg dX 1 "work_words" (AA p.rep) λC=>C=p.c 1:=λC e=>by subst e;exact⟨_,_,_,_,dU.cl,zj,YO nz T A dU,zp,.nil⟩
 have dn:aR l.prog w K mg dX 1 "work_words" (AA p.rep) λC=>C=p.c 2:=λC e=>by subst e;exact⟨_,_,_,_,dR.cl,y6,Zm m7 T B dR,yR,.nil⟩
 have da:aR l.prog w K mg dX 1 "worked_out" (OS p.rep) λC=>C=p.c 1:=λC e=>by subst e;exact⟨_,_,_,_,dU.cl,y7,Zj h7 A (.inl rfl) dU,ni,.nil⟩
 have em:aR l.prog w K mg dX 1 "worked_out" (OS p.rep) λC=>C=p.c 2:=λC e=>by subst e;exact⟨_,_,_,_,dR.cl,zb,Zj h7 B (.inr rfl) dR,ni,.nil⟩
 have cp:aR l.prog w K mg dX 1 "way" (HN p.rep) λC=>C=p.c 3:=λC e=>by subst e;exact⟨_,_,_,_,gP.cl,MO,aaG Bi P,Nj,.nil⟩
 have bp:aR l.prog w K mg dX 1 "way" (HN p.rep) λC=>C=p.c 4:=λC e=>by subst e;exact⟨_,_,_,_,cV.cl,FI,abt vF ab,E1,.nil⟩
 have dK:aR l.prog w K mg dX 1 "way" (HN p.rep) λC=>C=p.c 5:=λC e=>by subst e;exact⟨_,_,_,_,cF.cl,D0,aau tO Y,C7,.nil⟩
 have IF:If l.prog w K mg dX 3 p.rep p.cl:=by
  erw[⟨λe h=>Pl.mono e h,λh=>h.1,?_,?_,?_⟩]
  .rintro H a s ⟨ok,pr,dx,e⟩;erw[⟨_,dx,_,e,⟨pr,rfl⟩,?_⟩];unfold uB
   split<;>exact⟨rfl,rfl,rfl,rfl,rfl⟩
  .rintro C j ⟨z,rfl⟩;rcases O _ z with rfl|rfl|rfl|rfl|rfl|rfl
   .exact ⟨_,_,_,_,nQ.cl,Mt,(DD nH T W ∅ nQ cE).mono ∅,ub,.nil⟩
   .exact ⟨_,_,_,_,dU.cl,GZ,(DD nH T A ∅ dU c4).mono ∅,ub,.nil⟩
   .exact ⟨_,_,_,_,dR.cl,JE,(DD nH T B ∅ dR dn).mono ∅,ub,.nil⟩
   .exact ⟨_,_,_,_,gP.cl,Ii,(DI jW T P ∅ gP cp).mono ∅,oY,.nil⟩
   .exact ⟨_,_,_,_,cV.cl,BV,(DI jW T ab ∅ cV bp).mono ∅,oY,.nil⟩
   .exact ⟨_,_,_,_,cF.cl,A2,(DI jW T Y ∅ cF dK).mono ∅,oY,.nil⟩
  .rintro C j ⟨z,rfl⟩;rcases O _ z with rfl|rfl|rfl|rfl|rfl|rfl
   .exact ⟨_,_,_,_,nQ.cl,Od,(IG qB W ∅).mono ∅,xY,.nil⟩
   .exact ⟨_,_,_,_,dU.cl,JZ,(IG qB A ∅).mono ∅,xY,.nil⟩
   .exact ⟨_,_,_,_,dR.cl,Kn,(IG qB B ∅).mono ∅,xY,.nil⟩
   .exact ⟨_,_,_,_,gP.cl,Ke,(Hh lE P ∅).mono ∅,qL,.nil⟩
   .exact ⟨_,_,_,_,cV.cl,Ds,(Hh lE ab ∅).mono ∅,qL,.nil⟩
   .exact ⟨_,_,_,_,cF.cl,Br,(Hh lE Y ∅).mono ∅,qL,.nil⟩
 have e:Wd l.prog w K mg dX:=trivial
 have ad:∀j,p.pr j->CF K (p.c j):=by
  intro j z;rcases O _ z with rfl|rfl|rfl|rfl|rfl|rfl
  .exact nQ
  .exact dU
  .exact dR
  .exact gP
  .exact cV
  .exact cF
 have oA:=gE X G e ed bg λ_ F=>acS F;have jQ:=gE X G e b2 dl λ_ F=>YT F;have ff:=gE X G e Vc Up λ_ F=>RP F
 have hB:aR l.prog w K mg dX 3 "begun_again" (NA p.rep) λC=>∃j,p.cl j C:=by
  rintro C ⟨j,z,rfl⟩;rcases O _ z with rfl|rfl|rfl|rfl|rfl|rfl
  .exact ⟨_,_,_,_,nQ.cl,z9,(sX bS W nQ qw qA).mono ∅,cu,.nil⟩
  .exact ⟨_,_,_,_,dU.cl,xP,(sX bS A dU qw qA).mono ∅,cu,.nil⟩
  .exact ⟨_,_,_,_,dR.cl,wW,(sX bS B dR qw qA).mono ∅,cu,.nil⟩
  .exact ⟨_,_,_,_,gP.cl,x8,(sX bS P gP qw qA).mono ∅,cu,.nil⟩
  .exact ⟨_,_,_,_,cV.cl,tY,(sX bS ab cV qw qA).mono ∅,cu,.nil⟩
  .exact ⟨_,_,_,_,cF.cl,qX,(sX bS Y cF qw qA).mono ∅,cu,.nil⟩
 have hE:aR l.prog w K mg dX 3 "end_at" (Lv p.rep) λC=>∃j,j<3/\p.cl j C:=by
  rintro C ⟨j,hj,z,rfl⟩;rcases O _ z with rfl|rfl|rfl|rfl|rfl|rfl
  .exact ⟨_,_,_,_,nQ.cl,Kp,(ZI zS W).mono ∅,J9,.nil⟩
  .exact ⟨_,_,_,_,dU.cl,FC,(abv vt A da).mono ∅,Fg,.nil⟩
  .exact ⟨_,_,_,_,dR.cl,E7,(aat vw B em).mono ∅,Fy,.nil⟩
  .exact absurd hj ∅
  .exact absurd hj ∅
  .exact absurd hj ∅
 have dr:aR l.prog w K mg dX 3 "chosen" (yk p.rep) λC=>∃j,3<=j/\p.cl j C:=by
  rintro C ⟨j,hj,z,rfl⟩;rcases O _ z with rfl|rfl|rfl|rfl|rfl|rfl
  .exact absurd hj ∅
  .exact absurd hj ∅
  .exact absurd hj ∅
  .exact ⟨_,_,_,_,gP.cl,E5,(R0 vj P oA).mono ∅,Fo,.nil⟩
  .exact ⟨_,_,_,_,cV.cl,An,(Qz oV ab jQ ff).mono ∅,AE,.nil⟩
  .exact ⟨_,_,_,_,cF.cl,zt,(Q8 mS Y jQ ff).mono ∅,y8,.nil⟩
 have SI:MK l.prog w K mg dX p.rep p.cl:=by
  erw[⟨IF,?_,hB,hE,dr⟩];rintro H a s ⟨ok,pr,dx,e⟩;erw[⟨_,dx,_,e,ad _ pr,Gf s,λh3=>⟨Py h3,Ti h3⟩,λh3=>?_⟩];unfold uB;have k5:=ok.kd;have:s.kind=3\/s.kind=4\/s.kind=5:=by lia
  rcases this with z|z|z<;>rw[z]<;>exact⟨rfl,rfl⟩
 have MT:MkT l.prog w K mg dX p 3:=⟨⟨_,_,_,_,b3,iL.mono ∅,Xy,qG,.nil⟩,⟨_,_,_,_,Yl,iS.mono ∅,We,nD,.nil⟩,⟨_,_,_,_,WM,iF.mono ∅,Wx,nD,.nil⟩,
  ⟨_,_,_,_,Wm,i3.mono ∅,WS,ij,.nil⟩,⟨_,_,_,_,Pk,i4.mono ∅,PQ,ij,.nil⟩,⟨_,_,_,_,Nx,i5.mono ∅,N0,ij,.nil⟩⟩
 have nY:=gE X G e Vt Uo λ_ F=>Uw F T;have DE:=gE X G e U5 V6 λ_ F=>Vs F T Eo C6 nZ nY;have ox:=gE X G e GH IS λ_ F=>Z8 F T og nZ nY;have cD:iu l.prog w K mg dX true 3 "number_in" T9 [.int 1000000]:=⟨_,_,_,_,ad8 xK T AV ox,PY,xK.kp,KA,.cons ⟨_,rfl⟩ .nil⟩;have C3:=gE X G e Vv VS λ_ F=>VW F T MT cD;have yi:=gE X G e OG OD λ_ F=>VG F T eQ MT cD;have mF:=gE X G e Fe Fm λ_ F=>QZ F T C3 yi;have AI:=gE X G e R5 RB λ_ F=>Rm F T eQ M7 N8 Ae Ag DE mF;have ct:CT K r:=⟨cC,CU,Jj,Km,HH⟩;have tN:=i9 e ct.cl JU NO λ_ F=>Wk (p:=p) F ct ad;have tK:=i9 e ct.cl Nz Pq λ_ F=>abg (p:=p) F T ct ad;have tA:=i9 e ct.cl wK zf λ_ F=>Y7 (p:=p) F T ct IF;have tF:=i9 e ct.cl Mz Ox λ_ F=>ZO (p:=p) F ct;have Rh:=mkM e b4 ea FP (Oy (p:=p) vD ct);have rQ:=gE X G e Kb Ku λ_ F=>Vw F T;have AK:=gE X G e Q6 Qx λ_ F=>Q3 F T;have o8:=gE X G e GJ Gp λ_ F=>Vd F T;have qP:=gE X G e JP Ko λ_ F=>Z5 F T ct ad IF rC tN;have AH:=gE X G e RH RA λ_ F=>QN F T ct xh tN tA tK AI AK o8 qP;have RG:=gE X G e ep ec λ_ F=>aaP F T ct Rh tN rQ AH;have q:iA (jx r p):=aab
 have TI:TrI l.prog w K mg dX (jx r p) r:=by
  erw[⟨q,?_,?_⟩]
  .rintro H t U FT ⟨c,b,a,d,as,hT,rfl⟩;obtain⟨dx,h⟩:=hT.ob;exact⟨dx,_,h,rfl⟩
  .rintro C rfl;obtain⟨f,fd,ps,ds,h1,h2,h3,h4,h5⟩:=tF _ rfl;erw[⟨f,fd,ps,ds,h1,h2,(h3.mono ∅).imp ?_,h4,h5⟩];rintro vs H Q E ⟨t,U,FT,i,rfl,⟨c,b,a,d,as,hT,rfl⟩,hi,nd,_,k⟩;exact⟨t,U,c,b,a,d,as,i,rfl,hT,hi,nd,k⟩
 obtain⟨eu,eH,eL,eM⟩:∃eu:HC,eu.cH=yG/\eu.cL=fg/\eu.cM=dh:=⟨⟨_,_,_⟩,rfl,rfl,rfl⟩;subst eH eL eM;have m:CH K eu.cH:=⟨cf,Ka,Jh,DT,Kz,AY⟩;have o:CS K eu.cL:=⟨HP,vZ,vY,vM,uT,wj,uW,rG,vK,uw,t7,vQ,xp,tP,sJ,uP,ua⟩;have g:CS K eu.cM:=⟨Dh,sI,sM,tX,rA,sR,rn,pz,tw,rb,pQ,sf,uh,pY,pP,rh,pU⟩
 have Ut:aR l.prog w K mg dX 1 "is_off" (qd p.rep (jx r p) eu) λC=>C=eu.cL\/C=eu.cM:=by
  rintro C (rfl|rfl)
  .exact ⟨_,_,_,_,o.cl,vJ,Pz ka o,qy,.nil⟩
  .exact ⟨_,_,_,_,g.cl,sx,Pz ka g,qy,.nil⟩
 have cr:=i9 e g.cl iP ji λ_ F=>Vg (R:=p.rep) (TR:=jx r p) (eu:=eu) q F g;have YV:=i9 e g.cl iP ji λ_ F=>QV F g;have aK:=i9 e o.cl rR tZ λ_ F=>QE (R:=p.rep) (TR:=jx r p) (eu:=eu) F o
 have eq:aR l.prog w K mg dX 4 "step" (jF p.rep (jx r p) eu true (λT S i us=>us=[]/\((S.nd i).st≠"told"->0<=(S.nd i).steps/\((sh T i).kind≠0->(S.nd i).steps<=(sh T i).many))) (λT i S=>(cB T i S).2) (λT S i=>.str (cB T i S).1)) λC=>C=eu.cL:=λC e=>by
  subst e;exact⟨_,_,_,_,o.cl,ze,XZ q (λh=>(by obtain⟨C,dx,fs,a1,a2,a3,a4,a5,a6,a7⟩:=SI.I.inst h;exact⟨C,dx,fs,a1,λz=>⟨_,z,a2⟩,a6⟩)) SI.en aK mY rfl o,zu,.nil⟩
 have aF:=i9 e g.cl pT q9 λ_ F=>VH (R:=p.rep) (TR:=jx r p) (eu:=eu) q T jQ F g;have bm:=i9 e g.cl pN qW λ_ F=>UB (R:=p.rep) (TR:=jx r p) (eu:=eu) q aF F rfl g;have ap:=i9 e g.cl pZ rJ λ_ F=>UD (R:=p.rep) (TR:=jx r p) (eu:=eu) q T Ut o g oA F rfl;have a9:=i9 e g.cl nE pH λ_ F=>Oe (R:=p.rep) (TR:=jx r p) (eu:=eu) q T ap g F rfl;have dy:=i9 e g.cl nV om λ_ F=>Pb (R:=p.rep) (TR:=jx r p) (eu:=eu) F g;have b8:=i9 e g.cl oo pS λ_ F=>aaA (R:=p.rep) (TR:=jx r p) (eu:=eu) q T SI o g oA F rfl;have sG:=gE X G e W2 Zc λ_ F=>V7 F T;have AU:=gE X G e QR Q5 λ_ F=>QO F T sG;have a0:=i9 e g.cl mx nO λ_ F=>Vi (R:=p.rep) (TR:=jx r p) (eu:=eu) q T SI g sG AU F rfl;have c5:=i9 e g.cl oR pK λ_ F=>Rr (R:=p.rep) (TR:=jx r p) (eu:=eu) q T SI ap o g F rfl;have bi:=i9 e g.cl nJ pG λ_ F=>PX (R:=p.rep) (TR:=jx r p) (eu:=eu) q T o g oA ff F rfl;have cN:=i9 e g.cl jH kz λ_ F=>ZF (R:=p.rep) (TR:=jx r p) (eu:=eu) q T Ut o g oA F rfl
 have dB:∀n,2<=n->∀C s x,DtB p.rep (jx r p) eu C s x->MethAt l.prog w K mg dX (fm l.prog w) true n "begin" C s x:=by
  rintro n hn C s x ⟨rfl,⟨rfl,rfl⟩|⟨rfl,rfl⟩⟩
  .exact ⟨_,_,_,_,o.cl,wG,(Uq q lR o).mono (),wD,.nil⟩
  .exact ⟨_,_,_,_,g.cl,uH,(VN q cr jZ rfl g).mono (),uC,.nil⟩
 have dT:∀n,3<=n->∀C s x,DtT p.rep (jx r p) eu C s x->MethAt l.prog w K mg dX (fm l.prog w) true n "tell" C s x:=by
  rintro n hn C s x ⟨rfl,⟨rfl,rfl⟩|⟨rfl,rfl⟩⟩
  .exact ⟨_,_,_,_,o.cl,yX,(Wc q (λh=>(by obtain⟨C,dx,fs,a1,a2,a3,a4,a5⟩:=SI.fld h;exact⟨C,dx,fs,a1,a2,a4⟩)) mZ o).mono (),yO,.nil⟩
  .exact ⟨_,_,_,_,g.cl,vP,(X7 q aF kG rfl g).mono (),we,.nil⟩
 have dS:∀C s x,DtS p.rep (jx r p) eu C s x->MethAt l.prog w K mg dX (fm l.prog w) true 2 "steps_at" C s x:=by
  rintro C s x ⟨rfl,⟨rfl,rfl⟩|⟨rfl,rfl⟩⟩
  .exact ⟨_,_,_,_,o.cl,sC,V8 Ut jh rfl o q,sP,.nil⟩
  .exact ⟨_,_,_,_,g.cl,pO,UA gX,qb,.nil⟩
 have ND:=i9 e m.cl Jw Kh λ_ F=>Yy (R:=p.rep) (TR:=jx r p) (eu:=eu) q SI o g m F
 have YF:∀d,aR l.prog w K mg dX (d+2) "begin" (mz p.rep (jx r p) eu (λT i _=>cj T d i) (λT i S=>bf T d i S)) λC=>C=eu.cH:=by
  intro d
  induction d with
  |zero=>
   rintro C rfl;exact⟨_,_,_,_,m.cl,zU,PK λvs H Q E ⟨_,_,_,_,_,_,_,_,_,_,_,_,h,_⟩=>h,zK,.nil⟩
  |succ d ih=>
   rintro C rfl;exact⟨_,_,_,_,m.cl,zU,UE (n:=d+2) q T o g m d () (dB _ ()) ND ih zA,zK,.nil⟩
 have NH:=i9 e m.cl Fj Hb λ_ F=>Vk (R:=p.rep) (TR:=jx r p) (eu:=eu) q o g m ND F;have es:∀n,12<=n->aR l.prog w K mg dX n "end_turning" (mz p.rep (jx r p) eu (λT i _=>fk T i=false) aS) λC=>C=eu.cH:=λn hn C e=>by subst e;exact⟨_,_,_,_,m.cl,yU,(GP (n:=11) q T o g m ∅ dy NH bi (YF 9) ny).mono (),zo,.nil⟩
 have al:∀d,aR l.prog w K mg dX (2*d+20) "tell" (mz p.rep (jx r p) eu (λT i _=>cj T d i) (λT i S=>cP T d i S)) (λC=>C=eu.cH)->aR l.prog w K mg dX (2*d+21) "put_away" (mz p.rep (jx r p) eu (λT i _=>fk T i=false/\cj T (d+1) i) (λT i S=>aM T d i S)) λC=>C=eu.cH:=λd ht C e=>by
  subst e;exact⟨_,_,_,_,m.cl,Dr,Pm (n:=2*d+20) q T o g m d () a9 (es _ ()) ht rY,CY,.nil⟩
 have an:∀d,aR l.prog w K mg dX (2*d+20) "tell" (mz p.rep (jx r p) eu (λT i _=>cj T d i) (λT i S=>cP T d i S)) λC=>C=eu.cH:=by
  intro d
  induction d with
  |zero=>
   rintro C rfl;exact⟨_,_,_,_,m.cl,BQ,PK λvs H Q E ⟨_,_,_,_,_,_,_,_,_,_,_,_,h,_⟩=>h,Cs,.nil⟩
  |succ d ih=>
   rintro C rfl;exact⟨_,_,_,_,m.cl,BQ,Y3 (n:=2*d+21) q T SI o g m d () (dT _ ()) ND NH aK (al d ih) BL,Cs,.nil⟩
 have am:aR l.prog w K mg dX 39 "put_away" (mz p.rep (jx r p) eu (λT i _=>fk T i=false/\cj T 10 i) (λT i S=>aM T 9 i S)) λC=>C=eu.cH:=al 9 (an 9);have b9:=i9 e m.cl Fh Jo λ_ F=>R8 (n:=39) q T o g m ∅ a0 ND bm c5 am F;have ef:=i9 e m.cl rW uR λ_ F=>Qb (n:=40) q T o g m ∅ cN b9 F;have cT:aR l.prog w K mg dX 41 "put_away" (mz p.rep (jx r p) eu (λT i _=>fk T i=false/\cj T 10 i) (λT i S=>aM T 9 i S)) λC=>C=eu.cH:=SF am ∅;have ek:=i9 e m.cl JR Mr λ_ F=>Zo (n:=41) q T o g m ∅ b8 cT ef F;have My:=i9 e m.cl Fu Js λ_ F=>RS (n:=42) q T o g m ∅ ek F;have bo:=i9 e m.cl JV Mq λ_ F=>WG (n:=43) q T o g m ∅ dS eq NH My F;have ca:aR l.prog w K mg dX 43 "tell" (mz p.rep (jx r p) eu (λT i _=>cj T 10 i) (λT i S=>cP T 10 i S)) λC=>C=eu.cH:=SF (an 10) ∅;have dv:=i9 e m.cl JN Ng λ_ F=>WN (n:=43) q T lC nX o g m ∅ Ut ca My F;have Tq:=i9 e m.cl rN sN λ_ F=>RM (R:=p.rep) (TR:=jx r p) (eu:=eu) TI T m F;have dm:=i9 e m.cl HB KD λ_ F=>VX (R:=p.rep) (TR:=jx r p) (eu:=eu) q o g Tq F;have eb:=i9 e m.cl P0 QM λ_ F=>ad1 (R:=p.rep) (TR:=jx r p) (eu:=eu) q SI o g m Ut F;have dO:=i9 e m.cl Kt Mj λ_ F=>W0 (n:=43) q T SI Bw Gv lC nX o g m ∅ Tq Ut NH My F;have d1:=i9 e m.cl JY M8 λ_ F=>W8 (R:=p.rep) (TR:=jx r p) (eu:=eu) T m F;have kS:K4 l.prog w K mg dX true 1 "Standing" "__init__" (FQ K) []:=⟨_,_,_,_,_,xU,Xo mO,Ro,yP,.nil⟩;have bn:=mkM e Ip Ia sY (Vb jr kS);have be:=mkM e Dm Eg qc (Vy g gZ kS YV);have bK:=i9 e g.cl vb vO λ_ F=>ZY T g F;have rF:=gE X G e Kx Kl λ_ F=>ZS SI o bn be F;have oB:=gE X G e Iu Hc λ_ F=>Xg T ct o g rF bK F;have MZ:=mkM e ci ZP Dn (Ys (n:=12) T m ∅ oB (YF 10) sU);have Yq:=gE X G e eo bv λ_ F=>WK MZ F;have fM:=gE X G e UG Vx λ_ F=>aav (cm:=true) F T;have R6:=gE X G e c6 c7 λ_ F=>aaD F T;have jL:=gE X G e G3 ID λ_ F=>UU F T;have uX:=gE X G e LY LU λ_ F=>VR F T;have Rn:=gE X G e c3 bq λ_ F=>ZZ F T fM R6 jL uX;have R4:=gE X G e db ac λ_ F=>Z0 F T;have GG:=afz (kk:=44) q ∅ (fx _) d1 dm eb bo dv dO;have EX:ExF K iU gk jM:=⟨Uc.xi,W6.xi,CV,GU,FX CV Dz (λ_=>rfl),FX GU E4 (λz=>absurd z vf),FX CV Fc (λz=>absurd z.symm vf),FX GU yf (λ_=>rfl),wc,xg,yf⟩;have MH:=gE X G e du c8 λ_ F=>Y2 F T GG EX qN qT Bw lC;have Ej:=gE X G e U2 U6 λ_ F=>QH F T GG EX lC nX;have RD:=gE X G e b7 c1 λ_ F=>aac F T GG MH Ej;have Jp:=gE X G e Zr Wl λ_ F=>Ux F T;have Mb:=gE X G e c2 er λ_ F=>Wt F T;have Q0:=gE X G e b1 bE λ_ F=>Z4 F T;have Nn:=gE X G e ej dd λ_ F=>X5 F T Jp Mb Q0;have JF:=gE X G e WH Zl λ_ F=>UC F T GG;have WQ:=ad0 (k:=44) RG ∅;erw[adw (kk:=44) ∅ az T GG fM Rn R4 WQ (ac6 ∅ Yq) Nn JF RD]
theorem walk{l:akM}{q:hD}{b:List Str}{i:(Str->Option ez)->gm->Prop}{g:gT->gm->Prop}{d:DefRec}{K:Params->fD}(m:l.most=some 63)(c:d.params.defaults=[])
  (o:∀(w:gT) (h:gm),g w h->(K w.params).In h)
  (F:∀(w:gT) (mg:Str->Option ez) (fa:eh) (h:gm),(K w.params).In h->h.Ns mainGlobals mg->mg d.name=some (.ref fa)→
   ∃fd:oT,(∀(s:eW) (u:ez),aku s fd ⟨[u],[]⟩ [("_law_script",u)])/\∀dX:gm,(K w.params).In dX->dX.Ns mainGlobals mg->aD l.prog w (K w.params) mg dX (fm l.prog w) true 63 fa fd ["_law_script"] (TY (K w.params))):
  amP q b i g l.row.toRowW d [] (λf vs=>PySem.call f vs):=
 L2.aba (n:=63) (k:=63) (cm:=true) (x:="_law_script") (CX:=λw=>fm l.prog w) (sp:=λw=>TY (K w.params)) m ∅ c ⟨λ_=>rfl,∅,∅⟩ o F (λ_ _ a ns r _ j=>⟨a,ns,rfl,j,λ_=>rfl⟩)
  λw H s e p z=>by obtain⟨_,_,_,_,_,_,_,_,_,_,_,_,_,q⟩:=z;erw[q]
end K09
end
local macro_rules|`(example:=$s:str)=>do
 let mut x:=#[]
 let mut n:=1
 for c in s.getString.toList do
  let d:=c.toNat
  n:=n*62+(if d<58 then d-48 else if d<91 then d-55 else d-61)
  if n>=62^11 then
   x:=x.push (Lean.mkIdent (.mkSimple s!"tw{n-62^11}"))
   n:=1
 `(structure $(Lean.mkIdent `PySem.W.Fast):ident:Prop where($x*:True))
example:="IwdiyHEabZE0bJ400UlEpqGDNvL5dSbte2wUeVrhDsPj2CFPGW3NpXu6DIJVPUaN4FBf2aTONlt9i2ivxq1NHDLmLdYZ9qpew241EhbAdavT3rJjwEQ2CxgyRIuUZHiDg0lPE0FkVItmrNSEZOSo0T8eng840dGSKxjw3Bh85yUyOgZvBRD1vjtEZbv0APes0A7Glq47aaJ6q4ZNG5ViJcMHpx73BSrHoV3dCxC3rCf6lHF9euEdcbyaZmVSoHAiLNrYOM2a2zQA5sxNUu94vTKsgxu96R4F86XEF7LWD3oSYdaL1F6d1KZDhJAUtMBEeTmlnKW8eaIZ7p3bZWWNSDGOGOY23p1uDHUyRGfZkf73Uk3SHpkB3a8khJTarBHUN6YJgLzQFYL8GIpX1QWbzKB92K6V6jtP1dE4EldhXdVB79MPeTrLiVF5B2FzrCTvQaoGOF48kioRhG4H7PYW3CCGH2yKc6NWQMX3IifJsoKXzn2IBpuXKjgizg8MSAq8kqDwNEOwRLu4iZDmIZPNd2U0NU0Jj01RAIolw42iMdkWnClYFDcDcKhzknD88yV2oHBL8npHAcNGWBoL5UECp5XHMtlpXFyLk7PPwnI96wTrlR4RDGM2WGYqkKjOH8JtrG1FirVZG4W99Lcwc8KQ8JfcnVD87D38DT9Gat2dV4ERw8UCntQ8m7KofqfvfyH8ITnr93JdisiDspWhKvyMGnBQvYseqEkJK1FHNllEedP43xDHjMUzTUx4hQydcUixCuDWTwO4pjKZBH3mcEhDZRPlLRlWHfoQn2l6UOprM9VPh23jlMFfWbDNGBEVTmmAmOVm6iRK3Lcf0tdIABK9bs8SRKFG6DPcboolL51wCBAAUYBnDE0e3z8AEN50WM535EKCFjLlN9JwxJvvG0LHa3JkZ4VP3vLs546zZmwDrdUPoyUBR9A4kTa6hfS8211Oystc3Dg8JV1SiUfvePXCPkPIFE3sfqGXkhoLkuDF010r4HjcGOk52xZiF4EBj3jFM1fmurTMMq88y0DbneTANJSIYU3SJ6cVFEjvyPG5l2A6dU4ZINQzUa4Mym3B9xg5aFZWZ56yexs6D8UsPXwkkCBLuHjxVZGby6K8uMqiJQCLk94PQfENoFbM0yiGXmqQk8ICUkWHkPwMai1Ho5VuiU0ucKdKJplH0E1H8QM1WHK4FBF0LKEPatEsVO8Jr6Jeht0Co6U9AQlgBfCyG17qNAA5RoL4cr0uSsyILq8gcEGTyqD6jKFDhmEBIjQWKTpGiP0LQveKmBf5ZbI6JL8yG2KjJL9ixCdpNZ3X3lY68wKejTab2XXAqEBvi3HxYXEm3EPLjp9I1E6PpgRrVuD79JoyxsbLJ2SJLxWLpqqeJ4JnRfdTqnyX5FYyTVSR6RNk7u8RPCRFWSs0RNODSDL7lDKVhz4eiylCa8T3WjLE1Eb3DuiI30xlvuUCiZJ0u1iPII4uCYnHhYw6mLnAn2r6tDQkDPGmvNPlZNUF2wXAUnOZfgBVpCEKXBNZvD9rV6619KK99MvW6vDTBVk87TvvZR4MuMJE0Wfvhn0Hn4Fb4cewKO0t1rSzrIrX0Wp01PsbcKfS9C2Si2BRbR2HmLF8cwVjkTstD5BObmld6gK1poZGZtQxaJHPuiZ2w0cWq3pEumUXFO4g3Dt7bx6znMM9lE9gkQ96iDA4XB45WIOLs8V7Nk4etuHxH82yeV4hSBh43Ac2qRzYDm3071PmJrU818q4hXrszlKv7vQhWYJZ3R27IVutErsHQzAiAKevOKNXxCHcqRZXDzFQ2ZfPnhzBtO3ELrGEBIlU5d41DyJkGNRlNLML1X52nvyOE6Gs4AQOuRC3pb4ZcZMkWd0mAL2yGszzz7Tx0o6PUqPq2QOZxO3EPw88HFpZb1Isx14Mgj6V7BMvaDXuZ3x596OFE28O9r8ZzIt1CMBdUYEHR81NDDZQ57Cxs7AkXB0nMcJ2D8LasRvpHDUDC7zgAsJs200kYmZpOjED2Ar7CEIMVqu60srhBAnN06A8iS0UYi5smV0ODrM7IyuSC8d4HaruwLra1UUfobS4yePAF5AlmaW9eDBX5HXPBTUTi5GBsQJtwsid4WCvddGlSPnAC0bohNs42AIZIB6YgN54CBovqCS9tGErC9Lr00Rfl12FrhlSInVF2g7gxeC7N6YLY2sDlRBfq7ywCTQdLNOF8ui7t82aJviO4L5sBvaur9xIMIOpmLPDlqUrFKpFLyjJL0vAh9oYJEnQEQLnFucLFKSKD3vYbnTyxgvlGfJUnNs99GrJ9RLjSiErgDGARPBq1UCSwCdcE3cAQNdjCzi7m2bDh4KCUsKsZgOoMfCf9AI2iPPop79iKRAZwqnq4PGf29tf3jb0h2SizR7OC0FlYKzuzVTZ57zmibNAi7yW1KWXjBp1wxc2wkPeomDpiPDQrvb0mR40GIJ7Or6stB5nJc9ECkBb9va0v1T5x4IrUv2jRt3z6WeJ51CMij93BjLD8lf1t2XL2MnC467VOPkU5A4cBWSvC34lW7yarQE8g7wM5PZi3Meug9V9DYsIMqTiT14HqPTplwg3c60784izAgpCE72kx1GNSRuACbYACbpcyuAywQFtKDVH29rxVgd8otBHAjUBBeQsgDSKrnzNCCrQg7FRwK4pjLn27Dx9GszwdjV59kOO3ayWQIz1ql3H2JbqVr1jMZaTAb8IJ0OyFQAGNlFN9o0zOlUvtCrHoK80taAhRjAFqma7kxKGV661sNtlMqbWDfD0qNPAua95gpZe2uT00T2g7L8GfGPM0IxZUwfhoz3U2CrLRCiP3Nc353ypFyQYWi2RKbnrDPzKeGHjU20u8GY6CBlPf6JEsRSJEMWLKiP6CZBWlTSui9Tn8EYooLABVOOn1sOEHcmlEoe7lK69o7jetsHD8YGacrd2hDPhrJuyUtg90TgBI3rzle0DqK6qEOACqxB8m21GB8o1D4KwawufrsZDLZZH30id35X9pgtSHqShvu8XnUsiKWEiBLUSuAJkhcSe5cmvmNxQI4E3o8uYrD2B5JCJ4lxU0hhp7063VvggAQuBC1RiE08GeMF0UIODoKhG4VHOOVjSGrcqTAAumiYM5sJc0Js1ZsTkkWY5AGV8PQyvSH39wdYSCg9F3En08cQhKxd7L1pzEk2LHMDD9KFtX9QHDE5KSwfRxVIRYBpzzM1gnTXeGcMqa0hb4L2CIT2V4EwysG1I0jGLzpkAc1ZCSJsuEl9o43fAryR7I5V5S8Hmg7LlVtGuyUQDWrc7QGdE2g7mGkZv7sJfdEDtSG98vueoYUwe3929Pzcsjexud3aJetCB7RPbHE6Xv9VWgaVKLSHqRepk1CHIpY6udYcnoFb2JogYJgvtJa5ugtqnCLsLszmnymek2KHgd50rJ9vUc44OoKsDZAR62d52jbuu3ANEZZIPotqkHx6sAu0Rp8qB4CCVviD79FJ1AQ6JPHQwB5oEcuBoJGePGgCBZHmTNM72L5Xpp71abIpF4NrjjnlOYF4Ajd0aw99bLz63CxEVnjC9Y0vXjtYMfM8F2yZI3RjMZTD1WPmioiBgHr06ZyCsCVfNLE9ATw3CixjaCfoxu52P5UsBiWatIpv4nA9sVILEMShp88AFUZTErjJOCsyXFV54xxNIVb3GrXClbY0nAYQLDg050AdNLwTisIrSKxeO5LMdsZ08g74iq2mmug9EaGNwR7ODo7VlkW28sg6t6p2FFElXTYqKLu16EhmjNDDirJZp9cSNt7jguarocHcg7Y8SdA67gz5DTH3i7XwnHCBNFCkvNPVSrG6PF9AvpgIdB8VhpPwX1YAJbWP3wEEAOuJ570QVpMPyuFxLsNx2wgtx7iOOJfnaDUR99s1VldWnKTGu5jqfbviGhFL1eW2AipnBJMVc1QmQZ9DDr6AAMbz94GCUEBQnvxxaMC43Mmd3OWtB0XRIVJdrZq24NLtGZke0xW90kXEBQjGRt48FBY2GnhvtGsHCjxMX5pmG0LT0Ziu5h1FDaA8NdCSJaCUqja303bmiJ73cetVI1sJCGMCAuwfgroGZo3041yKWn10B9kZlzAMZ4sSfm64pzAe87zGpQHN2DAK94ge97KZK07OeBS544WxgAhvWeNVDIwr426z1QQ5wvz2ilBHgNmSdcGUofHk03ahsC1YLczhRqUXK929AtRyW5M0QrnRyzEPCp6k2LJPOquCC5viVNAoJxfOAykQ1hdQx3r0osPQCXJYSKD0IoiNHVAg2EMX3wGomPnh4Cp1mmbruTYEXe7aF883sk6vEtoFnyC2nBjaoapGEIAVFK0XyJHZAGBDViUJ0NiAHM0gT7EjCC390KazB8cXCmTY5prEcTmLvnZI9zFgVuWwOV8QctGz25y37K0IFxa854XXDC9pxLLGGEl6ZQjdioGPEoLRr1EsoRyw6JoFyWCN69rDAxCetiHF2WbBzUxhIQXzcG9k7pdGVjVR80L30CmuHBotLBvQOT5B8UI73icjTDeW0s69PvdbGn2fR3G92MdJPLuMLDiQVLtqH6F4G6Gf27oyql84kFoVWfffZGMaJtxEhILDA5ntF0qqC5FKcUxuj2ChsyIMojxN4md2iFxf3JQHdKLBCHr8P5cunfVADtgsNhWKWO6Z0MPLCVqHY0c1VCR8FGxf506roRi9wnz3aSymul4bJK3N7cIY3uDja2gLZqOTLDWdKnC8rkZKMxi0C2am6xkLtoFzyxXhfJ4oqFApyXkvOwKx1SjH9XOri561Xh4XYghdE89n34xdysrqSEzdIzHotmJgDSh28thnnzvHJjqevej0iQ94HSYLWb7Af6NnGnytQl9fDfYqShCRDkcAgq1L0KsAyW9QALYqHn96d7Krbcdl66itKlZooOh6QgGB7r5oC3yRSE9nO3JojZrFw6f84IA0KxDg3cIyzQoopUSLdsz3b6Dw9C1fMqiI1p1s9HnkkhJher5yIACYMYVNYVm1ZHFFDZra4S8AAlWfRpQ9F2wFWgEWuvFx0vISFtEyMbkJxzbRkatKGPID8Sm2Z1W1uHBWFOyiKC7M7R3eHnwxwFzCYihGrzPfGMBGeH9O5FAGH9AgJhyhZ2LB8tsBR0aPzG50hIcMFZwvzY5PmrXywML7F4uDaswxE4AE36f8ArFWDLbLR2ckFvw9YjL22IdcuZrG1KL7C2PbMASXK7pYif3nPEYJa8RP8HHl7LJZOC8tioPEFJGEUX1ioCRhJ56QhnXWi8LIXkPY6PTdUPHnmAtrKPS0rGcaC6yx8yGaG6AHyC5PRGG1KL0WPlZ15Y9EAduemBnRU6yVI72n8cya0BT1cktTGTwHAMQErTnBVXH3wI5wgwclfGhnehjn2UboDyFIG1T2MKuD2Gjb2aKWcW8P1DppTp6nPHvDbSM1bzH8GDnuSZ6hw70A9WBfHeCAMs82XWVXMjHXfLiYaxG20UJoABiwaUPG6B8A2haokm7SSm6Ibys9Ufic70TnJiZ0xf6S"

open PySem PySem.W PyProof.Rows
set_option maxRecDepth 100000 in
set_option maxHeartbeats 0 in
theorem PySem.Challenge.cw_minders_k09_whole_nobody_without_a_minde_holds : PySem.Challenge.rw_minders_k09_whole_nobody_without_a_minde.Holds := by
  w_on; o_law; k_head; (case hw => w_witness2)
  k_fill
  refine K09.walk (l := PySem.Challenge.rw_minders_k09_whole_nobody_without_a_minde) rfl rfl (fun w h Y => PySem.W.kIn_of Y) ?F
  case F =>
    intro w mg fa h KX G hmg
    refine' K09.all_mk KX G hmg ?k0 ?k1 ?k2 ?k3 ?k4 ?k5 ?k6 ?k7 ?k8 ?k9 ?k10 ?k11 ?k12 ?k13 ?k14 ?k15 ?k16 ?k17 ?k18 ?k19 ?k20 ?k21 ?k22 ?k23 ?k24 ?k25 ?k26 ?k27 ?k28 ?k29 ?k30 ?k31 ?k32 ?k33 ?k34 ?k35 ?k36 ?k37 ?k38 ?k39 ?k40 ?k41 ?k42 ?k43 ?k44 ?k45 ?k46 ?k47 ?k48 ?k49 ?k50 ?k51 ?k52 ?k53 ?k54 ?k55 ?k56 ?k57 ?k58 ?k59 ?k60 ?k61 ?k62 ?k63 ?k64 ?k65 ?k66 ?k67 ?k68 ?k69 ?k70 ?k71 ?x72 ?x73 ?x74 ?x75 ?k76 ?k77 ?k78 ?k79 ?n80 ?n81 ?n82 ?n83 ?n84 ?n85 ?n86 ?n87 ?n88 ?n89 ?n90 ?n91 ?n92 ?n93 ?n94 ?n95
    case k0 | k1 | k2 | k3 | k4 | k5 | k6 | k7 | k8 | k9 | k10 | k11 | k12 | k13 | k14 | k15 | k16 | k17 | k18 | k19 | k20 | k21 | k22 | k23 | k24 | k25 | k26 | k27 | k28 | k29 | k30 | k31 | k32 | k33 | k34 | k35 | k36 | k37 | k38 | k39 | k40 | k41 | k42 | k43 | k44 | k45 | k46 | k47 | k48 | k49 | k50 | k51 | k52 | k53 | k54 | k55 | k56 | k57 | k58 | k59 | k60 | k61 | k62 | k63 | k64 | k65 | k66 | k67 | k68 | k69 | k70 | k71 | k76 | k77 | k78 | k79 => (repeat' (first | exact True.intro | apply And.intro | apply Exists.intro | fail)) <;> k_is
    case x72 | x73 | x74 | x75 => k_exc
    case n80 | n81 | n82 | n83 | n84 | n85 | n86 | n87 | n88 | n89 | n90 | n91 | n92 | n93 | n94 | n95 => decide
#print axioms PySem.Challenge.cw_minders_k09_whole_nobody_without_a_minde_holds
