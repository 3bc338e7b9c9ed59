import PyProof.Rows.All
import Wide.All
import OpenK.AllK
import Wide.FinOn
import Lean
import PyProof.EqAt
import PyProof.EqKinds
import PyProof.TupleCall
import PySem.Challenge.RW_blankform_k07_whole_alike_or_shown
theorem zLA.{u}{α:Type u}{as bs:List α}:(as++bs).length=as.length+bs.length:=List.length_append
theorem zLC.{u}{α:Type u}{a:α}{as:List α}:(a::as).length=as.length+1:=rfl
theorem zLN.{u}{α:Type u}:([]:List α).length=0:=rfl
theorem zLM.{u,v}{α:Type u}{β:Type v}{as:List α}(f:α->β):(as.map f).length=as.length:=List.length_map f
theorem zGE.{u}{α:Type u}{l:List α}{i:Nat}(h:i<l.length):l[i]?=some l[i]:=List.getElem?_eq_getElem h
theorem zTS.{u}{α:Type u}{i:Nat}{l:List α}(h:i<l.length):l.take (i+1)=l.take i++[l[i]]:=List.take_succ_eq_append_getElem h
theorem zMG.{u}{α:Type u}{l:List α}{i:Nat}{a:α}(e:l[i]?=some a):a∈l:=List.mem_of_getElem? e
theorem zLT.{u}{α:Type u}{i:Nat}{l:List α}:(l.take i).length=min i l.length:=List.length_take
theorem zMA.{u,v}{α:Type u}{β:Type v}{f:α->β}{l₁ l₂:List α}:(l₁++l₂).map f=l₁.map f++l₂.map f:=List.map_append
theorem zGM.{u}{α:Type u}{l:List α}{n:Nat}(h:n<l.length):l[n]∈l:=List.getElem_mem h
open PySem renaming Value->aa,Str->ac,Shared->ah,wpAny_bind->ai,Heap->aA,World->aH,Obj->aI,Program->aP,wpAny_pure->aR,FuncData->bd,Around->bx,wpAny_field->da,Builtin->dA,NameKind->dS,wpAny_mono->fE,wpAny_call_entry->fF,wpAny_holding->gR,wpAny_callSpecial?_slot->ij,typeLookup_type->ik,builtinLookup_eq_fast->im,wpAny_of_eq->io,wpAny_setField_rec->iL,wpAny_newObj_type->jd,wpAny_specialOf->je,wpAny_rule->jf,wpAny_ite_split->jg,wpAny_seqItems->jh,Data->km,Code->kn,isSubtype_type->ko,wpAny_attempt->kq,wpAny_truthy_bool->lv,wpAny_passesOwn->lx,wpAny_typeOf->ly,wpAny_updateSeq->lz,mem_of_lookup->mM,tupleKind_room_in1->mN,wpAny_isInstance->mO,plainId_quiet->mP,sizeLine_eq->o0,call_meets->pb,wpAny_setField->pe,wpAny_letGo->pf,Within->qT,wpAny_execs_nil->qU,codeAny_mono->qV,wpAny_Call_Name_kw->qW,call_meetsIn->qX,entryFor_of_tree->qY,codeAny_builtin->qZ,wpAny_Name->uG,wpAny_standAt->uH,seqIndex_of->uI,seqIndex_neg->uJ,call->uK,signature?_of->uL,wpAny_mkInt->uM,isSubtype_stop->uN,wpAny_pyIter_slot->uO,callType_new->uP,callType_codes->uQ,wpAny_onRaise->uR,wpAny_newTuple->uS,wpAny_isTrue_Compare1->yB,wpAny_execs_cons->yC,wpAny_assign_Name->yD,wpAny_pyNext_list_item->yE,wpAny_pyNext_list_end->yF,wpAny_pyIter_list->yG,wpAny_sequenceKey->yH,slot_list_getitem->yI,wpAny_Call_method0_late->yJ,evalArgs_none->yK,wpAny_Call_method->yL,call_reversed_list->yM,wpAny_comprehension_free->yN,wpAny_pyIter_revIter->yO,wpAny_updateSeq_pair->yP,wpAny_pyIter_enum->yQ
open PySem.W renaming Frag->aB,keepIn->bn,fnOf->bo,codeIn->bA,nsIn->bB,mg_of->bS,findIn->dB,isFn->ga,mg_none_of->gF,kia_one->iM,emptyDict->jA,instObj->kr,kia_tup->lA,plainGet->pi,lookIn->rf,hasDictIn->rh,kitx_list->rj,methodObj->uT,plainGet_of->uU,plainOver->uV,takerIn->uW,makesIn->uX,callWith_K->uY,OpenLaw->uZ,KdkAt->u0,handedIn->yR,kitx_none->yS,kitx_bool->yT,kitx_int->yU,kitx_str->yV,kitx_tuple->yW,kitx_dict->yX,methodCall_KW->yY,cellsFrom_some->yZ,kdl_dict->y8
open Nat renaming le_refl->aJ,ne_of_lt->cJ,zero_le->cP,le_trans->dJ,lt_of_lt_of_le->eX,mod_lt->eY,ne_of_gt->ji,mul_le_mul_right->jj,add_mul->jB,mul_assoc->jC,lt_irrefl->ku,mul_comm->kx,mul_le_mul_left->lB,le_of_lt->mQ,mul_left_comm->mR,pow_add->mS,toDigits->rl,lt_of_le_of_lt->rm,one_mul->rn,le_of_eq->u3,lt_trans->u4,exists_eq_add_of_le->u5,lt_succ_of_lt->u6,pow_le_pow_left->u7,lt_succ_self->y9,toDigits_of_lt_base->za,add_right_cancel_iff->zb,le_of_mul_le_mul_left->zc,le_add_right->zd,min_eq_left->ze,mod_eq_of_lt->zf
open PySem.Heap renaming lt_size->bm,get?_push_of_some->br,get?_push_size->bY,SameBut->gT,size_push->ip,get?_update_self->jD,get?_update_other->jE,push->pj,get?_push_ne->rq
open List renaming mem_cons->bF,getElem?_eq_some_iff->bI,mem_map->bL,map_cons->bP,mem_append->bR,size_toArray->bW,mem_singleton->bZ,getElem?_map->cV,mem_cons_of_mem->dC,length_drop->dD,take_of_length_le->dL,length_reverse->d3,append_assoc->d8,mem_append_left->eJ,mem_append_right->eK,cons_append->eL,mem_cons_self->eZ,lookup_cons->e8,not_mem_nil->fG,reverse_cons->gU,nil_append->iq,nodup_cons->iN,map_nil->jk,getElem_map->jl,range->jF,append_nil->jG,sum_cons->jH,mem_filter->ky,length->kz,getElem?_append_left->kF,find?_cons->kH,mem_iff_getElem->kI,length_eq_zero_iff->kJ,lookup->lC,all_eq_true->lD,getElem?_zip_eq_some->lE,reverse_append->lF,map_map->lG,dropLast_concat->lH,getElem?_append_right->mT,mem_reverse->mU,flatMap_append->mV,map_congr_left->mW,sum_append->mX,pairwise_iff_getElem->mY,mem_of_mem_take->mZ,filter_append->m5,filter_cons->m6,any_cons->pk,getElem_drop->pp,getElem_take->pq,getElem_append_left->pw,forIn_cons->px,getElem_of_mem->pz,pairwise_map->pA,length_zip->pB,countP->pC,of_mem_zip->rA,ext_getElem->rB,getElem?_reverse->rC,flatMap_cons->rD,drop_eq_getElem_cons->rE,foldl_cons->rF,nodup_append->rG,forIn_nil->rH,take_length->rJ,nodup_iff_pairwise_ne->rK,length_filter_le->rL,filterMap_cons->u8,sizeOf_lt_of_mem->u9,getElem_toArray->vc,dropLast_concat_getLast->vd,any_eq_true->ve,drop_of_length_le->vf,not_lt->vg,singleton_append->vh,getElem?_cons_succ->vi,countP_cons->vj,head?_cons->vk,getElem_zip->vm,lt_irrefl->vn,getElem?_eq_none->vo,getElem_append_right->vp,map_drop->vq,getD_eq_getElem?_getD->vt,take_succ->vv,mem_of_mem_drop->vw,map_take->vx,getElem?_set_self->zg,getElem?_set_ne->zh,mem_filterMap->zi,getElem?_replicate->zj,getElem?_take_of_lt->zl,length_singleton->zm,takeWhile_cons->zn,mem_flatMap->zo,pairwise_singleton->zp,pairwise_cons->zq,take_append_drop->zr,zip_cons_cons->zt,zipIdx_cons->zu,zipIdx_nil->zv,map_fst_zip->zw,getElem_reverse->zx,length_pos_iff->zy,length_range->zA,range_succ->zB,countP_le_length->zC,countP_append->zD
open PySem.Str renaming ofString->bT,join->rM
open PySem.F renaming plainAttrs_list->ce,slot_list_append->dk,type_list_append->dl,slot_zip_next->jI,slot_list_pop->kK,type_list_pop->kL,slot_dict_get->m7,slot_list_extend->pD,type_list_extend->pE,entry_dict_get->rN,entry_zip_next->rO,args_zip_next_1->rP,slot_enumerate_next->rQ,plain_extend_loop->vy,slot_list_getattribute->vz,plain_extend_loop->vA,args_dict_get_2->zE,args_dict_get_3->zF,plainAttrs_dict->zG,type_dict_get->zH,called_list->zI,typeCall_list_1->zK,entry_list_init->zL,args_list_init_2->zM,slot_zip_iter->zN,entry_extend_loop->zO,entry_enumerate_next->zP,args_enumerate_next_1->zQ,slot_dict_itemiterator_iter->zR,slot_dict_items->zT,slot_list_index->zU,type_list_index->zV
open PySem.PassesOwn renaming never->cr
open PyProof.Rows renaming IsTup->cz,envOfC->gG,callWith_type1->gW,slot_tuple_getitem->m8,slot_tupleiter_next->rR,slot_tuple_getitem->vB,len_tuple->vC,entry_tuple_getitem->zW,args_tuple_getitem->zX,subscriptTail_builtinR->zY,join_plain_closes->zZ,entry_tupleiter_next->Aa,args_tupleiter_next->Ab
open Option.some renaming inj->cQ,injEq->m9
open Bool renaming false_ne_true->dm,eq_false_iff->fH,and_eq_true->iO,false_eq_true->iP,eq_iff_iff->pF,or_false->vD,not_eq_true'->vE,not_eq_true->Ac
open PySem.SeqAt renaming EqAt->er,RcNeAt->vF,notIn_listAt->Ad,eq_tupleAt->Ae
open PySem.Obj renaming mapSeq->eM,data_mapFields->pG,isFreed_of_fields->vG
open Ne renaming symm->gc
open Int renaming toNat_natCast->gH,emod_nonneg->na,emod_lt_of_pos->ng,eq_ofNat_of_zero_le->rT,mul_one->vH,pow_nonneg->vI,le_trans->vJ,mul_le_mul_of_nonneg_right->Af,natCast_emod->Ag
open PySem.Builtin.SmallTypes renaming nextOf->gI,ownedTupleIsFree->nh,ownedTupleHandOut->rU,newClass->Ah
open False renaming elim->gX
open PySem.Calls renaming spliced_cons->jm,spliced_nil->jJ,callWith_builtin->rV,evalArgs_plain->vK,Name_function_global->Ai
open Classical renaming byContradiction->jn,axiomOfChoice->Aj
open List.cons renaming injEq->jK
open Sum.inr renaming inj->kM
open PySem.Builtin.List renaming listExtendWith->lI,listTooLong->pH,listLengthHint->pI,listSameRef->rW,listItems->rX,listUpdate->Ak,listFitsIndex->Al
open Array renaming length_toList->ni,ext'->vL,getElem?_toList->Am,forIn_toList->An
open Option renaming map_some->nj,getD_some->pJ,getD_none->rY,none_or->rZ,isSome_map->vM,or_none->vN,isNone_iff_eq_none->vO,isSome_iff_exists->Ao,map_eq_some_iff->Ap,bind_some->Aq,toList_some->Ar
open PySem.Heap.SameBut renaming update->pK
open PySem.Builtin.Slice renaming slicePlaces->r6,sliceAdjust->vP,sliceApplied->As
open LawfulBEq renaming eq_of_beq->r8
open PySem.Builtin.Tuple renaming tupleExact->r9,tupleItemsOf->At
open PySem.Around renaming under_plainId->sd,under->vQ
open PySem.Builtin.Str renaming occurrences->vR
open PySem.Code renaming isFrame->vS
open LawfulMonad renaming pure_bind->vT
open PySem.NumText renaming digitsVal->vU
open PySem.Shared renaming heap->vV
open Function renaming comp->vW,comp_def->Au
open PySem.SeqAt.EqAt renaming int_str->Av,str_int->Aw
open PySem.Heap.DictOf renaming new->Ax
open PySem.Builtin.Dict renaming updateFrom->Ay
open PySem.Challenge renaming rw_blankform_k07_whole_alike_or_shown->Az
set_option Elab.async false
set_option linter.all false
set_option maxRecDepth 100000
namespace L2
open PySem PySem.Spec PyProof.Rows
abbrev Key:=Sum Int ac
def nk:Key->aa->Bool
 |.inl k,v=>aa.isInt k v
 |.inr x,v=>aa.isStrOf x v
def FL(w:aH):Key->Int
 |.inl k=>hashInt k
 |.inr x=>hashStr w x
theorem jo:∀{k:Key}{v:aa},nk k v=true->(∃i t,k=Sum.inl i/\v=aa.int i t)\/(∃x t,k=Sum.inr x/\v=aa.str x t)
 |.inl i,v,h=>by
  obtain⟨t,e⟩:=aa.isInt_shape (k:=i) (v:=v) h
  exact .inl ⟨i,t,rfl,e⟩
 |.inr x,v,h=>by
  obtain⟨t,e⟩:=aa.isStrOf_shape (x:=x) (v:=v) h
  exact .inr ⟨x,t,rfl,e⟩
theorem FM(i:Int)(t:Tok):nk (.inl i) (.int i t)=true:=by simp[nk,aa.isInt]
theorem FN(x:ac)(t:Tok):nk (.inr x) (.str x t)=true:=by simp[nk,aa.isStrOf]
theorem FO(a b:Int):decide ((Sum.inl a:Key)=Sum.inl b)=(a==b):=by
 by_cases e:a=b
 ·subst e;simp
 ·have h:¬(Sum.inl a:Key)=Sum.inl b:=fun q=>e (Sum.inl.inj q)
  rw[decide_eq_false h]
  exact(beq_eq_false_iff_ne.mpr e).symm
theorem FP(a b:ac):decide ((Sum.inr a:Key)=Sum.inr b)=decide (a=b):=by
 by_cases e:a=b
 ·subst e;simp
 ·have h:¬(Sum.inr a:Key)=Sum.inr b:=fun q=>e (kM q)
  rw[decide_eq_false h,decide_eq_false e]
theorem FQ(a:Int)(b:ac):decide ((Sum.inl a:Key)=Sum.inr b)=false:=decide_eq_false (fun q=>nomatch q)
theorem FR(a:ac)(b:Int):decide ((Sum.inr a:Key)=Sum.inl b)=false:=decide_eq_false (fun q=>nomatch q)
def cR(prog:aP)(w:aH):PySem.KeyKind prog w Key where
 is:=nk
 hash:=FL w
 inj:=fun v a b ha hb=>by
    rcases jo ha with⟨i,t,rfl,rfl⟩|⟨x,t,rfl,rfl⟩
    ·rcases jo hb with⟨j,u,rfl,e⟩|⟨y,u,rfl,e⟩
     ·injection e with e1 _;rw[e1]
     ·exact nomatch e
    ·rcases jo hb with⟨j,u,rfl,e⟩|⟨y,u,rfl,e⟩
     ·exact nomatch e
     ·injection e with e1 _;rw[e1]
 byValue:=fun k v h=>by
    rcases jo h with⟨i,t,rfl,rfl⟩|⟨x,t,rfl,rfl⟩<;>rfl
 pyHash:=fun hv h=>by
    rcases jo hv with⟨i,t,rfl,rfl⟩|⟨x,t,rfl,rfl⟩
    ·exact wpAny_pyHash_int h
    ·exact wpAny_pyHash_str h
 eqBool:=fun hu hv h=>by
    rcases jo hu with⟨i,t,rfl,rfl⟩|⟨x,t,rfl,rfl⟩
    ·rcases jo hv with⟨j,u,rfl,rfl⟩|⟨y,u,rfl,rfl⟩
     ·rw[FO]at h;exact wpAny_eqBool_int h
     ·rw[FQ]at h;exact Av i t y u _ _ _ _ h
    ·rcases jo hv with⟨j,u,rfl,rfl⟩|⟨y,u,rfl,rfl⟩
     ·rw[FR]at h;exact Aw x t j u _ _ _ _ h
     ·rw[FP]at h;exact wpAny_eqBool_str h
 «strs»:=fun k x t v h=>by
    rcases jo h with⟨i,u,rfl,e⟩|⟨y,u,rfl,e⟩
    ·exact nomatch e
    ·injection e with e1 _
     subst e1
     cases v<;>rfl
theorem FS(prog:aP)(w:aH)(i:Int)(t:Tok):(cR prog w).is (.inl i) (.int i t)=true:=FM i t
theorem FT(prog:aP)(w:aH)(x:ac)(t:Tok):(cR prog w).is (.inr x) (.str x t)=true:=FN x t
inductive V where
 |non|bl (b:Bool)|int (i:Int)|str (x:ac)|byt (b:Array UInt8)|flt (b:UInt64)|ref (a:Addr)|ty (n:String)
 deriving DecidableEq
def aW:V->aa->Prop
 |.non,u=>u=aa.none
 |.bl b,u=>u=aa.bool b
 |.int i,u=>∃t,u=aa.int i t
 |.str x,u=>∃t,u=aa.str x t
 |.byt b,u=>∃t,u=aa.bytes b t
 |.flt b,u=>∃t,u=aa.float b t
 |.ref a,u=>u=aa.ref a
 |.ty n,u=>u=aa.type n
abbrev aS:List V->List aa->Prop:=Paired aW
theorem aS.length{xs:List V}{us:List aa}(r:aS xs us):xs.length=us.length:=Paired.length r
theorem aS.get:∀{xs:List V}{us:List aa}{i:Nat}{x:V},aS xs us->xs[i]?=some x->∃u,us[i]?=some u/\aW x u
 |_,_,_,_,.nil,e=>by simp at e
 |_,_,0,_,.cons r _,e=>by simp at e;subst e;exact⟨_,rfl,r⟩
 |_,_,i+1,x,.cons _ t,e=>by
  obtain⟨u,h1,h2⟩:=aS.get (i:=i) (x:=x) t (by simpa using e)
  exact⟨u,by simpa using h1,h2⟩
theorem aS.set{x:V}{u:aa}(r:aW x u):∀{xs:List V}{us:List aa}(i:Nat),aS xs us->aS (xs.set i x) (us.set i u)
 |_,_,_,.nil=>.nil
 |_,_,0,.cons _ t=>.cons r t
 |_,_,i+1,.cons q t=>.cons q (aS.set r i t)
theorem aS.append:∀{xs ys:List V}{us ws:List aa},aS xs us->aS ys ws->aS (xs++ys) (us++ws)
 |_,_,_,_,.nil,s=>s
 |_,_,_,_,.cons r t,s=>.cons r (aS.append t s)
theorem aS.take:∀{xs:List V}{us:List aa}(n:Nat),aS xs us->aS (xs.take n) (us.take n)
 |_,_,0,_=>.nil
 |_,_,_+1,.nil=>.nil
 |_,_,n+1,.cons r t=>.cons r (aS.take n t)
theorem aS.drop:∀{xs:List V}{us:List aa}(n:Nat),aS xs us->aS (xs.drop n) (us.drop n)
 |_,_,0,r=>r
 |_,_,_+1,.nil=>.nil
 |_,_,n+1,.cons _ t=>aS.drop n t
def fh:Option V->Option aa->Prop
 |some v,some u=>aW v u
 |none,none=>True
 |_,_=>False
def KV{κ:Type}:List (κ×V)->List (κ×aa)->Prop:=Paired fun (p:κ×V) (q:κ×aa)=>p.1=q.1/\aW p.2 q.2
def kV:Key->V
 |.inl i=>.int i
 |.inr x=>.str x
inductive HO where
 |lst (xs:List V)
 |tup (xs:List V)
 |dK (kvs:List (Key×V))|dT (kvs:List (List Key×V))
 |set (S:Int->Bool) (n:Nat)
 |ins (C dx:Addr) (fs:List (ac×V))
 |own (x:Addr)
 |xd (fs:List (ac×V))
 |met (f x:Addr)
 |rng (lo hi:Int)
 |frz (o:aI) (u:HO)
 |tbl (ps:Array aa)
 |ext (φ:aA->Prop)
abbrev Hp:=Addr->Option HO
def ae(H:Hp)(a:Addr)(o:HO):Hp:=fun b=>if b=a then some o else H b
theorem au{H:Hp}{a:Addr}{o:HO}:ae H a o a=some o:=by unfold ae;rw[if_pos rfl]
theorem am{H:Hp}{a b:Addr}{o:HO}(h:b≠a):ae H a o b=H b:=by unfold ae;rw[if_neg h]
theorem pL{H:Hp}{a:Addr}{o u:HO}:ae (ae H a o) a u=ae H a u:=by
 funext b;unfold ae;split<;>rfl
theorem cy{H:Hp}{a b:Addr}{o u:HO}(h:H a=some o)(h':H b=some u)(d:o≠u):a≠b:=by
 intro e;subst e;rw[h]at h';exact d (cQ h')
theorem aN{H:Hp}{a b:Addr}{o:HO}(h:H a=some o)(h':H b=none):a≠b:=by
 intro e;subst e;rw[h]at h';cases h'
section
variable(P:aP)(w:aH)
def cu(H:Hp)(h:aA)(a:Addr):HO->Prop
 |.lst xs=>xs.length<=sizeLine/\∃(its:List aa)(n:Nat),aS xs its/\h.get? a=some { cls:= .type "list",data:= .seq its.toArray n}
 |.tup xs=>xs.length<=sizeLine/\∃its:List aa,aS xs its/\cz h a its.toArray
 |.dK kvs=>kvs.length<=sizeLine/\(a==sysModules)=false/\∃vs,KV kvs vs/\h.DictOf (cR P w) a vs
 |.dT kvs=>kvs.length<=sizeLine/\(a==sysModules)=false/\∃xs:List (List Key×Addr×aa),
  Paired (fun (p:List Key×V) (q:List Key×Addr×aa)=>p.1=q.1/\H q.2.1=some (.tup (p.1.map kV))/\aW p.2 q.2.2) kvs xs/\
  ∃o es ep,h.get? a=some o/\o.ExactDict/\o.data= .dict es ep/\es.toList=xs.map (entryOfKey (tupleKind (cR P w)))/\(xs.map (·.1)).Nodup
 |.set S n=>h.SetOf (intKind P w) a S n
 |.ins C dx fs=>H dx=some (.own a)/\fs.length<=1000/\dx≠a/\h.get? a=some (kr C dx)/\
  ∃mA,h.Ns1 dx mA/\(∀f,fh (fs.lookup f) (mA f))/\qT mA (fs.map (·.1))
 |.own _=>∃o,h.get? a=some o
 |.xd fs=>∃mA,h.Ns1 a mA/\∀f,fh (fs.lookup f) (mA f)
 |.rng lo hi=>∃t u v,h.get? a=some { cls:= .type "range",data:= .fields #[.int lo t,.int hi u,.int 1 v]}
 |.frz o u=>h.get? a=some o/\cu H h a u
 |.tbl ps=>h.get? a=some { cls:= .none,data:= .fields ps}
 |.met f x=>h.get? a=some (uT (.ref f) (.ref x))
 |.ext φ=>φ h/\(∃o,h.get? a=some o)/\∀h1 h2:aA,φ h1->(∀o,h1.get? a=some o->h2.get? a=some o)->φ h2
def cA(H:Hp)(h:aA):Prop:=∀a o,H a=some o->cu P w H h a o
end
section
variable{P:aP}{w:aH}{H H':Hp}{h h':aA}{a:Addr}{o:HO}
theorem cu.lt(x:cu P w H h a o):a<h.objs.size:=by
 cases o with
 |lst xs=>obtain⟨_,_,_,_,e⟩:=x;exact bm e
 |tup xs=>obtain⟨_,_,_,p⟩:=x;exact p.lt
 |dK kvs=>obtain⟨_,_,_,_,o,_,_,e,_⟩:=x;exact bm e
 |dT kvs=>obtain⟨_,_,_,_,o,_,_,e,_⟩:=x;exact bm e
 |set S n=>obtain⟨o,_,_,_,e,_⟩:=x;exact bm e
 |ins C dx fs=>obtain⟨_,_,_,e,_⟩:=x;exact bm e
 |own y=>obtain⟨_,e⟩:=x;exact bm e
 |xd fs=>obtain⟨_,⟨_,_,_,e,_⟩,_⟩:=x;exact bm e
 |rng lo hi=>obtain⟨_,_,_,e⟩:=x;exact bm e
 |frz ob u=>obtain⟨e,_⟩:=x;exact bm e
 |tbl ps=>exact bm (show h.get? a=some _ from x)
 |met f y=>exact bm (show h.get? a=some _ from x)
 |ext φ=>obtain⟨_,⟨_,e⟩,_⟩:=x;exact bm e
theorem Paired.mapP{α β:Type}{F G:α->β->Prop}:∀{l₁:List α}{l₂:List β},Paired F l₁ l₂->(∀a b,F a b->G a b)->Paired G l₁ l₂
 |_,_,.nil,_=>.nil
 |_,_,.cons r t,f=>.cons (f _ _ r) (Paired.mapP t f)
theorem Paired.imp'{α β:Type}{F G:α->β->Prop}(f:∀a b,F a b->G a b){l₁:List α}{l₂:List β}(r:Paired F l₁ l₂):Paired G l₁ l₂:=Paired.mapP r f
theorem cu.stay(x:cu P w H h a o)(k:∀b u,(b=a\/H b=some (.own a))->h.get? b=some u->h'.get? b=some u)
 (ho:∀b,H b=some (.own a)->H' b=some (.own a)) (ht:∀b xs,H b=some (.tup xs)->H' b=some (.tup xs)):cu P w H' h' a o:=by
 induction o with
 |lst xs=>obtain⟨z,its,n,r,e⟩:=x;exact⟨z,its,n,r,k _ _ (.inl rfl) e⟩
 |tup xs=>obtain⟨z,its,r,ob,e,c⟩:=x;exact⟨z,its,r,ob,k _ _ (.inl rfl) e,c⟩
 |dK kvs=>obtain⟨z,y,vs,r,ob,es,ep,e,c⟩:=x;exact⟨z,y,vs,r,ob,es,ep,k _ _ (.inl rfl) e,c⟩
 |dT kvs=>
  obtain⟨z,y,xs,r,ob,es,ep,e,c⟩:=x
  exact⟨z,y,xs,Paired.mapP r fun p q z=>⟨z.1,ht _ _ z.2.1,z.2.2⟩,ob,es,ep,k _ _ (.inl rfl) e,c⟩
 |set S n=>obtain⟨ob,es,ep,t,e,c⟩:=x;exact⟨ob,es,ep,t,k _ _ (.inl rfl) e,c⟩
 |ins C dx fs=>
  obtain⟨d,z,ne,e,mA,⟨od,es,ep,e2,c⟩,r⟩:=x
  exact⟨ho _ d,z,ne,k _ _ (.inl rfl) e,mA,⟨od,es,ep,k _ _ (.inr d) e2,c⟩,r⟩
 |own y=>obtain⟨ob,e⟩:=x;exact⟨ob,k _ _ (.inl rfl) e⟩
 |xd fs=>obtain⟨mA,⟨od,es,ep,e,c⟩,r⟩:=x;exact⟨mA,⟨od,es,ep,k _ _ (.inl rfl) e,c⟩,r⟩
 |rng lo hi=>obtain⟨t,u,v,e⟩:=x;exact⟨t,u,v,k _ _ (.inl rfl) e⟩
 |frz ob u ih=>obtain⟨e,q⟩:=x;exact⟨k _ _ (.inl rfl) e,ih q⟩
 |tbl ps=>
  have e:h.get? a=some { cls:= .none,data:= .fields ps}:=x
  show h'.get? a=some { cls:= .none,data:= .fields ps}
  exact k a _ (.inl rfl) e
 |met f y=>
  have e:h.get? a=some (uT (.ref f) (.ref y)):=x
  show h'.get? a=some (uT (.ref f) (.ref y))
  exact k a _ (.inl rfl) e
 |ext φ=>obtain⟨p,⟨o,e⟩,st⟩:=x;exact⟨st _ _ p fun o q=>k _ _ (.inl rfl) q,⟨o,k _ _ (.inl rfl) e⟩,st⟩
theorem cA.lt(x:cA P w H h)(e:H a=some o):a<h.objs.size:=(x a o e).lt
theorem cA.fresh(x:cA P w H h)(e:h.objs.size<=a):H a=none:=by
 cases q:H a with
 |none=>rfl
 |some u=>exact absurd (eX (x.lt q) e) (ku _)
theorem cA.kept(x:cA P w H h)(k:∀b u,h.get? b=some u->h'.get? b=some u):cA P w H h':=fun a o e=>
 (x a o e).stay (fun b u _ q=>k b u q) (fun _ q=>q) fun _ _ q=>q
theorem cA.laid(x:cA P w H h)(k:∀b u,h.get? b=some u->h'.get? b=some u)(hp:h.objs.size<=a)(new:cu P w (ae H a o) h' a o):cA P w (ae H a o) h':=fun b u e=>by
 have hn:=x.fresh hp
 by_cases hb:b=a
 ·subst hb;rw[au]at e;cases e;exact new
 ·rw[am hb]at e
  exact(x b u e).stay (fun c v _ q=>k c v q) (fun c q=>by rw[am (aN q hn)];exact q) fun c xs q=>by rw[am (aN q hn)];exact q
end
def Rd(H:Hp)(a:Addr)(u:HO):Prop:=H a=some u\/∃o,H a=some (.frz o u)
theorem Rd.ok{P:aP}{w:aH}{H:Hp}{h:aA}{a:Addr}{u:HO}(r:Rd H a u)(x:cA P w H h):cu P w H h a u:=by
 rcases r with r|⟨o,r⟩
 ·exact x a u r
 ·obtain⟨_,q⟩:=x a _ r
  exact q
def pM:Option HO->Prop
 |some (.lst _)=>True
 |some (.dK _)=>True
 |some (.dT _)=>True
 |some (.set _ _)=>True
 |some (.ins _ _ _)=>True
 |some (.ext _)=>True
 |_=>False
section
variable{P:aP}{w:aH}{H:Hp}{h h':aA}{x e:Addr}{o':HO}
theorem cA.write(ok:cA P w H h)(mu:pM (H x))(he:e=x\/H e=some (.own x))(k:∀b u,b≠e->h.get? b=some u->h'.get? b=some u)(heo:∃u,h'.get? e=some u)
 (new:cu P w (ae H x o') h' x o'):cA P w (ae H x o') h':=fun b u q=>by
 have nown:∀c y,H c=some (.own y)->c≠x:=fun c y r z=>by subst z;rw[r]at mu;exact mu
 have ntup:∀c xs,H c=some (.tup xs)->c≠x:=fun c xs r z=>by subst z;rw[r]at mu;exact mu
 by_cases hb:b=x
 ·subst hb;rw[au]at q;cases q;exact new
 ·rw[am hb]at q
  by_cases hbe:b=e
  ·have q':H b=some (.own x):=by
        rcases he with z|z
        ·exact absurd (hbe.trans z) hb
        ·rw[hbe];exact z
   rw[q]at q';cases q'
   obtain⟨v,hv⟩:=heo
   exact⟨v,by rw[hbe];exact hv⟩
  ·refine(ok b u q).stay (fun c v hc r=>k c v ?_ r) (fun c r=>by rw[am (nown c b r)];exact r) fun c xs r=>by rw[am (ntup c xs r)];exact r
   rcases hc with rfl|hc
   ·exact hbe
   ·rintro rfl
    rcases he with z|z
    ·exact nown c b hc z
    ·rw[hc]at z;cases z;exact hb rfl
end
structure Un(fs ex:List Addr)(H H':Hp)(h h':aA):Prop where
 keep:∀b o,h.get? b=some o->H b=none->b∉fs->b∉ex->h'.get? b=some o
 slot:∀b o,h.get? b=some o->H b=none->b∈fs->b∉ex->∃sl,h'.get? b=some { o with slots:=sl}
 free:∀b o,h.get? b=some o->H b=none->b∉ex->H' b=none
 there:∀b o,h.get? b=some o->b∉ex->∃o',h'.get? b=some o'
 tups:∀b xs,H b=some (.tup xs)->H' b=some (.tup xs)
 frzs:∀b o u,H b=some (.frz o u)->H' b=some (.frz o u)
 tbls:∀b ps,H b=some (.tbl ps)->∃more,H' b=some (.tbl (ps++more))
section
variable{fs fs' ex ex':List Addr}{H H1 H2:Hp}{h h1 h2 h':aA}{a x e:Addr}{o:HO}
theorem Un.any(u:Un fs ex H H1 h h1){b:Addr}{ob:aI}(q:h.get? b=some ob)(n:H b=none)(hx:b∉ex):∃sl,h1.get? b=some { ob with slots:=sl}:=by
 by_cases hb:b∈fs
 ·exact u.slot b ob q n hb hx
 ·exact⟨ob.slots,u.keep b ob q n hb hx⟩
theorem Un.kept(k:∀b u,h.get? b=some u->h'.get? b=some u):Un fs ex H H h h':=
 ⟨fun b ob q _ _ _=>k b ob q,fun b ob q _ _ _=>⟨ob.slots,k b ob q⟩,fun _ _ _ n _=>n,fun b ob q _=>⟨ob,k b ob q⟩,fun _ _ q=>q,fun _ _ _ q=>q,fun _ ps q=>⟨#[],by rw[q];simp⟩⟩
theorem Un.refl:Un fs ex H H h h:=Un.kept fun _ _ q=>q
theorem Un.laid(k:∀b u,h.get? b=some u->h'.get? b=some u)(hp:h.objs.size<=a)(hn:H a=none):Un fs ex H (ae H a o) h h' where
 keep:=fun b u q _ _ _=>k b u q
 slot:=fun b u q _ _ _=>⟨u.slots,k b u q⟩
 free:=fun b u q n _=>by rw[am (cJ (eX (bm q) hp))];exact n
 there:=fun b u q _=>⟨u,k b u q⟩
 tups:=fun b xs q=>by rw[am (aN q hn)];exact q
 frzs:=fun b u xs q=>by rw[am (aN q hn)];exact q
 tbls:=fun b ps q=>⟨#[],by rw[am (aN q hn),q];simp⟩
theorem Un.write(mu:pM (H x))(he:e=x\/H e=some (.own x))(k:∀b u,b≠e->h.get? b=some u->h'.get? b=some u)(heo:∃u,h'.get? e=some u):Un fs ex H (ae H x o) h h':=by
 have hx:∀b,H b=none->b≠x:=fun b n z=>by subst z;rw[n]at mu;exact mu
 have hb:∀b,H b=none->b≠e:=fun b n z=>by
  subst z
  rcases he with r|r
  ·exact hx b n r
  ·rw[n]at r;cases r
 have hm:∀b u,H b=some u->¬pM (some u)->b≠x:=fun b u q nm z=>by subst z;rw[q]at mu;exact nm mu
 refine⟨fun b u q n _ _=>k b u (hb b n) q,fun b u q n _ _=>⟨u.slots,k b u (hb b n) q⟩,fun b u q n _=>by rw[am (hx b n)];exact n,fun b u q _=>?_,
  fun b xs q=>by rw[am (hm b _ q fun z=>z)];exact q,fun b u xs q=>by rw[am (hm b _ q fun z=>z)];exact q,fun b ps q=>⟨#[],by rw[am (hm b _ q fun z=>z),q];simp⟩⟩
 by_cases hbe:b=e
 ·subst hbe;exact heo
 ·exact⟨u,k b u hbe q⟩
end
def se(h:aA)(H:Hp):List Addr:=(jF h.objs.size).filter fun a=>(H a).isSome
def jL(h:aA)(H:Hp):aA:=PySem.W.hideAll h (se h H)
theorem FU(h:aA)(H:Hp):(jL h H).objs.size=h.objs.size:=PySem.W.hideAll_size _ _
theorem FV{h:aA}{H:Hp}{b:Addr}{o:aI}(e:h.get? b=some o)(n:H b=none):(jL h H).get? b=some o:=
 PySem.W.hideAll_get _ e fun hm=>by
  have q:(H b).isSome=true:=(ky.mp hm).2
  rw[n]at q;simp at q
theorem FW{h:aA}{H:Hp}{b:Addr}{o:aI}(e:(jL h H).get? b=some o):h.get? b=some o/\H b=none:=by
 have e':h.get? b=some o:=PySem.W.of_hideAll (se h H) e
 refine⟨e',?_⟩
 cases q:H b with
 |none=>rfl
 |some x=>
  have hm:b∈se h H:=ky.mpr ⟨List.mem_range.mpr (bm e'),by simp[q]⟩
  have z:(jL h H).get? b=none:=PySem.W.hideAll_none (se h H) hm
  rw[z]at e;cases e
structure Mod(K:aB)(mg:ac->Option aa)(base:aA):Prop where
 kin:K.In base
 glob:base.Ns mainGlobals mg
 blt:∃mb,base.Ns builtinsNs mb/\∀x:ac,x≠"__name__"->mb x=bootBuiltins x
 nolimit:base.NoLimit
structure Cx where
 prog:aP
 w:aH
 K:aB
 mg:ac->Option aa
 base:aA
 A:bx
 N:List ac
 s₀:ah
 H₀:Hp
 env:Env
 outer:List Env
 stack:List Env
 ex:List Addr
 fn:ac->Bool
 calm:Bool
 pn:List (Addr×aI)
 xe:aa->ah->Prop
def ir(l:List Env):List Addr:=l.filterMap (·.frame)
abbrev Cx.fs(X:Cx):List Addr:=ir X.outer
def vX(sc:Scope)(x:ac):Prop:=sc.names.lookup x=some .local\/sc.names.lookup x=some .cell\/sc.names.lookup x=some .free
def nn(sc:Scope)(x:ac):Prop:=sc.names.lookup x=some .local\/sc.names.lookup x=some .cell
def FX(env:Env)(h:aA)(m:ac->Option aa)(x:ac)(u:aa):Prop:=
 (env.kindOf x=some .local/\m x=some u)\/((env.kindOf x=some .cell\/env.kindOf x=some .free)/\∃c,env.cells.lookup x=some c/\h.IsCell c (some u))
structure Cx.Ok(X:Cx):Prop where
 mod:Mod X.K X.mg X.base
 kind:X.env.scope.kind= .function
 glob:X.env.globals=mainGlobals
 blt:X.env.builtins=builtinsNs
 above:X.s₀.heap.objs.size<=X.env.locals
 inj:∀x y c,X.env.cells.lookup x=some c->X.env.cells.lookup y=some c->x=y
 has:∀x,(X.env.kindOf x=some .cell\/X.env.kindOf x=some .free)->∃c,X.env.cells.lookup x=some c
 cab:∀x c,X.fn x=true->X.env.cells.lookup x=some c->X.s₀.heap.objs.size<=c
 hd:X.calm=true->X.A.handled=none
 frames:X.A.frames=some X.stack
 stk:X.stack=X.outer\/(X.stack=X.env::X.outer/\X.env.frame=some X.env.locals)
 exf:∀b∈X.ex,b≠X.env.locals/\∀x c,X.env.cells.lookup x=some c->c≠b
 bs:∀b o,X.base.get? b=some o->X.s₀.heap.get? b=some o/\X.H₀ b=none
 bsz:X.base.objs.size<=X.s₀.heap.objs.size
 noex:∀b o,X.base.get? b=some o->b∉X.ex
 exfs:∀b∈X.ex,b∉X.fs
 funs:X.s₀.heap.FunFrames X.base X.outer
 frf:∀b∈X.fs,X.H₀ b=none
structure Inv(X:Cx)(pins:List (Addr×aI))(σ:List (Option V))(H:Hp)(s:ah):Prop where
 ok:X.Ok
 os:s.os=X.s₀.os
 bare:AllBare s.gens
 base:Un X.fs X.ex X.H₀ H X.s₀.heap s.heap
 loc:∃m,s.heap.Ns X.env.locals m/\∀(i:Nat)(x:ac)(v:V),X.N[i]?=some x->σ[i]?=some (some v)->vX X.env.scope x->∃u,aW v u/\FX X.env s.heap m x u
 cell:∀x c,X.env.cells.lookup x=some c->∃v,s.heap.IsCell c v
 free:H X.env.locals=none
 freeC:∀x c,X.env.cells.lookup x=some c->H c=none
 pin:∀p∈X.pn++pins,s.heap.get? p.1=some p.2/\H p.1=none/\p.1≠X.env.locals/\p.1∉X.fs/\∀v,p.2.data≠ .cell v
 hok:cA X.prog X.w H s.heap
 len:σ.length=X.N.length
section
variable{X:Cx}{pins:List (Addr×aI)}{σ:List (Option V)}{H H':Hp}{s:ah}{h':aA}
theorem Cx.Ok.nofr(ok:X.Ok){b:Addr}{o:aI}(e:X.base.get? b=some o):b∉X.fs:=fun hb=>by
 have:=(ok.funs.mem hb).1
 rw[e]at this;cases this
theorem Inv.bs(I:Inv X pins σ H s):∀b o,X.base.get? b=some o->s.heap.get? b=some o/\H b=none:=fun b o e=>
 ⟨I.base.keep b o (I.ok.bs b o e).1 (I.ok.bs b o e).2 (I.ok.nofr e) (I.ok.noex b o e),I.base.free b o (I.ok.bs b o e).1 (I.ok.bs b o e).2 (I.ok.noex b o e)⟩
theorem Inv.bk(I:Inv X pins σ H s):∀b o,X.base.get? b=some o->s.heap.get? b=some o:=fun b o e=>(I.bs b o e).1
theorem Inv.mod(I:Inv X pins σ H s):Mod X.K X.mg X.base:=I.ok.mod
theorem Inv.kIn(I:Inv X pins σ H s):X.K.In s.heap:=I.ok.mod.kin.keeps I.bk
theorem Inv.lt(I:Inv X pins σ H s):X.env.locals<s.heap.objs.size:=let ⟨_,hn,_⟩:=I.loc;hn.lt
theorem Inv.sz(I:Inv X pins σ H s):X.s₀.heap.objs.size<=s.heap.objs.size:=dJ I.ok.above (mQ I.lt)
theorem Inv.nofs(I:Inv X pins σ H s){a:Addr}(h:s.heap.objs.size<=a):a∉X.fs:=fun hb=>by
 obtain⟨_,o,ho,_⟩:=I.ok.funs.mem hb
 exact absurd (eX (bm ho) (dJ I.sz h)) (ku _)
theorem Inv.cne(I:Inv X pins σ H s):∀x c,X.env.cells.lookup x=some c->c≠X.env.locals:=fun x c e z=>by
 obtain⟨v,o,ho,hd⟩:=I.cell x c e
 obtain⟨m,⟨o',es,ep,ho',hd',_⟩,_⟩:=I.loc
 rw[z,ho']at ho;cases ho;rw[hd']at hd;cases hd
theorem Inv.funs(I:Inv X pins σ H s):s.heap.FunFrames X.base X.outer:=by
 have all:∀(l:List Env),(∀b∈ir l,b∈X.fs)->X.s₀.heap.FunFrames X.base l->s.heap.FunFrames X.base l:=by
  intro l
  induction l with
  |nil=>intro _ _;trivial
  |cons env r ih=>
   intro hs hl
   obtain⟨hk,⟨L,o,hf,hn,ho,hd⟩,hr⟩:=hl
   have hL:L∈X.fs:=hs L (by unfold ir;rw[u8,hf];exact eZ)
   obtain⟨sl,e⟩:=I.base.slot L o ho (I.ok.frf L hL) hL fun z=>I.ok.exfs L z hL
   exact⟨hk,⟨L,_,hf,hn,e,hd⟩,ih (fun b hb=>hs b (by unfold ir;rw[u8,hf];exact dC _ hb)) hr⟩
 exact all X.outer (fun _ hb=>hb) I.ok.funs
theorem Inv.stack(I:Inv X pins σ H s):s.heap.FunFrames X.base X.stack:=by
 rcases I.ok.stk with e|⟨e,hf⟩
 ·rw[e];exact I.funs
 ·rw[e]
  obtain⟨m,hn,_⟩:=I.loc
  refine .cons (by rw[I.ok.kind];decide) hf hn ?_ I.funs
  exact aA.get?_none_of_le (dJ I.ok.bsz I.ok.above)
theorem Inv.stkSub(I:Inv X pins σ H s):∀b∈ir X.stack,b∈X.env.locals::X.fs:=fun b hb=>by
 rcases I.ok.stk with e|⟨e,hf⟩
 ·rw[e]at hb;exact dC _ hb
 ·rw[e]at hb
  unfold ir at hb
  rw[u8,hf]at hb
  exact hb
theorem Inv.stkFree(I:Inv X pins σ H s):∀b∈ir X.stack,H b=none:=fun b hb=>by
 rcases bF.mp (I.stkSub b hb)with e|hb
 ·rw[e];exact I.free
 ·obtain⟨_,o,ho,_⟩:=I.ok.funs.mem hb
  exact I.base.free b o ho (I.ok.frf b hb) fun z=>I.ok.exfs b z hb
theorem Inv.step{g':Array GenState}{t':Nat}{d':Drawn}{ch:List Addr}(I:Inv X pins σ H s)
 (hch:∀b∈ch,(b∈X.ex\/X.s₀.heap.objs.size<=b)/\b≠X.env.locals/\(∀x c,X.env.cells.lookup x=some c->c≠b)/\∀p∈X.pn++pins,p.1≠b)
 (keep:∀b o,b≠X.env.locals->b∉X.fs->b∉ch->s.heap.get? b=some o->H b=none->h'.get? b=some o)
 (slot:∀b o,b≠X.env.locals->b∈X.fs->b∉ch->s.heap.get? b=some o->H b=none->∃sl,h'.get? b=some { o with slots:=sl}) (free:∀b o,b∉ch->s.heap.get? b=some o->H b=none->H' b=none)
 (there:∀b o,b∉ch->s.heap.get? b=some o->∃o',h'.get? b=some o')
 (tups:∀b xs,H b=some (.tup xs)->H' b=some (.tup xs)) (frzs:∀b o u,H b=some (.frz o u)->H' b=some (.frz o u)) (tbls:∀b ps,H b=some (.tbl ps)->∃more,H' b=some (.tbl (ps++more)))
 (ns:∀m,s.heap.Ns X.env.locals m->h'.Ns X.env.locals m) (hok:cA X.prog X.w H' h') (hg:AllBare g'):
 Inv X pins σ H' { s with heap:=h',gens:=g',drawn:=d',toks:=t'}:=by
 have neL:∀b o,X.s₀.heap.get? b=some o->b≠X.env.locals:=fun b o e=>cJ (eX (bm e) I.ok.above)
 have neC:∀b o,X.s₀.heap.get? b=some o->b∉X.ex->b∉ch:=fun b o e hx hb=>by
  rcases(hch b hb).1 with z|z
  ·exact hx z
  ·exact absurd (eX (bm e) z) (ku _)
 have cellK:∀x c,X.env.cells.lookup x=some c->∀v,s.heap.IsCell c v->h'.IsCell c v:=fun x c e v ⟨o,ho,hd⟩=>by
  have nch:c∉ch:=fun z=>(hch c z).2.2.1 x c e rfl
  by_cases hc:c∈X.fs
  ·obtain⟨sl,q⟩:=slot c o (I.cne x c e) hc nch ho (I.freeC x c e)
   exact⟨_,q,hd⟩
  ·exact⟨o,keep c o (I.cne x c e) hc nch ho (I.freeC x c e),hd⟩
 refine⟨I.ok,I.os,hg,⟨fun b o e n hb hx=>?_,fun b o e n hb hx=>?_,fun b o e n hx=>?_,fun b o e hx=>?_,fun b xs e=>tups b xs (I.base.tups b xs e),fun b o xs e=>frzs b o xs (I.base.frzs b o xs e),fun b ps e=>?_⟩,?_,fun x c e=>?_,?_,fun x c e=>?_,fun p hp=>?_,hok,I.len⟩
 ·exact keep b o (neL b o e) hb (neC b o e hx) (I.base.keep b o e n hb hx) (I.base.free b o e n hx)
 ·obtain⟨sl,e1⟩:=I.base.slot b o e n hb hx
  obtain⟨sl',e2⟩:=slot b _ (neL b o e) hb (neC b o e hx) e1 (I.base.free b o e n hx)
  exact⟨sl',e2⟩
 ·obtain⟨o',e1⟩:=I.base.there b o e hx
  exact free b o' (neC b o e hx) e1 (I.base.free b o e n hx)
 ·obtain⟨o',e1⟩:=I.base.there b o e hx
  exact there b o' (neC b o e hx) e1
 ·obtain⟨m1,e1⟩:=I.base.tbls b ps e
  obtain⟨m2,e2⟩:=tbls b _ e1
  exact⟨m1++m2,by rw[e2,Array.append_assoc]⟩
 ·obtain⟨m,hn,hl⟩:=I.loc
  refine⟨m,ns m hn,fun i x v e1 e2 e3=>?_⟩
  obtain⟨u,r,l⟩:=hl i x v e1 e2 e3
  refine⟨u,r,?_⟩
  rcases l with l|⟨k,c,e,z⟩
  ·exact .inl l
  ·exact .inr ⟨k,c,e,cellK x c e _ z⟩
 ·obtain⟨v,z⟩:=I.cell x c e
  exact⟨v,cellK x c e v z⟩
 ·obtain⟨m,⟨o,_,_,ho,_⟩,_⟩:=I.loc
  exact free _ o (fun z=>(hch _ z).2.1 rfl) ho I.free
 ·obtain⟨v,o,ho,hd⟩:=I.cell x c e
  exact free c o (fun z=>(hch c z).2.2.1 x c e rfl) ho (I.freeC x c e)
 ·obtain⟨e,n,ne,nf,d⟩:=I.pin p hp
  have nch:p.1∉ch:=fun z=>(hch p.1 z).2.2.2 p hp rfl
  exact⟨keep p.1 p.2 ne nf nch e n,free p.1 p.2 nch e n,ne,nf,d⟩
theorem Inv.un{t':Nat}(I:Inv X pins σ H s)(u:Un X.fs [] H H' s.heap h')(hok:cA X.prog X.w H' h'):Inv X pins σ H' { s with heap:=h',toks:=t'}:=by
 obtain⟨m,⟨o,es,ep,ho,r⟩,_⟩:=id I.loc
 obtain⟨sl,hL⟩:=u.any ho I.free (by simp)
 exact I.step (g':=s.gens) (d':=s.drawn) (ch:=[]) (fun _ z=>nomatch z) (fun b o _ hb _ e n=>u.keep b o e n hb (by simp)) (fun b o _ hb _ e n=>u.slot b o e n hb (by simp)) (fun b o _ e n=>u.free b o e n (by simp)) (fun b o _ e=>u.there b o e (by simp)) u.tups u.frzs u.tbls (fun m' hm=>by
  obtain⟨o',es',ep',ho',r'⟩:=hm
  rw[ho]at ho';cases ho'
  exact⟨_,es',ep',hL,r'⟩) hok I.bare
theorem Inv.call{g':Array GenState}{t':Nat}{d':Drawn}{ch:List Addr}(I:Inv X pins σ H s)(u:Un (ir X.stack) ch H H' s.heap h')(hok:cA X.prog X.w H' h')(hg:AllBare g')
 (hch:∀b∈ch,(b∈X.ex\/X.s₀.heap.objs.size<=b)/\b≠X.env.locals/\(∀x c,X.env.cells.lookup x=some c->c≠b)/\∀p∈X.pn++pins,p.1≠b):
 Inv X pins σ H' { s with heap:=h',gens:=g',drawn:=d',toks:=t'}:=by
 obtain⟨m,⟨o,es,ep,ho,r⟩,_⟩:=id I.loc
 obtain⟨sl,hL⟩:=u.any ho I.free fun z=>(hch _ z).2.1 rfl
 exact I.step (ch:=ch) hch (fun b o hL hb hc e n=>u.keep b o e n (fun z=>(bF.mp (I.stkSub b z)).elim hL hb) hc) (fun b o _ _ hc e n=>u.any e n hc) (fun b o hc e n=>u.free b o e n hc) (fun b o hc e=>u.there b o e hc) u.tups u.frzs u.tbls (fun m' hm=>by
  obtain⟨o',es',ep',ho',r'⟩:=hm
  rw[ho]at ho';cases ho'
  exact⟨_,es',ep',hL,r'⟩) hok hg
theorem Inv.turned{t':Nat}{it:Addr}(I:Inv X pins σ H s)(k:∀b o,b≠it->s.heap.get? b=some o->h'.get? b=some o)(hn:H it=none)(hL:it≠X.env.locals)
 (h1:it∈X.ex\/X.s₀.heap.objs.size<=it) (h2:∀x c,X.env.cells.lookup x=some c->c≠it) (h3:∀p∈X.pn++pins,p.1≠it):Inv X pins σ H { s with heap:=h',toks:=t'}:=by
 have nit:∀b u,H b=some u->b≠it:=fun b u e z=>by rw[z,hn]at e;cases e
 refine I.step (g':=s.gens) (d':=s.drawn) (ch:=[it]) (fun b hb=>?_) (fun b o _ _ hc e _=>k b o (fun z=>hc (by simp[z])) e) (fun b o _ _ hc e _=>⟨o.slots,k b o (fun z=>hc (by simp[z])) e⟩) (fun _ _ _ _ n=>n)
  (fun b o hc e=>⟨o,k b o (fun z=>hc (by simp[z])) e⟩) (fun _ _ e=>e) (fun _ _ _ e=>e) (fun b ps e=>⟨#[],by rw[e];simp⟩) (fun m hm=>?_) (fun b u e=>?_) I.bare
 ·have e:b=it:=by simpa using hb
  subst e
  exact⟨h1,hL,h2,h3⟩
 ·obtain⟨o,es,ep,ho,r⟩:=hm
  exact⟨o,es,ep,k _ o (gc hL) ho,r⟩
 ·refine(I.hok b u e).stay (fun c v hc q=>k c v ?_ q) (fun _ q=>q) fun _ _ q=>q
  rcases hc with z|z
  ·rw[z];exact nit b u e
  ·exact nit c _ z
theorem Inv.tok(I:Inv X pins σ H s)(t:Nat):Inv X pins σ H { s with toks:=t}:=I.un (h':=s.heap) (t':=t) Un.refl I.hok
theorem Inv.kept{t':Nat}(I:Inv X pins σ H s)(k:∀b u,s.heap.get? b=some u->h'.get? b=some u):Inv X pins σ H { s with heap:=h',toks:=t'}:=I.un (Un.kept k) (I.hok.kept k)
theorem Inv.laid{a:Addr}{o:HO}{t':Nat}(I:Inv X pins σ H s)(k:∀b u,s.heap.get? b=some u->h'.get? b=some u)(hp:s.heap.objs.size<=a)(new:cu X.prog X.w (ae H a o) h' a o):
 Inv X pins σ (ae H a o) { s with heap:=h',toks:=t'}:=I.un (Un.laid k hp (I.hok.fresh hp)) (I.hok.laid k hp new)
theorem Inv.write{x e:Addr}{o:HO}{t':Nat}(I:Inv X pins σ H s)(mu:pM (H x))(he:e=x\/H e=some (.own x))(k:∀b u,b≠e->s.heap.get? b=some u->h'.get? b=some u)(heo:∃u,h'.get? e=some u)
 (new:cu X.prog X.w (ae H x o) h' x o):Inv X pins σ (ae H x o) { s with heap:=h',toks:=t'}:=I.un (Un.write mu he k heo) (I.hok.write mu he k heo new)
theorem Inv.pins_of{pins':List (Addr×aI)}(I:Inv X pins σ H s)(h:∀p∈pins',s.heap.get? p.1=some p.2/\H p.1=none/\p.1≠X.env.locals/\p.1∉X.fs/\∀v,p.2.data≠ .cell v):Inv X pins' σ H s:=
 ⟨I.ok,I.os,I.bare,I.base,I.loc,I.cell,I.free,I.freeC,fun p hp=>(bR.mp hp).elim (fun z=>I.pin p (eJ _ z)) (h p),I.hok,I.len⟩
theorem AA{N:List ac}(hN:N.Nodup){i j:Nat}{x:ac}(a:N[i]?=some x)(b:N[j]?=some x):i=j:=by
 obtain⟨h1,e1⟩:=bI.mp a
 obtain⟨h2,e2⟩:=bI.mp b
 exact(List.getElem_inj hN).mp (e1.trans e2.symm)
theorem AB{M:Model}{A:bx}{E:aa->ah->Prop}{i:Nat}{x:ac}{v:V}{u:aa}{Q:Unit->ah->Prop}(I:Inv X pins σ H s)(hN:X.N.Nodup)(hi:X.N[i]?=some x)(hx:nn X.env.scope x)(r:aW v u)
 (h:∀s',Inv X pins (σ.set i (some v)) H s'->(∃a,gT a s.heap s'.heap/\(a=X.env.locals\/X.env.cells.lookup x=some a))->Q () s') (hf:X.fn x=true\/X.env.scope.names.lookup x=some .local:=by first|exact .inl rfl|exact .inr rfl|assumption):wpAny M A (storeName X.env x u) Q E s:=by
 obtain⟨m,hn,hl⟩:=id I.loc
 have hcls:(X.env.scope.kind== .class||(X.env.scope.kind== .module&&X.env.locals != X.env.globals))=false:=by rw[I.ok.kind];rfl
 have hiσ:i<σ.length:=by rw[I.len];exact(bI.mp hi).1
 have cne:=I.cne
 have tracked:∀{a:Addr}{h':aA},(∃o,s.heap.get? a=some o/\H a=none)->gT a s.heap h'->cA X.prog X.w H h':=fun {a h'} ha hs b ob e=>by
  obtain⟨_,_,hfree⟩:=ha
  refine(I.hok b ob e).stay (fun c w' hc q=>(hs.2 c ?_).trans q) (fun _ q=>q) fun _ _ q=>q
  rintro rfl
  rcases hc with rfl|hc
  ·rw[hfree]at e;cases e
  ·rw[hfree]at hc;cases hc
 rcases hx with hk|hk
 ·refine wpAny_storeName_local hk hn (fun h' hn' hs=>?_) hcls
  obtain⟨oL,_,_,hoL,_⟩:=id hn
  refine h _ ⟨I.ok,I.os,I.bare,⟨fun b o e n hb hx=>?_,fun b o e n hb hx=>?_,I.base.free,fun b o e hx=>?_,I.base.tups,I.base.frzs,I.base.tbls⟩,⟨_,hn',fun j y v' e1 e2 e3=>?_⟩,fun y c e=>?_,I.free,I.freeC,fun p hp=>?_,tracked ⟨oL,hoL,I.free⟩ hs,by simpa using I.len⟩ ⟨_,hs,.inl rfl⟩
  ·exact(hs.2 b (cJ (eX (bm e) I.ok.above))).trans (I.base.keep b o e n hb hx)
  ·obtain⟨sl,e1⟩:=I.base.slot b o e n hb hx
   exact⟨sl,(hs.2 b (cJ (eX (bm e) I.ok.above))).trans e1⟩
  ·obtain⟨o',e1⟩:=I.base.there b o e hx
   exact⟨o',(hs.2 b (cJ (eX (bm e) I.ok.above))).trans e1⟩
  ·by_cases hj:j=i
   ·subst hj
    rw[hi]at e1;cases e1
    rw[zg hiσ]at e2
    cases e2
    exact⟨u,r,.inl ⟨hk,by simp⟩⟩
   ·rw[zh (gc hj)]at e2
    obtain⟨u',r',q⟩:=hl j y v' e1 e2 e3
    refine⟨u',r',?_⟩
    rcases q with⟨k,e⟩|⟨k,c,e,z⟩
    ·refine .inl ⟨k,?_⟩
     have:y≠x:=fun e=>hj (AA hN e1 (e▸hi))
     simp[this,e]
    ·exact .inr ⟨k,c,e,z.sameBut hs (cne y c e)⟩
  ·obtain⟨w',z⟩:=I.cell y c e
   exact⟨w',z.sameBut hs (cne y c e)⟩
  ·obtain⟨e,n,ne,nf,d⟩:=I.pin p hp
   exact⟨(hs.2 p.1 ne).trans e,n,ne,nf,d⟩
 ·have hfn:X.fn x=true:=by
   rcases hf with z|z
   ·exact z
   ·rw[z]at hk;cases hk
  obtain⟨c,hc⟩:=I.ok.has x (.inl hk)
  obtain⟨w',z⟩:=I.cell x c hc
  refine wpAny_storeName_cell I.ok.kind hk hc z (fun h' hc' hs=>?_)
  obtain⟨oc,hoc,hocd⟩:=id z
  refine h { s with heap:=h'} ⟨I.ok,I.os,I.bare,⟨fun b o e n hb hx=>?_,fun b o e n hb hx=>?_,I.base.free,fun b o e hx=>?_,I.base.tups,I.base.frzs,I.base.tbls⟩,⟨m,hn.sameBut hs (gc (cne x c hc)),fun j y v' e1 e2 e3=>?_⟩,fun y c' e=>?_,I.free,I.freeC,fun p hp=>?_,tracked ⟨oc,hoc,I.freeC x c hc⟩ hs,by simpa using I.len⟩ ⟨c,hs,.inr hc⟩
  ·exact(hs.2 b (cJ (eX (bm e) (I.ok.cab x c hfn hc)))).trans (I.base.keep b o e n hb hx)
  ·obtain⟨sl,e1⟩:=I.base.slot b o e n hb hx
   exact⟨sl,(hs.2 b (cJ (eX (bm e) (I.ok.cab x c hfn hc)))).trans e1⟩
  ·obtain⟨o',e1⟩:=I.base.there b o e hx
   exact⟨o',(hs.2 b (cJ (eX (bm e) (I.ok.cab x c hfn hc)))).trans e1⟩
  ·by_cases hj:j=i
   ·subst hj
    rw[hi]at e1;cases e1
    rw[zg hiσ]at e2
    cases e2
    exact⟨u,r,.inr ⟨.inl hk,c,hc,hc'⟩⟩
   ·rw[zh (gc hj)]at e2
    obtain⟨u',r',q⟩:=hl j y v' e1 e2 e3
    refine⟨u',r',?_⟩
    rcases q with q|⟨k,c',e,z'⟩
    ·exact .inl q
    ·refine .inr ⟨k,c',e,z'.sameBut hs ?_⟩
     rintro rfl
     exact hj (AA hN e1 (I.ok.inj _ _ _ e hc▸hi))
  ·by_cases hcc:c'=c
   ·subst hcc;exact⟨_,hc'⟩
   ·obtain⟨w2,z2⟩:=I.cell y c' e
    exact⟨w2,z2.sameBut hs hcc⟩
  ·obtain⟨e,n,ne,nf,d⟩:=I.pin p hp
   refine⟨(hs.2 p.1 ?_).trans e,n,ne,nf,d⟩
   intro q
   rw[q,hoc]at e
   have q':oc=p.2:=cQ e
   exact d w' (by rw[<-q'];exact hocd)
theorem AC{M:Model}{A:bx}{E:aa->ah->Prop}{i:Nat}{x:ac}{v:V}{u:aa}{Q:Unit->ah->Prop}(I:Inv X pins σ H s)(hN:X.N.Nodup)(hi:X.N[i]?=some x)(hx:nn X.env.scope x)(r:aW v u)
 (h:∀s',Inv X pins (σ.set i (some v)) H s'->Q () s') (hf:X.fn x=true\/X.env.scope.names.lookup x=some .local:=by first|exact .inl rfl|exact .inr rfl|assumption):wpAny M A (storeName X.env x u) Q E s:=
 AB I hN hi hx r (fun s' I' _=>h s' I') hf
theorem Inv.call'{s':ah}{ch:List Addr}(I:Inv X pins σ H s)(ho:s'.os=s.os)(u:Un (ir X.stack) ch H H' s.heap s'.heap)(hok:cA X.prog X.w H' s'.heap)(hg:AllBare s'.gens)
 (hch:∀b∈ch,(b∈X.ex\/X.s₀.heap.objs.size<=b)/\b≠X.env.locals/\(∀x c,X.env.cells.lookup x=some c->c≠b)/\∀p∈X.pn++pins,p.1≠b):Inv X pins σ H' s':=by
 obtain⟨h',g',d',t',o'⟩:=s'
 have e:o'=s.os:=ho
 subst e
 exact I.call (g':=g') (t':=t') (d':=d') u hok hg hch
end
abbrev XK:=aa->Option Addr->Hp->Prop
abbrev St:=List (Option V)
abbrev VK:=V->Hp->Prop
abbrev TE:=St->Hp->VK->Prop
abbrev TT:=St->Hp->(Bool->Hp->Prop)->Prop
abbrev TA:=St->Hp->(List V->Hp->Prop)->Prop
structure dE where
 nx:St->Hp->Prop
 rt:VK
 bk:St->Hp->Prop:=fun _ _=>False
 ct:St->Hp->Prop:=fun _ _=>False
abbrev TS:=dE->St->Hp->Prop
def EP(X:Cx)(pins:List (Addr×aI))(σ:St)(Q:VK)(u:aa)(s':ah):Prop:=∃v H',Inv X pins σ H' s'/\aW v u/\Q v H'
def TP(X:Cx)(pins:List (Addr×aI))(σ:St)(Q:Bool->Hp->Prop)(b:Bool)(s':ah):Prop:=∃H',Inv X pins σ H' s'/\Q b H'
def AP(X:Cx)(pins:List (Addr×aI))(σ:St)(Q:List V->Hp->Prop)(us:List aa)(s':ah):Prop:=∃vs H',Inv X pins σ H' s'/\aS vs us/\Q vs H'
def SP(X:Cx)(pins:List (Addr×aI))(D:dE)(f:Flow)(s':ah):Prop:=
 match f with
 |.next=>∃σ' H',Inv X pins σ' H' s'/\D.nx σ' H'
 |.brk=>∃σ' H',Inv X pins σ' H' s'/\D.bk σ' H'
 |.cont=>∃σ' H',Inv X pins σ' H' s'/\D.ct σ' H'
 |.ret u=>∃v σ' H',Inv X pins σ' H' s'/\aW v u/\D.rt v H'
def PE(X:Cx)(e:Expr)(t:TE):Prop:=
 ∀(pins:List (Addr×aI))(s:ah)(σ:St)(H:Hp)(Q:VK),Inv X pins σ H s->t σ H Q->wpAny (model X.prog X.w) X.A (eval e X.env) (EP X pins σ Q) X.xe s
def PT(X:Cx)(e:Expr)(t:TT):Prop:=
 ∀(pins:List (Addr×aI))(s:ah)(σ:St)(H:Hp)(Q:Bool->Hp->Prop),Inv X pins σ H s->t σ H Q->wpAny (model X.prog X.w) X.A (isTrue e X.env (eval e X.env)) (TP X pins σ Q) X.xe s
def PW(X:Cx)(e:Expr)(t:TT):Prop:=
 ∀(whole:Sem aa)(pins:List (Addr×aI))(s:ah)(σ:St)(H:Hp)(Q:Bool->Hp->Prop),Inv X pins σ H s->t σ H Q->wpAny (model X.prog X.w) X.A (isTrue e X.env whole) (TP X pins σ Q) X.xe s
theorem PW.pt{X:Cx}{e:Expr}{t:TT}(h:PW X e t):PT X e t:=h _
def PA(X:Cx)(es:List Expr)(t:TA):Prop:=
 ∀(pos:Pos)(pins:List (Addr×aI))(s:ah)(σ:St)(H:Hp)(Q:List V->Hp->Prop),Inv X pins σ H s->t σ H Q->wpAny (model X.prog X.w) X.A (spliced (backTo pos (starEach es X.env))) (AP X pins σ Q) X.xe s
def PS(X:Cx)(st:Stmt)(t:TS):Prop:=
 ∀(pins:List (Addr×aI))(s:ah)(σ:St)(H:Hp)(D:dE),Inv X pins σ H s->t D σ H->wpAny (model X.prog X.w) X.A (exec st X.env) (SP X pins D) X.xe s
def gf(X:Cx)(st:List Stmt)(t:TS):Prop:=
 ∀(pins:List (Addr×aI))(s:ah)(σ:St)(H:Hp)(D:dE),Inv X pins σ H s->t D σ H->wpAny (model X.prog X.w) X.A (execs st X.env) (SP X pins D) X.xe s
theorem aL{α:Type}{t:Sem α}{Q Q':α->ah->Prop}{M:Model}{A:bx}{E:aa->ah->Prop}{s:ah}(h:wpAny M A t Q E s)(hQ:∀a s,Q a s->Q' a s):wpAny M A t Q' E s:=fE h hQ fun _ _ x=>x
section
variable{X:Cx}
inductive AD(i:Nat)(σ:St)(H:Hp)(Q:VK):Prop
 |mk:∀v,(σ[i]?=some (some v))->(Q v H)->AD i σ H Q
def vY(i:Nat):TE:=fun σ H Q=>AD i σ H Q
def tC(v:V):TE:=fun _ H Q=>Q v H
theorem FY{i:Nat}{x:ac}{pos:Pos}(hN:X.N[i]?=some x)(hv:vX X.env.scope x)(hd:(x==("__debug__":ac))=false:=by decide)(hcd:(x==("__classdict__":ac))=false:=by decide):PE X (.Name x pos) (vY i):=by
 intro pins s σ H Q I h
 obtain⟨v,e,h⟩:=h
 obtain⟨m,hn,hl⟩:=I.loc
 obtain⟨u,r,l⟩:=hl i x v hN e hv
 have fin:EP X pins σ Q u s:=⟨v,H,I,r,h⟩
 rcases l with⟨hk,hm⟩|⟨hk,c,hc,hcell⟩
 ·exact uG (wpAny_loadName_local I.ok.kind hk hn hm fin) hd
 ·rcases hk with hk|hk
  ·exact uG (wpAny_loadName_cell I.ok.kind hk hc hcell fin) hd
  ·exact uG (wpAny_loadName_free I.ok.kind hk hc hcell fin hcd) hd
theorem ax{i j pos}:PE X (.Constant (.int i) j pos) (tC (.int i)):=fun _ _ _ H _ I h=>wpAny_Constant_int ⟨.int i,H,I.tok _,⟨_,rfl⟩,h⟩
theorem bU{b j pos}:PE X (.Constant (.bool b) j pos) (tC (.bl b)):=fun _ _ _ H _ I h=>Constant_bool ⟨.bl b,H,I,rfl,h⟩
theorem d9{j pos}:PE X (.Constant .none j pos) (tC .non):=fun _ _ _ H _ I h=>Constant_none ⟨.non,H,I,rfl,h⟩
theorem aO{x j pos}:PE X (.Constant (.str x) j pos) (tC (.str x)):=fun _ _ _ H _ I h=>Calls.Constant_str ⟨.str x,H,I.tok _,⟨_,rfl⟩,h⟩
def Gl(X:Cx)(x:ac):Prop:=X.env.kindOf x=some .globalImplicit
theorem AE{E:aa->ah->Prop}{pins:List (Addr×aI)}{s:ah}{σ:St}{H:Hp}{x:ac}{u:aa}{pos:Pos}{Q:aa->ah->Prop}(I:Inv X pins σ H s)(hg:Gl X x)(hm:X.mg x=some u)(h:Q u s)
 (hd:(x==("__debug__":ac))=false:=by decide):wpAny (model X.prog X.w) X.A (eval (.Name x pos) X.env) Q E s:=
 Ai I.ok.kind hg (Calls.loadGlobal_global (by rw[I.ok.glob];exact I.mod.glob.keeps I.bk) hm h) hd
theorem gg{E:aa->ah->Prop}{pins:List (Addr×aI)}{s:ah}{σ:St}{H:Hp}{x:ac}{u:aa}{pos:Pos}{Q:aa->ah->Prop}(I:Inv X pins σ H s)(hg:Gl X x)(hm:X.mg x=none)(hv:bootBuiltins x=some u)(h:Q u s)
 (hn:x≠"__name__":=by decide) (hd:(x==("__debug__":ac))=false:=by decide):wpAny (model X.prog X.w) X.A (eval (.Name x pos) X.env) Q E s:=by
 obtain⟨mb,h1,h2⟩:=I.mod.blt
 exact Ai I.ok.kind hg (Calls.loadGlobal_builtin (by rw[I.ok.glob];exact I.mod.glob.keeps I.bk) hm (by rw[I.ok.blt];exact h1.keeps I.bk) ((h2 x hn).trans hv) h) hd
theorem FZ{x:ac}{v:V}{u:aa}{pos:Pos}(hg:Gl X x)(hm:X.mg x=none)(hv:bootBuiltins x=some u)(r:aW v u)(hn:x≠"__name__":=by decide)(hd:(x==("__debug__":ac))=false:=by decide):PE X (.Name x pos) (tC v):=
 fun _ _ _ H _ I h=>gg I hg hm hv ⟨v,H,I,r,h⟩ hn hd
variable{a b:Expr}{ta tb:TE}{pos:Pos}
def PC(X:Cx)(op:CmpOp)(a b:Expr)(t:TE):Prop:=
 ∀(pins:List (Addr×aI))(s:ah)(σ:St)(H:Hp)(Q:VK),Inv X pins σ H s->t σ H Q->
  wpAny (model X.prog X.w) X.A (eval a X.env) (fun v s₁=>wpAny (model X.prog X.w) X.A (eval b X.env) (fun u s₂=>wpAny (model X.prog X.w) X.A (compareOp op v u) (EP X pins σ Q) X.xe s₂) X.xe s₁) X.xe s
def tB(t:TE):TT:=fun σ H Q=>t σ H fun x H1=>∃c,x= .bl c/\Q c H1
theorem sf{op:CmpOp}{t:TE}(h:PC X op a b t)(h1:behindInMarks op b=false:=by first|exact nobehind _ (by decide) (by decide)|rfl):PT X (.Compare a [op] [b] pos) (tB t):=by
 intro pins s σ H Q I hw
 refine yB (aL (h pins s σ H _ I hw) fun v s1 h1=>aL h1 fun u s2 h2=>aL h2 fun c s3 ⟨x,H1,I1,r1,q1⟩=>?_) h1
 obtain⟨d,rfl,q⟩:=q1
 cases r1
 exact lv ⟨H1,I1,q⟩
theorem cf{e:Expr}{t:TE}(h:PE X e t)(he:∀whole,isTrue e X.env whole=(do let v <-whole;standAt e.pos;holding [v] (truthy v)):=by intro _;rfl):PT X e (tB t):=by
 intro pins s σ H Q I hw
 refine isTrue_plain (aL (h pins s σ H _ I hw) fun v s1 ⟨x,H1,I1,r1,q1⟩=>?_) (he _)
 obtain⟨d,rfl,q⟩:=q1
 cases r1
 exact lv ⟨H1,I1,q⟩
variable{tA tB':TT}{rest:List Expr}
def F0(t u:TT):TT:=fun σ H Q=>t σ H fun c H1=>if c=true then u σ H1 Q else Q false H1
def Ga(t u:TT):TT:=fun σ H Q=>t σ H fun c H1=>if c=true then Q true H1 else u σ H1 Q
def Gb(t:TT):TT:=fun σ H Q=>t σ H fun c H1=>Q (!c) H1
theorem jp(ha:PT X a tA):PW X (.BoolOp .And [a] pos) tA:=by
 intro wh pins s σ H Q I h
 refine isTrue_and (aL (ha pins s σ H Q I h) fun c s1 e=>?_)
 cases c with
 |true=>exact isTrue_and_nil e
 |false=>exact e
theorem dF(ha:PT X a tA):PW X (.BoolOp .Or [a] pos) tA:=by
 intro wh pins s σ H Q I h
 refine isTrue_or (aL (ha pins s σ H Q I h) fun c s1 e=>?_)
 cases c with
 |false=>exact isTrue_or_nil e
 |true=>exact e
theorem jq(ha:PT X a tA)(hb:PW X (.BoolOp .And (b::rest) pos) tB'):PW X (.BoolOp .And (a::b::rest) pos) (F0 tA tB'):=by
 intro wh pins s σ H Q I h
 refine isTrue_and (aL (ha pins s σ H _ I h) fun c s1 ⟨H1,I1,q1⟩=>?_)
 cases c with
 |true=>exact hb wh pins s1 σ H1 Q I1 q1
 |false=>exact⟨H1,I1,q1⟩
theorem cv(ha:PT X a tA)(hb:PW X (.BoolOp .Or (b::rest) pos) tB'):PW X (.BoolOp .Or (a::b::rest) pos) (Ga tA tB'):=by
 intro wh pins s σ H Q I h
 refine isTrue_or (aL (ha pins s σ H _ I h) fun c s1 ⟨H1,I1,q1⟩=>?_)
 cases c with
 |true=>exact⟨H1,I1,q1⟩
 |false=>exact hb wh pins s1 σ H1 Q I1 q1
theorem cK(ha:PT X a tA):PT X (.UnaryOp .Not a pos) (Gb tA):=by
 intro pins s σ H Q I h
 exact isTrue_not (ha pins s σ H (fun c H1=>Q (!c) H1) I h)
inductive AF(tb:TE)(σ:St)(Q:VK)(x:V)(H1:Hp):Prop
 |mk:∀c,(x= .bl c)->(if c=true then tb σ H1 Q else Q (.bl false) H1)->AF tb σ Q x H1
def Gc(ta tb:TE):TE:=fun σ H Q=>ta σ H fun x H1=>AF tb σ Q x H1
def Ge(ta tb:TE):TE:=fun σ H Q=>ta σ H fun x H1=>∃c,x= .bl c/\if c=true then Q (.bl true) H1 else tb σ H1 Q
def Gf(ta:TE):TE:=fun σ H Q=>ta σ H fun x H1=>∃c,x= .bl c/\Q (.bl (!c)) H1
theorem nq{op}{t:TE}(h:PE X a t):PE X (.BoolOp op [a] pos) t:=fun pins s σ H Q I hw=>BoolOp_one (h pins s σ H Q I hw)
theorem sh(ha:PE X a ta)(hb:PE X (.BoolOp .And (b::rest) pos) tb):PE X (.BoolOp .And (a::b::rest) pos) (Gc ta tb):=by
 intro pins s σ H Q I h
 refine BoolOp_and (aL (ha pins s σ H _ I h) fun v s1 ⟨x,H1,I1,r1,q1⟩=>?_)
 obtain⟨c,rfl,q1⟩:=q1
 cases r1
 refine lv ?_
 cases c with
 |true=>exact hb pins s1 σ H1 Q I1 q1
 |false=>exact⟨.bl false,H1,I1,rfl,q1⟩
theorem AG(ha:PE X a ta)(hb:PE X (.BoolOp .Or (b::rest) pos) tb):PE X (.BoolOp .Or (a::b::rest) pos) (Ge ta tb):=by
 intro pins s σ H Q I h
 refine BoolOp_or (aL (ha pins s σ H _ I h) fun v s1 ⟨x,H1,I1,r1,q1⟩=>?_)
 obtain⟨c,rfl,q1⟩:=q1
 cases r1
 refine lv ?_
 cases c with
 |false=>exact hb pins s1 σ H1 Q I1 q1
 |true=>exact⟨.bl true,H1,I1,rfl,q1⟩
theorem Gg(ha:PE X a ta):PE X (.UnaryOp .Not a pos) (Gf ta):=by
 intro pins s σ H Q I h
 refine UnaryOp_ (aL (ha pins s σ H _ I h) fun v s1 ⟨x,H1,I1,r1,q1⟩=>?_)
 obtain⟨c,rfl,q1⟩:=q1
 cases r1
 exact not_of (lv ⟨.bl (!c),H1,I1,rfl,q1⟩)
def Gh(t:TT)(ta tb:TE):TE:=fun σ H Q=>t σ H fun c H1=>if c=true then ta σ H1 Q else tb σ H1 Q
theorem AH{c:Expr}(hc:PT X c tA)(ha:PE X a ta)(hb:PE X b tb):PE X (.IfExp c a b pos) (Gh tA ta tb):=by
 intro pins s σ H Q I h
 refine wpAny_IfExp (aL (hc pins s σ H _ I h) fun d s1 ⟨H1,I1,q1⟩=>?_)
 cases d with
 |true=>exact ha pins s1 σ H1 Q I1 q1
 |false=>exact hb pins s1 σ H1 Q I1 q1
end
def ak(K:aB)(H:Hp)(a:Addr)(xs:List V):Prop:=
 Rd H a (.lst xs)\/
    ∃(o:aI)(its:Array aa)(n:Nat),K.lookup a=some o/\o.cls= .type "list"/\o.dict=none/\o.data= .seq its n/\its.size<=sizeLine/\aS xs its.toList
def ag(K:aB)(H:Hp)(a:Addr)(xs:List V):Prop:=
 Rd H a (.tup xs)\/
    ∃(o:aI)(its:Array aa)(n:Nat),K.lookup a=some o/\o.cls= .type "tuple"/\o.data= .seq its n/\its.size<=sizeLine/\aS xs its.toList
def Gi:aa->Option V
 |.none=>some .non
 |.bool b=>some (.bl b)
 |.int i _=>some (.int i)
 |.str x _=>some (.str x)
 |.bytes b _=>some (.byt b)
 |.float b _=>some (.flt b)
 |.ref a=>some (.ref a)
 |.type n=>some (.ty n)
 |_=>none
theorem aW.abs{x:V}{u:aa}(r:aW x u):Gi u=some x:=by
 cases x with
 |non=>cases r;rfl
 |bl _=>cases r;rfl
 |int _=>obtain⟨t,rfl⟩:=r;rfl
 |str _=>obtain⟨t,rfl⟩:=r;rfl
 |byt _=>obtain⟨t,rfl⟩:=r;rfl
 |flt _=>obtain⟨t,rfl⟩:=r;rfl
 |ref _=>cases r;rfl
 |ty _=>cases r;rfl
theorem aW.inj{x y:V}{u:aa}(r:aW x u)(q:aW y u):x=y:=cQ (r.abs.symm.trans q.abs)
theorem aS.inj:∀{xs ys:List V}{us:List aa},aS xs us->aS ys us->xs=ys
 |_,_,_,.nil,.nil=>rfl
 |_,_,_,.cons r t,.cons r' t'=>by rw[r.inj r',aS.inj t t']
section
variable{X:Cx}{pins:List (Addr×aI)}{σ:St}{H:Hp}{s:ah}{a:Addr}{xs ys:List V}
theorem ak.of{K:aB}(h:H a=some (.lst xs)):ak K H a xs:= .inl (.inl h)
theorem ag.of{K:aB}(h:H a=some (.tup xs)):ag K H a xs:= .inl (.inl h)
theorem Inv.list(I:Inv X pins σ H s)(h:ak X.K H a xs):∃its:List aa,aS xs its/\PlainL s.heap a its.toArray/\xs.length<=sizeLine:=by
 rcases h with h|⟨o,its,n,hk,hc,hd,hs,hz,r⟩
 ·obtain⟨z,its,n,r,e⟩:=h.ok I.hok
  exact⟨its,r,⟨_,n,e,rfl,rfl,rfl⟩,z⟩
 ·refine⟨its.toList,r,⟨o,n,I.kIn a o hk,hc,hd,by simpa using hs⟩,?_⟩
  have e:=r.length
  simp only[ni]at e
  omega
theorem Inv.tuple(I:Inv X pins σ H s)(h:ag X.K H a xs):∃its:List aa,aS xs its/\cz s.heap a its.toArray/\xs.length<=sizeLine:=by
 rcases h with h|⟨o,its,n,hk,hc,hs,hz,r⟩
 ·obtain⟨z,its,r,p⟩:=h.ok I.hok
  exact⟨its,r,p,z⟩
 ·refine⟨its.toList,r,⟨o,I.kIn a o hk,hc,n,by simpa using hs⟩,?_⟩
  have e:=r.length
  simp only[ni]at e
  omega
theorem Inv.list_inj(I:Inv X pins σ H s)(h:ak X.K H a xs)(h':ak X.K H a ys):xs=ys:=by
 obtain⟨its,r,⟨o,n,e,_,_,d⟩,_⟩:=I.list h
 obtain⟨its',r',⟨o',n',e',_,_,d'⟩,_⟩:=I.list h'
 rw[e]at e';cases e'
 rw[d]at d'
 injection d' with d1 _
 have:its=its':=by simpa using congrArg Array.toList d1
 subst this
 exact r.inj r'
end
abbrev Cx.wish(X:Cx)(E:aa->ah->Prop):Cx:={ X with xe:=E}
abbrev Cx.nox(X:Cx):Cx:=X.wish fun _ _=>False
theorem Cx.Ok.wish{X:Cx}(ok:X.Ok)(E:aa->ah->Prop):(X.wish E).Ok:=
 ⟨ok.mod,ok.kind,ok.glob,ok.blt,ok.above,ok.inj,ok.has,ok.cab,ok.hd,ok.frames,ok.stk,ok.exf,ok.bs,ok.bsz,ok.noex,ok.exfs,ok.funs,ok.frf⟩
theorem Cx.Ok.unwish{X:Cx}{E:aa->ah->Prop}(ok:(X.wish E).Ok):X.Ok:=
 ⟨ok.mod,ok.kind,ok.glob,ok.blt,ok.above,ok.inj,ok.has,ok.cab,ok.hd,ok.frames,ok.stk,ok.exf,ok.bs,ok.bsz,ok.noex,ok.exfs,ok.funs,ok.frf⟩
section
variable{X:Cx}{pins:List (Addr×aI)}{σ:St}{H:Hp}{s:ah}{E:aa->ah->Prop}
theorem Inv.wish(I:Inv X pins σ H s)(E:aa->ah->Prop):Inv (X.wish E) pins σ H s:=⟨I.ok.wish E,I.os,I.bare,I.base,I.loc,I.cell,I.free,I.freeC,I.pin,I.hok,I.len⟩
theorem Inv.unwish(I:Inv (X.wish E) pins σ H s):Inv X pins σ H s:=⟨I.ok.unwish,I.os,I.bare,I.base,I.loc,I.cell,I.free,I.freeC,I.pin,I.hok,I.len⟩
theorem SP.unwish{D:dE}{f:Flow}{s':ah}(h:SP (X.wish E) pins D f s'):SP X pins D f s':=by
 cases f with
 |next=>obtain⟨σ',H',I,q⟩:=h;exact⟨σ',H',I.unwish,q⟩
 |brk=>obtain⟨σ',H',I,q⟩:=h;exact⟨σ',H',I.unwish,q⟩
 |cont=>obtain⟨σ',H',I,q⟩:=h;exact⟨σ',H',I.unwish,q⟩
 |ret u=>obtain⟨v,σ',H',I,r,q⟩:=h;exact⟨v,σ',H',I.unwish,r,q⟩
theorem gf.nox{st:List Stmt}{t:TS}(h:gf X.nox st t):gf X st t:=fun pins s σ H D I hw=>
 fE (h pins s σ H D (I.wish _) hw) (fun _ _ q=>q.unwish) fun _ _ z=>gX z
end
section
variable{X:Cx}{st:Stmt}{rest:List Stmt}{t u:TS}{e:Expr}{te:TE}{pos:Pos}
def Gj:TS:=fun D σ H=>D.nx σ H
def gh(t u:TS):TS:=fun D σ H=>t { D with nx:=u D} σ H
theorem aU:gf X [] Gj:=fun _ _ σ H _ I h=>qU ⟨σ,H,I,h⟩
theorem aj(h1:PS X st t)(h2:gf X rest u):gf X (st::rest) (gh t u):=by
 intro pins s σ H D I h
 refine yC (aL (h1 pins s σ H { D with nx:=u D} I h) fun f s1 q=>?_)
 cases f with
 |next=>
  obtain⟨σ',H',I',q⟩:=q
  exact h2 pins s1 σ' H' D I' q
 |ret v=>exact q
 |brk=>exact q
 |cont=>exact q
theorem al(h1:PS X st t):gf X [st] t:=by
 intro pins s σ H D I h
 refine yC (aL (h1 pins s σ H D I h) fun f s1 q=>?_)
 cases f with
 |next=>exact qU q
 |ret v=>exact q
 |brk=>exact q
 |cont=>exact q
theorem Inv.quiet{pins:List (Addr×aI)}{σ:St}{H:Hp}{s:ah}(I:Inv X pins σ H s):interactive X.env=false:=by simp[interactive,I.ok.kind]
def Gk(te:TE):TS:=fun D σ H=>te σ H fun _ H1=>D.nx σ H1
theorem cp(he:PE X e te)(hs:swapsWith e none pos.line X.env=pure false:=by rfl):PS X (.Expr e pos) (Gk te):=by
 intro pins s σ H D I h
 exact wpAny_Expr_any (aL (he pins s σ H _ I h) fun v s1 ⟨x,H1,I1,r1,q1⟩=>⟨σ,H1,I1,q1⟩) I.quiet hs
def AI(te:TE):TS:=fun D σ H=>te σ H D.rt
theorem ay(he:PE X e te):PS X (.Return (some e) pos) (AI te):=by
 intro pins s σ H D I h
 exact wpAny_Return_some (aL (he pins s σ H _ I h) fun v s1 ⟨x,H1,I1,r1,q1⟩=>⟨x,σ,H1,I1,r1,q1⟩)
def Gm(c:TT)(t u:TS):TS:=fun D σ H=>c σ H fun b H1=>if b=true then t D σ H1 else u D σ H1
theorem aK{c:Expr}{a b:List Stmt}{tc:TT}(hc:PT X c tc)(ha:gf X a t)(hb:gf X b u):PS X (.If c a b pos) (Gm tc t u):=by
 intro pins s σ H D I h
 refine wpAny_If (aL (hc pins s σ H _ I h) fun d s1 ⟨H1,I1,q1⟩=>?_)
 cases d with
 |true=>exact ha pins s1 σ H1 D I1 q1
 |false=>exact hb pins s1 σ H1 D I1 q1
end
abbrev TG:=V->St->Hp->(St->Hp->Prop)->Prop
abbrev lJ:=List V->St->Hp->(St->Hp->Prop)->Prop
def PG(X:Cx)(target:Expr)(t:TG):Prop:=
 ∀(pins:List (Addr×aI))(s:ah)(σ:St)(H:Hp)(v:V)(u:aa)(Q:St->Hp->Prop),Inv X pins σ H s->aW v u->t v σ H Q->
  wpAny (model X.prog X.w) X.A (assign target X.env u) (fun _ s'=>∃σ' H',Inv X pins σ' H' s'/\Q σ' H') X.xe s
def sj(X:Cx)(ts:List Expr)(t:lJ):Prop:=
 ∀(pins:List (Addr×aI))(s:ah)(σ:St)(H:Hp)(vs:List V)(us:List aa)(Q:St->Hp->Prop),Inv X pins σ H s->aS vs us->t vs σ H Q->
  wpAny (model X.prog X.w) X.A (assignInOrder ((assignEach ts X.env).map (·.2)) us) (fun _ s'=>∃σ' H',Inv X pins σ' H' s'/\Q σ' H') X.xe s
abbrev vZ:=V->V->V->Hp->(Hp->Prop)->Prop
def AJ(X:Cx)(t:vZ):Prop:=
 ∀(pins:List (Addr×aI))(s:ah)(σ:St)(H:Hp)(o i v:V)(ov iv u:aa)(Q:Hp->Prop),Inv X pins σ H s->aW o ov->aW i iv->aW v u->t o i v H Q->
  wpAny (model X.prog X.w) X.A (setItem ov iv u) (fun _ s'=>∃H',Inv X pins σ H' s'/\Q H') X.xe s
section
variable{X:Cx}{pos:Pos}
def jM(i:Nat):TG:=fun v σ H Q=>Q (σ.set i (some v)) H
theorem cn{i:Nat}{x:ac}(hN:X.N.Nodup)(hi:X.N[i]?=some x)(hx:nn X.env.scope x)(hf:X.fn x=true\/X.env.scope.names.lookup x=some .local:=by first|exact .inl rfl|exact .inr rfl|assumption):PG X (.Name x pos) (jM i):=by
 intro pins s σ H v u Q I r h
 exact yD (AC I hN hi hx r (fun s' I'=>⟨_,H,I',h⟩) hf)
def Gn:lJ:=fun vs σ H Q=>vs=[]/\Q σ H
def Go(t:TG)(u:lJ):lJ:=fun vs σ H Q=>∃v r,vs=v::r/\t v σ H fun σ' H'=>u r σ' H' Q
theorem v3:sj X [] Gn:=by
 intro pins s σ H vs us Q I r h
 obtain⟨e,h⟩:=h
 subst e
 cases r
 exact assignInOrder_nil ⟨σ,H,I,h⟩
theorem nr{e:Expr}{es:List Expr}{t:TG}{u:lJ}(h1:PG X e t)(h2:sj X es u)
 (hs:(assignEach (e::es) X.env).map (·.2)=assign e X.env::(assignEach es X.env).map (·.2):=by rfl):sj X (e::es) (Go t u):=by
 intro pins s σ H vs us Q I r h
 obtain⟨v,vr,e1,h⟩:=h
 subst e1
 cases r with
 |cons r rr=>
  rw[hs]
  refine assignInOrder_cons (aL (h1 pins s σ H _ _ _ I r h) fun _ s1 ⟨σ1,H1,I1,q1⟩=>?_)
  exact h2 pins s1 σ1 H1 _ _ Q I1 rr q1
def Gp(K:aB)(n:Nat)(t:lJ):TG:=fun v σ H Q=>∃a xs,v= .ref a/\ag K H a xs/\xs.length=n/\t xs σ H Q
theorem v4{es:List Expr}{k:Nat}{t:lJ}{n:Nat}(hc:X.calm=true)(h:sj X es t)
 (hn:(assignEach es X.env).length=n:=by rfl) (hst:(assignEach es X.env).findIdx? (·.1)=none:=by rfl):PG X (.Tuple es k pos) (Gp X.K n t):=by
 intro pins s σ H v u Q I r hw
 obtain⟨a,xs,e1,hq,hl,hw⟩:=hw
 subst e1
 cases r
 obtain⟨its,rv,ht,hz⟩:=I.tuple hq
 refine assign_Tuple_tuple (I.ok.hd hc) ht (by simp[hn,<-hl,rv.length]) hst fun h' hx=>?_
 have I1:Inv X pins σ H { s with heap:=h'}:=I.kept (t':=s.toks) fun b o e=>hx b o (cJ (bm e)) e
 exact h pins _ σ H xs _ Q I1 (by simpa using rv) hw
def Gq(to ti:TE)(t:vZ):TG:=fun v σ H Q=>to σ H fun o H1=>ti σ H1 fun i H2=>t o i v H2 fun H3=>Q σ H3
theorem AK{o i:Expr}{to ti:TE}{t:vZ}(ho:PE X o to)(hi:PE X i ti)(hs:AJ X t)
 (ha:∀v,assign (.Subscript o i pos) X.env v=(do
  let ov <-holding [v] (eval o X.env)
  let iv <-holding [v,ov] (eval i X.env)
  standAt pos
  holding [v,ov,iv] (setItem ov iv v)
  release [v,ov,iv] []):=by intro _;rfl):PG X (.Subscript o i pos) (Gq to ti t):=by
 intro pins s σ H v u Q I r h
 rw[ha]
 refine ai (gR (aL (ho pins s σ H _ I h) fun ov s1 ⟨x,H1,I1,r1,q1⟩=>?_))
 refine ai (gR (aL (hi pins s1 σ H1 _ I1 q1) fun iv s2 ⟨y,H2,I2,r2,q2⟩=>?_))
 refine ai (uH (ai (gR (aL (hs pins s2 σ H2 x y v ov iv u _ I2 r1 r2 r q2) fun _ s3 ⟨H3,I3,q3⟩=>?_))))
 exact wpAny_release ⟨σ,H3,I3,q3⟩
def sk(te:TE)(g:TG):TS:=fun D σ H=>te σ H fun x H1=>g x σ H1 D.nx
theorem v5{tg e:Expr}{te:TE}{g:TG}(he:PE X e te)(hg:PG X tg g)(hs:swapsWithSole [tg] e pos.line X.env=pure false:=by rfl)(hw:swappedStores [tg] e X.env=pure none:=by rfl)
 (h1:(assignEach [tg] X.env).map (·.2)=[assign tg X.env]:=by rfl):PS X (.Assign [tg] e pos) (sk te g):=by
 intro pins s σ H D I h
 refine wpAny_Assign_stores (aL (he pins s σ H _ I h) fun v s1 ⟨x,H1,I1,r1,q1⟩=>?_) hs hw
 rw[h1]
 exact aL (hg pins s1 σ H1 x v _ I1 r1 q1) fun _ s2 q=>q
theorem v6{i:Nat}{x:ac}{e:Expr}{te:TE}{pos':Pos}(hN:X.N.Nodup)(hi:X.N[i]?=some x)(hx:nn X.env.scope x)(he:PE X e te)(hs:swapsWith e (some (.Name x pos')) pos.line X.env=pure false:=by rfl)(hf:X.fn x=true\/X.env.scope.names.lookup x=some .local:=by first|exact .inl rfl|exact .inr rfl|assumption):
 PS X (.Assign [.Name x pos'] e pos) (sk te (jM i)):=by
 intro pins s σ H D I h
 refine wpAny_Assign_Name (aL (he pins s σ H _ I h) fun v s1 ⟨y,H1,I1,r1,q1⟩=>?_) hs
 exact AC I1 hN hi hx r1 (fun s2 I2=>⟨_,H1,I2,q1⟩) hf
def Gr(c:TT)(tb:TS):TS:=fun D σ H=>∃W:Nat->St->Hp->Prop,(∃m,W m σ H)/\∀m σ H,W m σ H->
 c σ H fun b H1=>if b=true then ∃N:St->Hp->Prop,(∀σ' H',N σ' H'->∃m',m'<m/\W m' σ' H')/\tb { D with nx:=N,ct:=N,bk:=D.nx} σ H1 else D.nx σ H1
theorem iu{c:Expr}{body:List Stmt}{tc:TT}{tb:TS}(hp:PassesOwn (model X.prog X.w) X.A X.env X.xe)(hc:PT X c tc)(hb:gf X body tb):PS X (.While c body [] pos) (Gr tc tb):=by
 intro pins s σ H D I h
 obtain⟨W,⟨m0,w0⟩,turn⟩:=h
 refine wpAny_While (codeAny_whileLoop (fun n s'=>∃σ' H',Inv X pins σ' H' s'/\W n σ' H') ?_ m0 ⟨σ,H,I,w0⟩)
 rintro n s1 ⟨σ1,H1,I1,w1⟩
 refine lx hp (aL (hc pins s1 σ1 H1 _ I1 (turn n σ1 H1 w1)) fun b s2 ⟨H2,I2,q2⟩=>?_)
 cases b with
 |true=>
  obtain⟨N,hN,q2⟩:=q2
  rw[if_pos rfl]
  refine lx hp (aL (hb pins s2 σ1 H2 _ I2 q2) fun f s3 q3=>?_)
  cases f with
  |next=>
   obtain⟨σ3,H3,I3,n3⟩:=q3
   obtain⟨m',hm,w3⟩:=hN σ3 H3 n3
   exact⟨m',hm,σ3,H3,I3,w3⟩
  |cont=>
   obtain⟨σ3,H3,I3,n3⟩:=q3
   obtain⟨m',hm,w3⟩:=hN σ3 H3 n3
   exact⟨m',hm,σ3,H3,I3,w3⟩
  |brk=>exact q3
  |ret v=>exact q3
 |false=>
  rw[if_neg dm]
  exact qU ⟨σ1,H2,I2,q2⟩
end
structure It where
 go:Nat->Hp->Prop
 yld:Nat->Hp->V->Hp->Prop
 stop:Nat->Hp->Prop
def d4(X:Cx)(pins:List (Addr×aI))(H:Hp)(b:Addr):Prop:=
 H b=none/\b≠X.env.locals/\b∉X.fs/\(b∈X.ex\/X.s₀.heap.objs.size<=b)/\(∀x c,X.env.cells.lookup x=some c->c≠b)/\∀p∈X.pn++pins,p.1≠b
theorem Inv.fpOk{X:Cx}{pins:List (Addr×aI)}{σ:St}{H H':Hp}{s:ah}{b:Addr}(I:Inv X pins σ H s)(hb:s.heap.objs.size<=b)(hn:H' b=none):d4 X pins H' b:=by
 refine⟨hn,ji (eX I.lt hb),I.nofs hb,.inr (dJ I.sz hb),fun x c e z=>?_,fun p hp z=>?_⟩
 ·obtain⟨v,q⟩:=I.cell x c e
  exact absurd (eX q.lt (by rw[z];exact hb)) (ku _)
 ·exact absurd (eX (bm (I.pin p hp).1) (by rw[z];exact hb)) (ku _)
structure jr(P:aP)(w:aH)(K:aB)(tg:Expr)(J:It)(fp:List Addr)(it:Addr)(tn:Nat->aA->Prop):Prop where
 mem:it∈fp
 obj:∀i h,tn i h->∀b∈fp,∃o,h.get? b=some o/\∀v,o.data≠ .cell v
 keep:∀i h h',tn i h->(∀b∈fp,∀o,h.get? b=some o->h'.get? b=some o)->tn i h'
 item:∀(X:Cx),X.prog=P->X.w=w->X.K=K->X.calm=true->∀(i:Nat)(pins:List (Addr×aI))(s:ah)(σ:St)(H:Hp)(E:aa->ah->Prop),Inv X pins σ H s->(∀b∈fp,d4 X pins H b)->tn i s.heap->J.go i H->
  wpAny (model P w) X.A (pyNext (.ref it)) (fun r s1=>∃u,r=some u/\
   wpAny (model P w) X.A (letOwnedTupleGo tg (.ref it) u) (fun _ s2=>∃x H',Inv X pins σ H' s2/\aW x u/\J.yld i H x H'/\tn (i+1) s2.heap/\∀b∈fp,H' b=none) E s1) E s
 done:∀(X:Cx),X.prog=P->X.w=w->X.K=K->X.calm=true->∀(i:Nat)(pins:List (Addr×aI))(s:ah)(σ:St)(H:Hp)(E:aa->ah->Prop),Inv X pins σ H s->(∀b∈fp,d4 X pins H b)->tn i s.heap->J.stop i H->
  wpAny (model P w) X.A (pyNext (.ref it)) (fun r s1=>r=none/\Inv X pins σ H s1) E s
 self:∀(A:bx)(i:Nat)(s:ah)(Q:aa->ah->Prop)(E:aa->ah->Prop),tn i s.heap->Q (.ref it) s->wpAny (model P w) A (pyIter (.ref it)) Q E s
abbrev TI:=St->Hp->(It->Hp->Prop)->Prop
def AL(X:Cx)(pins:List (Addr×aI))(σ:St)(tg:Expr)(R:It->Hp->Prop)(itv:aa)(s2:ah):Prop:=
 ∃(it:Addr)(fp:List Addr)(tn:Nat->aA->Prop)(J:It)(H':Hp),itv= .ref it/\Inv X pins σ H' s2/\jr X.prog X.w X.K tg J fp it tn/\tn 0 s2.heap/\(∀b∈fp,d4 X pins H' b)/\R J H'
def PI(X:Cx)(tg iter:Expr)(wi:TI):Prop:=
 ∀(pins:List (Addr×aI))(s:ah)(σ:St)(H:Hp)(R:It->Hp->Prop),Inv X pins σ H s->wi σ H R->
  wpAny (model X.prog X.w) X.A (eval iter X.env) (fun v s1=>wpAny (model X.prog X.w) X.A (pyIter v) (AL X pins σ tg R) X.xe s1) X.xe s
theorem pN{M:Model}{A:bx}{E:aa->ah->Prop}{s:ah}{tg:Expr}{it:Addr}{u:aa}{o:aI}{n:String}{vs:Array aa}{Q:Unit->ah->Prop}(ho:s.heap.get? it=some o)(hc:o.cls= .type n)(hd:o.data= .fields vs)
 (hn:["enumerate","zip","dict_itemiterator","dict_reverseitemiterator","odict_iterator","itertools.zip_longest","itertools.pairwise"].contains n=false) (hQ:Q () s):wpAny M A (letOwnedTupleGo tg (.ref it) u) Q E s:=by
 unfold letOwnedTupleGo
 cases tg<;>first
  |exact aR hQ
  |(cases u<;>first
       |exact aR hQ
       |(refine ai (wpAny_load ho ?_)
         rw[hc,hd]
         show wpAny M A (if (["enumerate","zip","dict_itemiterator","dict_reverseitemiterator","odict_iterator","itertools.zip_longest","itertools.pairwise"].contains n&&vs[0]?==some (rawInt _))=true then _ else _) Q E s
         rw[if_neg (by intro h;rw[hn,Bool.false_and]at h;cases h)]
         exact aR hQ))
def lK(K:aB)(a:Addr):It:=
 ⟨fun i H=>∃xs x,ak K H a xs/\xs[i]?=some x,fun i H x H'=>H'=H/\∀xs,ak K H a xs->xs[i]?=some x,fun i H=>∃xs,ak K H a xs/\xs.length<=i⟩
def jN(lo:Int)(n:Nat):It:=⟨fun i _=>i<n,fun i H x H'=>H'=H/\x= .int (lo+i),fun i _=>n<=i⟩
theorem Gs{P:aP}{w:aH}{K:aB}{tg:Expr}(a it:Addr):jr P w K tg (lK K a) [it] it (fun i h=>h.IsListIter it a i) where
 mem:=by simp
 obj:=fun i h st b hb=>by
  have e:b=it:=by simpa using hb
  subst e
  obtain⟨o,e,c,d⟩:=st
  exact⟨o,e,fun v z=>by rw[d]at z;cases z⟩
 keep:=fun i h h' st k=>st.at fun o e=>k it (by simp) o e
 item:=by
  intro X hP hw hK hc i pins s σ H E I hf st hg
  subst hP hw hK
  obtain⟨xs,x,hq,hx⟩:=hg
  obtain⟨its,rv,p,hz⟩:=I.list hq
  obtain⟨u,hu,ru⟩:=rv.get hx
  obtain⟨f0,f1,f2,f3,f4,f5⟩:=hf it (by simp)
  refine yE st p.isList (x:=u) (by simpa using hu) fun h' st' sb=>?_
  have I1:Inv X pins σ H { s with heap:=h'}:=I.turned (t':=s.toks) (fun b o hb e=>(sb.2 b hb).trans e) f0 f1 f3 f4 f5
  obtain⟨o,e,c,d⟩:=id st'
  exact⟨u,rfl,pN (s:={ s with heap:=h'}) e c d (by decide) ⟨x,H,I1,ru,⟨rfl,fun ys hy=>by rw[I.list_inj hy hq];exact hx⟩,st',fun b hb=>(hf b hb).1⟩⟩
 done:=by
  intro X hP hw hK hc i pins s σ H E I hf st hg
  subst hP hw hK
  obtain⟨xs,hq,hx⟩:=hg
  obtain⟨its,rv,p,hz⟩:=I.list hq
  obtain⟨f0,f1,f2,f3,f4,f5⟩:=hf it (by simp)
  have hl:=rv.length
  exact yF (I.ok.hd hc) st p.isList (by simp;omega) fun h' eb=>⟨rfl,I.turned (t':=s.toks) (fun b o hb e=>eb b o hb e) f0 f1 f3 f4 f5⟩
 self:=fun _ _ _ _ _ st h=>wpAny_pyIter_listiter st h
theorem Gu{P:aP}{w:aH}{K:aB}{tg:Expr}(it:Addr)(lo:Int)(n:Nat):jr P w K tg (jN lo n) [it] it (fun i h=>IsRangeIter h it (lo+(i:Nat) * 1) ((n:Int) - (i:Nat)) 1) where
 mem:=by simp
 obj:=fun i h st b hb=>by
  have e:b=it:=by simpa using hb
  subst e
  exact⟨_,st,fun v z=>by
    have z':km.fields _=km.cell v:=z
    cases z'⟩
 keep:=fun i h h' st k=>k it (by simp) _ st
 item:=by
  intro X hP hw hK hc i pins s σ H E I hf st hg
  subst hP hw hK
  obtain⟨f0,f1,f2,f3,f4,f5⟩:=hf it (by simp)
  have W:=Walks.range (prog:=X.prog) (w:=X.w) (I.ok.hd hc) it lo 1 n
  refine W.item i s _ _ hg st fun v h' tk hv st' kk=>?_
  obtain⟨t,rfl⟩:=hv
  have I1:Inv X pins σ H { s with heap:=h',toks:=tk}:=I.turned (fun b o hb e=>kk b o (by simpa using hb) e) f0 f1 f3 f4 f5
  refine⟨_,rfl,pN (s:={ s with heap:=h',toks:=tk}) (n:="range_iterator") st' rfl rfl (by decide) ⟨.int (lo+i),H,I1,⟨t,?_⟩,⟨rfl,rfl⟩,st',fun b hb=>(hf b hb).1⟩⟩
  rw[vH]
 done:=by
  intro X hP hw hK hc i pins s σ H E I hf st hg
  subst hP hw hK
  obtain⟨f0,f1,f2,f3,f4,f5⟩:=hf it (by simp)
  exact wpAny_pyNext_range_end (I.ok.hd hc) st (by have:n<=i:=hg;omega) fun h' eb=>⟨rfl,I.turned (t':=s.toks) (fun b o hb e=>eb b o hb e) f0 f1 f3 f4 f5⟩
 self:=fun _ _ _ _ _ st h=>wpAny_pyIter_rangeiter st h
section
variable{X:Cx}{tg:Expr}
def Gv(K:aB)(tl:TE):TI:=fun σ H R=>tl σ H fun x H1=>∃a,x= .ref a/\(∃xs,ak K H1 a xs)/\R (lK K a) H1
theorem fi{l:Expr}{tl:TE}(hl:PE X l tl):PI X tg l (Gv X.K tl):=by
 intro pins s σ H R I h
 refine aL (hl pins s σ H _ I h) fun v s1 ⟨x,H1,I1,r1,q1⟩=>?_
 obtain⟨a,e,⟨xs,hq⟩,q⟩:=q1
 subst e
 cases r1
 obtain⟨its,rv,p,hz⟩:=I1.list hq
 refine yG p.isList ?_
 refine⟨s1.heap.objs.size,[s1.heap.objs.size],_,_,H1,rfl,I1.kept (t':=s1.toks) fun b o e=>br _ e,Gs a _,⟨_,bY _ rfl,rfl,rfl⟩,fun b hb=>?_,q⟩
 have e:b=s1.heap.objs.size:=by simpa using hb
 subst e
 exact I1.fpOk (aJ _) (I1.hok.fresh (aJ _))
theorem AM{pins:List (Addr×aI)}{σ:St}{H:Hp}{s:ah}{R:It->Hp->Prop}{E:aa->ah->Prop}{lo hi:Int}{t u v:Tok}{tk:Nat}(I:Inv X pins σ H s)(h1: -(2 ^ 62)<=lo)(h2:lo<2 ^ 62)(h3: -(2 ^ 62)<=hi)(h4:hi<2 ^ 62)
 (q:R (jN lo (hi - lo).toNat) H):wpAny (model X.prog X.w) X.A (pyIter (.ref s.heap.objs.size)) (AL X pins σ tg R) E { s with heap:=s.heap.push { cls:= .type "range",data:= .fields #[.int lo t,.int hi u,.int 1 v]},toks:=tk}:=by
 refine wpAny_pyIter_range (IsRange.new ..) (small_one h1 h2 h3 h4) ?_
 have I1:Inv X pins σ H { s with heap:=s.heap.push { cls:= .type "range",data:= .fields #[.int lo t,.int hi u,.int 1 v]},toks:=tk}:=I.kept fun b o e=>br _ e
 refine⟨(s.heap.push { cls:= .type "range",data:= .fields #[.int lo t,.int hi u,.int 1 v]}).objs.size,[(s.heap.push { cls:= .type "range",data:= .fields #[.int lo t,.int hi u,.int 1 v]}).objs.size],_,_,H,rfl,
  I1.kept (t':=tk) fun b o e=>br _ e,Gu _ lo (hi - lo).toNat,?_,fun b hb=>?_,q⟩
 ·have e1:lo+((0:Nat):Int) * 1=lo:=by simp
  have e2:(((hi - lo).toNat:Nat):Int) - ((0:Nat):Int)=dA.Range.rangeSize lo hi 1:=by rw[rangeSize_one];split<;>omega
  show IsRangeIter _ _ (lo+((0:Nat):Int) * 1) ((((hi - lo).toNat:Nat):Int) - ((0:Nat):Int)) 1
  rw[e1,e2]
  exact bY _ rfl
 ·have e:b=(s.heap.push { cls:= .type "range",data:= .fields #[.int lo t,.int hi u,.int 1 v]}).objs.size:=by simpa using hb
  subst e
  exact I1.fpOk (aJ _) (I1.hok.fresh (aJ _))
def Gw(ta:TA):TI:=fun σ H R=>ta σ H fun vs H1=>∃j:Int,vs=[.int j]/\ -(2 ^ 62)<=j/\j<2 ^ 62/\R (jN 0 j.toNat) H1
def Gx(ta:TA):TI:=fun σ H R=>ta σ H fun vs H1=>∃i j:Int,vs=[.int i,.int j]/\(-(2 ^ 62)<=i/\i<2 ^ 62/\ -(2 ^ 62)<=j/\j<2 ^ 62)/\R (jN i (j - i).toNat) H1
theorem kN{a:Expr}{ta:TA}{p pos:Pos}(hg:Gl X "range")(hm:X.mg "range"=none)(ha:PA X [a] ta)(hs:starEach [a] X.env=[(false,eval a X.env)]:=by rfl):PI X tg (.Call (.Name "range" p) [a] [] pos) (Gw ta):=by
 intro pins s σ H R I h
 refine Call_ (gg I hg hm boot_range (gW (aL (ha pos pins s σ H _ I h) fun us s1 ⟨vs,H1,I1,r1,q1⟩=>?_) hs rfl))
 obtain⟨j,e,q1,q2,q⟩:=q1
 subst e
 cases r1 with
 |cons r rr=>
  cases rr
  obtain⟨t,rfl⟩:=r
  exact call_range_1 (AM I1 (by omega) (by omega) q1 q2 (by simpa using q))
theorem Gy{a b:Expr}{ta:TA}{p pos:Pos}(hg:Gl X "range")(hm:X.mg "range"=none)(ha:PA X [a,b] ta)(hs:starEach [a,b] X.env=[(false,eval a X.env),(false,eval b X.env)]:=by rfl)(hs2:starEach [b] X.env=[(false,eval b X.env)]:=by rfl):
 PI X tg (.Call (.Name "range" p) [a,b] [] pos) (Gx ta):=by
 intro pins s σ H R I h
 refine Call_ (gg I hg hm boot_range (gW (aL (ha pos pins s σ H _ I h) fun us s1 ⟨vs,H1,I1,r1,q1⟩=>?_) (by rw[hs,hs2]) (by rw[hs2];rfl)))
 obtain⟨i,j,e,⟨q1,q2,q3,q4⟩,q⟩:=q1
 subst e
 cases r1 with
 |cons r rr=>
  cases rr with
  |cons r' rr=>
   cases rr
   obtain⟨t,rfl⟩:=r
   obtain⟨t',rfl⟩:=r'
   exact call_range_2 (AM I1 q1 q2 q3 q4 q)
def Gz(wi:TI)(g:TG)(tb:TS):TS:=fun D σ H=>wi σ H fun J H1=>∃W:Nat->Nat->St->Hp->Prop,(∃m,W 0 m σ H1)/\∀i m σ H,W i m σ H->
 (J.stop i H/\D.nx σ H)\/(J.go i H/\∃N:St->Hp->Prop,(∀σ' H',N σ' H'->∃m',m'<m/\W (i+1) m' σ' H')/\∀x H',J.yld i H x H'->g x σ H' fun σ2 H2=>tb { D with nx:=N,ct:=N,bk:=D.nx} σ2 H2)
def pO(fp:List Addr)(h:aA):List (Addr×aI):=fp.filterMap fun b=>(h.get? b).map fun o=>(b,o)
theorem so{fp:List Addr}{h:aA}{b:Addr}{o:aI}(hb:b∈fp)(e:h.get? b=some o):(b,o)∈pO fp h:=zi.mpr ⟨b,hb,by rw[e];rfl⟩
theorem GA{fp:List Addr}{h:aA}{p:Addr×aI}(hp:p∈pO fp h):p.1∈fp/\h.get? p.1=some p.2:=by
 obtain⟨b,hb,e⟩:=zi.mp hp
 cases q:h.get? b with
 |none=>rw[q]at e;cases e
 |some o=>
  rw[q]at e
  have e':(b,o)=p:=cQ e
  subst e'
  exact⟨hb,q⟩
theorem Inv.pinned{pins:List (Addr×aI)}{σ:St}{H:Hp}{s:ah}{fp:List Addr}(I:Inv X pins σ H s)(hf:∀b∈fp,d4 X pins H b)(ho:∀b∈fp,∃o,s.heap.get? b=some o/\∀v,o.data≠ .cell v):Inv X (pins++pO fp s.heap) σ H s:=
 I.pins_of fun p hp=>(bR.mp hp).elim (fun z=>I.pin p (eK _ z)) fun z=>by
  obtain⟨hb,e⟩:=GA z
  obtain⟨f0,f1,f2,_⟩:=hf p.1 hb
  obtain⟨o,e',d⟩:=ho p.1 hb
  rw[e]at e';cases e'
  exact⟨e,f0,f1,f2,d⟩
theorem Inv.unpinned{pins pl:List (Addr×aI)}{σ:St}{H:Hp}{s:ah}(I:Inv X (pins++pl) σ H s):Inv X pins σ H s:=I.pins_of fun p hp=>I.pin p (eK _ (eJ _ hp))
theorem dM{iter:Expr}{body:List Stmt}{wi:TI}{g:TG}{tb:TS}{pos:Pos}(hp:PassesOwn (model X.prog X.w) X.A X.env X.xe)(hc:X.calm=true)(hi:PI X tg iter wi)(hg:PG X tg g)(hb:gf X body tb)
 (hs:∀x,foldedSetIterable iter X.env x=pure x:=by intro _;rfl):PS X (.For tg iter body [] pos) (Gz wi g tb):=by
 intro pins s σ H D I h
 refine wpAny_For (aL (hi pins s σ H _ I h) fun v s1 h1=>aL h1 fun itv s2 h2=>?_) hs
 obtain⟨it,fp,tn,J,H2,e,I2,T,st2,f2,W,⟨m0,w0⟩,turn⟩:=h2
 subst e
 have stat:∀{H':Hp},(∀b∈fp,H' b=none)->∀b∈fp,d4 X pins H' b:=fun hn b hb=>⟨hn b hb,(f2 b hb).2⟩
 refine codeAny_forLoop_any (fun n s'=>∃i σ' H',Inv X pins σ' H' s'/\tn i s'.heap/\(∀b∈fp,H' b=none)/\W i n σ' H') ?_ m0 ⟨0,σ,H2,I2,st2,fun b hb=>(f2 b hb).1,w0⟩
 rintro n s3 ⟨i,σ3,H3,I3,st3,fr3,w3⟩
 rcases turn i n σ3 H3 w3 with⟨stop,qn⟩|⟨go,N,hN,step⟩
 ·refine lx hp (aL (T.done X rfl rfl rfl hc i pins s3 σ3 H3 X.xe I3 (stat fr3) st3 stop) fun r s4 ⟨hr,I4⟩=>?_)
  subst hr
  exact qU ⟨σ3,H3,I4,qn⟩
 ·refine lx hp (aL (T.item X rfl rfl rfl hc i pins s3 σ3 H3 X.xe I3 (stat fr3) st3 go) fun r s4 ⟨u,hr,h4⟩=>?_)
  subst hr
  refine lx hp (aL h4 fun _ s5 ⟨x,H5,I5,r5,y5,st5,fr5⟩=>?_)
  have I5':=I5.pinned (stat fr5) (T.obj _ _ st5)
  refine lx hp (aL (hg _ s5 σ3 H5 x u _ I5' r5 (step x H5 y5)) fun _ s6 ⟨σ6,H6,I6,q6⟩=>?_)
  refine lx hp (aL (hb _ s6 σ6 H6 _ I6 q6) fun f s7 q7=>?_)
  have again:∀{σ7:St}{H7:Hp},Inv X (pins++pO fp s5.heap) σ7 H7 s7->N σ7 H7->∃m,m<n/\∃i σ' H',Inv X pins σ' H' s7/\tn i s7.heap/\(∀b∈fp,H' b=none)/\W i m σ' H':=fun {σ7 H7} I7 n7=>by
   obtain⟨m',hm,w7⟩:=hN σ7 H7 n7
   refine⟨m',hm,i+1,σ7,H7,I7.unpinned,T.keep _ _ _ st5 fun b hb o e=>(I7.pin (b,o) (eK _ (eK _ (so hb e)))).1,fun b hb=>?_,w7⟩
   obtain⟨o,e,d⟩:=T.obj _ _ st5 b hb
   exact(I7.pin (b,o) (eK _ (eK _ (so hb e)))).2.1
  cases f with
  |next=>obtain⟨σ7,H7,I7,n7⟩:=q7;exact again I7 n7
  |cont=>obtain⟨σ7,H7,I7,n7⟩:=q7;exact again I7 n7
  |brk=>obtain⟨σ7,H7,I7,q7⟩:=q7;exact⟨σ7,H7,I7.unpinned,q7⟩
  |ret v=>obtain⟨x7,σ7,H7,I7,r7,q7⟩:=q7;exact⟨x7,σ7,H7,I7.unpinned,r7,q7⟩
end
theorem iw{K:aB}{a:Addr}{xs:List V}{g:TG}{tb:TS}{D:dE}{σ:St}{H:Hp}(Pv:Nat->St->Hp->Prop)(h0:Pv 0 σ H)(hl:∀i σ H,i<=xs.length->Pv i σ H->ak K H a xs)
 (hs:∀i x σ H,xs[i]?=some x->Pv i σ H->g x σ H fun σ2 H2=>tb { D with nx:=Pv (i+1),ct:=Pv (i+1),bk:=D.nx} σ2 H2) (hd:∀σ H,Pv xs.length σ H->D.nx σ H):
 ∃W:Nat->Nat->St->Hp->Prop,(∃m,W 0 m σ H)/\∀i m σ H,W i m σ H->
  ((lK K a).stop i H/\D.nx σ H)\/((lK K a).go i H/\∃N:St->Hp->Prop,(∀σ' H',N σ' H'->∃m',m'<m/\W (i+1) m' σ' H')/\∀x H',(lK K a).yld i H x H'->g x σ H' fun σ2 H2=>tb { D with nx:=N,ct:=N,bk:=D.nx} σ2 H2):=by
 refine⟨fun i m σ H=>m=xs.length - i/\i<=xs.length/\Pv i σ H,⟨xs.length,by simp,cP _,h0⟩,?_⟩
 rintro i m σ H ⟨rfl,hi,p⟩
 have q:=hl i σ H hi p
 by_cases hlt:i<xs.length
 ·refine .inr ⟨⟨xs,xs[i],q,by simp[hlt]⟩,Pv (i+1),fun σ' H' p'=>⟨xs.length - (i+1),by omega,rfl,hlt,p'⟩,fun x H' y=>?_⟩
  obtain⟨e,y⟩:=y
  subst e
  exact hs i x σ _ (y xs q) p
 ·have e:i=xs.length:=by omega
  subst e
  exact .inl ⟨⟨xs,q,aJ _⟩,hd σ H p⟩
theorem jO{lo:Int}{n:Nat}{g:TG}{tb:TS}{D:dE}{σ:St}{H:Hp}(Pv:Nat->St->Hp->Prop)(h0:Pv 0 σ H)
 (hs:∀i σ H,i<n->Pv i σ H->g (.int (lo+i)) σ H fun σ2 H2=>tb { D with nx:=Pv (i+1),ct:=Pv (i+1),bk:=D.nx} σ2 H2) (hd:∀σ H,Pv n σ H->D.nx σ H):
 ∃W:Nat->Nat->St->Hp->Prop,(∃m,W 0 m σ H)/\∀i m σ H,W i m σ H->
  ((jN lo n).stop i H/\D.nx σ H)\/((jN lo n).go i H/\∃N:St->Hp->Prop,(∀σ' H',N σ' H'->∃m',m'<m/\W (i+1) m' σ' H')/\∀x H',(jN lo n).yld i H x H'->g x σ H' fun σ2 H2=>tb { D with nx:=N,ct:=N,bk:=D.nx} σ2 H2):=by
 refine⟨fun i m σ H=>m=n - i/\i<=n/\Pv i σ H,⟨n,by simp,cP _,h0⟩,?_⟩
 rintro i m σ H ⟨rfl,hi,p⟩
 by_cases hlt:i<n
 ·refine .inr ⟨hlt,Pv (i+1),fun σ' H' p'=>⟨n - (i+1),by omega,rfl,hlt,p'⟩,fun x H' y=>?_⟩
  obtain⟨e,y⟩:=y
  subst e y
  exact hs i σ _ hlt p
 ·have e:i=n:=by omega
  subst e
  exact .inl ⟨aJ _,hd σ H p⟩
abbrev R2:=V->V->Hp->VK->Prop
def cL(X:Cx)(f:aa->aa->Sem aa)(r:R2):Prop:=
 ∀(pins:List (Addr×aI))(s:ah)(σ:St)(H:Hp)(x y:V)(v u:aa)(Q:VK),Inv X pins σ H s->aW x v->aW y u->r x y H Q->
  wpAny (model X.prog X.w) X.A (f v u) (EP X pins σ Q) X.xe s
def fR(X:Cx)(f:aa)(r:List V->Hp->VK->Prop):Prop:=
 ∀(pins:List (Addr×aI))(s:ah)(σ:St)(H:Hp)(xs:List V)(us:List aa)(Q:VK),Inv X pins σ H s->aS xs us->r xs H Q->
  wpAny (model X.prog X.w) X.A (call f us) (EP X pins σ Q) X.xe s
def GB(X:Cx)(r:V->Hp->(Bool->Hp->Prop)->Prop):Prop:=
 ∀(pins:List (Addr×aI))(s:ah)(σ:St)(H:Hp)(x:V)(v:aa)(Q:Bool->Hp->Prop),Inv X pins σ H s->aW x v->r x H Q->
  wpAny (model X.prog X.w) X.A (truthy v) (TP X pins σ Q) X.xe s
def lM(r:R2)(ta tb:TE):TE:=fun σ H Q=>ta σ H fun x H1=>tb σ H1 fun y H2=>r x y H2 Q
inductive AN(C:Int->Int->Prop)(g:Int->Int->V)(x:V)(y:V)(H:Hp)(Q:VK):Prop
 |mk:∀i j,(x= .int i)->(y= .int j)->(C i j)->(Q (g i j) H)->AN C g x y H Q
def rI(C:Int->Int->Prop)(g:Int->Int->V):R2:=fun x y H Q=>AN C g x y H Q
inductive AO(g:Int->Int->V)(x:V)(y:V)(H:Hp)(Q:VK):Prop
 |mk:∀i j,(x= .int i)->(y= .int j)->(Q (g i j) H)->AO g x y H Q
def kO(g:Int->Int->V):R2:=fun x y H Q=>AO g x y H Q
section
variable{X:Cx}{a b c:Expr}{ta tb tc:TE}{pos:Pos}
theorem v7(ha:PE X a ta)(hb:PE X b tb){pins:List (Addr×aI)}{s:ah}{σ:St}{H:Hp}{R:V->V->Hp->Prop}(I:Inv X pins σ H s)
 (h:ta σ H fun x H1=>tb σ H1 fun y H2=>R x y H2) {Q:aa->ah->Prop} {f:aa->aa->Sem aa}
 (hf:∀v u s2 x y H2,Inv X pins σ H2 s2->aW x v->aW y u->R x y H2->wpAny (model X.prog X.w) X.A (f v u) Q X.xe s2):
 wpAny (model X.prog X.w) X.A (eval a X.env) (fun v s₁=>wpAny (model X.prog X.w) X.A (eval b X.env) (fun u s₂=>wpAny (model X.prog X.w) X.A (f v u) Q X.xe s₂) X.xe s₁) X.xe s:=by
 refine aL (ha pins s σ H _ I h) fun v s1 ⟨x,H1,I1,r1,q1⟩=>?_
 refine aL (hb pins s1 σ H1 _ I1 q1) fun u s2 ⟨y,H2,I2,r2,q2⟩=>?_
 exact hf v u s2 x y H2 I2 r1 r2 q2
theorem aZ{op:Operator}{r:R2}(ho:cL X (binaryOp op) r)(ha:PE X a ta)(hb:PE X b tb):PE X (.BinOp a op b pos) (lM r ta tb):=by
 intro pins s σ H Q I h
 exact wpAny_BinOp (v7 ha hb I h fun v u s2 x y H2 I2 rx ry q=>ho pins s2 σ H2 x y v u Q I2 rx ry q)
theorem v8{f:aa->aa->Sem aa}{C:Int->Int->Prop}{g:Int->Int->Int}
 (rule:∀(i j:Int)(t u:Tok)(s:ah)(Q:aa->ah->Prop)(E:aa->ah->Prop),C i j->Q (.int (g i j) s.toks) { s with toks:=s.toks+1}->wpAny (model X.prog X.w) X.A (f (.int i t) (.int j u)) Q E s):
 cL X f (rI C fun i j=>.int (g i j)):=by
 intro pins s σ H x y v u Q I rx ry h
 obtain⟨i,j,rfl,rfl,hc,q⟩:=h
 obtain⟨t,rfl⟩:=rx
 obtain⟨t',rfl⟩:=ry
 exact rule i j t t' s _ _ hc ⟨.int (g i j),H,I.tok _,⟨_,rfl⟩,q⟩
theorem AQ{f:aa->aa->Sem aa}{g:Int->Int->Int}
 (rule:∀(i j:Int)(t u:Tok)(s:ah)(Q:aa->ah->Prop)(E:aa->ah->Prop),Q (.int (g i j) s.toks) { s with toks:=s.toks+1}->wpAny (model X.prog X.w) X.A (f (.int i t) (.int j u)) Q E s):
 cL X f (kO fun i j=>.int (g i j)):=by
 intro pins s σ H x y v u Q I rx ry h
 obtain⟨i,j,rfl,rfl,q⟩:=h
 obtain⟨t,rfl⟩:=rx
 obtain⟨t',rfl⟩:=ry
 exact rule i j t t' s _ _ ⟨.int (g i j),H,I.tok _,⟨_,rfl⟩,q⟩
theorem sr{f:aa->aa->Sem aa}{g:Int->Int->Bool}
 (rule:∀(i j:Int)(t u:Tok)(s:ah)(Q:aa->ah->Prop)(E:aa->ah->Prop),Q (.bool (g i j)) s->wpAny (model X.prog X.w) X.A (f (.int i t) (.int j u)) Q E s):
 cL X f (kO fun i j=>.bl (g i j)):=by
 intro pins s σ H x y v u Q I rx ry h
 obtain⟨i,j,rfl,rfl,q⟩:=h
 obtain⟨t,rfl⟩:=rx
 obtain⟨t',rfl⟩:=ry
 exact rule i j t t' s _ _ ⟨.bl (g i j),H,I,rfl,q⟩
def GC(i j:Int):Prop:=0<j/\j<1073741824
def GD(i j:Int):Prop:=0<=j/\j<=1000000/\i.natAbs<2 ^ 64
theorem kP:cL X (binaryOp .Add) (kO fun i j=>.int (i+j)):=AQ fun _ _ _ _ _ _ _ q=>add_int q
theorem nu:cL X (binaryOp .Sub) (kO fun i j=>.int (i - j)):=AQ fun _ _ _ _ _ _ _ q=>sub_int q
theorem fI:cL X (binaryOp .FloorDiv) (rI GC fun i j=>.int (i / j)):=v8 fun i j _ _ _ _ _ hc q=>by
 have h1:(0:Int)<j:=hc.1
 have h2:j<1073741824:=hc.2
 exact floordiv_int (by omega) (by rw[Int.fdiv_eq_ediv_of_nonneg i (by omega)];exact q) (.inl (PyProof.noPylong_small (by omega)))
theorem dG:cL X (binaryOp .Mod) (rI (fun _ j=>0<j) fun i j=>.int (i % j)):=v8 fun i j _ _ _ _ _ hc q=>by
 have h1:(0:Int)<j:=hc
 exact mod_int' (by omega) (by rw[Int.fmod_eq_emod_of_nonneg i (by omega)];exact q)
theorem v9:cL X (binaryOp .Pow) (rI GD fun i j=>.int (i ^ j.toNat)):=v8 fun _ _ _ _ _ _ _ hc q=>pow_int_small hc.1 hc.2.1 hc.2.2 q
end
def AR:V->V->Bool
 |.non,.non=>true|.non,.int _=>true|.int _,.non=>true|.non,.bl _=>true|.bl _,.non=>true|.non,.str _=>true|.str _,.non=>true
 |.int _,.int _=>true|.bl _,.bl _=>true|.str _,.str _=>true|.byt _,.byt _=>true
 |.int _,.str _=>true|.str _,.int _=>true|.bl _,.str _=>true|.str _,.bl _=>true
 |_,_=>false
def GE:R2:=fun x y H Q=>AR x y=true/\Q (.bl (decide (x=y))) H
def GF:R2:=fun x y H Q=>AR x y=true/\Q (.bl (!decide (x=y))) H
theorem AS{i j:Int}:decide (V.int i=V.int j)=(i==j):=by
 rw[pF]
 simp
theorem AT{i j:Bool}:decide (V.bl i=V.bl j)=(i==j):=by
 rw[pF]
 simp
theorem AU{i j:ac}:decide (V.str i=V.str j)=(i==j):=by
 rw[pF]
 simp
theorem AV{i j:Array UInt8}:decide (V.byt i=V.byt j)=(i.toList==j.toList):=by
 rw[pF]
 cases i
 cases j
 simp
section
variable{X:Cx}{a b c:Expr}{ta tb tc:TE}{pos:Pos}
theorem cH{pins:List (Addr×aI)}{σ:St}{H:Hp}{s:ah}{Q:VK}{k k':Bool}(I:Inv X pins σ H s)(q:Q (.bl k) H)(e:k=k'):EP X pins σ Q (.bool k') s:=by
 subst e
 exact⟨.bl k,H,I,rfl,q⟩
theorem bM:cL X (compareOp .Eq) GE:=by
 intro pins s σ H x y v u Q I rx ry h
 obtain⟨hs,q⟩:=h
 cases x with
 |non=>
  cases rx
  cases y with
  |non=>cases ry;exact PySem.EqNone.eq_none_none (cH I q (by simp))
  |bl j=>cases ry;exact PySem.EqNone.eq_none_bool (cH I q (by simp))
  |int j=>obtain⟨t',rfl⟩:=ry;exact PySem.EqNone.eq_none_int (cH I q (by simp))
  |str j=>obtain⟨t',rfl⟩:=ry;exact PySem.EqNone.eq_none_str (cH I q (by simp))
  |_=>exact absurd (show false=true from hs) dm
 |bl i=>
  cases rx
  cases y with
  |non=>cases ry;exact PySem.EqNone.eq_bool_none (cH I q (by simp))
  |bl j=>cases ry;exact eq_bool (cH I q AT)
  |str j=>obtain⟨t',rfl⟩:=ry;exact PySem.EqMixed.eq_bool_str (cH I q (by simp))
  |_=>exact absurd (show false=true from hs) dm
 |int i=>
  obtain⟨t,rfl⟩:=rx
  cases y with
  |non=>cases ry;exact PySem.EqNone.eq_int_none (cH I q (by simp))
  |int j=>obtain⟨t',rfl⟩:=ry;exact eq_int (cH I q AS)
  |str j=>obtain⟨t',rfl⟩:=ry;exact PySem.EqMixed.eq_int_str (cH I q (by simp))
  |_=>exact absurd (show false=true from hs) dm
 |str i=>
  obtain⟨t,rfl⟩:=rx
  cases y with
  |non=>cases ry;exact PySem.EqNone.eq_str_none (cH I q (by simp))
  |bl j=>cases ry;exact PySem.EqMixed.eq_str_bool (cH I q (by simp))
  |int j=>obtain⟨t',rfl⟩:=ry;exact PySem.EqMixed.eq_str_int (cH I q (by simp))
  |str j=>obtain⟨t',rfl⟩:=ry;exact eq_str (cH I q AU)
  |_=>exact absurd (show false=true from hs) dm
 |byt i=>
  obtain⟨t,rfl⟩:=rx
  cases y with
  |byt j=>obtain⟨t',rfl⟩:=ry;exact PySem.W.eq_bytes (cH I q AV)
  |_=>exact absurd (show false=true from hs) dm
 |_=>cases y<;>exact absurd (show false=true from hs) dm
theorem eN:cL X (compareOp .NotEq) GF:=by
 intro pins s σ H x y v u Q I rx ry h
 obtain⟨hs,q⟩:=h
 cases x with
 |non=>
  cases rx
  cases y with
  |non=>cases ry;exact PySem.EqNone.ne_none_none (cH I q (by simp))
  |bl j=>cases ry;exact PySem.EqNone.ne_none_bool (cH I q (by simp))
  |int j=>obtain⟨t',rfl⟩:=ry;exact PySem.EqNone.ne_none_int (cH I q (by simp))
  |str j=>obtain⟨t',rfl⟩:=ry;exact PySem.EqNone.ne_none_str (cH I q (by simp))
  |_=>exact absurd (show false=true from hs) dm
 |bl i=>
  cases rx
  cases y with
  |non=>cases ry;exact PySem.EqNone.ne_bool_none (cH I q (by simp))
  |bl j=>cases ry;exact ne_bool (cH I q (congrArg not AT))
  |str j=>obtain⟨t',rfl⟩:=ry;exact PySem.EqMixed.ne_bool_str (cH I q (by simp))
  |_=>exact absurd (show false=true from hs) dm
 |int i=>
  obtain⟨t,rfl⟩:=rx
  cases y with
  |non=>cases ry;exact PySem.EqNone.ne_int_none (cH I q (by simp))
  |int j=>obtain⟨t',rfl⟩:=ry;exact ne_int (cH I q (congrArg not AS))
  |str j=>obtain⟨t',rfl⟩:=ry;exact PySem.EqMixed.ne_int_str (cH I q (by simp))
  |_=>exact absurd (show false=true from hs) dm
 |str i=>
  obtain⟨t,rfl⟩:=rx
  cases y with
  |non=>cases ry;exact PySem.EqNone.ne_str_none (cH I q (by simp))
  |bl j=>cases ry;exact PySem.EqMixed.ne_str_bool (cH I q (by simp))
  |int j=>obtain⟨t',rfl⟩:=ry;exact PySem.EqMixed.ne_str_int (cH I q (by simp))
  |str j=>obtain⟨t',rfl⟩:=ry;exact ne_str (cH I q (congrArg not AU))
  |_=>exact absurd (show false=true from hs) dm
 |byt i=>
  obtain⟨t,rfl⟩:=rx
  cases y with
  |byt j=>obtain⟨t',rfl⟩:=ry;exact PySem.W.ne_bytes (cH I q (congrArg not AV))
  |_=>exact absurd (show false=true from hs) dm
 |_=>cases y<;>exact absurd (show false=true from hs) dm
theorem lN:cL X (compareOp .Lt) (kO fun i j=>.bl (decide (i<j))):=sr fun _ _ _ _ _ _ _ q=>lt_int q
theorem GG:cL X (compareOp .LtE) (kO fun i j=>.bl (decide (i<=j))):=sr fun _ _ _ _ _ _ _ q=>le_int q
theorem su:cL X (compareOp .Gt) (kO fun i j=>.bl (decide (j<i))):=sr fun _ _ _ _ _ _ _ q=>gt_int q
theorem pP:cL X (compareOp .GtE) (kO fun i j=>.bl (decide (j<=i))):=sr fun _ _ _ _ _ _ _ q=>ge_int q
theorem lO:cL X (compareOp .Is) (fun x y H Q=>y= .non/\Q (.bl (decide (x= .non))) H):=by
 intro pins s σ H x y v u Q I rx ry h
 obtain⟨rfl,q⟩:=h
 cases ry
 refine is_none_gen (cH I q ?_)
 cases x<;>first
  |(cases rx;rfl)
  |(obtain⟨t,rfl⟩:=rx;rfl)
theorem nv:cL X (compareOp .IsNot) (fun x y H Q=>y= .non/\Q (.bl (!decide (x= .non))) H):=by
 intro pins s σ H x y v u Q I rx ry h
 obtain⟨rfl,q⟩:=h
 cases ry
 refine isnot_none_gen (cH I q ?_)
 cases x<;>first
  |(cases rx;rfl)
  |(obtain⟨t,rfl⟩:=rx;rfl)
theorem GH:cL X (compareOp .NotIn) (fun x y H Q=>∃i j,x= .str i/\y= .str j/\Q (.bl (!(!(vR j i 0 j.length 1).isEmpty))) H):=by
 intro pins s σ H x y v u Q I rx ry h
 obtain⟨i,j,rfl,rfl,q⟩:=h
 obtain⟨t,rfl⟩:=rx
 obtain⟨t',rfl⟩:=ry
 exact notIn_str (cH I q rfl)
theorem aC(b:Expr){op:CmpOp}(h:op≠ .In:=by decide)(h2:op≠ .NotIn:=by decide):behindInMarks op b=false:=by
 have e1:(op==CmpOp.In)=false:=by cases op<;>first|rfl|exact absurd rfl h
 have e2:(op==CmpOp.NotIn)=false:=by cases op<;>first|rfl|exact absurd rfl h2
 cases b<;>simp[behindInMarks,e1,e2]
theorem iQ{op:CmpOp}{r:R2}(ho:cL X (compareOp op) r)(ha:PE X a ta)(hb:PE X b tb)(hm:behindInMarks op b=false):PE X (.Compare a [op] [b] pos) (lM r ta tb):=by
 intro pins s σ H Q I h
 exact wpAny_Compare1 (v7 ha hb I h fun v u s2 x y H2 I2 rx ry q=>ho pins s2 σ H2 x y v u Q I2 rx ry q) hm
inductive AW(Q:Bool->Hp->Prop)(x:V)(H':Hp):Prop
 |mk:∀k,(x= .bl k)->(Q k H')->AW Q x H'
def GI(t:TE):TT:=fun σ H Q=>t σ H fun x H'=>AW Q x H'
theorem aF{op:CmpOp}{r:R2}(ho:cL X (compareOp op) r)(ha:PE X a ta)(hb:PE X b tb)(hm:behindInMarks op b=false):PT X (.Compare a [op] [b] pos) (GI (lM r ta tb)):=by
 intro pins s σ H Q I h
 refine yB (aL (ha pins s σ H _ I h) fun v s1 ⟨x,H1,I1,r1,q1⟩=>aL (hb pins s1 σ H1 _ I1 q1) fun u s2 ⟨y,H2,I2,r2,q2⟩=>
  aL (ho pins s2 σ H2 x y v u _ I2 r1 r2 q2) fun c s3 ⟨z,H3,I3,r3,k,e,q3⟩=>?_) hm
 subst e
 cases r3
 exact lv ⟨H3,I3,q3⟩
def AX(K:aB)(x:V)(H:Hp)(k:Bool):Prop:=
 match x with
 |.non=>k=false
 |.bl b=>k=b
 |.int i=>k=(i != 0)
 |.str y=>y.length<=sizeLine/\k=((y.length:Int) != 0)
 |.byt y=>y.size<=sizeLine/\k=((y.size:Int) != 0)
 |.ref p=>(∃xs,ak K H p xs/\k= !xs.isEmpty)\/(∃xs,ag K H p xs/\k= !xs.isEmpty)\/∃kvs,H p=some (.dK kvs)/\k= !kvs.isEmpty
 |_=>False
theorem GJ{κ:Type}{kvs:List (κ×V)}{vs:List (κ×aa)}(r:KV kvs vs):(!vs.isEmpty)= !kvs.isEmpty:=by
 cases r<;>rfl
theorem AY{xs:List V}{its:List aa}(r:aS xs its):(!its.toArray.isEmpty)= !xs.isEmpty:=by
 cases r<;>simp
theorem gY:(sizeLine:Nat)<2 ^ 63:=by rw[o0];decide
theorem GK:GB X (fun x H Q=>∃k,AX X.K x H k/\Q k H):=by
 intro pins s σ H x v Q I rx h
 obtain⟨k,e,q⟩:=h
 have hl:=gY
 have hs:sizeLine=16777216:=o0
 cases x with
 |non=>
  cases rx
  have e':k=false:=e
  subst e'
  exact truthy_none ⟨H,I,q⟩
 |bl b=>
  cases rx
  have e':k=b:=e
  subst e'
  exact lv ⟨H,I,q⟩
 |int i=>
  obtain⟨t,rfl⟩:=rx
  have e':k=(i != 0):=e
  subst e'
  exact PySem.P.truthy_int ⟨H,I,q⟩
 |str y=>
  obtain⟨t,rfl⟩:=rx
  obtain⟨hy,e'⟩:y.length<=sizeLine/\k=((y.length:Int) != 0):=e
  subst e'
  exact PySem.P.truthy_str (by omega) ⟨H,I.tok _,q⟩
 |byt y=>
  obtain⟨t,rfl⟩:=rx
  obtain⟨hy,e'⟩:y.size<=sizeLine/\k=((y.size:Int) != 0):=e
  subst e'
  exact PySem.W.truthy_bytes (by omega) ⟨H,I.tok _,q⟩
 |ref p=>
  cases rx
  have e':(∃xs,ak X.K H p xs/\k= !xs.isEmpty)\/(∃xs,ag X.K H p xs/\k= !xs.isEmpty)\/∃kvs,H p=some (.dK kvs)/\k= !kvs.isEmpty:=e
  rcases e' with⟨xs,hx,e'⟩|⟨xs,hx,e'⟩|⟨kvs,hx,e'⟩
  ·subst e'
   obtain⟨its,r,pl,hz⟩:=I.list hx
   have hlen:=r.length
   exact wpAny_truthy_list pl.isList (by simp only[bW];omega) ⟨H,I.tok _,by rw[AY r];exact q⟩
  ·subst e'
   obtain⟨its,r,pl,hz⟩:=I.tuple hx
   have hlen:=r.length
   exact truthy_tuple pl (by simp only[bW];omega) ⟨H,I.tok _,by rw[AY r];exact q⟩
  ·subst e'
   obtain⟨hz,hS,vs,r,m⟩:kvs.length<=sizeLine/\(p==sysModules)=false/\∃vs,KV kvs vs/\s.heap.DictOf (cR X.prog X.w) p vs:=I.hok p _ hx
   have hlen:kvs.length=vs.length:=Paired.length r
   exact wpAny_truthy_dict hS m (by omega) ⟨H,I.tok _,by rw[GJ r];exact q⟩
 |_=>exact(show False from e).elim
theorem nw(ha:PE X a ta)(he:∀whole,isTrue a X.env whole=(do let v <-whole;standAt a.pos;holding [v] (truthy v))):
 PT X a (fun σ H Q=>ta σ H fun x H'=>∃k,AX X.K x H' k/\Q k H'):=by
 intro pins s σ H Q I h
 exact isTrue_plain (aL (ha pins s σ H _ I h) fun v s1 ⟨x,H1,I1,r1,q1⟩=>GK pins s1 σ H1 x v Q I1 r1 q1) (he _)
inductive AZ(x:V)(y:V)(H:Hp)(Q:VK):Prop
 |mk:∀i j,(x= .str i)->(y= .str j)->(i.length+j.length<=sizeLine)->(Q (.str (i++j)) H)->AZ x y H Q
theorem lP:cL X (binaryOp .Add) (fun x y H Q=>AZ x y H Q):=by
 intro pins s σ H x y v u Q I rx ry h
 obtain⟨i,j,rfl,rfl,hz,q⟩:=h
 obtain⟨t,rfl⟩:=rx
 obtain⟨t',rfl⟩:=ry
 exact add_str (fun t' tk=>⟨.str (i++j),H,I.tok _,⟨_,rfl⟩,q⟩) hz
theorem ix{x:V}{us:List aa}(r:aS [x] us):∃u,us=[u]/\aW x u:=by
 cases r with
 |cons r1 r2=>cases r2;exact⟨_,rfl,r1⟩
theorem sv{x y:V}{us:List aa}(r:aS [x,y] us):∃u w',us=[u,w']/\aW x u/\aW y w':=by
 cases r with
 |cons r1 r2=>
  cases r2 with
  |cons r3 r4=>cases r4;exact⟨_,_,rfl,r1,r3⟩
inductive A0(xs:List V)(H:Hp)(Q:VK):Prop
 |mk:∀i,(xs=[.int i])->(Q (.int (if i<0 then -i else i)) H)->A0 xs H Q
theorem GL:fR X (.builtin "abs") (fun xs H Q=>A0 xs H Q):=by
 intro pins s σ H xs us Q I r h
 obtain⟨i,rfl,q⟩:=h
 obtain⟨u,rfl,t,rfl⟩:=ix r
 exact call_abs_int fun u tk=>⟨.int (if i<0 then -i else i),H,I.tok _,⟨_,rfl⟩,q⟩
theorem GM:fR X (.type "int") (fun xs H Q=>(∃i,xs=[.int i]/\Q (.int i) H)\/∃k,xs=[.bl k]/\Q (.int (if k then 1 else 0)) H):=by
 intro pins s σ H xs us Q I r h
 rcases h with⟨i,rfl,q⟩|⟨k,rfl,q⟩
 ·obtain⟨u,rfl,t,rfl⟩:=ix r
  exact call_int_int ⟨.int i,H,I,⟨_,rfl⟩,q⟩
 ·obtain⟨u,rfl,r1⟩:=ix r
  cases r1
  exact call_int_bool ⟨.int (if k then 1 else 0),H,I.tok _,⟨_,rfl⟩,q⟩
theorem GN:fR X (.type "str") (fun xs H Q=>∃i,xs=[.int i]/\i.natAbs.log2<1920/\Q (.str (toString i)) H):=by
 intro pins s σ H xs us Q I r h
 obtain⟨i,rfl,hz,q⟩:=h
 obtain⟨u,rfl,t,rfl⟩:=ix r
 exact PySem.P.str_of_int hz ⟨.str _,H,I.tok _,⟨_,rfl⟩,q⟩
end
structure lQ(h:aA)(x dx C:Addr)(mA:ac->Option aa):Prop where
 obj:h.get? x=some (kr C dx)
 ns:h.Ns1 dx mA
 ne:dx≠x
theorem GO{h:aA}{dx:Addr}{mA:ac->Option aa}(n:h.Ns1 dx mA):∃od,h.get? dx=some od/\∀name,rf name od=some (mA name):=by
 obtain⟨o,es,ep,ho,hd,hk,_,hm⟩:=n
 refine⟨o,ho,fun name=>?_⟩
 have e:=hm name
 unfold nsFind findBy at e
 rw[<-Array.find?_toList]at e
 unfold rf
 rw[hd]
 dsimp only
 split
 ·rename_i y q
  rw[q]at e
  exact congrArg some e
 ·rename_i q
  rw[q]at e
  have a:es.toList.any (·.refKey)=false:=by
   rw[List.any_eq_false]
   intro y hy
   obtain⟨z,t,hkey⟩:=hk y (Array.mem_toList_iff.mp hy)
   simp[DictEntry.refKey,hkey]
  have a':¬es.toList.any (·.refKey)=true:=by rw[a];exact dm
  rw[if_neg a']
  exact congrArg some e
theorem lQ.look{h:aA}{x dx C:Addr}{mA:ac->Option aa}(I:lQ h x dx C mA):∃od,PySem.W.InstAt h x (kr C dx) C (some od)/\∀name,rf name od=some (mA name):=
 let ⟨od,ho,hl⟩:=GO I.ns
 ⟨od,⟨I.obj,rfl,rfl,ho⟩,hl⟩
section
variable{prog:aP}{w:aH}{A:bx}{E:aa->ah->Prop}{s:ah}{K:aB}{x dx C f:Addr}{mA:ac->Option aa}{name:ac}{v:aa}
theorem GP{expr:Bool}{Q:aa->ah->Prop}(X:K.In s.heap)(I:lQ s.heap x dx C mA)(hg:pi K C name=true)(hh:rh K C=true)
 (ha:dB K (.ref C) name=some none) (hv:mA name=some v) (hv':yR v=true) (h:Q v { s with toks:=s.toks+1}):
 wpAny (model prog w) A (getAttr (.ref x) name expr) Q E s:=by
 obtain⟨od,J,hl⟩:=I.look
 exact PySem.W.get_value X J (uU hg).1 (PySem.W.findObj_own hh ha rfl (by rw[hl,hv])) hv' h
theorem GQ{pl:Sem Bool}{Q:aa×List aa->ah->Prop}(X:K.In s.heap)(I:lQ s.heap x dx C mA)(hg:pi K C name=true)
 (hf:dB K (.ref C) name=some (some (.ref f))) (ht:ga K (.ref f)=true) (hv:mA name=none) (h:Q (.ref f,[.ref x]) s):
 wpAny (model prog w) A (getMethod (.ref x) name pl) Q E s:=by
 obtain⟨od,J,hl⟩:=I.look
 exact PySem.W.method_fn X J (uU hg).1 (uU hg).2 hf (beq_iff_eq.mp ht) (by show (rf name od).map (·.isSome)=some false;rw[hl,hv];rfl) h
theorem GR{ns:List ac}{Q:Unit->ah->Prop}(X:K.In s.heap)(I:lQ s.heap x dx C mA)
 (hs:dB K (.ref C) "__setattr__"=some (some (.builtin "object.__setattr__"))) (hp:uV K C=true) (ht:uW K C name=some none) (hh:rh K C=true)
 (hw:qT mA ns) (hsz:ns.length<=sizeLine)
 (h:∀h',lQ h' x dx C (fun y=>if y=name then some v else mA y)->gT dx s.heap h'->Q () { s with heap:=h',toks:=s.toks+2}):
 wpAny (model prog w) A (setAttr (.ref x) name v) Q E s:=by
 obtain⟨od,J,hl⟩:=I.look
 refine PySem.W.set_plain X J hs (PySem.W.osa_open (s:={ s with toks:=s.toks+1}) (r:=none) X J hp ht fun b=>?_)
 obtain⟨cd,hc,hd'⟩:=PySem.W.any_some hh
 have hx:s.heap.get? x=some ⟨.ref C,some dx,.plain,#[]⟩:=I.obj
 refine ai (aR (ai (ai (wpAny_loadPart hx (ai (PySem.W.Looks.here (s:={ s with toks:=s.toks+1}) (PySem.W.looks_clsIn X hc) ?_))))))
 rw[hd']
 refine aR (a:=some dx) (ai (aR (ai ?_)))
 refine wpAny_nsSet1 (s:={ s with toks:=s.toks+1}) I.ns fun h' hn2 hs2=>?_
 obtain⟨oD,esD,epD,hoD,hdD,hcD⟩:=hn2.count (qT.cons name v hw)
 refine ai (wpAny_lookBehind hoD (by rw[hdD];exact pastItsLine_dict (dJ hcD (by rw[zLC];omega))) ?_)
 exact aR (h _ ⟨(hs2.2 _ (gc I.ne)).trans I.obj,hn2,I.ne⟩ hs2)
theorem GS{R:Result->ah->Prop}{vs:List aa}{kw:List (ac×aa)}(X:K.In s.heap)(hm:uX K C=true)
 (hi:dB K (.ref C) "__init__"=some (some (.ref f))) (hf:PySem.W.typeIn K (.ref f)=some (.type "function"))
 (h:codeAny (model prog w) (A.under (.builtin "type.__call__" ⟨.ref C::vs,kw⟩)) (.call (.ref f) ⟨.ref (s.heap.objs.size+1)::vs,kw⟩) (PySem.W.InitBack (s.heap.objs.size+1) R)
  { s with heap:=(s.heap.push jA).push (kr C s.heap.objs.size)}):
 codeAny (model prog w) A (.call (.ref C) ⟨vs,kw⟩) R s:=by
 obtain⟨hh,g,d,t,os⟩:=s
 exact PySem.W.make_core (PySem.W.makes_of X hm) (PySem.W.looks_findIn X hi) (fun self=>PySem.W.bind_fn X self hf) (.inl rfl) h
end
def cg(f:ac)(v:V):List (ac×V)->List (ac×V)
 |[]=>[(f,v)]
 |(g,x)::r=>if g=f then (g,v)::r else (g,x)::cg f v r
theorem A1(f g:ac)(v:V):∀fs:List (ac×V),(cg f v fs).lookup g=if g=f then some v else fs.lookup g
 |[]=>by
  show lC g [(f,v)]=_
  by_cases h:g=f
  ·have hb:(g==f)=true:=beq_iff_eq.mpr h
   simp only[lC,hb,if_pos h]
  ·have hb:(g==f)=false:=beq_eq_false_iff_ne.mpr h
   simp only[lC,hb,if_neg h]
 |(k,x)::r=>by
  have ih:=A1 f g v r
  rw[show cg f v ((k,x)::r)=(if k=f then (k,v)::r else (k,x)::cg f v r)from rfl]
  by_cases hk:k=f
  ·rw[if_pos hk]
   by_cases h:g=k
   ·have hb:(g==k)=true:=beq_iff_eq.mpr h
    simp only[lC,hb,if_pos (h.trans hk)]
   ·have hb:(g==k)=false:=beq_eq_false_iff_ne.mpr h
    simp only[lC,hb,if_neg (fun e:g=f=>h (e.trans hk.symm))]
  ·rw[if_neg hk]
   by_cases h:g=k
   ·have hb:(g==k)=true:=beq_iff_eq.mpr h
    simp only[lC,hb,if_neg (fun e:g=f=>hk (h.symm.trans e))]
   ·have hb:(g==k)=false:=beq_eq_false_iff_ne.mpr h
    simp only[lC,hb]
    exact ih
theorem wa(f:ac)(v:V):∀fs:List (ac×V),f∈(cg f v fs).map (·.1)/\∀g,g∈fs.map (·.1)->g∈(cg f v fs).map (·.1)
 |[]=>⟨by simp[cg],fun g h=>by simp at h⟩
 |(k,x)::r=>by
  obtain⟨i1,i2⟩:=wa f v r
  rw[show cg f v ((k,x)::r)=(if k=f then (k,v)::r else (k,x)::cg f v r)from rfl]
  by_cases hk:k=f
  ·rw[if_pos hk]
   subst hk
   exact⟨by simp,fun g h=>by simpa using h⟩
  ·rw[if_neg hk]
   refine⟨?_,fun g h=>?_⟩
   ·rw[bP]
    exact dC _ i1
   ·rw[bP]at h |-
    rcases bF.mp h with e|e
    ·exact bF.mpr (.inl e)
    ·exact dC _ (i2 g e)
theorem pQ(f:ac)(v:V):∀fs:List (ac×V),(cg f v fs).length<=fs.length+1
 |[]=>by simp[cg]
 |(k,x)::r=>by
  have ih:=pQ f v r
  rw[show cg f v ((k,x)::r)=(if k=f then (k,v)::r else (k,x)::cg f v r)from rfl]
  by_cases hk:k=f
  ·rw[if_pos hk,zLC,zLC];omega
  ·rw[if_neg hk,zLC,zLC];omega
theorem fh.some_of{v:V}{o:Option aa}(r:fh (some v) o):∃u,o=some u/\aW v u:=by
 cases o with
 |none=>exact(show False from r).elim
 |some u=>exact⟨u,rfl,r⟩
theorem fh.none_of{o:Option aa}(r:fh none o):o=none:=by
 cases o with
 |none=>rfl
 |some u=>exact(show False from r).elim
theorem GT{v:V}{u:aa}(r:aW v u):yR u=true:=by
 cases v with
 |non=>cases (show u=aa.none from r);rfl
 |bl b=>cases (show u=aa.bool b from r);rfl
 |int i=>obtain⟨t,e⟩:=(show ∃t,u=aa.int i t from r);cases e;rfl
 |str x=>obtain⟨t,e⟩:=(show ∃t,u=aa.str x t from r);cases e;rfl
 |byt b=>obtain⟨t,e⟩:=(show ∃t,u=aa.bytes b t from r);cases e;rfl
 |flt b=>obtain⟨t,e⟩:=(show ∃t,u=aa.float b t from r);cases e;rfl
 |ref a=>cases (show u=aa.ref a from r);rfl
 |ty n=>cases (show u=aa.type n from r);rfl
section
variable{P:aP}{w:aH}{H H':Hp}{h h':aA}{a C dx:Addr}{fs fs':List (ac×V)}
theorem sw(hok:cA P w H h)(e:H a=some (.ins C dx fs)):∃mA,lQ h a dx C mA/\(∀f,fh (fs.lookup f) (mA f))/\qT mA (fs.map (·.1))/\fs.length<=1000/\H dx=some (.own a):=by
 obtain⟨d,z,ne,ob,mA,n,r,q⟩:=(show cu P w H h a (.ins C dx fs)from hok a _ e)
 exact⟨mA,⟨ob,n,ne⟩,r,q,z,d⟩
end
structure iy(K:aB)(C:Addr):Prop where
 pg:pi K C ac.empty=true
 hd:rh K C=true
 po:uV K C=true
 sa:dB K (.ref C) "__setattr__"=some (some (.builtin "object.__setattr__"))
theorem iy.get{K:aB}{C:Addr}(c:iy K C)(f:ac):pi K C f=true:=c.pg
def jP(K:aB)(C:Addr)(f:ac):Prop:=dB K (.ref C) f=some none
theorem jP.taker{K:aB}{C:Addr}{f:ac}(n:jP K C f):uW K C f=some none:=by
 unfold uW
 rw[show dB K (.ref C) f=some none from n]
 rfl
structure sy(K:aB)(C:Addr)(m:ac)(f:Addr):Prop where
 at_:dB K (.ref C) m=some (some (.ref f))
 fn:ga K (.ref f)=true
 kp:bn K (.ref f)=true
section
variable{X:Cx}{pins:List (Addr×aI)}{σ:St}{H:Hp}{s:ah}{a C dx:Addr}{fs:List (ac×V)}{f:ac}{v:V}{A:bx}{E:aa->ah->Prop}
theorem GU{b:Bool}{Q:aa->ah->Prop}(I:Inv X pins σ H s)(e:H a=some (.ins C dx fs))(c:iy X.K C)(n:jP X.K C f)(l:fs.lookup f=some v)
 (h:∀u s',Inv X pins σ H s'->aW v u->Q u s'):wpAny (model X.prog X.w) A (getAttr (.ref a) f b) Q E s:=by
 obtain⟨mA,O,r,_,_,_⟩:=sw I.hok e
 obtain⟨u,hu,ru⟩:=fh.some_of (v:=v) (o:=mA f) (by rw[<-l];exact r f)
 exact GP I.kIn O (c.get f) c.hd n hu (GT ru) (h u _ (I.tok _) ru)
theorem A2{m:ac}{g:Addr}{pl:Sem Bool}{Q:aa×List aa->ah->Prop}(I:Inv X pins σ H s)(e:H a=some (.ins C dx fs))(c:iy X.K C)(k:sy X.K C m g)(l:fs.lookup m=none)
 (h:Q (.ref g,[.ref a]) s):wpAny (model X.prog X.w) A (getMethod (.ref a) m pl) Q E s:=by
 obtain⟨mA,O,r,_,_,_⟩:=sw I.hok e
 have hn:mA m=none:=fh.none_of (by rw[<-l];exact r m)
 exact GQ I.kIn O (c.get m) k.at_ k.fn hn h
theorem GV{y:V}{u:aa}{Q:Unit->ah->Prop}(I:Inv X pins σ H s)(e:H a=some (.ins C dx fs))(c:iy X.K C)(n:jP X.K C f)(hl:fs.length<1000)(ry:aW y u)
 (h:∀s',Inv X pins σ (ae H a (.ins C dx (cg f y fs))) s'->Q () s'):wpAny (model X.prog X.w) A (setAttr (.ref a) f u) Q E s:=by
 obtain⟨mA,O,r,wi,_,ho⟩:=sw I.hok e
 have hz:(fs.map (·.1)).length<=sizeLine:=by rw[zLM,o0];omega
 refine GR I.kIn O c.sa c.po n.taker c.hd wi hz fun h' O' sb=>h _ ?_
 have hd:∃o,h'.get? dx=some o:=let ⟨o,_,_,e',_⟩:=O'.ns;⟨o,e'⟩
 refine I.write (x:=a) (e:=dx) (by rw[e];exact True.intro) (.inr ho) (fun b q hb z=>(sb.2 b hb).trans z) hd ?_
 refine⟨by rw[am O.ne];exact ho,?_,O.ne,O'.obj,_,O'.ns,fun g=>?_,fun g hg=>?_⟩
 ·have:=pQ f y fs;omega
 ·show fh ((cg f y fs).lookup g) (if g=f then some u else mA g)
  rw[A1]
  by_cases q:g=f
  ·rw[if_pos q,if_pos q];exact ry
  ·rw[if_neg q,if_neg q];exact r g
 ·by_cases q:g=f
  ·rw[q];exact(wa f y fs).1
  ·refine(wa f y fs).2 g (wi g fun z=>hg ?_)
   show (if g=f then some u else mA g)=none
   rw[if_neg q];exact z
theorem Inv.made(I:Inv X pins σ H s):Inv X pins σ (ae (ae H s.heap.objs.size (.own (s.heap.objs.size+1))) (s.heap.objs.size+1) (.ins C s.heap.objs.size []))
 { s with heap:=(s.heap.push jA).push (kr C s.heap.objs.size)}:=by
 have e1:(s.heap.push jA).get? s.heap.objs.size=some jA:=bY s.heap rfl
 have e2:((s.heap.push jA).push (kr C s.heap.objs.size)).get? (s.heap.objs.size+1)=some (kr C s.heap.objs.size):=by
  have:=bY (s.heap.push jA) (o:=kr C s.heap.objs.size) rfl
  rwa [ip]at this
 have e3:(s.heap.push jA).Ns s.heap.objs.size (fun _=>none):=⟨jA,#[],_,e1,rfl,(fun e he=>absurd he (by simp)),fun _=>rfl⟩
 have I1:=I.laid (a:=s.heap.objs.size) (o:= .own (s.heap.objs.size+1)) (h':=s.heap.push jA) (t':=s.toks) (fun b u q=>br _ q) (aJ _) ⟨_,e1⟩
 refine I1.laid (a:=s.heap.objs.size+1) (o:= .ins C s.heap.objs.size []) (t':=s.toks) (fun b u q=>br _ q) (u3 (ip _ _)) ?_
 have ne:s.heap.objs.size≠s.heap.objs.size+1:=cJ (y9 _)
 refine⟨by rw[am ne,au],cP _,ne,e2,fun _=>none,(aA.Ns1.of_empty e3).at fun o q=>br _ q,fun _=>True.intro,fun y hy=>absurd rfl hy⟩
theorem GW{prog:aP}{w:aH}{env:Env}{e:Expr}{f:ac}{pos:Pos}{s:ah}{Q:aa->ah->Prop}(hb:attributeBase e f env (eval e env)=eval e env)
 (h:wpAny (model prog w) A (eval e env) (fun o s₁=>wpAny (model prog w) A (getAttr o f true) Q E s₁) E s):wpAny (model prog w) A (eval (.Attribute e f pos) env) Q E s:=
 Attribute_any_ h (by rw[arm_eval_Attribute,hb])
end
inductive A3(K:aB)(f:ac)(Q:VK)(x:V)(H1:Hp):Prop
 |mk:∀a C dx fs v,(x= .ref a)->(H1 a=some (.ins C dx fs))->(iy K C)->(jP K C f)->(fs.lookup f=some v)->(Q v H1)->A3 K f Q x H1
def GX(K:aB)(ta:TE)(f:ac):TE:=fun σ H Q=>ta σ H fun x H1=>A3 K f Q x H1
inductive A4(K:aB)(f:ac)(D:dE)(σ:St)(y:V)(x:V)(H2:Hp):Prop
 |mk:∀a C dx fs,(x= .ref a)->(H2 a=some (.ins C dx fs))->(iy K C)->(jP K C f)->(fs.length<1000)->(D.nx σ (ae H2 a (.ins C dx (cg f y fs))))->A4 K f D σ y x H2
def GY(K:aB)(ta tv:TE)(f:ac):TS:=fun D σ H=>tv σ H fun y H1=>ta σ H1 fun x H2=>A4 K f D σ y x H2
section
variable{X:Cx}{o e value:Expr}{f:ac}{pos pos' tpos:Pos}{ta tv:TE}
theorem ef(he:PE X e ta)(hb:attributeBase e f X.env (eval e X.env)=eval e X.env):PE X (.Attribute e f pos) (GX X.K ta f):=by
 intro pins s σ H Q I h
 refine GW hb (aL (he pins s σ H _ I h) fun u s1 ⟨x,H1,I1,rx,a,C,dx,fs,v,ex,ea,c,n,l,q⟩=>?_)
 subst ex
 obtain rfl:u=aa.ref a:=rx
 exact GU I1 ea c n l fun u' s2 I2 ru=>⟨v,H1,I2,ru,q⟩
theorem sG(ha:PE X o ta)(hv:PE X value tv)(hs:swapsWith value (some (.Attribute o f pos')) pos.line X.env=pure false):PS X (.Assign [.Attribute o f pos'] value pos) (GY X.K ta tv f):=by
 intro pins s σ H D I h
 refine plainObj_wpAny_Assign_Attribute (aL (hv pins s σ H _ I h) fun u s1 ⟨y,H1,I1,ry,q⟩=>aL (ha pins s1 σ H1 _ I1 q) fun ov s2 ⟨x,H2,I2,rx,a,C,dx,fs,ex,ea,c,n,l,q2⟩=>?_) hs
 subst ex
 obtain rfl:ov=aa.ref a:=rx
 exact GV I2 ea c n l ry fun s3 I3=>⟨σ,_,I3,q2⟩
end
section
variable{X:Cx}{pins:List (Addr×aI)}{σ:St}{H:Hp}{s:ah}{A:bx}{E:aa->ah->Prop}{Q:aa->ah->Prop}{c:aa}{b:Bool}
inductive gJ(K:aB)(H:Hp):V->aa->Prop where
 |non:gJ K H .non (.type "NoneType")
 |bl (x:Bool):gJ K H (.bl x) (.type "bool")
 |int (i:Int):gJ K H (.int i) (.type "int")
 |str (x:ac):gJ K H (.str x) (.type "str")
 |flt (x:UInt64):gJ K H (.flt x) (.type "float")
 |lst {a:Addr} {xs:List V} (e:H a=some (.lst xs)):gJ K H (.ref a) (.type "list")
 |frz {a:Addr} {o:aI} {xs:List V} (e:H a=some (.frz o (.lst xs))):gJ K H (.ref a) (.type "list")
 |tup {a:Addr} {xs:List V} (e:H a=some (.tup xs)):gJ K H (.ref a) (.type "tuple")
 |dK {a:Addr} {kvs:List (Key×V)} (e:H a=some (.dK kvs)):gJ K H (.ref a) (.type "dict")
 |dT {a:Addr} {kvs:List (List Key×V)} (e:H a=some (.dT kvs)):gJ K H (.ref a) (.type "dict")
 |ins {a C dx:Addr} {fs:List (ac×V)} (e:H a=some (.ins C dx fs)) (cl:iy K C) (ha:dB K (.ref C) "__class__"=some (some (.builtin "object.__class__")))
  (hn:PySem.W.specialIn K (.builtin "object.__class__") "__get__"=some (some (.builtin "getset_descriptor.__get__"))) (htk:PySem.W.takesIn K (.builtin "object.__class__")=some true)
  (hm:PySem.W.mroIn K C (.type "object")=some true):gJ K H (.ref a) (.ref C)
theorem GZ{x:V}{u t:aa}(I:Inv X pins σ H s)(rx:aW x u)(ty:gJ X.K H x t)(e:PySem.W.kitOne X.K t c=some b)(h:∀tk,Q (.bool b) { s with toks:=tk}):
 wpAny (model X.prog X.w) A (call (.builtin "isinstance") [u,c]) Q E s:=by
 cases ty with
 |non=>cases (show u=aa.none from rx);exact iM yS I.kIn True.intro e (fun z=>nomatch z) h
 |bl y=>cases (show u=aa.bool y from rx);exact iM yT I.kIn True.intro e (fun z=>nomatch z) h
 |int i=>obtain⟨t,q⟩:=(show ∃t,u=aa.int i t from rx);cases q;exact iM yU I.kIn True.intro e (fun z=>nomatch z) h
 |str y=>obtain⟨t,q⟩:=(show ∃t,u=aa.str y t from rx);cases q;exact iM yV I.kIn True.intro e (fun z=>nomatch z) h
 |flt y=>obtain⟨t,q⟩:=(show ∃t,u=aa.float y t from rx);cases q;exact iM PySem.W.kitx_float I.kIn True.intro e (fun z=>nomatch z) h
 |@lst a xs ea=>
  cases (show u=aa.ref a from rx)
  obtain⟨_,_,n,_,h1⟩:=(show cu X.prog X.w H s.heap a (.lst xs)from I.hok a _ ea)
  exact iM rj I.kIn ⟨_,h1,rfl⟩ e (fun z=>nomatch z) h
 |@frz a ob xs ea=>
  cases (show u=aa.ref a from rx)
  obtain⟨_,_,_,n,_,h1⟩:=(show cu X.prog X.w H s.heap a (.frz ob (.lst xs))from I.hok a _ ea)
  exact iM rj I.kIn ⟨_,h1,rfl⟩ e (fun z=>nomatch z) h
 |@tup a xs ea=>
  cases (show u=aa.ref a from rx)
  obtain⟨_,_,_,p⟩:=(show cu X.prog X.w H s.heap a (.tup xs)from I.hok a _ ea)
  obtain⟨o,h1,h2,_⟩:=p
  exact iM yW I.kIn ⟨o,h1,h2⟩ e (fun z=>nomatch z) h
 |@dK a kvs ea=>
  cases (show u=aa.ref a from rx)
  obtain⟨_,_,vs,_,p⟩:=(show cu X.prog X.w H s.heap a (.dK kvs)from I.hok a _ ea)
  obtain⟨o,es,ep,h1,h2,_⟩:=p
  exact iM yX I.kIn ⟨o,h1,h2.1⟩ e (fun z=>nomatch z) h
 |@dT a kvs ea=>
  cases (show u=aa.ref a from rx)
  obtain⟨_,_,xs,_,o,es,ep,h1,h2,_⟩:=(show cu X.prog X.w H s.heap a (.dT kvs)from I.hok a _ ea)
  exact iM yX I.kIn ⟨o,h1,h2.1⟩ e (fun z=>nomatch z) h
 |@ins a C dx fs ea cl ha hn htk hm=>
  cases (show u=aa.ref a from rx)
  obtain⟨mA,O,_⟩:=sw I.hok ea
  obtain⟨od,J,_⟩:=O.look
  exact iM (PySem.W.kitx_own (cl.get _) cl.hd ha hn htk hm) I.kIn J e (fun z=>nomatch z) h
end
structure df(k:Nat)(A:bx):Prop where
 hd:A.handled=none
 dp:A.depth+3 * k+5<recursionLimit
 un:A.units+16 * k+200<cLine
theorem df.mono{j k:Nat}{A:bx}(r:df k A)(h:j<=k):df j A:=⟨r.hd,by have:=r.dp;omega,by have:=r.un;omega⟩
theorem df.deeper{k:Nat}{A:bx}(r:df (k+1) A)(env:Env):df k (A.deeper env):=
 ⟨r.hd,by have:=r.dp;show A.depth+1+3 * k+5<_;omega,by have:=r.un;show A.units+3+16 * k+200<_;omega⟩
theorem G0{A:bx}{C:Addr}{us:List aa}{kw:List (ac×aa)}:(A.under (.builtin "type.__call__" ⟨.ref C::us,kw⟩)).depth=A.depth+1:=by
 first|rfl|simp[vQ,kn.weight,kn.isCreation,kn.isGuard,kn.isCaller,kn.frames,vS,guardIds]
theorem G1{A:bx}{C:Addr}{us:List aa}{kw:List (ac×aa)}:(A.under (.builtin "type.__call__" ⟨.ref C::us,kw⟩)).units=A.units+1:=by
 first|rfl|simp[vQ,kn.cUnits,kn.frames,vS]
theorem df.make{k:Nat}{A:bx}(r:df (k+1) A)(C:Addr)(us:List aa)(kw:List (ac×aa)):df k (A.under (.builtin "type.__call__" ⟨.ref C::us,kw⟩)):=
 ⟨r.hd,by have:=r.dp;rw[G0];omega,by have:=r.un;rw[G1];omega⟩
theorem df.depth{k:Nat}{A:bx}(r:df k A):A.depth<recursionLimit:=by have:=r.dp;omega
theorem df.units0{k:Nat}{A:bx}(r:df k A):A.units<cLine:=by have:=r.un;omega
def sH:TA:=fun _ H Q=>Q [] H
def lR(ta:TE)(tr:TA):TA:=fun σ H Q=>ta σ H fun x H1=>tr σ H1 fun xs H2=>Q (x::xs) H2
section
variable{X:Cx}{e:Expr}{es:List Expr}{te:TE}{t:TA}{pos:Pos}
theorem af:PA X [] sH:=fun _ _ _ _ H Q I h=>jJ ⟨[],H,I,.nil,h⟩
theorem ad(ha:PE X e te)(hr:PA X es t)(hs:starEach (e::es) X.env=(false,eval e X.env)::starEach es X.env:=by rfl):PA X (e::es) (lR te t):=by
 intro pos pins s σ H Q I h
 rw[hs]
 show wpAny _ _ (spliced ((false,eval e X.env)::backTo pos (starEach es X.env))) _ _ s
 refine jm (aL (ha pins s σ H _ I h) fun u s1 ⟨x,H1,I1,r1,q1⟩=>?_)
 exact aL (hr pos pins s1 σ H1 _ I1 q1) fun us s2 ⟨xs,H2,I2,r2,q2⟩=>⟨x::xs,H2,I2,.cons r1 r2,q2⟩
def G2(t:TA):TE:=fun σ H Q=>t σ H fun xs H1=>xs.length<=sizeLine/\∀p,H1 p=none->Q (.ref p) (ae H1 p (.tup xs))
def A5(t:TA):TE:=fun σ H Q=>t σ H fun xs H1=>xs.length<=sizeLine/\∀p,H1 p=none->Q (.ref p) (ae H1 p (.lst xs))
theorem bN{x1}(h:PA X es t):PE X (.Tuple es x1 pos) (G2 t):=by
 intro pins s σ H Q I hq
 refine wpAny_Tuple_spliced (aL (h pos pins s σ H _ I hq) fun us s1 ⟨xs,H1,I1,r,z,q⟩=>⟨by rw[<-r.length];exact z,?_⟩)
 have hf:H1 s1.heap.objs.size=none:=I1.hok.fresh (aJ _)
 refine⟨.ref s1.heap.objs.size,ae H1 s1.heap.objs.size (.tup xs),I1.laid (t':=s1.toks) (fun b u e=>br _ e) (aJ _) ?_,rfl,q _ hf⟩
 exact⟨z,us,r,⟨_,bY _ rfl,rfl,_,rfl⟩⟩
theorem ca(h:PA X es t):PE X (.List es pos) (A5 t):=by
 intro pins s σ H Q I hq
 refine wpAny_List_spliced (aL (h pos pins s σ H _ I hq) fun us s1 ⟨xs,H1,I1,r,z,q⟩=>⟨by rw[<-r.length];exact z,?_⟩)
 have hf:H1 s1.heap.objs.size=none:=I1.hok.fresh (aJ _)
 refine⟨.ref s1.heap.objs.size,ae H1 s1.heap.objs.size (.lst xs),I1.laid (t':=s1.toks) (fun b u e=>br _ e) (aJ _) ?_,rfl,q _ hf⟩
 exact⟨z,us,0,r,bY _ rfl⟩
end
abbrev Sp:=List V->Hp->VK->XK->Prop
abbrev iR:=List Env->Hp->ah->XK->aa->ah->Prop
structure lS(P:aP)(w:aH)(K:aB)(mg:ac->Option aa)(base:aA)(A:bx)(outer:List Env)(s:ah)(H:Hp):Prop where
 frames:A.frames=some outer
 mod:Mod K mg base
 bs:∀b o,base.get? b=some o->s.heap.get? b=some o/\H b=none
 bsz:base.objs.size<=s.heap.objs.size
 funs:s.heap.FunFrames base outer
 frf:∀b∈ir outer,H b=none
 hok:cA P w H s.heap
 bare:AllBare s.gens
def CE(outer:List Env)(P:aP)(w:aH)(H:Hp)(s:ah)(Q:VK)(u:aa)(s':ah):Prop:=
 ∃v H',s'.os=s.os/\AllBare s'.gens/\Un (ir outer) [] H H' s.heap s'.heap/\cA P w H' s'.heap/\aW v u/\Q v H'
def CR(CX:iR)(outer:List Env)(P:aP)(w:aH)(H:Hp)(s:ah)(Q:VK)(E:XK)(r:Result)(s':ah):Prop:=
 match r with
 |.ok (.ret u)=>CE outer P w H s Q u s'
 |.ok _=>False
 |.error e=>CX outer H s E e s'
structure be(P:aP)(w:aH)(K:aB)(mg:ac->Option aa)(base:aA)(CX:iR)(k:Nat)(f:Addr)(fd:bd)(ps:List ac)(sp:Sp):Prop where
 len:∀vs H Q E,sp vs H Q E->vs.length=ps.length
 run:∀(A:bx)(outer:List Env)(s:ah)(H:Hp)(args:Args)(us:List aa)(vs:List V)(Q:VK)(E:XK),df k A->lS P w K mg base A outer s H->BindsTo s fd args (ps.zip us)->aS vs us->sp vs H Q E->
  codeAny (model P w) A (.call (.ref f) args) (CR CX outer P w H s Q E) s
theorem lS.make{P:aP}{w:aH}{K:aB}{mg:ac->Option aa}{base:aA}{A:bx}{outer:List Env}{s:ah}{H:Hp}(e:lS P w K mg base A outer s H)(C:Addr)(us:List aa)(kw:List (ac×aa)):
 lS P w K mg base (A.under (.builtin "type.__call__" ⟨.ref C::us,kw⟩)) outer s H:=⟨by first|exact e.frames|(simpa[vQ,kn.envs,vS,pushEnvs]using e.frames),e.mod,e.bs,e.bsz,e.funs,e.frf,e.hok,e.bare⟩
section
variable{X:Cx}{pins:List (Addr×aI)}{σ:St}{H:Hp}{s s':ah}
theorem Inv.env0(I:Inv X pins σ H s):lS X.prog X.w X.K X.mg X.base X.A X.stack s H:=
 ⟨I.ok.frames,I.ok.mod,I.bs,dJ I.ok.bsz I.sz,I.stack,I.stkFree,I.hok,I.bare⟩
theorem Inv.after{Q:VK}{u:aa}(I:Inv X pins σ H s)(h:CE X.stack X.prog X.w H s Q u s'):EP X pins σ Q u s':=by
 obtain⟨v,H',os,bare,un,hok,r,q⟩:=h
 obtain⟨hh,g,d,t,os'⟩:=s'
 obtain rfl:os'=s.os:=os
 exact⟨v,H',I.call (h':=hh) (g':=g) (d':=d) (t':=t) (ch:=[]) un hok bare (fun b z=>absurd z (by simp)),r,q⟩
end
def A6(sp:Sp)(dvs:List V)(E:XK)(t:TA):TE:=fun σ H Q=>t σ H fun vs H1=>sp (vs++dvs) H1 Q E
inductive A7(C:Addr)(m:ac)(sp:Sp)(dvs:List V)(E:XK)(t:TA)(σ:St)(Q:VK)(x:V)(H1:Hp):Prop
 |mk:∀a dx fs,(x= .ref a)->(H1 a=some (.ins C dx fs))->(fs.lookup m=none)->(t σ H1 fun vs H2=>sp (x::(vs++dvs)) H2 Q E)->A7 C m sp dvs E t σ Q x H1
def sI(C:Addr)(m:ac)(sp:Sp)(dvs:List V)(E:XK)(ta:TE)(t:TA):TE:=fun σ H Q=>ta σ H fun x H1=>A7 C m sp dvs E t σ Q x H1
def A8(C:Addr)(sp:Sp)(dvs:List V)(E:XK)(t:TA):TE:=fun σ H Q=>t σ H fun vs H1=>∀x dx,H1 x=none->H1 dx=none->dx≠x->
 sp (.ref x::(vs++dvs)) (ae (ae H1 dx (.own x)) x (.ins C dx [])) (fun v H2=>v= .non/\Q (.ref x) H2) E
def iz(K:aB)(fd:bd)(ps:List ac)(ds:List aa):Prop:=
 ∀(s:ah)(us:List aa),K.In s.heap->(us++ds).length=ps.length->BindsTo s fd ⟨us,[]⟩ (ps.zip (us++ds))
theorem iz.all{K:aB}{fd:bd}{ps:List ac}(h:∀us:List aa,us.length=ps.length->bindArgs fd ⟨us,[]⟩=pure (ps.zip us)):iz K fd ps []:=fun s us _ hl=>by
 rw[jG]at hl |-
 exact .of_eq (h us hl)
def lT(CX:iR)(X:Cx)(E:XK):Prop:=∀(pins:List (Addr×aI))(σ:St)(H:Hp)(s:ah)(e:aa)(s':ah),Inv X pins σ H s->CX X.stack H s E e s'->X.xe e s'
section
variable{X:Cx}{CX:iR}{k:Nat}{f C:Addr}{fd:bd}{ps:List ac}{sp:Sp}{dvs:List V}{ds:List aa}{E:XK}{x m:ac}{p pos apos:Pos}{e o:Expr}{es:List Expr}{ta:TE}{t:TA}
theorem wb{pins:List (Addr×aI)}{σ:St}{H:Hp}{s:ah}{Q:VK}{us:List aa}{vs:List V}(F:be X.prog X.w X.K X.mg X.base CX k f fd ps sp)(hr:df k X.A)(hb:iz X.K fd ps ds)(hd:aS dvs ds)(hx:lT CX X E)
 (I:Inv X pins σ H s) (r:aS vs us) (h:sp (vs++dvs) H Q E):wpAny (model X.prog X.w) X.A (call (.ref f) us) (EP X pins σ Q) X.xe s:=by
 have r2:aS (vs++dvs) (us++ds):=r.append hd
 have hl:(us++ds).length=ps.length:=by rw[<-r2.length];exact F.len _ _ _ _ h
 refine wpAny_call (qV (F.run X.A X.stack s H ⟨us,[]⟩ (us++ds) (vs++dvs) Q E hr I.env0 (hb s us I.kIn hl) r2 h) fun r s' hq=>?_)
 cases r with
 |error e=>exact hx pins σ H s e s' I hq
 |ok fl=>
  cases fl with
  |ret u=>exact I.after hq
  |next=>exact gX hq
  |brk=>exact gX hq
  |cont=>exact gX hq
theorem G3(F:be X.prog X.w X.K X.mg X.base CX k f fd ps sp)(hr:df k X.A)(hg:Gl X x)(hm:X.mg x=some (.ref f))(hk:bn X.K (.ref f)=true)(hb:iz X.K fd ps ds)(hd:aS dvs ds)(hx:lT CX X E)
 (ha:PA X (e::es) t) (hdb:(x==("__debug__":ac))=false:=by decide) (he:starEach (e::es) X.env=(false,eval e X.env)::starEach es X.env:=by rfl) (hpl:(backTo pos (starEach es X.env)).any (·.1)=false:=by rfl):
 PE X (.Call (.Name x p) (e::es) [] pos) (A6 sp dvs E t):=by
 intro pins s σ H Q I h
 refine qW (AE I hg hm ?_ hdb)
 refine uY (h₀:=X.base) I.ok.mod.kin hk (aL (ha pos pins s σ H _ I h) fun us s1 ⟨vs,H1,I1,r,q⟩=>⟨I1.kIn,?_⟩) he hpl
 exact wb F hr hb hd hx I1 r q
theorem G4{pl:Sem Bool}(he:PE X o ta)(c:iy X.K C)(hm:sy X.K C m f)(F:be X.prog X.w X.K X.mg X.base CX k f fd ps sp)(hr:df k X.A)(hb:iz X.K fd ps ds)(hd:aS dvs ds)(hx:lT CX X E)(ha:PA X (e::es) t)
 (hst:starEach (e::es) X.env=(false,eval e X.env)::starEach es X.env:=by rfl) (hpl:(backTo pos (starEach es X.env)).any (·.1)=false:=by rfl)
 (ht:eval (.Call (.Attribute o m apos) (e::es) [] pos) X.env=(do
  let ov <-eval o X.env
  standAt apos.atName
  let (f,first) <-holding [ov] (getMethod ov m pl)
  callWith pos f first (backTo pos (starEach (e::es) X.env)) (backToKw pos (keywordEach [] X.env))):=by rfl):
 PE X (.Call (.Attribute o m apos) (e::es) [] pos) (sI C m sp dvs E ta t):=by
 intro pins s σ H Q I h
 refine yY (pl:=pl) (aL (he pins s σ H _ I h) fun u s1 ⟨x,H1,I1,rx,a,dx,fs,ex,ea,l,q⟩=>?_) ht
 subst ex
 obtain rfl:u=aa.ref a:=rx
 refine A2 I1 ea c hm l ?_
 refine uY (first:=[.ref a]) (h₀:=X.base) I.ok.mod.kin hm.kp (aL (ha pos pins s1 σ H1 _ I1 q) fun us s2 ⟨vs,H2,I2,r,q2⟩=>⟨I2.kIn,?_⟩) hst hpl
 exact wb (us:= .ref a::us) (vs:= .ref a::vs) F hr hb hd hx I2 (.cons rfl r) q2
theorem G5{pl:Sem Bool}(he:PE X o ta)(c:iy X.K C)(hm:sy X.K C m f)(F:be X.prog X.w X.K X.mg X.base CX k f fd ps sp)(hr:df k X.A)(hb:iz X.K fd ps ds)(hd:aS dvs ds)(hx:lT CX X E)
 (ht:eval (.Call (.Attribute o m apos) [] [] pos) X.env=(do
  let ov <-eval o X.env
  standAt apos.atName
  let (f,first) <-holding [ov] (getMethod ov m pl)
  callWith pos f first (backTo pos (starEach [] X.env)) (backToKw pos (keywordEach [] X.env))):=by rfl):
 PE X (.Call (.Attribute o m apos) [] [] pos) (sI C m sp dvs E ta sH):=by
 intro pins s σ H Q I h
 refine yY (pl:=pl) (aL (he pins s σ H _ I h) fun u s1 ⟨x,H1,I1,rx,a,dx,fs,ex,ea,l,q⟩=>?_) ht
 subst ex
 obtain rfl:u=aa.ref a:=rx
 refine A2 I1 ea c hm l ?_
 exact PySem.W.callWith_K0 (first:=[.ref a]) I1.kIn hm.kp (wb (us:=[.ref a]) (vs:=[.ref a]) F hr hb hd hx I1 (.cons rfl .nil) q)
structure Mk(K:aB)(C f:Addr):Prop where
 makes:uX K C=true
 init:dB K (.ref C) "__init__"=some (some (.ref f))
 fn:ga K (.ref f)=true
 kp:bn K (.ref C)=true
theorem G6{pins:List (Addr×aI)}{σ:St}{H:Hp}{s:ah}{Q:VK}{us:List aa}{vs:List V}(M:Mk X.K C f)(F:be X.prog X.w X.K X.mg X.base CX k f fd ps sp)(hr:df (k+1) X.A)(hb:iz X.K fd ps ds)(hd:aS dvs ds)
 (hx:lT CX X E) (I:Inv X pins σ H s) (r:aS vs us)
 (h:∀x dx,H x=none->H dx=none->dx≠x->sp (.ref x::(vs++dvs)) (ae (ae H dx (.own x)) x (.ins C dx [])) (fun v H2=>v= .non/\Q (.ref x) H2) E):
 wpAny (model X.prog X.w) X.A (call (.ref C) us) (EP X pins σ Q) X.xe s:=by
 have hq:=h (s.heap.objs.size+1) s.heap.objs.size (I.hok.fresh (Nat.le_succ _)) (I.hok.fresh (aJ _)) (cJ (y9 _))
 have I2:=Inv.made (C:=C) I
 have r2:aS (V.ref (s.heap.objs.size+1)::(vs++dvs)) (aa.ref (s.heap.objs.size+1)::(us++ds)):= .cons rfl (r.append hd)
 have hl:(aa.ref (s.heap.objs.size+1)::us++ds).length=ps.length:=by
  have e:=r2.length
  rw[F.len _ _ _ _ hq]at e
  exact e.symm
 refine wpAny_call (GS (f:=f) I.kIn M.makes M.init (beq_iff_eq.mp M.fn) (qV (F.run _ X.stack _ _ ⟨aa.ref (s.heap.objs.size+1)::us,[]⟩ (aa.ref (s.heap.objs.size+1)::(us++ds)) _ _ E (hr.make C us [])
  (I2.env0.make C us []) (hb _ (aa.ref (s.heap.objs.size+1)::us) I2.kIn hl) r2 hq) fun r s' hq'=>?_))
 cases r with
 |error e=>exact hx pins σ _ _ e s' I2 hq'
 |ok fl=>
  cases fl with
  |ret u=>
   obtain⟨v,H',I3,rv,ev,q3⟩:=I2.after hq'
   subst ev
   exact⟨rv,⟨V.ref (s.heap.objs.size+1),H',I3,rfl,q3⟩⟩
  |next=>exact gX hq'
  |brk=>exact gX hq'
  |cont=>exact gX hq'
theorem G7(M:Mk X.K C f)(F:be X.prog X.w X.K X.mg X.base CX k f fd ps sp)(hr:df (k+1) X.A)(hg:Gl X x)(hm:X.mg x=some (.ref C))(hb:iz X.K fd ps ds)(hd:aS dvs ds)(hx:lT CX X E)
 (ha:PA X (e::es) t) (hdb:(x==("__debug__":ac))=false:=by decide) (he:starEach (e::es) X.env=(false,eval e X.env)::starEach es X.env:=by rfl) (hpl:(backTo pos (starEach es X.env)).any (·.1)=false:=by rfl):
 PE X (.Call (.Name x p) (e::es) [] pos) (A8 C sp dvs E t):=by
 intro pins s σ H Q I h
 refine qW (AE I hg hm ?_ hdb)
 refine uY (h₀:=X.base) I.ok.mod.kin M.kp (aL (ha pos pins s σ H _ I h) fun us s1 ⟨vs,H1,I1,r,q⟩=>⟨I1.kIn,?_⟩) he hpl
 exact G6 M F hr hb hd hx I1 r q
end
section
variable{X:Cx}{CX:iR}{k:Nat}{f C:Addr}{fd:bd}{ps ks:List ac}{sp:Sp}{E:XK}{x m:ac}{p pos apos kpos:Pos}{e o:Expr}{es:List Expr}{kws:List Keyword}{te ta:TE}{t tk:TA}{nm:Option ac}
variable{g:List aa->List aa->List aa}{gV:List V->List V->List V}
end
structure bC(N P:List ac)(sc:Scope):Prop where
 kind:sc.kind= .function
 co:sc.isCoroutine=false
 gen:sc.isGenerator=false
 nd:N.Nodup
 pre:N.take P.length=P
 par:∀x∈P,sc.names.lookup x=some .local\/sc.names.lookup x=some .cell
 nofree:∀y∈sc.names,y.2≠ .free
theorem A9{kindOf:ac->Option dS}{x:ac}:∀{binds:List (ac×aa)}{m:ac->Option aa},(∀v,(x,v)∉binds)->bindL kindOf binds m x=m x
 |[],_,_=>rfl
 |(n,v)::r,m,h=>by
  unfold bindL
  rw[A9 fun w hw=>h w (dC _ hw)]
  split
  ·have:x≠n:=by rintro rfl;exact h v eZ
   simp[this]
  ·rfl
theorem Ba{kindOf:ac->Option dS}{x:ac}:∀{binds:List (ac×aa)}{m:ac->Option aa},(∀v,(x,v)∉binds)->bindC kindOf binds m x=m x
 |[],_,_=>rfl
 |(n,v)::r,m,h=>by
  unfold bindC
  rw[Ba fun w hw=>h w (dC _ hw)]
  split
  ·rfl
  ·have:x≠n:=by rintro rfl;exact h v eZ
   simp[this]
theorem Bb{kindOf:ac->Option dS}{x:ac}{v:aa}:∀{P:List ac}{vs:List aa}{i:Nat}{m:ac->Option aa},P.Nodup->P[i]?=some x->vs[i]?=some v->kindOf x=some .local->
 bindL kindOf (P.zip vs) m x=some v
 |[],_,_,_,_,h,_,_=>by simp at h
 |_::_,[],_,_,_,_,h,_=>by simp at h
 |p::P,w::vs,0,m,nd,h1,h2,hk=>by
  simp at h1 h2;subst h1;subst h2
  show bindL kindOf ((p,w)::P.zip vs) m p=_
  unfold bindL
  rw[A9 fun v hv=>(iN.mp nd).1 (rA hv).1,if_pos hk]
  simp
 |p::P,w::vs,i+1,m,nd,h1,h2,hk=>by
  show bindL kindOf ((p,w)::P.zip vs) m x=_
  unfold bindL
  exact Bb (i:=i) (iN.mp nd).2 (by simpa using h1) (by simpa using h2) hk
theorem Bc{kindOf:ac->Option dS}{x:ac}{v:aa}:∀{P:List ac}{vs:List aa}{i:Nat}{m:ac->Option aa},P.Nodup->P[i]?=some x->vs[i]?=some v->kindOf x≠some .local->
 bindC kindOf (P.zip vs) m x=some v
 |[],_,_,_,_,h,_,_=>by simp at h
 |_::_,[],_,_,_,_,h,_=>by simp at h
 |p::P,w::vs,0,m,nd,h1,h2,hk=>by
  simp at h1 h2;subst h1;subst h2
  show bindC kindOf ((p,w)::P.zip vs) m p=_
  unfold bindC
  rw[Ba fun v hv=>(iN.mp nd).1 (rA hv).1,if_neg hk]
  simp
 |p::P,w::vs,i+1,m,nd,h1,h2,hk=>by
  show bindC kindOf ((p,w)::P.zip vs) m x=_
  unfold bindC
  exact Bc (i:=i) (iN.mp nd).2 (by simpa using h1) (by simpa using h2) hk
def start(N:List ac)(vs:List V):St:=vs.map some++List.replicate (N.length - vs.length) none
def ny(CX:iR)(P:aP)(w:aH)(K:aB)(mg:ac->Option aa)(base:aA)(N:List ac)(qual:ac)(scope:Scope)(f:Addr)(cd:aa)(A:bx)(outer:List Env)(s:ah)(H:Hp)(E:XK):Cx where
 prog:=P
 w:=w
 K:=K
 mg:=mg
 base:=base
 A:=A.deeper (envOfC qual scope s.heap.objs.size f cd)
 N:=N
 s₀:=s
 H₀:=H
 env:=envOfC qual scope s.heap.objs.size f cd
 outer:=outer
 stack:=envOfC qual scope s.heap.objs.size f cd::outer
 ex:=[]
 calm:=true
 fn:=fun _=>true
 pn:=[]
 xe:=fun e s'=>wpAny (model P w) (A.deeper (envOfC qual scope s.heap.objs.size f cd)) (leaving (envOfC qual scope s.heap.objs.size f cd) e) (fun _ s''=>CX outer H s E e s'') (fun e' s''=>CX outer H s E e' s'') s'
theorem Bd{sc:Scope}{n:Nat}{x:ac}(h:sc.names.lookup x=some .cell):∃c,(cellsFrom n sc.names []).lookup x=some c:=by
 have q:=yZ sc.names n [] (.inl h)
 exact Ao.mp q
theorem G8{CX:iR}{P:aP}{w:aH}{K:aB}{mg:ac->Option aa}{base:aA}{N ps:List ac}{qual:ac}{scope:Scope}{f:Addr}{cd:aa}{A:bx}{outer:List Env}{s s1:ah}{H:Hp}{E:XK}{us:List aa}{vs:List V}
 (S:bC N ps scope) (hd:A.handled=none) (e0:lS P w K mg base A outer s H) (hl:vs.length=ps.length) (r:aS vs us)
 (x:InCallC s s.heap.objs.size (bindL (envOfC qual scope s.heap.objs.size f cd).kindOf (ps.zip us) fun _=>none) (cellsFrom (s.heap.objs.size+1) scope.names []) (bindC (envOfC qual scope s.heap.objs.size f cd).kindOf (ps.zip us) fun _=>none) s1):
 Inv (ny CX P w K mg base N qual scope f cd A outer s H E) [] (start N vs) H s1:=by
 have hpl:ps.length<=N.length:=by have:=congrArg kz S.pre;rw[zLT]at this;omega
 obtain⟨h1,tk,rfl,hk⟩:=x.done
 have noA:∀b:Addr,b∉(ny CX P w K mg base N qual scope f cd A outer s H E).ex:=fun b z=>absurd (show b∈([]:List Addr)from z) (by simp)
 refine⟨⟨e0.mod,S.kind,rfl,rfl,aJ _,fun y z c h1 h2=>?_,fun y hy=>?_,fun y c _ h=>?_,fun _=>hd,bx.frames_deeper e0.frames,.inr ⟨rfl,rfl⟩,fun b z=>absurd z (noA b),e0.bs,e0.bsz,fun b _ _=>noA b,fun b z=>absurd z (noA b),e0.funs,e0.frf⟩,
  rfl,e0.bare,Un.kept hk,⟨_,x.toInCall.ns,fun i y v h1 h2 h3=>?_⟩,fun y c h=>⟨_,x.cell y c h⟩,e0.hok.fresh (aJ _),fun y c h=>?_,fun p hp=>absurd (show p∈([]:List (Addr×aI))from hp) (by simp),e0.hok.kept hk,?_⟩
 ·exact name_of_addr x.apart (mM h1) (mM h2)
 ·have hy:scope.names.lookup y=some .cell\/scope.names.lookup y=some .free:=hy
  rcases hy with hy|hy
  ·exact Bd hy
  ·exact absurd rfl (S.nofree _ (mM hy))
 ·exact mQ (x.above y c (mM h))
 ·have hi:i<vs.length:=by
   unfold start at h2
   by_cases hi:i<vs.length
   ·exact hi
   ·rw[mT (by simpa using hi)]at h2
    rw[zj]at h2
    split at h2<;>cases h2
  have ha:vs[i]?=some v:=by
   unfold start at h2
   rw[kF (by simpa using hi),cV]at h2
   cases e:vs[i]? with
   |none=>rw[e]at h2;cases h2
   |some a=>rw[e]at h2;cases h2;rfl
  obtain⟨u,hu,rv⟩:=r.get ha
  have hp:ps[i]?=some y:=by
   rw[<-S.pre,zl (by omega)];exact h1
  have ndP:ps.Nodup:=by rw[<-S.pre];exact S.nd.sublist (List.take_sublist _ _)
  refine⟨u,rv,?_⟩
  rcases S.par y (zMG hp)with k|k
  ·exact .inl ⟨k,Bb ndP hp hu k⟩
  ·obtain⟨c,e⟩:=Bd (n:=s.heap.objs.size+1) k
   refine .inr ⟨.inl k,c,e,?_⟩
   have q:=x.cell y c e
   rw[Bc ndP hp hu (by show scope.names.lookup y≠_;rw[k];decide)]at q
   exact q
 ·exact e0.hok.fresh (mQ (x.above y c (mM h)))
 ·unfold start
  show _=N.length
  rw[zLA,zLM,List.length_replicate]
  omega
theorem G9{CX:iR}{P:aP}{w:aH}{K:aB}{mg:ac->Option aa}{base:aA}{k:Nat}{f:Addr}{name qual:ac}{params:Arguments}{body:List Stmt}{scope:Scope}{dV kV doc pm cdv ct oc:aa}{an od:Option Addr}
 {osl:Array (Option aa)} {N ps:List ac} {sp:Sp} (lk:K.lookup f=some ⟨oc,od,.func (bo name qual params body scope dV kV doc pm an cdv ct),osl⟩) (hcd:bA K cdv qual=true) (S:bC N ps scope)
 (len:∀vs H Q E,sp vs H Q E->vs.length=ps.length)
 (hbody:∀(A:bx)(outer:List Env)(s:ah)(H:Hp)(vs:List V)(Q:VK)(E:XK),df k (A.deeper (envOfC qual scope s.heap.objs.size f cdv))->sp vs H Q E->
  ∃t,gf (ny CX P w K mg base N qual scope f cdv A outer s H E) body t/\t { nx:=fun _ H'=>Q .non H',rt:=Q} (start N vs) H):
 be P w K mg base CX (k+1) f (bo name qual params body scope dV kV doc pm an cdv ct) ps sp:=by
 refine⟨len,fun A outer s H args us vs Q E hr e0 hb r hsp=>?_⟩
 have hl:=len _ _ _ _ hsp
 have KX:K.In s.heap:=e0.mod.kin.keeps fun b o e=>(e0.bs b o e).1
 have lim:s.heap.NoLimit:=e0.mod.nolimit.keeps fun b o e=>(e0.bs b o e).1
 have hkind:∀y∈ps.zip us,scope.names.lookup y.1=some .local\/(scope.names.lookup y.1=some .cell/\((cellsFrom (s.heap.objs.size+1) scope.names []).lookup y.1).isSome=true):=fun⟨n,v⟩ hy=>by
  rcases S.par n (rA hy).1 with q|q
  ·exact .inl q
  ·exact .inr ⟨q,yZ _ _ _ (.inl q)⟩
 refine codeAny_call_function hr.depth (KX _ _ lk) rfl S.co S.gen rfl (PySem.W.codeRec_of KX hcd) (hb _ _ _ _ ?_)
 refine wpAny_newFunctionEnv_cells S.kind hkind fun env he s1 x=>?_
 subst he
 refine⟨lim.keeps x.toInCall.keep,codeAny_func ?_⟩
 obtain⟨t,ht,hq⟩:=hbody A outer s H vs Q E (hr.deeper _) hsp
 have I:Inv (ny CX P w K mg base N qual scope f cdv A outer s H E) [] (start N vs) H s1:=G8 S hr.hd e0 hl r x
 refine fE (ht [] s1 (start N vs) H _ I hq) (fun fl s' hs=>?_) fun e s' hs=>hs
 have fin:∀{σ':St}{H':Hp}{v:V}{u:aa},Inv (ny CX P w K mg base N qual scope f cdv A outer s H E) [] σ' H' s'->aW v u->Q v H'->CE outer P w H s Q u s':=
  fun {σ' H' v u} J rv q=>⟨v,H',J.os,J.bare,J.base,J.hok,rv,q⟩
 cases fl with
 |ret u=>
  obtain⟨v,σ',H',J,rv,q⟩:=hs
  exact fin J rv q
 |next=>
  obtain⟨σ',H',J,q⟩:=hs
  exact fin (v:=V.non) (u:=aa.none) J rfl q
 |brk=>
  obtain⟨_,_,_,q⟩:=hs
  exact gX q
 |cont=>
  obtain⟨_,_,_,q⟩:=hs
  exact gX q
section
variable{X:Cx}{x:ac}{p pos:Pos}{e:Expr}{es:List Expr}{t:TA}{id T:String}{r:List V->Hp->VK->Prop}
def pR(r:List V->Hp->VK->Prop)(t:TA):TE:=fun σ H Q=>t σ H fun vs H1=>r vs H1 Q
theorem Ha(hc:fR X (.builtin id) r)(hg:Gl X x)(hm:X.mg x=none)(hv:bootBuiltins x=some (.builtin id))(ha:PA X (e::es) t)(hn:x≠"__name__":=by decide)(hdb:(x==("__debug__":ac))=false:=by decide)
 (he:starEach (e::es) X.env=(false,eval e X.env)::starEach es X.env:=by rfl) (hpl:(backTo pos (starEach es X.env)).any (·.1)=false:=by rfl):PE X (.Call (.Name x p) (e::es) [] pos) (pR r t):=by
 intro pins s σ H Q I h
 refine qW (gg I hg hm hv ?_ hn hdb)
 exact PyProof.Rows.callWith_builtin1 (aL (ha pos pins s σ H _ I h) fun us s1 ⟨vs,H1,I1,r1,q1⟩=>hc pins s1 σ H1 vs us Q I1 r1 q1) he hpl
theorem Hb(hc:fR X (.type T) r)(hg:Gl X x)(hm:X.mg x=none)(hv:bootBuiltins x=some (.type T))(ha:PA X (e::es) t)(hn:x≠"__name__":=by decide)(hdb:(x==("__debug__":ac))=false:=by decide)
 (he:starEach (e::es) X.env=(false,eval e X.env)::starEach es X.env:=by rfl) (hpl:(backTo pos (starEach es X.env)).any (·.1)=false:=by rfl):PE X (.Call (.Name x p) (e::es) [] pos) (pR r t):=by
 intro pins s σ H Q I h
 refine qW (gg I hg hm hv ?_ hn hdb)
 exact gW (aL (ha pos pins s σ H _ I h) fun us s1 ⟨vs,H1,I1,r1,q1⟩=>hc pins s1 σ H1 vs us Q I1 r1 q1) he hpl
end
end L2
namespace HT
open PySem PyProof.Rows
section
open PySem.SeqAt
open PySem.AutoSeq1 (wpAny_loadPart')
open PySem.MeetsSeq PySem.MeetsSeq2 PySem.MeetsSeq3
end
section
variable{prog:aP}{w:aH}{A:bx}{E:aa->ah->Prop}{s:ah}
def sIx(n d:Nat):Option Int->Nat
 |none=>d
 |some v=>if v<0 then (v+(n:Int)).toNat else min v.toNat n
theorem sIx_none(n d:Nat):sIx n d none=d:=rfl
theorem sIx_nat(n d k:Nat):sIx n d (some (k:Int))=min k n:=by
 show (if (k:Int)<0 then ((k:Int)+(n:Int)).toNat else min (k:Int).toNat n)=min k n
 rw[if_neg (by omega),gH]
theorem Hc(n d:Nat)(hd:d<=n)(o:Option Int):sIx n d o<=n:=by
 cases o with
 |none=>exact hd
 |some v=>
  show (if v<0 then (v+(n:Int)).toNat else min v.toNat n)<=n
  by_cases hv:v<0
  ·rw[if_pos hv];omega
  ·rw[if_neg hv];exact Nat.min_le_right _ _
theorem Be(v:Int)(n d:Nat):(if v<0 then max (v+(n:Int)) 0 else min v (n:Int))=((sIx n d (some v):Nat):Int):=by
 show (if v<0 then max (v+(n:Int)) 0 else min v (n:Int))=(((if v<0 then (v+(n:Int)).toNat else min v.toNat n):Nat):Int)
 by_cases hv:v<0
 ·simp only[if_pos hv];omega
 ·simp only[if_neg hv];omega
theorem Hd(lo hi:Option Int)(n:Nat):vP lo hi 1 (n:Int)=(((sIx n 0 lo:Nat):Int),((sIx n n hi:Nat):Int)):=by
 have h1:¬((1:Int)<0):=by omega
 unfold vP
 simp only[h1,if_false]
 refine Prod.ext ?_ ?_
 ·cases lo with
  |none=>rfl
  |some v=>exact Be v n 0
 ·cases hi with
  |none=>rfl
  |some v=>exact Be v n n
theorem He(i j:Nat):r6 (i:Int) (j:Int) 1=j - i:=by
 unfold r6
 have h1:(1:Int)>0:=by omega
 simp only[h1,if_true,Int.ediv_one]
 split<;>omega
theorem Bf{v:aa}{o:Option Int}{Q:Option Int->ah->Prop}(p:IsPart v o)(h:Q o s):wpAny (model prog w) A (dA.Slice.slicePartIndex v) Q E s:=by
 cases p with
 |none=>exact slicePart_none h
 |int i t=>exact slicePart_int h
theorem sliceApplied_gen{sl:Addr}{vl vu:aa}{lo hi:Option Int}{n:Nat}{Q:Int×Int×Nat->ah->Prop}(hs:s.heap.IsSliceOf sl vl vu .none)(pl:IsPart vl lo)(pu:IsPart vu hi)
 (h:Q (((sIx n 0 lo:Nat):Int),1,sIx n n hi - sIx n 0 lo) s):wpAny (model prog w) A (As (.ref sl) (pure (n:Int))) Q E s:=by
 obtain⟨os,hos,hcs,hds⟩:=id hs
 unfold As dA.Slice.sliceFields
 refine ai (ai (da hos hds (x:=vl) rfl (ai (da hos hds (x:=vu) rfl (ai (da hos hds (x:= .none) rfl (aR ?_)))))))
 refine ai (slicePart_none ?_)
 show wpAny _ _ (if ((1:Int)==0)=true then _ else _) _ _ s
 rw[if_neg (by decide)]
 refine ai (Bf pl (ai (Bf pu (ai (aR ?_)))))
 show wpAny _ _ (match vP lo hi 1 (n:Int)with|(lo,hi)=>pure (lo,(1:Int),r6 lo hi 1)) _ _ s
 rw[Hd lo hi n]
 show wpAny _ _ (pure (((sIx n 0 lo:Nat):Int),(1:Int),r6 ((sIx n 0 lo:Nat):Int) ((sIx n n hi:Nat):Int) 1)) _ _ s
 rw[He]
 exact aR h
theorem Hg(xs:Array aa)(i k:Nat):((jF k).filterMap fun (m:Nat)=>xs[((i:Int)+(m:Int) * 1).toNat]?).toArray=((xs.toList.drop i).take k).toArray:=by
 have e:(fun (m:Nat)=>xs[((i:Int)+(m:Int) * 1).toNat]?)=fun m=>xs[i+m]?:=by
  funext m
  have:((i:Int)+(m:Int) * 1).toNat=i+m:=by omega
  rw[this]
 rw[e]
 have:=pick_run xs i k
 rw[List.filterMap_map]at this
 have e2:((fun x=>xs[x]?)∘fun x=>i+x)=fun m=>xs[i+m]?:=rfl
 rw[e2]at this
 rw[this]
theorem getItem_tuple_cut{t sl:Addr}{items:Array aa}{vl vu:aa}{lo hi:Option Int}{Q:aa->ah->Prop}(ht:cz s.heap t items)(hs:s.heap.IsSliceOf sl vl vu .none)(pl:IsPart vl lo)(pu:IsPart vu hi)
 (hw:¬(sIx items.size 0 lo=0/\sIx items.size items.size hi=items.size))
 (h:Q (.ref s.heap.objs.size) { s with heap:=s.heap.push { cls:= .type "tuple",data:= .seq ((items.toList.drop (sIx items.size 0 lo)).take (sIx items.size items.size hi - sIx items.size 0 lo)).toArray}})
 (hsz:items.size<=sizeLine):wpAny (model prog w) A (getItem (.ref t) (.ref sl)) Q E s:=by
 have htake:sizeOk (.seq ((items.toList.drop (sIx items.size 0 lo)).take (sIx items.size items.size hi - sIx items.size 0 lo)).toArray):=by
  show ((items.toList.drop (sIx items.size 0 lo)).take (sIx items.size items.size hi - sIx items.size 0 lo)).toArray.size<=sizeLine
  rw[bW,zLT,dD,ni]
  omega
 have hj:sIx items.size items.size hi<=items.size:=Hc _ _ (aJ _) hi
 obtain⟨os,hos,hcs,hds⟩:=id hs
 have hTs:s.TypeIs (.ref sl) "slice":=⟨os,hos,hcs⟩
 unfold getItem
 try with_reducible refine gR ?_
 first|refine ai (aR ?_)|skip
 refine ai (yH ht.typeIs (by decide) ?_)
 refine ai (ij (name:=bT "__getitem__") ht.typeIs m8
  (fF m8 ht.typeIs zW ?_ (zX _ _)))
 show wpAny _ _ (At (.ref t) >>= _) _ _ s
 refine ai (tupleItemsOf_ ht ?_)
 refine ai (ly hTs ?_)
 rw[if_pos (by decide)]
 refine ai (sliceApplied_gen hs pl pu ?_)
 have hno:¬((((sIx items.size 0 lo:Nat):Int)==0&&(1:Int)==1&&(sIx items.size items.size hi - sIx items.size 0 lo)==items.size)=true):=by
  intro q
  rw[iO,iO]at q
  have q1:((sIx items.size 0 lo:Nat):Int)=0:=r8 q.1.1
  have q2:sIx items.size items.size hi - sIx items.size 0 lo=items.size:=r8 q.2
  exact hw ⟨by omega,by omega⟩
 show wpAny _ _ (if (((sIx items.size 0 lo:Nat):Int)==0&&(1:Int)==1&&(sIx items.size items.size hi - sIx items.size 0 lo)==items.size)=true then _ else _) _ _ s
 rw[if_neg hno,Hg]
 first
  |exact ai (m:=r9 _) (jd (aR ⟨_,rfl,aR h⟩) htake)
  |exact ai (m:=r9 _) (jd (ai (aR (aR ⟨_,rfl,aR h⟩))) htake)
  |exact ai (ai (m:=r9 _) (jd (aR (aR ⟨_,rfl,aR h⟩)) htake))
  |exact ai (ai (m:=r9 _) (jd (aR ⟨_,rfl,aR h⟩) htake))
end
end HT
namespace L2
open PySem PySem.Spec PyProof.Rows
abbrev TO:=St->Hp->(Option Int->Hp->Prop)->Prop
def PO(X:Cx)(e:Option Expr)(t:TO):Prop:=
 ∀(pins:List (Addr×aI))(s:ah)(σ:St)(H:Hp)(Q:Option Int->Hp->Prop),Inv X pins σ H s->t σ H Q->
  wpAny (model X.prog X.w) X.A (evalPart e X.env) (fun u s'=>∃o H',Inv X pins σ H' s'/\IsPart u o/\Q o H') X.xe s
def Hh:TO:=fun _ H Q=>Q none H
inductive Bh(Q:Option Int->Hp->Prop)(x:V)(H1:Hp):Prop
 |mk:∀i,(x= .int i)->(Q (some i) H1)->Bh Q x H1
def Hi(t:TE):TO:=fun σ H Q=>t σ H fun x H1=>Bh Q x H1
section
variable{X:Cx}{e:Expr}{te:TE}{lo hi:Option Expr}{tl th:TO}{pos p2:Pos}
theorem gj:PO X none Hh:=by
 intro pins s σ H Q I h
 rw[evalPart_none]
 exact aR ⟨none,H,I,.none,h⟩
theorem fK(h:PE X e te):PO X (some e) (Hi te):=by
 intro pins s σ H Q I hw
 rw[evalPart_some]
 refine aL (h pins s σ H _ I hw) fun u s1 ⟨x,H1,I1,r1,q1⟩=>?_
 obtain⟨i,rfl,q⟩:=q1
 obtain⟨t,rfl⟩:=r1
 exact⟨some i,H1,I1,.int i t,q⟩
def sJ(X:Cx)(r:V->Option Int->Option Int->Hp->VK->Prop):Prop:=
 ∀(pins:List (Addr×aI))(s:ah)(σ:St)(H:Hp)(x:V)(v vl vu:aa)(lo hi:Option Int)(sl:Addr)(Q:VK),Inv X pins σ H s->aW x v->s.heap.IsSliceOf sl vl vu .none->IsPart vl lo->IsPart vu hi->r x lo hi H Q->
  ∃T id,typeLookup (.type T) "__getitem__"=pure (some (.builtin id))/\s.TypeIs v T/\wpAny (model X.prog X.w) X.A (getItem v (.ref sl)) (EP X pins σ Q) X.xe s
def Hj(r:V->Option Int->Option Int->Hp->VK->Prop)(te:TE)(tl th:TO):TE:=fun σ H Q=>te σ H fun x H1=>tl σ H1 fun l H2=>th σ H2 fun u H3=>r x l u H3 Q
theorem fS{r:V->Option Int->Option Int->Hp->VK->Prop}(hr:sJ X r)(he:PE X e te)(hl:PO X lo tl)(hu:PO X hi th):PE X (.Subscript e (.Slice lo hi none p2) pos) (Hj r te tl th):=by
 intro pins s σ H Q I h
 refine Subscript_ (aL (he pins s σ H _ I h) fun v s1 ⟨x,H1,I1,r1,q1⟩=>?_)
 refine wpAny_Slice (aL (hl pins s1 σ H1 _ I1 q1) fun vl s2 ⟨l,H2,I2,pl,q2⟩=>aL (hu pins s2 σ H2 _ I2 q2) fun vu s3 ⟨u,H3,I3,pu,q3⟩=>?_)
 rw[evalPart_none]
 refine aR ?_
 have I4:Inv X pins σ H3 { s3 with heap:=s3.heap.push { cls:= .type "slice",data:= .fields #[vl,vu,.none]}}:=I3.kept (t':=s3.toks) fun b ob q=>br _ q
 obtain⟨T,id,hT,ht,hg⟩:=hr pins { s3 with heap:=s3.heap.push { cls:= .type "slice",data:= .fields #[vl,vu,.none]}} σ H3 x v vl vu l u s3.heap.objs.size Q I4 r1 (aA.IsSliceOf.new ..) pl pu q3
 show wpAny (model X.prog X.w) X.A (subscriptTail e (.Slice lo hi none p2) v (.ref s3.heap.objs.size)) (EP X pins σ Q) X.xe { s3 with heap:=s3.heap.push { cls:= .type "slice",data:= .fields #[vl,vu,.none]}}
 exact tail_any (ops:=[.ref s3.heap.objs.size,v]) ht hT hg (by with_unfolding_all rfl)
def eu(xs:List V)(lo hi:Option Int):List V:=(xs.drop (HT.sIx xs.length 0 lo)).take (HT.sIx xs.length xs.length hi - HT.sIx xs.length 0 lo)
theorem Bj(xs:List V)(lo hi:Option Int):(eu xs lo hi).length<=xs.length:=by
 unfold eu
 rw[zLT,dD]
 omega
inductive Bk(K:aB)(x:V)(lo:Option Int)(hi:Option Int)(H:Hp)(Q:VK):Prop
 |mk:∀a xs,(x= .ref a)->(ag K H a xs)->(¬(HT.sIx xs.length 0 lo=0/\HT.sIx xs.length xs.length hi=xs.length))->(∀p,H p=none->Q (.ref p) (ae H p (.tup (eu xs lo hi))))->Bk K x lo hi H Q
def Hk(K:aB):V->Option Int->Option Int->Hp->VK->Prop:=fun x lo hi H Q=>Bk K x lo hi H Q
theorem Bl:sJ X (Hk X.K):=by
 intro pins s σ H x v vl vu lo hi sl Q I rx hs pl pu h
 obtain⟨a,xs,rfl,hx,hw,q⟩:=h
 cases rx
 obtain⟨its,r,ht,hz⟩:=I.tuple hx
 have hlen:its.toArray.size=xs.length:=by rw[bW];exact r.length.symm
 refine⟨"tuple",_,m8.lookup,ht.typeIs,?_⟩
 refine HT.getItem_tuple_cut ht hs pl pu (by rw[hlen];exact hw) ?_ (by rw[hlen];exact hz)
 rw[hlen]
 refine⟨.ref s.heap.objs.size,_,I.laid (t':=s.toks) (o:= .tup (eu xs lo hi)) (fun b ob q=>br _ q) (aJ _) ?_,rfl,q _ (I.hok.fresh (aJ _))⟩
 exact⟨dJ (Bj xs lo hi) hz,_,(r.drop (HT.sIx xs.length 0 lo)).take (HT.sIx xs.length xs.length hi - HT.sIx xs.length 0 lo),cz.new _ _⟩
end
def lU(n:Nat)(i:Int):Option Nat:=if 0<=i then (if i<n then some i.toNat else none)else if -(n:Int)<=i then some (i+n).toNat else none
def dn{α:Type}(xs:List α)(i:Int):Option α:=(lU xs.length i).bind fun j=>xs[j]?
theorem Bm{n:Nat}{i:Int}{j:Nat}(h:lU n i=some j):seqIndex? i n=some j/\j<n/\ -(n:Int)<=i/\i<n:=by
 unfold lU at h
 by_cases h0:0<=i
 ·rw[if_pos h0]at h
  by_cases h1:i<n
  ·rw[if_pos h1]at h
   have e:i.toNat=j:=cQ h
   exact⟨by rw[uI h0 h1,e],by omega,by omega,h1⟩
  ·rw[if_neg h1]at h;cases h
 ·rw[if_neg h0]at h
  by_cases h1: -(n:Int)<=i
  ·rw[if_pos h1]at h
   have e:(i+n).toNat=j:=cQ h
   exact⟨by rw[uJ (by omega) h1,e],by omega,h1,by omega⟩
  ·rw[if_neg h1]at h;cases h
theorem wc{α:Type}{xs:List α}{i:Int}{v:α}(h:dn xs i=some v):∃j,seqIndex? i xs.length=some j/\xs[j]?=some v/\j<xs.length/\ -(xs.length:Int)<=i/\i<xs.length:=by
 unfold dn at h
 cases e:lU xs.length i with
 |none=>rw[e]at h;cases h
 |some j=>
  rw[e]at h
  obtain⟨h1,h2,h3,h4⟩:=Bm e
  exact⟨j,h1,h,h2,h3,h4⟩
theorem dH{α:Type}{xs:List α}{j:Nat}{v:α}(h:xs[j]?=some v):dn xs (j:Int)=some v:=by
 have hj:j<xs.length:=(bI.mp h).1
 have e:lU xs.length (j:Int)=some j:=by
  unfold lU
  rw[if_pos (by omega),if_pos (by omega)];simp
 unfold dn;rw[e];exact h
def Hl(b:Expr):Prop:=∀o i,subscripted b false o i=operate [o,i] (getItem o i)
def jQ(X:Cx)(r:R2):Prop:=
 ∀(value slice:Expr)(pins:List (Addr×aI))(s:ah)(σ:St)(H:Hp)(x y:V)(v u:aa)(Q:VK),Inv X pins σ H s->aW x v->aW y u->r x y H Q->
  subscripted slice false v u=operate [v,u] (getItem v u)->wpAny (model X.prog X.w) X.A (subscriptTail value slice v u) (EP X pins σ Q) X.xe s
def sK(X:Cx)(id:String)(r:V->List V->Hp->VK->Prop):Prop:=
 ∀(pins:List (Addr×aI))(s:ah)(σ:St)(H:Hp)(x:V)(xs:List V)(v:aa)(us:List aa)(Q:VK),Inv X pins σ H s->aW x v->aS xs us->r x xs H Q->
  wpAny (model X.prog X.w) X.A (call (.builtin id) (v::us)) (EP X pins σ Q) X.xe s
section
variable{X:Cx}{a b:Expr}{ta tb:TE}{pos:Pos}
theorem jQ.or{r r':R2}(h:jQ X r)(h':jQ X r'):jQ X (fun x y H Q=>r x y H Q\/r' x y H Q):=by
 intro value slice pins s σ H x y v u Q I rx ry q hs
 rcases q with q|q
 ·exact h value slice pins s σ H x y v u Q I rx ry q hs
 ·exact h' value slice pins s σ H x y v u Q I rx ry q hs
theorem bG{r:R2}(hr:jQ X r)(ha:PE X a ta)(hb:PE X b tb)(hs:Hl b):PE X (.Subscript a b pos) (lM r ta tb):=by
 intro pins s σ H Q I h
 exact Subscript_ (v7 ha hb I h fun v u s2 x y H2 I2 rx ry q=>hr a b pins s2 σ H2 x y v u Q I2 rx ry q (hs _ _))
inductive Bn(K:aB)(x:V)(y:V)(H:Hp)(Q:VK):Prop
 |mk:∀p xs i v,(x= .ref p)->(y= .int i)->(ak K H p xs)->(dn xs i=some v)->(Q v H)->Bn K x y H Q
def we(K:aB):R2:=fun x y H Q=>Bn K x y H Q
inductive Bo(K:aB)(x:V)(y:V)(H:Hp)(Q:VK):Prop
 |mk:∀p xs i v,(x= .ref p)->(y= .int i)->(ag K H p xs)->(dn xs i=some v)->(Q v H)->Bo K x y H Q
def wf(K:aB):R2:=fun x y H Q=>Bo K x y H Q
inductive Bp(x:V)(y:V)(H:Hp)(Q:VK):Prop
 |mk:∀z i c,(x= .str z)->(y= .int i)->(z.length<=sizeLine)->(dn z.cps.toList i=some c)->(Q (.str ⟨#[c]⟩) H)->Bp x y H Q
def Bq:R2:=fun x y H Q=>Bp x y H Q
theorem bV:jQ X (we X.K):=by
 intro value slice pins s σ H x y v u Q I rx ry h hs
 obtain⟨p,xs,i,z,rfl,rfl,hq,he,q⟩:=h
 cases rx
 obtain⟨t,rfl⟩:=ry
 obtain⟨its,r,pl,hz⟩:=I.list hq
 obtain⟨j,h1,h2,h3,h4,h5⟩:=wc he
 obtain⟨w,ew,rw'⟩:=r.get h2
 have hl:=r.length
 have hn:=gY
 have fin:EP X pins σ Q w s:=⟨z,H,I,rw',q⟩
 by_cases h0:0<=i
 ·have hj:i.toNat=j:=by
   rw[uI h0 h5]at h1
   exact cQ h1
  exact item_listR pl.isList h0 (by omega) (by rw[hj];simpa using ew) fin hs
 ·have hj:(i+(its.toArray.size:Int)).toNat=j:=by
   rw[uJ (by omega) h4]at h1
   rw[bW,<-hl]
   exact cQ h1
  exact zY (x:=w) pl.isList.typeIs yI.lookup
   (wpAny_getItem_list_neg (Q:=fun r s'=>r=w/\EP X pins σ Q r s') pl.isList (by omega) (by rw[bW]<;>omega) (by omega) (by rw[hj];simpa using ew) ⟨rfl,fin⟩) hs
theorem lV:jQ X (wf X.K):=by
 intro value slice pins s σ H x y v u Q I rx ry h hs
 obtain⟨p,xs,i,z,rfl,rfl,hq,he,q⟩:=h
 cases rx
 obtain⟨t,rfl⟩:=ry
 obtain⟨its,r,pl,hz⟩:=I.tuple hq
 obtain⟨j,h1,h2,h3,h4,h5⟩:=wc he
 obtain⟨w,ew,rw'⟩:=r.get h2
 have hl:=r.length
 have hn:=gY
 have fin:EP X pins σ Q w s:=⟨z,H,I,rw',q⟩
 exact zY (x:=w) pl.typeIs vB.lookup
  (getItem_tuple (j:=j) (Q:=fun r s'=>r=w/\EP X pins σ Q r s') pl (by omega) (by omega) (by rw[bW,<-hl];exact h1) (by simpa using ew) ⟨rfl,fin⟩) hs
theorem lW:jQ X Bq:=by
 intro value slice pins s σ H x y v u Q I rx ry h hs
 obtain⟨z,i,c,rfl,rfl,hz,he,q⟩:=h
 obtain⟨t,rfl⟩:=rx
 obtain⟨t',rfl⟩:=ry
 obtain⟨j,h1,h2,h3,h4,h5⟩:=wc he
 have hl:z.cps.toList.length=z.length:=by simp[ac.length]
 rw[hl]at h1 h4 h5
 have hn:=gY
 exact tail_any (typeIs_str s z t) slot_str_getitem.lookup (getItem_str (c:=c) (by
  have e1:decide (i< -(2 ^ 63:Int))=false:=decide_eq_false (by omega)
  have e2:decide (i>=2 ^ 63)=false:=decide_eq_false (by omega)
  rw[e1,e2,vD]) (by rw[h1];simpa using h2) ⟨.str ⟨#[c]⟩,H,I.tok _,⟨_,rfl⟩,q⟩) hs
def Br(K:aB):R2:=fun x y H Q=>we K x y H Q\/wf K x y H Q\/Bq x y H Q
theorem Bs:jQ X (Br X.K):=bV.or (lV.or lW)
theorem Hm(its:List aa)(n j:Nat)(u:aa):eM (·.setIfInBounds j u) { cls:= .type "list",data:= .seq its.toArray n}={ cls:= .type "list",data:= .seq (its.set j u).toArray n}:=by
 simp[eM]
theorem Inv.lst{pins:List (Addr×aI)}{σ:St}{H:Hp}{s:ah}{p:Addr}{xs:List V}(I:Inv X pins σ H s)(h:H p=some (.lst xs)):
 ∃(its:List aa)(n:Nat),aS xs its/\s.heap.get? p=some { cls:= .type "list",data:= .seq its.toArray n}/\xs.length<=sizeLine:=by
 obtain⟨z,its,n,r,e⟩:=I.hok p _ h
 exact⟨its,n,r,e,z⟩
theorem Inv.lstUpd{pins:List (Addr×aI)}{σ:St}{H:Hp}{s:ah}{p:Addr}{xs ys:List V}{its its':List aa}{n n':Nat}{f:aI->aI}(I:Inv X pins σ H s)(h:H p=some (.lst xs))
 (ho:s.heap.get? p=some { cls:= .type "list",data:= .seq its.toArray n}) (hf:f { cls:= .type "list",data:= .seq its.toArray n}={ cls:= .type "list",data:= .seq its'.toArray n'}) (r:aS ys its') (hz:ys.length<=sizeLine) (t:Nat):
 Inv X pins σ (ae H p (.lst ys)) { s with heap:=s.heap.update p f,toks:=t}:=by
 have e:(s.heap.update p f).get? p=some { cls:= .type "list",data:= .seq its'.toArray n'}:=by
  rw[jD f ho (by rw[hf]<;>rfl),hf]
 refine I.write (x:=p) (e:=p) (by rw[h];trivial) (.inl rfl) (fun b u hb q=>(jE _ _ (gc hb)).trans q) ⟨_,e⟩ ?_
 exact⟨hz,its',n',r,e⟩
inductive Bt(o:V)(i:V)(v:V)(H:Hp)(Q:Hp->Prop):Prop
 |mk:∀p xs k j,(o= .ref p)->(i= .int k)->(H p=some (.lst xs))->(lU xs.length k=some j)->(Q (ae H p (.lst (xs.set j v))))->Bt o i v H Q
def Hn:V->V->V->Hp->(Hp->Prop)->Prop:=fun o i v H Q=>Bt o i v H Q
theorem Bu:AJ X Hn:=by
 intro pins s σ H o i v ov iv u Q I ro ri rv h
 obtain⟨p,xs,k,j,rfl,rfl,hp,hj,q⟩:=h
 cases ro
 obtain⟨t,rfl⟩:=ri
 obtain⟨its,n,r,ho,hz⟩:=I.lst hp
 obtain⟨h1,h2,h3,h4⟩:=Bm hj
 have hl:=r.length
 have hn:=gY
 have I':Inv X pins σ (ae H p (.lst (xs.set j v))) { s with heap:=s.heap.update p (eM (·.setIfInBounds j u))}:=
  I.lstUpd hp ho (Hm its n j u) (r.set rv j) (by rw[List.length_set];exact hz) s.toks
 by_cases h0:0<=k
 ·have hk:k.toNat=j:=by
   rw[uI h0 h4]at h1
   exact cQ h1
  exact PySem.W.ki_setAt ho h0 (by omega) (by rw[bW,<-hl];exact h4) (by rw[hk];exact⟨_,I',q⟩)
 ·have hk:(k+(its.toArray.size:Int)).toNat=j:=by
   rw[uJ (by omega) h3]at h1
   rw[bW,<-hl]
   exact cQ h1
  exact PySem.W.ki_setBack ho (by omega) (by rw[bW,<-hl];exact h3) (by omega) (by rw[hk];exact⟨_,I',q⟩)
theorem Ho(lo hi:Option Int)(n:Nat):(sliceBounds lo hi none n).1=((HT.sIx n 0 lo:Nat):Int)/\(sliceBounds lo hi none n).2.1=((HT.sIx n n hi:Nat):Int)/\(sliceBounds lo hi none n).2.2=1:=by
 refine⟨?_,?_,rfl⟩
 ·cases lo with
  |none=>simp[sliceBounds,HT.sIx]
  |some i=>
   simp only[sliceBounds,HT.sIx,rY,show (1:Int)>0 by decide,if_true]
   by_cases h:i<0
   ·simp only[h,if_true]<;>omega
   ·simp only[h,if_false]<;>omega
 ·cases hi with
  |none=>simp[sliceBounds,HT.sIx]
  |some i=>
   simp only[sliceBounds,HT.sIx,rY,show (1:Int)>0 by decide,if_true]
   by_cases h:i<0
   ·simp only[h,if_true]<;>omega
   ·simp only[h,if_false]<;>omega
theorem Hq(its:List aa)(lo hi:Option Int):slicePick its.toArray lo hi none=((its.drop (HT.sIx its.length 0 lo)).take (HT.sIx its.length its.length hi - HT.sIx its.length 0 lo)).toArray:=by
 obtain⟨h1,h2,h3⟩:=Ho lo hi its.toArray.size
 unfold slicePick
 rw[h1,h2,h3]
 simp only[sliceRange_one,pick_run,bW]<;>rfl
inductive Bv(K:aB)(x:V)(lo:Option Int)(hi:Option Int)(H:Hp)(Q:VK):Prop
 |mk:∀a xs,(x= .ref a)->(ak K H a xs)->(∀p,H p=none->Q (.ref p) (ae H p (.lst (eu xs lo hi))))->Bv K x lo hi H Q
def Hr(K:aB):V->Option Int->Option Int->Hp->VK->Prop:=fun x lo hi H Q=>Bv K x lo hi H Q
theorem gZ:sJ X (Hr X.K):=by
 intro pins s σ H x v vl vu lo hi sl Q I rx hs pl pu h
 obtain⟨a,xs,rfl,hx,q⟩:=h
 cases rx
 obtain⟨its,r,ht,hz⟩:=I.list hx
 have hlen:=r.length
 refine⟨"list",_,yI.lookup,ht.isList.typeIs,?_⟩
 refine wpAny_getItem_list_slice ht.isList hs pl pu .none (by simp) ?_ (by rw[bW]<;>omega)
 rw[Hq,<-hlen]
 refine⟨.ref s.heap.objs.size,_,I.laid (t':=s.toks) (o:= .lst (eu xs lo hi)) (fun b ob q=>br _ q) (aJ _) ?_,rfl,q _ (I.hok.fresh (aJ _))⟩
 exact⟨dJ (Bj xs lo hi) hz,_,0,(r.drop (HT.sIx xs.length 0 lo)).take (HT.sIx xs.length xs.length hi - HT.sIx xs.length 0 lo),bY _ rfl⟩
def jt:V->Bool
 |.non=>true
 |.bl _=>true
 |.int _=>true
 |.str _=>true
 |_=>false
def iS:V->V->Bool
 |.non,.non=>true
 |.bl a,.bl b=>a==b
 |.bl a,.int b=>(if a then 1 else 0)==b
 |.int a,.bl b=>a==(if b then 1 else 0)
 |.int a,.int b=>a==b
 |.str a,.str b=>a==b
 |_,_=>false
theorem Hs{A:bx}{s:ah}{y x:V}{u v:aa}(ry:aW y u)(rx:aW x v)(fy:jt y=true)(fx:jt x=true):er A s u v (iS y x):=by
 cases y with
 |non=>
  cases ry
  cases x with
  |non=>cases rx;exact er.same _
  |bl b=>cases rx;exact er.none_bool b
  |int b=>obtain⟨t,rfl⟩:=rx;exact er.none_int b t
  |str b=>obtain⟨t,rfl⟩:=rx;exact er.none_str b t
  |_=>exact absurd (show false=true from fx) dm
 |bl a=>
  cases ry
  cases x with
  |non=>cases rx;exact er.bool_none a
  |bl b=>cases rx;exact er.bool_bool a b
  |int b=>obtain⟨t,rfl⟩:=rx;exact er.bool_int a b t
  |str b=>obtain⟨t,rfl⟩:=rx;exact er.bool_str a b t
  |_=>exact absurd (show false=true from fx) dm
 |int a=>
  obtain⟨t',rfl⟩:=ry
  cases x with
  |non=>cases rx;exact er.int_none a t'
  |bl b=>cases rx;exact er.int_bool a t' b
  |int b=>obtain⟨t,rfl⟩:=rx;exact er.int_int a t' b t
  |str b=>obtain⟨t,rfl⟩:=rx;exact Av a t' b t
  |_=>exact absurd (show false=true from fx) dm
 |str a=>
  obtain⟨t',rfl⟩:=ry
  cases x with
  |non=>cases rx;exact er.str_none a t'
  |bl b=>cases rx;exact er.str_bool a t' b
  |int b=>obtain⟨t,rfl⟩:=rx;exact Aw a t' b t
  |str b=>obtain⟨t,rfl⟩:=rx;exact er.str_str a t' b t
  |_=>exact absurd (show false=true from fx) dm
 |_=>exact absurd (show false=true from fy) dm
def jR(x:V)(u:aa):Bool:=match u with
 |.none=>iS .non x
 |.bool b=>iS (.bl b) x
 |.int i _=>iS (.int i) x
 |.str z _=>iS (.str z) x
 |_=>false
theorem Bw{x y:V}{u:aa}(r:aW y u)(f:jt y=true):jR x u=iS y x:=by
 cases y with
 |non=>cases r;rfl
 |bl b=>cases r;rfl
 |int i=>obtain⟨t,rfl⟩:=r;rfl
 |str z=>obtain⟨t,rfl⟩:=r;rfl
 |_=>exact absurd (show false=true from f) dm
theorem wg{x:V}:∀{xs:List V}{us:List aa},aS xs us->xs.all jt=true->us.any (jR x)=xs.any fun y=>iS y x
 |_,_,.nil,_=>rfl
 |y::xs,u::us,.cons r t,f=>by
  rw[List.all_cons,iO]at f
  rw[pk,pk,Bw r f.1,wg t f.2]
theorem wj{A:bx}{s:ah}{x:V}{v:aa}(rx:aW x v)(fx:jt x=true):∀{xs:List V}{us:List aa},aS xs us->xs.all jt=true->∀u∈us,er A s u v (jR x u)
 |_,_,.nil,_=>fun u hu=>by cases hu
 |y::xs,u::us,.cons r t,f=>fun u' hu=>by
  rw[List.all_cons,iO]at f
  rcases bF.mp hu with rfl|hu
  ·rw[Bw r f.1];exact Hs r rx f.1 fx
  ·exact wj rx fx t f.2 u' hu
def pS(x:V)(xs:List V):Bool:=xs.any fun y=>iS y x
def Ht(K:aB)(neg:Bool):R2:=fun x y H Q=>∃p xs,y= .ref p/\(ak K H p xs\/ag K H p xs)/\jt x=true/\xs.all jt=true/\Q (.bl (if neg then !pS x xs else pS x xs)) H
theorem Hu:cL X (compareOp .NotIn) (Ht X.K true):=by
 intro pins s σ H x y v u Q I rx ry h
 obtain⟨p,xs,rfl,hq,fx,fs,q⟩:=h
 cases ry
 rcases hq with hq|hq
 ·obtain⟨its,r,pl,hz⟩:=I.list hq
  refine Ad (jR x) pl.isList (fun w hw=>wj rx fx r fs w (by simpa using hw)) ⟨.bl _,H,I,rfl,?_⟩
  rw[show its.toArray.any (jR x)=its.any (jR x)by simp,wg r fs]
  exact q
 ·obtain⟨its,r,pl,hz⟩:=I.tuple hq
  refine SeqAt.notIn_tupleAt (jR x) pl (fun w hw=>wj rx fx r fs w (by simpa using hw)) ⟨.bl _,H,I,rfl,?_⟩
  rw[show its.toArray.any (jR x)=its.any (jR x)by simp,wg r fs]
  exact q
inductive Bx(X:Cx)(xs:List V)(H:Hp)(Q:VK):Prop
 |mk:∀p ys,(xs=[.ref p])->((ak X.K H p ys\/ag X.K H p ys))->(Q (.int ys.length) H)->Bx X xs H Q
theorem cm:fR X (.builtin "len") (fun xs H Q=>Bx X xs H Q):=by
 intro pins s σ H xs us Q I r h
 obtain⟨p,ys,rfl,hq,q⟩:=h
 obtain⟨u,rfl,rx⟩:=ix r
 cases rx
 have hn:=gY
 rcases hq with hq|hq
 ·obtain⟨its,r',pl,hz⟩:=I.list hq
  have hlen:=r'.length
  exact Calls.call_len_list pl.isList (by simp only[bW]<;>omega) ⟨.int ys.length,H,I.tok _,⟨s.toks+1,by rw[bW,hlen]⟩,q⟩
 ·obtain⟨its,r',pl,hz⟩:=I.tuple hq
  have hlen:=r'.length
  exact vC pl (by simp only[bW]<;>omega) ⟨.int ys.length,H,I.tok _,⟨s.toks+1,by rw[bW,hlen]⟩,q⟩
inductive By(X:Cx)(xs:List V)(H:Hp)(Q:VK):Prop
 |mk:∀p ys,(xs=[.ref p])->((ak X.K H p ys\/ag X.K H p ys))->(∀l,H l=none->Q (.ref l) (ae H l (.lst ys)))->By X xs H Q
theorem sL:fR X (.type "list") (fun xs H Q=>By X xs H Q):=by
 intro pins s σ H xs us Q I r h
 obtain⟨p,ys,rfl,hq,q⟩:=h
 obtain⟨u,rfl,rx⟩:=ix r
 cases rx
 have fin:∀(its:List aa),aS ys its->ys.length<=sizeLine->∀(h':aA)(c':Nat),(∀b o',s.heap.get? b=some o'->h'.get? b=some o')->
  h'.get? s.heap.objs.size=some { cls:= .type "list",dict:=none,data:= .seq its.toArray c',slots:=#[]}->EP X pins σ Q (.ref s.heap.objs.size) { s with heap:=h'}:=fun its r' hz h' c' kp e=>
  ⟨.ref s.heap.objs.size,_,I.laid (t':=s.toks) kp (aJ _) (show cu X.prog X.w _ h' _ (.lst ys)from ⟨hz,its,c',r',e⟩),rfl,q _ (I.hok.fresh (aJ _))⟩
 rcases hq with hq|hq
 ·obtain⟨its,r',pl,hz⟩:=I.list hq
  have hlen:=r'.length
  obtain⟨o,ho,hc,n,hd⟩:=pl.isList
  exact call_list_seq p (.inl rfl) ho hc hd (fun h' c' kp e=>fin its r' hz h' c' kp e) (by simp only[bW]<;>omega)
 ·obtain⟨its,r',pl,hz⟩:=I.tuple hq
  have hlen:=r'.length
  obtain⟨o,ho,hc,n,hd⟩:=pl
  exact call_list_seq p (.inr rfl) ho hc hd (fun h' c' kp e=>fin its r' hz h' c' kp e) (by simp only[bW]<;>omega)
theorem nA:fR X (.type "tuple") (fun xs H Q=>∃p ys,xs=[.ref p]/\((ak X.K H p ys/\∀l,H l=none->Q (.ref l) (ae H l (.tup ys)))\/(ag X.K H p ys/\Q (.ref p) H))):=by
 intro pins s σ H xs us Q I r h
 obtain⟨p,ys,rfl,h⟩:=h
 obtain⟨u,rfl,rx⟩:=ix r
 cases rx
 rcases h with⟨hq,q⟩|⟨hq,q⟩
 ·obtain⟨its,r',pl,hz⟩:=I.list hq
  have hlen:=r'.length
  refine call_tuple_list pl.isList (fun h' kp=>?_) (by simp only[bW]<;>omega)
  have I1:Inv X pins σ H { s with heap:=h'}:=I.kept (t':=s.toks) kp
  have I2:Inv X pins σ (ae H h'.objs.size (.tup ys)) { s with heap:=h'.push { cls:= .type "tuple",data:= .seq its.toArray}}:=
   I1.laid (t':=s.toks) (fun b o e=>br _ e) (aJ _) (show cu X.prog X.w _ _ _ (.tup ys)from ⟨hz,its,r',cz.new _ _⟩)
  exact⟨.ref h'.objs.size,_,I2,rfl,q _ (I1.hok.fresh (aJ _))⟩
 ·obtain⟨its,r',pl,hz⟩:=I.tuple hq
  exact call_tuple_same pl ⟨.ref p,H,I,rfl,q⟩
def wk(K:aB)(T:String)(x:V)(H:Hp):Prop:=match x with
 |.str _=>T="str"
 |.int _=>T="int"
 |.ref p=>(T="list"/\∃xs,ak K H p xs)\/(T="tuple"/\∃o,K.lookup p=some o/\o.cls= .type "tuple"/\o.dict=none)\/
  (T="dict"/\((∃kvs,H p=some (.dK kvs))\/∃kvs,H p=some (.dT kvs)))\/(T="set"/\∃S n,H p=some (.set S n))
 |_=>False
theorem Bz{pins:List (Addr×aI)}{σ:St}{H:Hp}{s:ah}{T:String}{x:V}{v:aa}(I:Inv X pins σ H s)(r:aW x v)(ty:wk X.K T x H):
 s.TypeIs v T/\∀a,v= .ref a->∃ob,s.heap.get? a=some ob/\ob.dict=none:=by
 cases x with
 |str z=>
  obtain⟨t,rfl⟩:=r
  cases (show T="str" from ty)
  exact⟨typeIs_str s z t,fun _ e=>nomatch e⟩
 |int i=>
  obtain⟨t,rfl⟩:=r
  cases (show T="int" from ty)
  exact⟨typeIs_int s i t,fun _ e=>nomatch e⟩
 |ref p=>
  cases r
  rcases ty with⟨rfl,xs,hq⟩|⟨rfl,o,hk,hc,hd⟩|⟨rfl,hk⟩|⟨rfl,S,n,hk⟩
  ·obtain⟨its,_,pl,_⟩:=I.list hq
   refine⟨pl.isList.typeIs,fun a e=>?_⟩
   cases e
   obtain⟨o,n,e,c,hd,_⟩:=pl
   exact⟨o,e,hd⟩
  ·refine⟨⟨o,I.kIn p o hk,hc⟩,fun a e=>?_⟩
   cases e
   exact⟨o,I.kIn _ o hk,hd⟩
  ·have z:∃o,s.heap.get? p=some o/\o.ExactDict:=by
      rcases hk with⟨kvs,hk⟩|⟨kvs,hk⟩
      ·obtain⟨_,_,_,_,o,_,_,e,ex,_⟩:=I.hok p _ hk
       exact⟨o,e,ex⟩
      ·obtain⟨_,_,_,_,o,_,_,e,ex,_⟩:=I.hok p _ hk
       exact⟨o,e,ex⟩
   obtain⟨o,e,ex⟩:=z
   refine⟨⟨o,e,ex.1⟩,fun a e2=>?_⟩
   cases e2
   exact⟨o,e,ex.2.1⟩
  ·obtain⟨o,_,_,_,e,ex,_⟩:=I.hok p _ hk
   refine⟨⟨o,e,ex.1⟩,fun a e2=>?_⟩
   cases e2
   exact⟨o,e,ex.2.1⟩
 |_=>exact gX ty
def Hv(K:aB)(T:String)(r:V->List V->Hp->VK->Prop)(to:TE):TE:=fun σ H Q=>to σ H fun x H1=>wk K T x H1/\r x [] H1 Q
def Hw(K:aB)(T:String)(r:V->List V->Hp->VK->Prop)(to:TE)(t:TA):TE:=fun σ H Q=>to σ H fun x H1=>wk K T x H1/\t σ H1 fun xs H2=>r x xs H2 Q
variable{o e:Expr}{es:List Expr}{to:TE}{t:TA}{name:ac}{apos cpos:Pos}{T id:String}{r:V->List V->Hp->VK->Prop}
theorem kQ(pa:PlainAttrs T)(slot:Slot T name id)(hty:typeOf (.builtin id)=pure (.type "method_descriptor"))(hm:sK X id r)(ho:PE X o to)
 (hbase:attributeBase o name X.env (eval o X.env)=eval o X.env:=by rfl) (hline:(apos.endLine==cpos.line)=true:=by rfl):PE X (.Call (.Attribute o name apos) [] [] cpos) (Hv X.K T r to):=by
 intro pins s σ H Q I h
 refine yJ hbase hline (aL (ho pins s σ H _ I h) fun v s1 ⟨x,H1,I1,r1,ty,q1⟩=>?_)
 obtain⟨h1,h2⟩:=Bz I1 r1 ty
 exact⟨T,id,pa,slot,hty,h1,h2,rV rfl (yK (hm pins s1 σ H1 x [] v [] Q I1 r1 .nil q1))⟩
theorem cE(pa:PlainAttrs T)(slot:Slot T name id)(hty:typeOf (.builtin id)=pure (.type "method_descriptor"))(hm:sK X id r)(ho:PE X o to)(ha:PA X (e::es) t)
 (hbase:attributeBase o name X.env (eval o X.env)=eval o X.env:=by rfl)
 (hfew:((backTo cpos (starEach (e::es) X.env)).all (fun x=> !x.1)&&(backToKw cpos (keywordEach [] X.env)).all (fun x=>x.1.isSome)
  &&decide ((e::es).length+([]:List Keyword).length+(if ([]:List Keyword).isEmpty then 0 else 1)<30))=true:=by rfl)
 (hline:(apos.endLine==cpos.line)=true:=by rfl) (hs:starEach (e::es) X.env=(false,eval e X.env)::starEach es X.env:=by rfl) (hplain:(backTo cpos (starEach es X.env)).any (·.1)=false:=by rfl):
 PE X (.Call (.Attribute o name apos) (e::es) [] cpos) (Hw X.K T r to t):=by
 intro pins s σ H Q I h
 refine wpAny_Call_method_late hbase hfew hline rfl (aL (ho pins s σ H _ I h) fun v s1 ⟨x,H1,I1,r1,ty,q1⟩=>?_)
 obtain⟨h1,h2⟩:=Bz I1 r1 ty
 refine⟨T,id,pa,slot,hty,h1,h2,?_⟩
 have hA:=ha cpos pins s1 σ H1 _ I1 q1
 rw[hs]at hA |-
 refine rV (by show (false||(backTo cpos (starEach es X.env)).any (·.1))=false;rw[hplain]<;>rfl) (vK ?_)
 exact aL hA fun us s2 ⟨vs,H2,I2,r2,q2⟩=>hm pins s2 σ H2 x vs v us Q I2 r1 r2 q2
end
def wl(X:Cx)(id:String)(r:V->List V->Hp->VK->Prop):Prop:=
 ∀(pins:List (Addr×aI))(s:ah)(σ:St)(H:Hp)(x:V)(xs:List V)(v:aa)(us:List aa)(Q:VK),Inv X pins σ H s->aW x v->aS xs us->r x xs H Q->
  wpAny (model X.prog X.w) X.A (call (.builtin id) (v::us)) (EP X pins σ Q) X.xe s
theorem aS.one:∀{x:V}{us:List aa},aS [x] us->∃u,us=[u]/\aW x u
 |_,_,.cons r .nil=>⟨_,rfl,r⟩
theorem aS.zero:∀{us:List aa},aS [] us->us=[]
 |_,.nil=>rfl
theorem aS.dropLast{xs:List V}{us:List aa}(h:aS xs us):aS xs.dropLast us.dropLast:=by
 induction h with
 |nil=>exact .nil
 |cons r t ih=>
  cases t with
  |nil=>exact .nil
  |cons q t'=>exact .cons r ih
theorem Hx{α:Type}(l:List α):l.eraseIdx (l.length - 1)=l.dropLast:=by
 induction l with
 |nil=>rfl
 |cons a r ih=>
  cases r with
  |nil=>rfl
  |cons b r=>
   have e:(a::b::r).length - 1=((b::r).length - 1)+1:=by
        have h1:(a::b::r).length=r.length+2:=rfl
        have h2:(b::r).length=r.length+1:=rfl
        omega
   rw[e,List.eraseIdx_cons_succ,ih]
   all_goals rfl
section
variable{X:Cx}{pins:List (Addr×aI)}{σ:St}{H:Hp}{s:ah}{l b:Addr}{xs ys zs:List V}
theorem Inv.lset{its its':List aa}{n:Nat}{f:Array aa->Array aa}{t':Nat}(I:Inv X pins σ H s)(hH:H l=some (.lst xs))
 (e:s.heap.get? l=some { cls:= .type "list",data:= .seq its.toArray n}) (hf:f its.toArray=its'.toArray) (hv:aS ys its') (hz:ys.length<=sizeLine):
 Inv X pins σ (ae H l (.lst ys)) { s with heap:=s.heap.update l (eM f),toks:=t'}:=by
 have q:=PySem.IsL.update e f
 rw[hf]at q
 refine I.write (x:=l) (e:=l) (by rw[hH];exact trivial) (.inl rfl) (fun b' u hb hu=>(jE s.heap (eM f) (gc hb)).trans hu) ⟨_,q⟩ ?_
 exact⟨hz,its',_,hv,q⟩
theorem Inv.lnew{its:List aa}{t':Nat}(I:Inv X pins σ H s)(hv:aS ys its)(hz:ys.length<=sizeLine):
 Inv X pins σ (ae H s.heap.objs.size (.lst ys)) { s with heap:=s.heap.push { cls:= .type "list",data:= .seq its.toArray},toks:=t'}:=
 I.laid (fun _ _ q=>br _ q) (aJ _) ⟨hz,its,0,hv,bY _ rfl⟩
theorem Inv.fresh(I:Inv X pins σ H s):H s.heap.objs.size=none:=I.hok.fresh (aJ _)
theorem Inv.lstM(I:Inv X pins σ H s)(hH:H l=some (.lst xs)):xs.length<=sizeLine/\∃(its:List aa)(n:Nat),aS xs its/\xs.length=its.length/\s.heap.get? l=some { cls:= .type "list",data:= .seq its.toArray n}:=by
 obtain⟨z,its,n,r,e⟩:=I.hok l _ hH
 exact⟨z,its,n,r,r.length,e⟩
theorem Hy{n:Nat}(h:n<=sizeLine):pH n=false:=by
 unfold pH
 exact decide_eq_false (by omega)
end
section
variable{X:Cx}
inductive BA(x:V)(vs:List V)(H:Hp)(Q:VK):Prop
 |mk:∀l xs y,(x= .ref l)->(vs=[y])->(H l=some (.lst xs))->(xs.length<sizeLine)->(Q .non (ae H l (.lst (xs++[y]))))->BA x vs H Q
def BB:V->List V->Hp->VK->Prop:=fun x vs H Q=>BA x vs H Q
theorem dg:wl X "list.append" BB:=by
 intro pins s σ H x vs v us Q I rx rv h
 obtain⟨l,xs,y,rfl,rfl,hH,hz,q⟩:=h
 cases rx
 obtain⟨u,rfl,ru⟩:=rv.one
 obtain⟨z,its,n,r,hl,e⟩:=I.lstM hH
 refine pb F.slot_list_append ⟨_,e,rfl⟩ F.entry_list_append (F.args_list_append_2 _ _) (PySem.list_append l its.toArray n u (by rw[bW];omega)) ⟨e,?_⟩
 refine⟨.non,_,I.lset (its':=its++[u]) hH e (by simp) (r.append (.cons ru .nil)) ?_,rfl,q⟩
 rw[zLA,zm]
 omega
inductive BC(x:V)(vs:List V)(H:Hp)(Q:VK):Prop
 |mk:∀l b xs zs,(x= .ref l)->(vs=[.ref b])->(H l=some (.lst xs))->(H b=some (.lst zs))->(xs.length+zs.length<=sizeLine)->(Q .non (ae H l (.lst (xs++zs))))->BC x vs H Q
def Hz:V->List V->Hp->VK->Prop:=fun x vs H Q=>BC x vs H Q
theorem pT:wl X "list.extend" Hz:=by
 intro pins s σ H x vs v us Q I rx rv h
 obtain⟨l,b,xs,zs,rfl,rfl,hH,hB,hz,q⟩:=h
 cases rx
 obtain⟨u,rfl,ru⟩:=rv.one
 cases ru
 obtain⟨z,its,n,r,hl,e⟩:=I.lstM hH
 obtain⟨z2,its2,n2,r2,hl2,e2⟩:=I.lstM hB
 have hsz:its.toArray.size+its2.toArray.size<=sizeLine:=by rw[bW,bW];omega
 have hlong:¬(!its.toArray.isEmpty&&pH (its.toArray.size+its2.toArray.size))=true:=by
  rw[Hy hsz,Bool.and_false]
  exact dm
 refine pb F.slot_list_extend ⟨_,e,rfl⟩ F.entry_list_extend (F.args_list_extend_2 _ _)
  (AutoSeq1.list_extend_list_list_0 l its.toArray n b its2.toArray n2 hlong (by rw[bW];omega) (by omega)) ⟨e,e2,?_⟩
 refine⟨.non,_,I.lset (its':=its++its2) hH e (by simp) (r.append r2) ?_,rfl,q⟩
 rw[zLA]
 omega
inductive BD(x:V)(vs:List V)(H:Hp)(Q:VK):Prop
 |mk:∀l xs y,(x= .ref l)->(vs=[])->(H l=some (.lst xs))->(xs[xs.length - 1]?=some y)->(Q y (ae H l (.lst xs.dropLast)))->BD x vs H Q
def HG:V->List V->Hp->VK->Prop:=fun x vs H Q=>BD x vs H Q
theorem kR:wl X "list.pop" HG:=by
 intro pins s σ H x vs v us Q I rx rv h
 obtain⟨l,xs,y,rfl,rfl,hH,hy,q⟩:=h
 cases rx
 have hus:=rv.zero
 subst hus
 obtain⟨z,its,n,r,hl,e⟩:=I.lstM hH
 obtain⟨u,hu,ru⟩:=r.get hy
 have hy':its.toArray[its.toArray.size - 1]?=some u:=by
  show its.toArray[its.length - 1]?=some u
  rw[<-Am,<-hl]
  exact hu
 refine pb F.slot_list_pop ⟨_,e,rfl⟩ F.entry_list_pop (F.args_list_pop_1 _) (MeetsSeq.list_pop_last l its.toArray n u hy' (by rw[bW];omega)) ⟨e,?_⟩
 refine⟨y,_,I.lset (its':=its.dropLast) hH e ?_ r.dropLast ?_,ru,q⟩
 ·show its.toArray.eraseIdxIfInBounds (its.toArray.size - 1)=its.dropLast.toArray
  rw[bW,List.eraseIdxIfInBounds_toArray,Hx]
 ·rw[List.length_dropLast]
  omega
inductive BE(x:V)(y:V)(H:Hp)(Q:VK):Prop
 |mk:∀l b xs zs,(x= .ref l)->(y= .ref b)->(H l=some (.lst xs))->(H b=some (.lst zs))->(xs.length+zs.length<=sizeLine)->(∀p,H p=none->Q (.ref p) (ae H p (.lst (xs++zs))))->BE x y H Q
def HH:R2:=fun x y H Q=>BE x y H Q
theorem jS:cL X (binaryOp .Add) HH:=by
 intro pins s σ H x y v u Q I rx ry h
 obtain⟨l,b,xs,zs,rfl,rfl,hH,hB,hz,q⟩:=h
 cases rx
 cases ry
 obtain⟨z,its,n,r,hl,e⟩:=I.lstM hH
 obtain⟨z2,its2,n2,r2,hl2,e2⟩:=I.lstM hB
 refine PySem.P.add_list e e2 ?_ (by rw[bW,bW];omega)
 have ea:its.toArray++its2.toArray=(its++its2).toArray:=by simp
 rw[ea]
 exact⟨.ref _,_,I.lnew (t':=s.toks) (r.append r2) (by rw[zLA];omega),rfl,q _ I.fresh⟩
end
section
variable{prog:aP}{w:aH}{A:bx}{E:aa->ah->Prop}{s:ah}
end
section
variable{X:Cx}
end
section
variable{κ:Type}[DecidableEq κ]
def bQ(kvs:List (κ×V))(k:κ):Option V:=(kvs.find? fun kv=>decide (kv.1=k)).map (·.2)
def cS(kvs:List (κ×V))(k:κ)(v:V):List (κ×V):=
 if (kvs.any fun kv=>decide (kv.1=k))=true then kvs.map (fun kv=>if kv.1=k then (kv.1,v)else kv)else kvs++[(k,v)]
theorem iA{p:κ×V}{r:List (κ×V)}{k:κ}(e:p.1=k):bQ (p::r) k=some p.2:=by simp[bQ,kH,e]
theorem iB{p:κ×V}{r:List (κ×V)}{k:κ}(e:¬p.1=k):bQ (p::r) k=bQ r k:=by simp[bQ,kH,e]
theorem pU(k:κ):∀kvs:List (κ×V),(kvs.any fun kv=>decide (kv.1=k))=(bQ kvs k).isSome
 |[]=>rfl
 |p::r=>by
  rw[pk]
  by_cases e:p.1=k
  ·simp only[iA e,decide_eq_true e,Bool.true_or,Option.isSome_some]
  ·rw[iB e,decide_eq_false e,Bool.false_or];exact pU k r
theorem BG(k j:κ)(y:V):∀kvs:List (κ×V),bQ (kvs.map fun kv=>if kv.1=k then (kv.1,y)else kv) j=(bQ kvs j).map fun x=>if j=k then y else x
 |[]=>rfl
 |p::r=>by
  have ih:=BG k j y r
  rw[bP]
  by_cases h:p.1=k
  ·rw[if_pos h]
   by_cases e:p.1=j
   ·rw[iA (p:=(p.1,y)) e,iA e,nj,if_pos (e.symm.trans h)]
   ·rw[iB (p:=(p.1,y)) e,iB e,ih]
  ·rw[if_neg h]
   by_cases e:p.1=j
   ·rw[iA (p:=p) e,iA e,nj,if_neg (fun z=>h (e.trans z))]
   ·rw[iB (p:=p) e,iB e,ih]
theorem BH(k j:κ)(y:V):∀kvs:List (κ×V),bQ kvs k=none->bQ (kvs++[(k,y)]) j=if j=k then some y else bQ kvs j
 |[],_=>by
  by_cases e:k=j
  ·rw[if_pos e.symm];exact iA (p:=(k,y)) e
  ·rw[if_neg (fun z=>e z.symm)];exact iB (p:=(k,y)) e
 |p::r,hn=>by
  rw[eL]
  have hk:¬p.1=k:=fun z=>by rw[iA z]at hn;cases hn
  rw[iB hk]at hn
  have ih:=BH k j y r hn
  by_cases e:p.1=j
  ·rw[iA e,iA e,if_neg (fun z=>hk (e.trans z))]
  ·rw[iB e,iB e,ih]
theorem sM(kvs:List (κ×V))(k j:κ)(y:V):bQ (cS kvs k y) j=if j=k then some y else bQ kvs j:=by
 unfold cS
 by_cases a:(kvs.any fun kv=>decide (kv.1=k))=true
 ·rw[if_pos a,BG]
  rw[pU]at a
  by_cases e:j=k
  ·obtain⟨x,hx⟩:=Ao.mp a
   rw[if_pos e,e,hx,nj,if_pos rfl]
  ·rw[if_neg e]
   cases bQ kvs j with
   |none=>rfl
   |some x=>rw[nj,if_neg e]
 ·rw[if_neg a]
  refine BH k j y kvs ?_
  rw[pU]at a
  cases q:bQ kvs k with
  |none=>rfl
  |some x=>rw[q]at a;exact(a rfl).elim
theorem nB(kvs:List (κ×V))(k:κ)(v:V):(cS kvs k v).length<=kvs.length+1:=by
 unfold cS
 split
 ·rw[zLM];omega
 ·rw[zLA,zLC,zLN];omega
theorem BI{kvs:List (κ×V)}{k:κ}(v:V)(h:bQ kvs k=none):cS kvs k v=kvs++[(k,v)]:=by
 unfold cS
 rw[pU,h]
 exact if_neg (by decide)
theorem fh.isSome_eq{o:Option V}{u:Option aa}(r:fh o u):o.isSome=u.isSome:=by
 cases o with
 |none=>cases u with
  |none=>rfl
  |some _=>exact(show False from r).elim
 |some _=>cases u with
  |none=>exact(show False from r).elim
  |some _=>rfl
theorem fh.getD{o:Option V}{u:Option aa}{d:V}{d':aa}(r:fh o u)(rd:aW d d'):aW (o.getD d) (u.getD d'):=by
 cases o with
 |none=>cases u with
  |none=>exact rd
  |some _=>exact(show False from r).elim
 |some _=>cases u with
  |none=>exact(show False from r).elim
  |some _=>exact r
theorem KV.val{kvs:List (κ×V)}{vs:List (κ×aa)}(r:KV kvs vs)(k:κ):fh (bQ kvs k) (valueAt vs k):=by
 unfold KV at r
 induction r with
 |nil=>exact True.intro
 |@cons p q ps qs h t ih=>
  obtain⟨h1,h2⟩:=h
  by_cases e:p.1=k
  ·have e':q.1=k:=h1.symm.trans e
   have b:valueAt (q::qs) k=some q.2:=by simp[valueAt,kH,e']
   rw[iA e,b];exact h2
  ·have e':¬q.1=k:=fun z=>e (h1.trans z)
   have b:valueAt (q::qs) k=valueAt qs k:=by simp[valueAt,kH,e']
   rw[iB e,b];exact ih
theorem KV.any{kvs:List (κ×V)}{vs:List (κ×aa)}(r:KV kvs vs)(k:κ):(kvs.any fun kv=>decide (kv.1=k))=vs.any fun kv=>decide (kv.1=k):=by
 unfold KV at r
 induction r with
 |nil=>rfl
 |cons h t ih=>rw[pk,pk,ih,h.1]
theorem KV.repl{kvs:List (κ×V)}{vs:List (κ×aa)}(r:KV kvs vs)(k:κ){y:V}{u:aa}(ry:aW y u):
 KV (kvs.map fun kv=>if kv.1=k then (kv.1,y)else kv) (vs.map fun kv=>if kv.1=k then (kv.1,u)else kv):=by
 unfold KV at r |-
 induction r with
 |nil=>exact .nil
 |@cons p q ps qs h t ih=>
  rw[bP,bP]
  refine .cons ?_ ih
  obtain⟨h1,h2⟩:=h
  by_cases e:p.1=k
  ·rw[if_pos e,if_pos (h1.symm.trans e)];exact⟨h1,ry⟩
  ·rw[if_neg e,if_neg (fun z=>e (h1.trans z))];exact⟨h1,h2⟩
theorem KV.put{kvs:List (κ×V)}{vs:List (κ×aa)}(r:KV kvs vs)(k:κ){y:V}{u:aa}(ry:aW y u):KV (cS kvs k y) (stored vs k u):=by
 unfold cS stored
 rw[r.any k]
 by_cases e:(vs.any fun kv=>decide (kv.1=k))=true
 ·rw[if_pos e,if_pos e];exact r.repl k ry
 ·rw[if_neg e,if_neg e];exact Paired.snoc r ⟨rfl,ry⟩
theorem KV.keys{kvs:List (κ×V)}{vs:List (κ×aa)}(r:KV kvs vs):kvs.map (·.1)=vs.map (·.1):=by
 unfold KV at r
 induction r with
 |nil=>rfl
 |cons h t ih=>rw[bP,bP,ih,h.1]
theorem KV.length{kvs:List (κ×V)}{vs:List (κ×aa)}(r:KV kvs vs):kvs.length=vs.length:=Paired.length r
end
theorem jT{P:aP}{w:aH}{k:Key}{u:aa}(r:aW (kV k) u):(cR P w).is k u=true:=by
 cases k with
 |inl i=>obtain⟨t,e⟩:=(show ∃t,u=aa.int i t from r);subst e;exact FS P w i t
 |inr x=>obtain⟨t,e⟩:=(show ∃t,u=aa.str x t from r);subst e;exact FT P w x t
theorem BJ{P:aP}{w:aH}:∀{ks:List Key}{us:List aa},aS (ks.map kV) us->ItemsAre (cR P w) ks us
 |[],_,r=>by rw[jk]at r;cases r;exact .nil
 |k::ks,_,r=>by
  rw[bP]at r
  cases r with
  |cons h t=>exact .cons (jT h) (BJ t)
abbrev KT(H:Hp):List (List Key×V)->List (List Key×Addr×aa)->Prop:=Paired fun p q=>p.1=q.1/\H q.2.1=some (.tup (p.1.map kV))/\aW p.2 q.2.2
theorem KT.val{H:Hp}{kvs:List (List Key×V)}{xs:List (List Key×Addr×aa)}(r:KT H kvs xs)(k:List Key):fh (bQ kvs k) ((atKey xs k).map (·.2)):=by
 induction r with
 |nil=>exact True.intro
 |@cons p q ps qs h t ih=>
  obtain⟨h1,_,h2⟩:=h
  by_cases e:p.1=k
  ·have e':q.1=k:=h1.symm.trans e
   have b:atKey (q::qs) k=some q.2:=by simp[atKey,kH,e']
   rw[iA e,b];exact h2
  ·have e':¬q.1=k:=fun z=>e (h1.trans z)
   have b:atKey (q::qs) k=atKey qs k:=by simp[atKey,kH,e']
   rw[iB e,b];exact ih
theorem KT.repl{H:Hp}{kvs:List (List Key×V)}{xs:List (List Key×Addr×aa)}(r:KT H kvs xs)(k:List Key){y:V}{u:aa}(ry:aW y u):
 KT H (kvs.map fun kv=>if kv.1=k then (kv.1,y)else kv) (xs.map (putAt k u)):=by
 induction r with
 |nil=>exact .nil
 |@cons p q ps qs h t ih=>
  rw[bP,bP]
  refine .cons ?_ ih
  obtain⟨h1,h2,h3⟩:=h
  unfold putAt
  by_cases e:p.1=k
  ·rw[if_pos e,if_pos (h1.symm.trans e)];exact⟨h1,h2,ry⟩
  ·rw[if_neg e,if_neg (fun z=>e (h1.trans z))];exact⟨h1,h2,h3⟩
theorem KT.put{H:Hp}{kvs:List (List Key×V)}{xs:List (List Key×Addr×aa)}(r:KT H kvs xs)(k:List Key){b:Addr}{y:V}{u:aa}(hb:H b=some (.tup (k.map kV)))(ry:aW y u):
 KT H (cS kvs k y) (storedH xs k b u):=by
 have e:(kvs.any fun kv=>decide (kv.1=k))=(atKey xs k).isSome:=by
  rw[pU,(r.val k).isSome_eq,vM]
 unfold cS storedH
 rw[e]
 by_cases q:(atKey xs k).isSome=true
 ·rw[if_pos q,if_pos q];exact r.repl k ry
 ·rw[if_neg q,if_neg q];exact Paired.snoc r ⟨rfl,hb,ry⟩
theorem KT.keeps{H H':Hp}{kvs:List (List Key×V)}{xs:List (List Key×Addr×aa)}(r:KT H kvs xs)(ht:∀b ys,H b=some (.tup ys)->H' b=some (.tup ys)):KT H' kvs xs:=
 Paired.mapP r fun _ _ z=>⟨z.1,ht _ _ z.2.1,z.2.2⟩
section
variable{P:aP}{w:aH}{H:Hp}{h:aA}{a:Addr}
theorem BK{u:HO}(ok:cA P w H h)(e:Rd H a u):cu P w H h a u:=e.ok ok
theorem jU{kvs:List (Key×V)}(ok:cA P w H h)(e:Rd H a (.dK kvs)):kvs.length<=sizeLine/\(a==sysModules)=false/\∃vs,KV kvs vs/\h.DictOf (cR P w) a vs:=
 show cu P w H h a (.dK kvs)from BK ok e
theorem pV{kvs:List (Key×V)}(ok:cA P w H h)(e:H a=some (.dK kvs)):kvs.length<=sizeLine/\(a==sysModules)=false/\∃vs,KV kvs vs/\h.DictOf (cR P w) a vs:=jU ok (.inl e)
theorem lX{ks:List Key}(ok:cA P w H h)(e:H a=some (.tup (ks.map kV))):(tupleKind (cR P w)).is h ks a:=by
 obtain⟨_,its,r,o,h1,h2,n,h3⟩:=(show cu P w H h a (.tup (ks.map kV))from ok a _ e)
 exact⟨o,its.toArray,n,h1,h2,h3,by simpa using BJ r⟩
theorem kS{kvs:List (List Key×V)}(ok:cA P w H h)(e:Rd H a (.dT kvs)):kvs.length<=sizeLine/\(a==sysModules)=false/\
 ∃xs,KT H kvs xs/\h.DictOfH (tupleKind (cR P w)) a xs:=by
 obtain⟨z,y,xs,r,o,es,ep,h1,h2,h3,h4,h5⟩:=(show cu P w H h a (.dT kvs)from BK ok e)
 refine⟨z,y,xs,r,o,es,ep,h1,h2,h3,h4,fun x hx=>?_,h5⟩
 have all:∀{l:List (List Key×V)}{m:List (List Key×Addr×aa)},KT H l m->∀x∈m,(tupleKind (cR P w)).is h x.1 x.2.1:=by
  intro l m q
  induction q with
  |nil=>intro x hx;exact nomatch hx
  |@cons p q ps qs hq t ih=>
   intro x hx
   rcases bF.mp hx with e|hx
   ·subst e
    exact lX ok (by rw[<-hq.1];exact hq.2.1)
   ·exact ih x hx
 exact all r x hx
theorem HI{kvs:List (List Key×V)}(ok:cA P w H h)(e:H a=some (.dT kvs)):kvs.length<=sizeLine/\(a==sysModules)=false/\
 ∃xs,KT H kvs xs/\h.DictOfH (tupleKind (cR P w)) a xs:=kS ok (.inl e)
end
def db(H:Hp)(a:Addr)(y:V)(r:Option V):Prop:=
 (∃kvs k,Rd H a (.dK kvs)/\y=kV k/\r=bQ kvs k)\/∃kvs k b,Rd H a (.dT kvs)/\y= .ref b/\H b=some (.tup (k.map kV))/\r=bQ kvs k
def jV(H:Hp)(a:Addr)(y v:V)(H':Hp):Prop:=
 (∃kvs k,H a=some (.dK kvs)/\y=kV k/\kvs.length<sizeLine/\H'=ae H a (.dK (cS kvs k v)))\/
 ∃kvs k b,H a=some (.dT kvs)/\y= .ref b/\H b=some (.tup (k.map kV))/\kvs.length<sizeLine/\H'=ae H a (.dT (cS kvs k v))
theorem db.k{H:Hp}{a:Addr}{kvs:List (Key×V)}{k:Key}(e:H a=some (.dK kvs)):db H a (kV k) (bQ kvs k):= .inl ⟨kvs,k,.inl e,rfl,rfl⟩
theorem jV.k{H:Hp}{a:Addr}{kvs:List (Key×V)}{k:Key}{v:V}(e:H a=some (.dK kvs))(hl:kvs.length<sizeLine):jV H a (kV k) v (ae H a (.dK (cS kvs k v))):= .inl ⟨kvs,k,e,rfl,hl,rfl⟩
section
variable{X:Cx}{pins:List (Addr×aI)}{σ:St}{H:Hp}{s:ah}{a:Addr}{y v:V}{u r:aa}{o:Option V}{A:bx}{E:aa->ah->Prop}
theorem Inv.big(I:Inv X pins σ H s):sysModules<s.heap.objs.size:=by
 have h:mainGlobals<s.heap.objs.size:=(I.mod.glob.keeps I.bk).lt
 exact u4 (by decide) h
theorem HJ{Q:aa->ah->Prop}(hu:A.units+1<cLine)(I:Inv X pins σ H s)(g:db H a y (some v))(ry:aW y u)(h:∀w' s',Inv X pins σ H s'->aW v w'->Q w' s'):
 wpAny (model X.prog X.w) A (getItem (.ref a) u) Q E s:=by
 rcases g with⟨kvs,k,e,ey,l⟩|⟨kvs,k,b,e,ey,eb,l⟩
 ·subst ey
  obtain⟨z,hd,vs,rel,dd⟩:=jU I.hok e
  obtain⟨w',hw,rw'⟩:=fh.some_of (v:=v) (o:=valueAt vs k) (by rw[l];exact rel.val k)
  exact wpAny_getItem_of (jT ry) dd.mapOf hw (h w' _ (I.tok _) rw')
 ·subst ey
  cases (show u=aa.ref b from ry)
  obtain⟨z,hd,xs,rel,dd⟩:=kS I.hok e
  obtain⟨w',hw,rw'⟩:=fh.some_of (v:=v) (o:=(atKey xs k).map (·.2)) (by rw[l];exact rel.val k)
  obtain⟨p,hp,hp2⟩:=Ap.mp hw
  refine wpAny_getItem_heap (mN hu) (lX I.hok eb) dd hp ?_
  rw[hp2]
  exact h w' _ (I.tok _) rw'
theorem HK{Q:aa->ah->Prop}(hu:A.units+1<cLine)(I:Inv X pins σ H s)(g:db H a y o)(ry:aW y u)(h:∀s',Inv X pins σ H s'->Q (.bool o.isSome) s'):
 wpAny (model X.prog X.w) A (compareOp .In u (.ref a)) Q E s:=by
 rcases g with⟨kvs,k,e,ey,l⟩|⟨kvs,k,b,e,ey,eb,l⟩
 ·subst ey
  obtain⟨z,hd,vs,rel,dd⟩:=jU I.hok e
  refine wpAny_in_of (jT ry) hd dd.mapOf ?_
  rw[<-(rel.val k).isSome_eq,<-l]
  exact h _ (I.tok _)
 ·subst ey
  cases (show u=aa.ref b from ry)
  obtain⟨z,hd,xs,rel,dd⟩:=kS I.hok e
  refine wpAny_in_heap (mN hu) (lX I.hok eb) hd dd ?_
  have q:=(rel.val k).isSome_eq
  rw[vM]at q
  rw[<-q,<-l]
  exact h _ (I.tok _)
theorem HL{Q:aa->ah->Prop}(hu:A.units+1<cLine)(I:Inv X pins σ H s)(g:db H a y o)(ry:aW y u)(h:∀s',Inv X pins σ H s'->Q (.bool (!o.isSome)) s'):
 wpAny (model X.prog X.w) A (compareOp .NotIn u (.ref a)) Q E s:=by
 rcases g with⟨kvs,k,e,ey,l⟩|⟨kvs,k,b,e,ey,eb,l⟩
 ·subst ey
  obtain⟨z,hd,vs,rel,dd⟩:=jU I.hok e
  refine wpAny_notIn_of (jT ry) hd dd.mapOf ?_
  rw[<-(rel.val k).isSome_eq,<-l]
  exact h _ (I.tok _)
 ·subst ey
  cases (show u=aa.ref b from ry)
  obtain⟨z,hd,xs,rel,dd⟩:=kS I.hok e
  refine wpAny_notIn_heap (mN hu) (lX I.hok eb) hd dd ?_
  have q:=(rel.val k).isSome_eq
  rw[vM]at q
  rw[<-q,<-l]
  exact h _ (I.tok _)
theorem wm{h':aA}{t':Nat}{ob:HO}(I:Inv X pins σ H s)(mu:pM (H a))(hs:gT a s.heap h')(he:∃q,h'.get? a=some q)(new:cu X.prog X.w (ae H a ob) h' a ob):
 Inv X pins σ (ae H a ob) { s with heap:=h',toks:=t'}:=
 I.write (x:=a) (e:=a) mu (.inl rfl) (fun b q hb z=>(hs.2 b hb).trans z) he new
theorem wn{P:aP}{w:aH}{H':Hp}{h':aA}{kvs:List (Key×V)}{vs:List (Key×aa)}(z:kvs.length<=sizeLine)(hd:(a==sysModules)=false)(rel:KV kvs vs)(dd:h'.DictOf (cR P w) a vs):
 cu P w H' h' a (.dK kvs):=⟨z,hd,vs,rel,dd⟩
theorem HM{H':Hp}{Q:Unit->ah->Prop}(hu:A.units+1<cLine)(I:Inv X pins σ H s)(g:jV H a y v H')(ry:aW y u)(rv:aW v r)(h:∀s',Inv X pins σ H' s'->Q () s'):
 wpAny (model X.prog X.w) A (setItem (.ref a) u r) Q E s:=by
 rcases g with⟨kvs,k,e,ey,l,eH⟩|⟨kvs,k,b,e,ey,eb,l,eH⟩
 ·subst ey eH
  obtain⟨z,hd,vs,rel,dd⟩:=pV I.hok e
  have hz:vs.length<=sizeLine:=by rw[<-rel.length];exact z
  have hl:(cS kvs k v).length<=sizeLine:=by have:=nB kvs k v;omega
  refine wpAny_setItem_pairs (hsz:=hz) (jT ry) dd fun h' dd' hs=>h _ ?_
  have he:∃q,h'.get? a=some q:=let ⟨q,_,_,hq,_⟩:=dd';⟨q,hq⟩
  exact wm I (by rw[e];exact True.intro) hs he (wn hl hd (rel.put k rv) dd')
 ·subst ey eH
  cases (show u=aa.ref b from ry)
  obtain⟨z,hd,xs,rel,dd⟩:=HI I.hok e
  have hz:xs.length<=sizeLine:=by rw[<-Paired.length rel];exact z
  have hl:(cS kvs k v).length<=sizeLine:=by have:=nB kvs k v;omega
  refine wpAny_setItem_heap (hsz:=hz) (mN hu) (lX I.hok eb) dd fun h' dd' hs=>h _ ?_
  obtain⟨q,es,ep,hq,h2,h3,h4,_,h5⟩:=dd'
  refine wm I (by rw[e];exact True.intro) hs ⟨q,hq⟩ ⟨hl,hd,_,(rel.put k eb rv).keeps fun c ys ec=>?_,q,es,ep,hq,h2,h3,h4,h5⟩
  rw[am (cy ec e (fun z=>nomatch z))]
  exact ec
end
section
variable{X:Cx}{pins:List (Addr×aI)}{σ:St}{H:Hp}{s:ah}{a:Addr}{kvs:List (Key×V)}{k:Key}{u:aa}{A:bx}{E:aa->ah->Prop}
theorem HN{Q:aa->ah->Prop}(I:Inv X pins σ H s)(e:Rd H a (.dK kvs))(h:∀t s',Inv X pins σ H s'->Q (.int kvs.length t) s'):wpAny (model X.prog X.w) A (call (.builtin "len") [.ref a]) Q E s:=by
 obtain⟨z,hd,vs,rel,dd⟩:=jU I.hok e
 refine call_len_dict hd dd (by rw[<-rel.length];rw[o0]at z;omega) ?_
 rw[<-rel.length]
 exact h _ _ (I.tok _)
end
def BL(i:Expr):Prop:=∀ov iv,subscripted i false ov iv=operate [ov,iv] (getItem ov iv)
theorem HP{prog:aP}{w:aH}{A:bx}{E:aa->ah->Prop}{s:ah}{env:Env}{value slice:Expr}{pos:Pos}{T id:String}{Q:aa->ah->Prop}
 (hl:typeLookup (.type T) "__getitem__"=pure (some (.builtin id))) (hs:BL slice)
 (h:wpAny (model prog w) A (eval value env) (fun o s₁=>wpAny (model prog w) A (eval slice env) (fun i s₂=>s₂.TypeIs o T/\wpAny (model prog w) A (getItem o i) Q E s₂) E s₁) E s):
 wpAny (model prog w) A (eval (.Subscript value slice pos) env) Q E s:=by
 refine Subscript_ (fE h (fun o s₁ h₁=>fE h₁ (fun i s₂ h₂=>?_) fun _ _ x=>x) fun _ _ x=>x)
 obtain⟨hT,h₂⟩:=h₂
 unfold subscriptTail
 refine ai ?_
 rw[getitemInPython_of_ne hT.not_modules]
 refine ai (je hT hl ?_)
 have fin:wpAny (model prog w) A (subscripted slice false o i) (fun r s₃=>wpAny (model prog w) A (letTemporaryGo value o r >>= fun _=>pure r) Q E s₃) E s₂:=by
  rw[hs o i]
  exact wpAny_operating (fE h₂ (fun r s₃ h₃=>ai (wpAny_letTemporaryGo (aR h₃))) fun _ _ x=>x)
 first
  |exact aR (ai fin)
  |exact ai (aR (ai fin))
  |exact ai fin
theorem HQ{X:Cx}{pins:List (Addr×aI)}{σ:St}{H:Hp}{s:ah}{a:Addr}{y:V}{o:Option V}(I:Inv X pins σ H s)(g:db H a y o):s.TypeIs (.ref a) "dict":=by
 rcases g with⟨kvs,k,e,_,_⟩|⟨kvs,k,b,e,_,_,_⟩
 ·obtain⟨_,_,vs,_,dd⟩:=jU I.hok e
  exact dd.typeIs
 ·obtain⟨_,_,xs,_,dd⟩:=kS I.hok e
  exact dd.typeIs
inductive BM(Q:VK)(x:V)(y:V)(H2:Hp):Prop
 |mk:∀a v,(x= .ref a)->(db H2 a y (some v))->(Q v H2)->BM Q x y H2
def HR(td ty:TE):TE:=fun σ H Q=>td σ H fun x H1=>ty σ H1 fun y H2=>BM Q x y H2
inductive BN(Q:VK)(y:V)(x:V)(H2:Hp):Prop
 |mk:∀a o,(x= .ref a)->(db H2 a y o)->(Q (.bl o.isSome) H2)->BN Q y x H2
def HS(ty td:TE):TE:=fun σ H Q=>ty σ H fun y H1=>td σ H1 fun x H2=>BN Q y x H2
inductive BO(Q:VK)(y:V)(x:V)(H2:Hp):Prop
 |mk:∀a o,(x= .ref a)->(db H2 a y o)->(Q (.bl (!o.isSome)) H2)->BO Q y x H2
def HU(ty td:TE):TE:=fun σ H Q=>ty σ H fun y H1=>td σ H1 fun x H2=>BO Q y x H2
inductive BP(D:dE)(σ:St)(v:V)(x:V)(y:V)(H3:Hp):Prop
 |mk:∀a H4,(x= .ref a)->(jV H3 a y v H4)->(D.nx σ H4)->BP D σ v x y H3
def HV(td ty tv:TE):TS:=fun D σ H=>tv σ H fun v H1=>td σ H1 fun x H2=>ty σ H2 fun y H3=>BP D σ v x y H3
section
variable{X:Cx}{o i e value:Expr}{pos pos' tpos:Pos}{td ty tv:TE}
theorem nC(hu:X.A.units+1<cLine)(ho:PE X o td)(hi:PE X i ty)(hs:BL i):PE X (.Subscript o i pos) (HR td ty):=by
 intro pins s σ H Q I h
 refine HP PySem.F.slot_dict_getitem.lookup hs (aL (ho pins s σ H _ I h) fun u s1 ⟨x,H1,I1,rx,q1⟩=>aL (hi pins s1 σ H1 _ I1 q1) fun iv s2 ⟨y,H2,I2,ry,a,v,ex,g,q2⟩=>?_)
 subst ex
 obtain rfl:u=aa.ref a:=rx
 exact⟨HQ I2 g,HJ hu I2 g ry fun w' s3 I3 rw'=>⟨v,H2,I3,rw',q2⟩⟩
theorem Ia(hu:X.A.units+1<cLine)(hi:PE X i ty)(ho:PE X o td):PC X .In i o (HS ty td):=by
 intro pins s σ H Q I h
 refine aL (hi pins s σ H _ I h) fun iv s1 ⟨y,H1,I1,ry,q1⟩=>aL (ho pins s1 σ H1 _ I1 q1) fun u s2 ⟨x,H2,I2,rx,a,ov,ex,g,q2⟩=>?_
 subst ex
 obtain rfl:u=aa.ref a:=rx
 exact HK hu I2 g ry fun s3 I3=>⟨.bl ov.isSome,H2,I3,rfl,q2⟩
theorem wo(hu:X.A.units+1<cLine)(hi:PE X i ty)(ho:PE X o td):PC X .NotIn i o (HU ty td):=by
 intro pins s σ H Q I h
 refine aL (hi pins s σ H _ I h) fun iv s1 ⟨y,H1,I1,ry,q1⟩=>aL (ho pins s1 σ H1 _ I1 q1) fun u s2 ⟨x,H2,I2,rx,a,ov,ex,g,q2⟩=>?_
 subst ex
 obtain rfl:u=aa.ref a:=rx
 exact HL hu I2 g ry fun s3 I3=>⟨.bl (!ov.isSome),H2,I3,rfl,q2⟩
theorem pW(hu:X.A.units+1<cLine)(ho:PE X o td)(hi:PE X i ty)(hv:PE X value tv)(hs:swapsWith value (some (.Subscript o i pos')) pos.line X.env=pure false):
 PS X (.Assign [.Subscript o i pos'] value pos) (HV td ty tv):=by
 intro pins s σ H D I h
 refine wpAny_Assign_Subscript (aL (hv pins s σ H _ I h) fun r s1 ⟨v,H1,I1,rv,q1⟩=>aL (ho pins s1 σ H1 _ I1 q1) fun u s2 ⟨x,H2,I2,rx,q2⟩=>aL (hi pins s2 σ H2 _ I2 q2) fun iv s3 ⟨y,H3,I3,ry,a,H4,ex,g,q3⟩=>?_) hs
 subst ex
 obtain rfl:u=aa.ref a:=rx
 exact HM hu I3 g ry rv fun s4 I4=>⟨σ,H4,I4,q3⟩
end
theorem BQ{P:aP}{w:aH}{H:Hp}(h:aA)(hb:sysModules<h.objs.size):cu P w H (h.push { cls:= .type "dict",data:= .dict #[]}) h.objs.size (.dK []):=
 ⟨cP _,beq_eq_false_iff_ne.mpr (gc (cJ hb)),[],.nil,Ax h⟩
def Ib:TE:=fun _ H Q=>∀p,H p=none->Q (.ref p) (ae H p (.dK []))
section
variable{X:Cx}{pos:Pos}
theorem pX:PE X (.Dict [] [] pos) Ib:=fun pins s σ H Q I h=>
 wpAny_Dict_empty ⟨.ref s.heap.objs.size,_,I.laid (a:=s.heap.objs.size) (o:= .dK []) (t':=s.toks) (fun _ _ q=>br _ q) (aJ _) (BQ s.heap I.big),rfl,h _ (I.hok.fresh (aJ _))⟩
end
def wr:List (TE×TE)->St->Hp->(List (V×V)->Hp->Prop)->Prop
 |[],_,H,Q=>Q [] H
 |(tk,tv)::r,σ,H,Q=>tk σ H fun x H1=>tv σ H1 fun y H2=>wr r σ H2 fun ps H3=>Q ((x,y)::ps) H3
abbrev VV:List (V×V)->List (aa×aa)->Prop:=Paired fun p q=>aW p.1 q.1/\aW p.2 q.2
def sN(X:Cx)(pos:Pos)(keys:List (Option Expr))(values:List Expr)(trs:List (TE×TE)):Prop:=
 ∀(pins:List (Addr×aI))(s:ah)(σ:St)(H:Hp)(Q:List (V×V)->Hp->Prop),Inv X pins σ H s->wr trs σ H Q->
  wpAny (model X.prog X.w) X.A (evalPairs (pairTrees keys values X.env pos)) (fun vs s'=>∃ps H',Inv X pins σ H' s'/\VV ps vs/\Q ps H') X.xe s
theorem Ic{X:Cx}{pos:Pos}:sN X pos [] [] []:=fun pins s σ H Q I h=>pairTrees_nil_walk ⟨[],H,I,.nil,h⟩
theorem sO{X:Cx}{pos:Pos}{k v:Expr}{ks:List (Option Expr)}{vs:List Expr}{tk tv:TE}{trs:List (TE×TE)}(hk:PE X k tk)(hv:PE X v tv)(hr:sN X pos ks vs trs):
 sN X pos (some k::ks) (v::vs) ((tk,tv)::trs):=fun pins s σ H Q I h=>
 pairTrees_cons_walk (aL (hk pins s σ H _ I h) fun u s1 ⟨x,H1,I1,rx,q1⟩=>aL (hv pins s1 σ H1 _ I1 q1) fun w2 s2 ⟨y,H2,I2,ry,q2⟩=>
  aL (hr pins s2 σ H2 _ I2 q2) fun ws s3 ⟨ps,H3,I3,rel,q3⟩=>⟨(x,y)::ps,H3,I3,.cons ⟨rx,ry⟩ rel,q3⟩)
def lY(kvs more:List (Key×V)):List (Key×V):=more.foldl (fun acc kv=>cS acc kv.1 kv.2) kvs
theorem KV.merge:∀{more:List (Key×V)}{rs:List (Key×aa)}{kvs:List (Key×V)}{vs:List (Key×aa)},KV more rs->KV kvs vs->KV (lY kvs more) (merged vs rs):=by
 intro more rs kvs vs r
 unfold KV at r
 induction r generalizing kvs vs with
 |nil=>intro q;exact q
 |@cons p q ps qs h t ih=>
  intro r0
  have e:KV (cS kvs p.1 p.2) (stored vs q.1 q.2):=by
   have:=r0.put p.1 h.2
   rw[<-h.1];exact this
  exact ih e
theorem BR:∀(more kvs:List (Key×V)),(lY kvs more).length<=kvs.length+more.length
 |[],kvs=>by show kvs.length<=kvs.length+0;omega
 |p::r,kvs=>by
  have h1:=BR r (cS kvs p.1 p.2)
  have h2:=nB kvs p.1 p.2
  show (lY (cS kvs p.1 p.2) r).length<=_
  rw[zLC];omega
theorem BS{P:aP}{w:aH}:∀{kvs:List (Key×V)}{ws:List (aa×aa)},VV (kvs.map fun kv=>(kV kv.1,kv.2)) ws->∃rs,Carries (cR P w) ws rs/\KV kvs rs
 |[],_,r=>by rw[jk]at r;cases r;exact⟨[],True.intro,.nil⟩
 |p::kvs,_,r=>by
  rw[bP]at r
  cases r with
  |@cons a b as bs h t=>
   obtain⟨rs,c,q⟩:=BS (P:=P) (w:=w) t
   obtain⟨b1,b2⟩:=b
   exact⟨(p.1,b2)::rs,⟨jT h.1,rfl,c⟩,.cons ⟨rfl,h.2⟩ q⟩
def Ie(trs:List (TE×TE)):TE:=fun σ H Q=>∀p,H p=none->wr trs σ (ae H p (.dK [])) fun ps H2=>H2 p=some (.dK [])/\∃kvs:List (Key×V),ps=kvs.map (fun kv=>(kV kv.1,kv.2))/\kvs.length<=15/\Q (.ref p) (ae H2 p (.dK (lY [] kvs)))
theorem Ig{X:Cx}{pos:Pos}{keys:List (Option Expr)}{values:List Expr}{trs:List (TE×TE)}(h:sN X pos keys values trs)(hall:keys.all (·.isSome)=true)(hl:keys.length=values.length)(h0:keys≠[])
 (h15:keys.length<=15):PE X (.Dict keys values pos) (Ie trs):=by
 intro pins s σ H Q I q
 have hn:=I.hok.fresh (aJ s.heap.objs.size)
 have I1:=I.laid (a:=s.heap.objs.size) (o:= .dK []) (h':=s.heap.push { cls:= .type "dict",data:= .dict #[]}) (t':=s.toks) (fun _ _ q=>br _ q) (aJ _) (BQ s.heap I.big)
 refine wpAny_Dict_walk (knd:=cR X.prog X.w) hall hl h0 h15 (aL (h pins _ σ _ _ I1 (q _ hn)) fun ws s2 ⟨ps,H2,I2,rel,e,kvs,ep,lk,q2⟩=>?_)
 subst ep
 obtain⟨rs,c,rk⟩:=BS (P:=X.prog) (w:=X.w) rel
 obtain⟨z,hd,vs0,r0,dd⟩:=pV I2.hok e
 cases r0
 refine⟨rs,c,dd,fun h' dd' hs=>⟨.ref s.heap.objs.size,_,?_,rfl,q2⟩⟩
 have hz:(lY [] kvs).length<=sizeLine:=by
  have h1:=BR kvs []
  rw[zLN]at h1
  rw[o0];omega
 have he:∃q,h'.get? s.heap.objs.size=some q:=let ⟨q,_,_,hq,_⟩:=dd';⟨q,hq⟩
 exact wm I2 (by rw[e];exact True.intro) hs he (wn hz hd (rk.merge .nil) dd')
structure M1(X:Cx)(o:Expr)(m:ac)(apos:Pos)(e:Expr)(cpos:Pos):Prop where
 base:attributeBase o m X.env (eval o X.env)=eval o X.env
 few:((backTo cpos (starEach [e] X.env)).all (fun x=> !x.1)&&(backToKw cpos (keywordEach [] X.env)).all (fun x=>x.1.isSome)
  &&decide (([e]:List Expr).length+([]:List Keyword).length+(if ([]:List Keyword).isEmpty then 0 else 1)<30))=true
 line:(apos.endLine==cpos.line)=true
 trees:backTo cpos (starEach [e] X.env)=[(false,eval e X.env)]
structure M2(X:Cx)(o:Expr)(m:ac)(apos:Pos)(e f:Expr)(cpos:Pos):Prop where
 base:attributeBase o m X.env (eval o X.env)=eval o X.env
 few:((backTo cpos (starEach [e,f] X.env)).all (fun x=> !x.1)&&(backToKw cpos (keywordEach [] X.env)).all (fun x=>x.1.isSome)
  &&decide (([e,f]:List Expr).length+([]:List Keyword).length+(if ([]:List Keyword).isEmpty then 0 else 1)<30))=true
 line:(apos.endLine==cpos.line)=true
 trees:backTo cpos (starEach [e,f] X.env)=[(false,eval e X.env),(false,eval f X.env)]
def wu(H:Hp)(a:Addr):Prop:=(∃kvs,Rd H a (.dK kvs))\/∃kvs,Rd H a (.dT kvs)
theorem BT{X:Cx}{pins:List (Addr×aI)}{σ:St}{H:Hp}{s:ah}{a:Addr}(I:Inv X pins σ H s)(d:wu H a):
 s.TypeIs (.ref a) "dict"/\(∀b,aa.ref a= .ref b->∃ob,s.heap.get? b=some ob/\ob.dict=none)/\(a==sysModules)=false:=by
 rcases d with⟨kvs,e⟩|⟨kvs,e⟩
 ·obtain⟨_,hd,vs,_,dd⟩:=jU I.hok e
  refine⟨dd.typeIs,fun b q=>?_,hd⟩
  cases q
  obtain⟨ob,_,_,h1,h2,_⟩:=dd
  exact⟨ob,h1,h2.2.1⟩
 ·obtain⟨_,hd,xs,_,dd⟩:=kS I.hok e
  refine⟨dd.typeIs,fun b q=>?_,hd⟩
  cases q
  obtain⟨ob,_,_,h1,h2,_⟩:=dd
  exact⟨ob,h1,h2.2.1⟩
section
variable{X:Cx}{pins:List (Addr×aI)}{σ:St}{H:Hp}{s:ah}{a:Addr}{y d:V}{u r:aa}{o:Option V}{A:bx}{E:aa->ah->Prop}
theorem Ih{Q:aa->ah->Prop}(hu:A.units+1<cLine)(I:Inv X pins σ H s)(g:db H a y o)(ry:aW y u)(h:∀w' s',Inv X pins σ H s'->aW (o.getD .non) w'->Q w' s'):
 wpAny (model X.prog X.w) A (call (.builtin "dict.get") [.ref a,u]) Q E s:=by
 rcases g with⟨kvs,k,e,ey,l⟩|⟨kvs,k,b,e,ey,eb,l⟩
 ·subst ey
  obtain⟨z,hd,vs,rel,dd⟩:=jU I.hok e
  refine qX m7 dd.typeIs rN (zE _ _) (meets_dict_get (cR X.prog X.w) a (jT ry) hd) ⟨_,dd.mapOf,h _ _ (I.tok _) ?_⟩
  rw[l]
  exact(rel.val k).getD rfl
 ·subst ey
  cases (show u=aa.ref b from ry)
  obtain⟨z,hd,xs,rel,dd⟩:=kS I.hok e
  refine qX m7 dd.typeIs rN (zE _ _) (meetsH_dict_get (tupleKind (cR X.prog X.w)) a b hd) ⟨mN hu,k,xs,lX I.hok eb,dd,h _ _ (I.tok _) ?_⟩
  rw[l]
  exact(rel.val k).getD rfl
theorem Ii{Q:aa->ah->Prop}(hu:A.units+1<cLine)(I:Inv X pins σ H s)(g:db H a y o)(ry:aW y u)(rd:aW d r)(h:∀w' s',Inv X pins σ H s'->aW (o.getD d) w'->Q w' s'):
 wpAny (model X.prog X.w) A (call (.builtin "dict.get") [.ref a,u,r]) Q E s:=by
 rcases g with⟨kvs,k,e,ey,l⟩|⟨kvs,k,b,e,ey,eb,l⟩
 ·subst ey
  obtain⟨z,hd,vs,rel,dd⟩:=jU I.hok e
  refine qX m7 dd.typeIs rN (zF _ _ _) (meets_dict_get_default (cR X.prog X.w) a (jT ry) hd r) ⟨_,dd.mapOf,h _ _ (I.tok _) ?_⟩
  rw[l]
  exact(rel.val k).getD rd
 ·subst ey
  cases (show u=aa.ref b from ry)
  obtain⟨z,hd,xs,rel,dd⟩:=kS I.hok e
  refine qX m7 dd.typeIs rN (zF _ _ _) (meetsH_dict_get_default (tupleKind (cR X.prog X.w)) a b hd r) ⟨mN hu,k,xs,lX I.hok eb,dd,h _ _ (I.tok _) ?_⟩
  rw[l]
  exact(rel.val k).getD rd
end
def Ij(td ty:TE):TE:=fun σ H Q=>td σ H fun x H1=>∃a,x= .ref a/\wu H1 a/\ty σ H1 fun y H2=>∃o,db H2 a y o/\Q (o.getD .non) H2
def Ik(td ty tx:TE):TE:=fun σ H Q=>td σ H fun x H1=>∃a,x= .ref a/\wu H1 a/\ty σ H1 fun y H2=>tx σ H2 fun z H3=>∃o,db H3 a y o/\Q (o.getD z) H3
section
variable{X:Cx}{o e f:Expr}{apos cpos:Pos}{td ty tx:TE}
theorem Il(hu:X.A.units+1<cLine)(ho:PE X o td)(he:PE X e ty)(m:M1 X o "get" apos e cpos):PE X (.Call (.Attribute o "get" apos) [e] [] cpos) (Ij td ty):=by
 intro pins s σ H Q I h
 refine yL m.base m.few m.line zG m7 zH (aL (ho pins s σ H _ I h) fun u s1 ⟨x,H1,I1,rx,a,ex,d,q1⟩=>?_)
 subst ex
 obtain rfl:u=aa.ref a:=rx
 obtain⟨t1,t2,_⟩:=BT I1 d
 refine⟨t1,t2,?_⟩
 rw[m.trees]
 refine rV rfl (vK (jm (aL (he pins s1 σ H1 _ I1 q1) fun iv s2 ⟨y,H2,I2,ry,ov,g,q2⟩=>jJ ?_)))
 exact Ih hu I2 g ry fun w' s3 I3 rw'=>⟨_,H2,I3,rw',q2⟩
theorem BU(hu:X.A.units+1<cLine)(ho:PE X o td)(he:PE X e ty)(hf:PE X f tx)(m:M2 X o "get" apos e f cpos):PE X (.Call (.Attribute o "get" apos) [e,f] [] cpos) (Ik td ty tx):=by
 intro pins s σ H Q I h
 refine yL m.base m.few m.line zG m7 zH (aL (ho pins s σ H _ I h) fun u s1 ⟨x,H1,I1,rx,a,ex,d,q1⟩=>?_)
 subst ex
 obtain rfl:u=aa.ref a:=rx
 obtain⟨t1,t2,_⟩:=BT I1 d
 refine⟨t1,t2,?_⟩
 rw[m.trees]
 refine rV rfl (vK (jm (aL (he pins s1 σ H1 _ I1 q1) fun iv s2 ⟨y,H2,I2,ry,q2⟩=>
  jm (aL (hf pins s2 σ H2 _ I2 q2) fun fv s3 ⟨z,H3,I3,rz,ov,g,q3⟩=>jJ ?_))))
 exact Ii hu I3 g ry rz fun w' s4 I4 rw'=>⟨_,H3,I4,rw',q3⟩
end
section
variable{X:Cx}{pins:List (Addr×aI)}{σ:St}{H:Hp}{s:ah}{a:Addr}{kvs:List (Key×V)}{A:bx}{E:aa->ah->Prop}
end
section
variable{X:Cx}{pins:List (Addr×aI)}{σ:St}{H:Hp}{s:ah}{a:Addr}{y:V}{u:aa}{A:bx}{E:aa->ah->Prop}
end
end L2
namespace Att
open PySem PySem.W PySem.Calls PyProof.Rows
theorem Im{P:Params}{h:aA}:∀(ns:List Int)(vs:List aa),WellAll P h vs (ns.map WData.int)->IntsAre vs ns:=by
 intro ns
 induction ns with
 |nil=>
  intro vs w
  rw[jk]at w
  cases w
  exact .nil
 |cons n ns ih=>
  intro vs w
  rw[bP]at w
  cases w with
  |cons a b=>
   cases a
   exact .cons _ _ (ih _ b)
theorem Io{l:OpenLaw}{n:Nat}(hn:l.most=some n){P:Params}{h:aA}{args:List WData}{vals:List aa}
 (hpre:l.row.toRowW.claim.pre args=true) (hwl:WellAll P h vals args):
 ∃a vs ns,vals=[aa.ref a]/\args=[WData.list (ns.map WData.int)]/\h.get? a=some { cls:= .type "list",data:= .seq vs.toArray}/\IntsAre vs ns/\ns.length<=n:=by
 have hsh:WShape.hasAll [] args [.list .int]=true:=(pre_splitW hpre).1
 have hc:l.pre.holds [] { args:=args}=true:=(pre_splitW hpre).2
 obtain⟨d,r,rfl,h1,h2⟩:=hasAllW_cons hsh
 obtain rfl:=hasAllW_nil h2
 obtain⟨xs,rfl,h3⟩:=hasW_list h1
 obtain⟨ns,rfl⟩:=items_int h3
 have hlen:ns.length<=n:=by
  unfold OpenLaw.pre at hc
  have h4:(WTm.not (.lt (.lit (.int (n:Int))) (.len (.arg 0)))).holds [] { args:=[.list (ns.map .int)]}=true:=by
   have h4:=(holds_andW hc).1
   rw[hn]at h4
   exact h4
  have h5:=condW_of h4 (w_not (w_lt w_lit (w_len_list (w_arg rfl))))
  rw[zLM]at h5
  refine Nat.le_of_not_lt fun q=>?_
  have q':(n:Int)<((ns.length:Nat):Int):=by omega
  first
   |(rw[decide_eq_true q']at h5;exact absurd h5 (by decide))
   |(simp at h5;omega)
 cases hwl with
 |cons w1 w2=>
  cases w2
  cases w1 with
  |list ho hall=>exact⟨_,_,ns,rfl,rfl,ho,Im ns _ hall,hlen⟩
theorem Ip(l:OpenLaw)(args:List WData):l.row.toRowW.claim.post args (.bool true) args=true:=
 postW_of (r:=l.row.toRowW) (X:=(true==true))
  (show WShape.has [] (.bool true) .bool=true by first|rfl|decide|simp[WShape.has,WShape.arms,WShape.armsAll])
  (show (WTm.eq .res (.lit (.bool true))).value [] { args:=args,res:=some (.bool true),after:=args}=some (.bool (true==true))from w_eq_bool (w_res rfl) w_lit) rfl
theorem attach_call{l:OpenLaw}{n:Nat}{q:aP}{loose:List ac}{XP:(ac->Option aa)->aA->Prop}{YP:aH->aA->Prop}{d:DefRec}
 (hn:l.most=some n) (hdf:d.params.defaults=[])
 (call:∀(w:aH)(s₀ s₁:ah)(mg mb:ac->Option aa)(fa:Addr)(o:aI)(pm cd doc:aa)(a:Addr)(vs:List aa)(ns:List Int),
  Ground q loose [] XP w s₀ mg mb s₁.heap->YP w s₁.heap->
  s₁.heap.get? fa=some o->o.data= .func (docDef d.name d.params d.body d.scope pm cd doc)->s₁.heap.CodeRec cd d.name->mg d.name=some (.ref fa)->
  s₁.heap.get? a=some { cls:= .type "list",data:= .seq vs.toArray}->IntsAre vs ns->ns.length<=n->s₁.gens=#[]->
  codeAny (model l.prog w) callerA (.call (.ref fa) ⟨[.ref a],[]⟩) (fun r s'=>r= .ok (.ret (.bool true))/\OldK s₁.heap s'.heap/\s'.os=s₁.os/\AllBare s'.gens) s₁):
 WalkO q loose XP YP l.row.toRowW d [] (fun f vs=>uK f vs):=by
 intro w s₀ s₁ mg mb G Y fa o pm cd doc dV kV ho hd hcd hD hmg hg args vals as hpre hlay hrd hwl hlo
 obtain rfl:dV= .none:=Dflts.none hD hdf
 obtain rfl:kV= .none:=Dflts.noKw hD
 obtain⟨a,vs,ns,rfl,rfl,hobj,hints,hlen⟩:=Io hn hpre hwl
 refine enter_call (qV (call w s₀ s₁ mg mb fa o pm cd doc a vs ns G Y ho (fd_plain hd) hcd hmg hobj hints hlen hg) fun r s' hq=>?_)
 obtain⟨rfl,h2,h3,h4⟩:=hq
 exact⟨.inl ⟨.bool true,.bool true,[],rfl,fun _=>rfl,.bool true,Ip l _,fun _=>⟨List.Pairwise.nil,fun _ hm=>(nomatch hm)⟩⟩,h2,h3,h4⟩
section
variable{prog:aP}{w:aH}{A:bx}{E:aa->ah->Prop}{s:ah}{K:Frag}
end
end Att
namespace L2
open PySem PySem.Spec PyProof.Rows
theorem BV:∀{vs:List aa}{ns:List Int},IntsAre vs ns->aS (ns.map V.int) vs
 |_,_,.nil=>.nil
 |_,_,.cons n t h=>.cons ⟨t,rfl⟩ (BV h)
def wv(H:Hp):Prop:=∀b,H b=none\/∃o xs,H b=some (.frz o (.lst xs))
theorem Iq{P:aP}{w:aH}{K:aB}{mg mb:ac->Option aa}{CX:iR}{k:Nat}{fa a:Addr}{fd:bd}{x:ac}{sp:Sp}{s₁:ah}{vs:List aa}{ns:List Int}
 (KX:K.In s₁.heap) (hns:s₁.heap.Ns mainGlobals mg) (hb:s₁.heap.Ns builtinsNs mb) (hbb:∀x:ac,x≠"__name__"->mb x=bootBuiltins x) (hlim:s₁.heap.NoLimit) (hg:s₁.gens=#[])
 (ha:s₁.heap.get? a=some { cls:= .type "list",data:= .seq vs.toArray}) (hi:IntsAre vs ns) (hl:ns.length<=sizeLine) (hr:df k callerA)
 (F:∀base:aA,K.In base->base.Ns mainGlobals mg->be P w K mg base CX k fa fd [x] sp) (hbind:∀(s:ah)(u:aa),BindsTo s fd ⟨[u],[]⟩ [(x,u)])
 (hsp:∀H:Hp,wv H->ak K H a (ns.map V.int)->sp [.ref a] H (fun v _=>v= .bl true) fun _ _ _=>False)
 (hCX:∀H e s',CX [] H s₁ (fun _ _ _=>False) e s'->False):
 codeAny (model P w) callerA (.call (.ref fa) ⟨[.ref a],[]⟩) (fun r s'=>r= .ok (.ret (.bool true))/\OldK s₁.heap s'.heap/\s'.os=s₁.os/\AllBare s'.gens) s₁:=by
 have rv:=BV hi
 have lenV:=hi.length
 have core:∀H:Hp,wv H->ak K H a (ns.map V.int)->cA P w H s₁.heap->(∀b,H b≠none->b=a)->(H a≠none->K.lookup a=none)->
  codeAny (model P w) callerA (.call (.ref fa) ⟨[.ref a],[]⟩) (fun r s'=>r= .ok (.ret (.bool true))/\OldK s₁.heap s'.heap/\s'.os=s₁.os/\AllBare s'.gens) s₁:=by
  intro H hO hS hok hA hK
  have base_of:∀{b:Addr}{o:aI},s₁.heap.get? b=some o->H b=none->(jL s₁.heap H).get? b=some o:=fun e n=>FV e n
  have noA:∀{b:Addr}{o:aI}{es:Array DictEntry}{ep:Nat},s₁.heap.get? b=some o->o.data= .dict es ep->H b=none:=fun {b o es ep} e d=>by
   cases q:H b with
   |none=>rfl
   |some u=>
    have e':b=a:=hA b (by rw[q];simp)
    subst e'
    rw[ha]at e;cases e
    have d':km.seq vs.toArray _=km.dict es ep:=d
    cases d'
  have nsK:∀{b:Addr}{m:ac->Option aa},s₁.heap.Ns b m->(jL s₁.heap H).Ns b m:=fun {b m} ⟨o,es,ep,e,d,r⟩=>⟨o,es,ep,base_of e (noA e d),d,r⟩
  have hKb:K.In (jL s₁.heap H):=fun b o e=>base_of (KX b o e) (by
   cases q:H b with
   |none=>rfl
   |some u=>
    have e':b=a:=hA b (by rw[q];simp)
    subst e'
    rw[hK (by rw[q];simp)]at e;cases e)
  have hM:Mod K mg (jL s₁.heap H):=⟨hKb,nsK hns,⟨mb,nsK hb,hbb⟩,let ⟨mc,h1,h2⟩:=hlim;⟨mc,nsK h1,h2⟩⟩
  have e0:lS P w K mg (jL s₁.heap H) callerA [] s₁ H:=⟨rfl,hM,fun b o e=>FW e,u3 (FU _ _),trivial,fun b hb=>absurd (show b∈([]:List Addr)from hb) (by simp),hok,.of_eq hg⟩
  refine qV ((F _ hKb (nsK hns)).run callerA [] s₁ H ⟨[.ref a],[]⟩ [.ref a] [.ref a] _ _ hr e0 (hbind s₁ (.ref a)) (.cons rfl .nil) (hsp H hO hS)) fun r s' h=>?_
  cases r with
  |error e=>exact(hCX H e s' h).elim
  |ok fl=>
   cases fl with
   |next=>exact gX h
   |brk=>exact gX h
   |cont=>exact gX h
   |ret u=>
    obtain⟨v,H',os,bare,un,hok',r',q⟩:=h
    have q':v= .bl true:=q
    subst q'
    obtain rfl:u=aa.bool true:=r'
    refine⟨rfl,OldK.of_keep fun b o e=>?_,os,bare⟩
    cases q:H b with
    |none=>exact un.keep b o e q (by intro z;exact absurd (show b∈([]:List Addr)from z) (by simp)) (by simp)
    |some u=>
     rcases hO b with z|⟨ob,xs,z⟩
     ·rw[q]at z;cases z
     ·have z2:=un.frzs b ob _ z
      obtain⟨e1,_⟩:=hok b _ z
      obtain⟨e2,_⟩:=hok' b _ z2
      rw[e]at e1;cases e1
      exact e2
 cases hk:K.lookup a with
 |some o=>
  have e:=KX a o hk
  rw[ha]at e
  cases e
  refine core (fun _=>none) (fun _=>.inl rfl) (.inr ⟨_,vs.toArray,_,hk,rfl,rfl,rfl,by rw[bW,lenV];exact hl,by simpa using rv⟩) (fun b u z=>by have z':(none:Option HO)=some u:=z;cases z') (fun b z=>absurd rfl z) fun z=>absurd rfl z
 |none=>
  refine core (fun b=>if b=a then some (.frz { cls:= .type "list",data:= .seq vs.toArray} (.lst (ns.map V.int)))else none) (fun b=>?_) (.inl (.inr ⟨{ cls:= .type "list",data:= .seq vs.toArray},if_pos rfl⟩)) (fun b u z=>?_) (fun b z=>?_) fun _=>hk
  ·by_cases hb:b=a
   ·exact .inr ⟨_,_,if_pos hb⟩
   ·exact .inl (if_neg hb)
  ·by_cases hb:b=a
   ·have z':=(if_pos hb).symm.trans z
    cases z'
    subst hb
    exact⟨ha,by rw[zLM];exact hl,vs,_,rv,ha⟩
   ·have z':=(if_neg hb).symm.trans z
    cases z'
  ·by_cases hb:b=a
   ·exact hb
   ·exact absurd (if_neg hb) z
theorem Ir{l:uZ}{n k:Nat}{q:aP}{loose:List ac}{XP:(ac->Option aa)->aA->Prop}{YP:aH->aA->Prop}{d:DefRec}{K:Params->aB}{CX:aH->iR}{sp:aH->Sp}{x:ac}
 (hn:l.most=some n) (hn2:n<=sizeLine) (hdf:d.params.defaults=[]) (hr:df k callerA)
 (hY:∀(w:aH)(h:aA),YP w h->(K w.params).In h)
 (F:∀(w:aH)(mg:ac->Option aa)(fa:Addr)(h:aA),(K w.params).In h->h.Ns mainGlobals mg->mg d.name=some (.ref fa)->
  ∃fd:bd,(∀(s:ah)(u:aa),BindsTo s fd ⟨[u],[]⟩ [(x,u)])/\
   ∀base:aA,(K w.params).In base->base.Ns mainGlobals mg->be l.prog w (K w.params) mg base (CX w) k fa fd [x] (sp w))
 (hsp:∀(w:aH)(H:Hp)(a:Addr)(ns:List Int),ns.length<=n->wv H->ak (K w.params) H a (ns.map V.int)->sp w [.ref a] H (fun v _=>v= .bl true) fun _ _ _=>False)
 (hCX:∀(w:aH)(H:Hp)(s:ah)(e:aa)(s':ah),CX w [] H s (fun _ _ _=>False) e s'->False):
 PySem.W.WalkO q loose XP YP l.row.toRowW d [] (fun f vs=>uK f vs):=by
 refine Att.attach_call hn hdf fun w s₀ s₁ mg mb fa o pm cd doc a vs ns G Y ho hd hcd hmg hobj hints hlen hg=>?_
 have KX:=hY w _ Y
 obtain⟨fd,hb,hF⟩:=F w mg fa _ KX G.T.g hmg
 exact Iq KX G.T.g G.T.b G.T.builtins G.T.nolimit hg hobj hints (dJ hlen hn2) hr hF hb (fun H hO hS=>hsp w H a ns hlen hO hS) fun H e s'=>hCX w H s₁ e s'
def iC(s:Stmt)(j:Nat):Stmt:=match s with
 |.ClassDef _ _ _ body _ _ _ _ _ _ _=>body.getD j (.Pass ⟨0,0,0,0⟩)
 |_=>.Pass ⟨0,0,0,0⟩
def bv(s:Stmt):Arguments:=match s with
 |.FunctionDef _ a _ _ _ _ _ _ _ _=>a
 |_=>{ posonlyargs:=[],args:=[],vararg:=none,kwonlyargs:=[],kw_defaults:=[],kwarg:=none,defaults:=[]}
def bp(s:Stmt):List Stmt:=match s with
 |.FunctionDef _ _ b _ _ _ _ _ _ _=>b
 |_=>[]
def av(s:Stmt):Scope:=match s with
 |.FunctionDef _ _ _ _ _ _ sc _ _ _=>sc
 |_=>{ kind:= .function,names:=[],isGenerator:=false,isCoroutine:=false}
abbrev bh:iR:=fun _ _ _ _ _ _=>False
abbrev E0:XK:=fun _ _ _=>False
theorem sP{X:Cx}:lT bh X E0:=fun _ _ _ _ _ _ _ h=>h.elim
structure bw(K:aB)(x qual:ac)(st:Stmt)(f:Addr)(fd:bd):Prop where
 ex:∃(oc:aa)(od:Option Addr)(kV doc pm:aa)(an:Option Addr)(cdv ct:aa)(osl:Array (Option aa)),
  fd=bo x qual (bv st) (bp st) (av st) .none kV doc pm an cdv ct/\K.lookup f=some ⟨oc,od,.func fd,osl⟩/\bA K cdv qual=true
 kp:bn K (.ref f)=true
section
variable{P:aP}{w:aH}{K:aB}{mg:ac->Option aa}{base:aA}
theorem bw.ok{x qual:ac}{st:Stmt}{f:Addr}{fd:bd}{N ps:List ac}{k:Nat}{sp:Sp}(F:bw K x qual st f fd)(S:bC N ps (av st))(len:∀vs H Q E,sp vs H Q E->vs.length=ps.length)
 (hbody:∀(cdv:aa)(A:bx)(outer:List Env)(s:ah)(H:Hp)(vs:List V)(Q:VK)(E:XK),df k (A.deeper (envOfC qual (av st) s.heap.objs.size f cdv))->sp vs H Q E->
  ∃t,gf (ny bh P w K mg base N qual (av st) f cdv A outer s H E).nox (bp st) t/\t { nx:=fun _ H'=>Q .non H',rt:=Q} (start N vs) H):be P w K mg base bh (k+1) f fd ps sp:=by
 obtain⟨oc,od,kV,doc,pm,an,cdv,ct,osl,rfl,lk,hcd⟩:=F.ex
 refine G9 lk hcd S len fun A outer s H vs Q E hr hsp=>?_
 obtain⟨t,h,q⟩:=hbody cdv A outer s H vs Q E hr hsp
 exact⟨t,h.nox,q⟩
theorem bw.binds{x qual:ac}{st:Stmt}{f:Addr}{fd:bd}{ps:List ac}(F:bw K x qual st f fd)
 (h:∀(kV doc pm:aa)(an:Option Addr)(cdv ct:aa)(us:List aa),us.length=ps.length->bindArgs (bo x qual (bv st) (bp st) (av st) .none kV doc pm an cdv ct) ⟨us,[]⟩=pure (ps.zip us)):iz K fd ps []:=by
 obtain⟨oc,od,kV,doc,pm,an,cdv,ct,osl,rfl,lk,hcd⟩:=F.ex
 exact .all (h kV doc pm an cdv ct)
theorem bH{x qual:ac}{st:Stmt}{f:Addr}{oc:aa}{od an:Option Addr}{osl:Array (Option aa)}{kV doc pm cdv ct:aa}(l:K.lookup f=some ⟨oc,od,.func (bo x qual (bv st) (bp st) (av st) .none kV doc pm an cdv ct),osl⟩)
 (c:bA K cdv qual=true) (k:bn K (.ref f)=true):bw K x qual st f (bo x qual (bv st) (bp st) (av st) .none kV doc pm an cdv ct):=⟨⟨oc,od,kV,doc,pm,an,cdv,ct,osl,rfl,l,c⟩,k⟩
end
section
variable{X:Cx}
theorem pv(i:Nat){x:ac}{pos:Pos}(hN:X.N[i]?=some x:=by rfl)(hv:vX X.env.scope x:=by first|exact Or.inl rfl|exact Or.inr (Or.inl rfl)|exact Or.inr (Or.inr rfl))(hd:(x==("__debug__":ac))=false:=by decide)
 (hcd:(x==("__classdict__":ac))=false:=by decide):PE X (.Name x pos) (vY i):=FY hN hv hd hcd
end
theorem bf{A B:Prop}(h:B):if false=true then A else B:=by
 rw[if_neg dm]
 exact h
theorem g9{A B:Prop}(h:A):if true=true then A else B:=by
 rw[if_pos rfl]
 exact h
theorem bO{c A B:Prop}[Decidable c](h1:c->A)(h2:¬c->B):if c then A else B:=by
 by_cases h:c
 ·rw[if_pos h]
  exact h1 h
 ·rw[if_neg h]
  exact h2 h
def aq(H H':Hp):Prop:=∀b o,H b=some o->H' b=some o
theorem aq.refl(H:Hp):aq H H:=fun _ _ h=>h
theorem aq.trans{H H1 H2:Hp}(a:aq H H1)(b:aq H1 H2):aq H H2:=fun c o h=>b c o (a c o h)
theorem aq.free{H H':Hp}(e:aq H H'){l:Addr}(h:H' l=Option.none):H l=Option.none:=by
 cases q:H l with
 |none=>rfl
 |some o=>
  rw[e l o q]at h
  cases h
theorem aq.seq{K:aB}{H H':Hp}{a:Addr}{xs:List V}(e:aq H H')(h:ak K H a xs):ak K H' a xs:=by
 rcases h with(h|⟨o,h⟩)|h
 ·exact .inl (.inl (e _ _ h))
 ·exact .inl (.inr ⟨o,e _ _ h⟩)
 ·exact .inr h
section
variable{X:Cx}
inductive BW(xs:List V)(H:Hp)(Q:VK):Prop
 |mk:∀a kvs,(xs=[V.ref a])->(H a=some (.dK kvs))->(Q (.int kvs.length) H)->BW xs H Q
theorem BX:fR X (.builtin "len") (fun xs H Q=>BW xs H Q):=by
 intro pins s σ H xs us Q I r h
 obtain⟨a,kvs,rfl,ha,q⟩:=h
 obtain⟨u,rfl,ru⟩:=ix r
 cases ru
 exact HN I (.inl ha) fun t s' I'=>⟨.int kvs.length,H,I',⟨t,rfl⟩,q⟩
end
section
variable{κ:Type}[DecidableEq κ]
end
end L2
namespace BF
open PySem
def Wd(w:ac):Prop:=1<=w.cps.toList.length/\w.cps.toList.length<=40/\∀c∈w.cps.toList,97<=c/\c<=122
inductive Tm where
 |num (n:Int)
 |name (w:ac)
 |blank (w:ac)
 |thing (w:ac) (ps:List Tm)
mutual
def Tm.nodes:Tm->Nat
 |.num _=>1
 |.name _=>1
 |.blank _=>1
 |.thing _ ps=>1+aX ps
def aX:List Tm->Nat
 |[]=>0
 |p::r=>p.nodes+aX r
end
mutual
def Tm.Ok:Tm->Prop
 |.num n=> -(10 ^ 61)<=n/\n<=10 ^ 61
 |.name w=>Wd w
 |.blank w=>Wd w
 |.thing w ps=>Wd w/\ps≠[]/\eA ps
def eA:List Tm->Prop
 |[]=>True
 |p::r=>p.Ok/\eA r
end
theorem Tm.nodes_pos(t:Tm):1<=t.nodes:=by
 cases t<;>simp only[Tm.nodes]<;>omega
theorem iT(a b:List Tm):aX (a++b)=aX a+aX b:=by
 induction a with
 |nil=>simp[aX]
 |cons x r ih=>simp only[eL,aX,ih];omega
theorem ww(a b:List Tm):eA (a++b)↔eA a/\eA b:=by
 induction a with
 |nil=>simp[eA]
 |cons x r ih=>simp only[eL,eA,ih,and_assoc]
theorem pY(a:List Tm):eA a↔∀t∈a,t.Ok:=by
 induction a with
 |nil=>simp[eA]
 |cons x r ih=>simp[eA,ih]
theorem iD(a:List Tm):a.length<=aX a:=by
 induction a with
 |nil=>simp[aX]
 |cons x r ih=>have:=x.nodes_pos;simp only[zLC,aX];omega
theorem Iu(a:List Tm):aX a.reverse=aX a:=by
 induction a with
 |nil=>rfl
 |cons x r ih=>rw[gU,iT,ih];simp only[aX];omega
theorem Tm.ind{P:Tm->Prop}(h1:∀n,P (.num n))(h2:∀w,P (.name w))(h3:∀w,P (.blank w))(h4:∀w ps,(∀p∈ps,P p)->P (.thing w ps)):∀t,P t
 |.num n=>h1 n
 |.name w=>h2 w
 |.blank w=>h3 w
 |.thing w ps=>h4 w ps fun p hp=>Tm.ind h1 h2 h3 h4 p
termination_by t=>sizeOf t
decreasing_by
 have:=u9 hp
 simp only[Tm.thing.sizeOf_spec];omega
inductive Dt where
 |int (i:Int)
 |str (x:ac)
 |tup (l:List Dt)
 |lst (l:List Dt)
mutual
def Dt.dep:Dt->Nat
 |.int _=>0
 |.str _=>0
 |.tup l=>1+eC l
 |.lst l=>1+eC l
def eC:List Dt->Nat
 |[]=>0
 |d::r=>max d.dep (eC r)
end
theorem pZ{d:Dt}:∀{l:List Dt},d∈l->d.dep<=eC l
 |x::r,h=>by
  rcases bF.mp h with rfl|h
  ·simp only[eC];omega
  ·have:=pZ h;simp only[eC];omega
mutual
def Tm.dt:Tm->Dt
 |.num n=>.tup [.str "number",.int n]
 |.name w=>.tup [.str "name",.str w]
 |.blank w=>.tup [.str "blank",.str w]
 |.thing w ps=>.tup [.str "thing",.str w,.tup (dq ps)]
def dq:List Tm->List Dt
 |[]=>[]
 |p::r=>p.dt::dq r
end
theorem fj(ps:List Tm):dq ps=ps.map Tm.dt:=by
 induction ps with
 |nil=>rfl
 |cons p r ih=>simp only[dq,bP,ih]
theorem BY:(("number":ac)="name")=False:=by simp only[eq_iff_iff,iff_false];decide +kernel
theorem wy:(("number":ac)="blank")=False:=by simp only[eq_iff_iff,iff_false];decide +kernel
theorem BZ:(("number":ac)="thing")=False:=by simp only[eq_iff_iff,iff_false];decide +kernel
theorem wz:(("name":ac)="blank")=False:=by simp only[eq_iff_iff,iff_false];decide +kernel
theorem B0:(("name":ac)="thing")=False:=by simp only[eq_iff_iff,iff_false];decide +kernel
theorem B1:(("blank":ac)="thing")=False:=by simp only[eq_iff_iff,iff_false];decide +kernel
theorem B2:(("name":ac)="number")=False:=by simp only[eq_iff_iff,iff_false];decide +kernel
theorem B3:(("blank":ac)="number")=False:=by simp only[eq_iff_iff,iff_false];decide +kernel
theorem Iv:(("thing":ac)="number")=False:=by simp only[eq_iff_iff,iff_false];decide +kernel
theorem B4:(("blank":ac)="name")=False:=by simp only[eq_iff_iff,iff_false];decide +kernel
theorem Iw:(("thing":ac)="name")=False:=by simp only[eq_iff_iff,iff_false];decide +kernel
theorem B5:(("thing":ac)="blank")=False:=by simp only[eq_iff_iff,iff_false];decide +kernel
theorem B6:∀{ps qs:List Tm},(∀p∈ps,∀q:Tm,p.dt=q.dt->p=q)->dq ps=dq qs->ps=qs
 |[],[],_,_=>rfl
 |[],_::_,_,e=>by simp[dq]at e
 |_::_,[],_,e=>by simp[dq]at e
 |p::ps,q::qs,h,e=>by
  simp only[dq,jK]at e
  rw[h p (by simp) q e.1,B6 (fun x hx y=>h x (by simp[hx]) y) e.2]
theorem Tm.dt_inj:∀(t u:Tm),t.dt=u.dt->t=u:=by
 intro t
 induction t using Tm.ind with
 |h1 n=>intro u e;cases u<;>simp[Tm.dt,BY,wy]at e |-;exact e
 |h2 w=>intro u e;cases u<;>simp[Tm.dt,B2,wz]at e |-;exact e
 |h3 w=>intro u e;cases u<;>simp[Tm.dt,B3,B4]at e |-;exact e
 |h4 w ps ih=>
  intro u e
  cases u with
  |num=>simp[Tm.dt]at e
  |name=>simp[Tm.dt]at e
  |blank=>simp[Tm.dt]at e
  |thing w' qs=>
   simp only[Tm.dt,Dt.tup.injEq,jK,Dt.str.injEq,true_and,and_true]at e
   rw[e.1,B6 ih e.2]
theorem wA{n:Nat}:∀{l:List Dt},(∀d∈l,d.dep<=n)->eC l<=n
 |[],_=>by simp[eC]
 |x::r,h=>by
  have h1:=h x (by simp)
  have h2:=wA (l:=r) fun d hd=>h d (by simp[hd])
  simp only[eC];omega
theorem sQ{t:Tm}:∀{l:List Tm},t∈l->t.nodes<=aX l
 |x::r,h=>by
  rcases bF.mp h with rfl|h
  ·simp only[aX];omega
  ·have:=sQ h;simp only[aX];omega
theorem Tm.dep_le(t:Tm):t.dt.dep<=2 * t.nodes:=by
 induction t using Tm.ind with
 |h1 n=>simp[Tm.dt,Tm.nodes,Dt.dep,eC]
 |h2 n=>simp[Tm.dt,Tm.nodes,Dt.dep,eC]
 |h3 n=>simp[Tm.dt,Tm.nodes,Dt.dep,eC]
 |h4 w ps ih=>
  have:eC (dq ps)<=2 * aX ps:=by
   rw[fj]
   refine wA fun d hd=>?_
   obtain⟨p,hp,rfl⟩:=bL.mp hd
   have a:=ih p hp
   have b:=sQ hp
   omega
  simp only[Tm.dt,Tm.nodes,Dt.dep,eC]
  omega
def ju(n:Int):List Nat:=(bT (toString n)).cps.toList
mutual
def Tm.line:Tm->List Nat
 |.num n=>ju n
 |.name w=>w.cps.toList
 |.blank w=>63::w.cps.toList
 |.thing w ps=>w.cps.toList++40::(nD ps++[41])
def nD:List Tm->List Nat
 |[]=>[]
 |p::r=>p.line++fT r
def fT:List Tm->List Nat
 |[]=>[]
 |p::r=>44::(p.line++fT r)
end
inductive Pc where
 |sg (x:ac)
 |tm (u:Tm)
def Pc.out:Pc->List Nat
 |.sg x=>x.cps.toList
 |.tm u=>u.line
def Pc.wt:Pc->Nat
 |.sg _=>1
 |.tm u=>3 * u.nodes - 1
def gk(l:List Pc):List Nat:=l.reverse.flatMap Pc.out
def eO(l:List Pc):Nat:=(l.map Pc.wt).sum
theorem wB(l:List Pc)(p:Pc):gk (l++[p])=p.out++gk l:=by
 simp[gk]
theorem sR(l:List Pc)(p:Pc):eO (l++[p])=eO l+p.wt:=by
 simp[eO]
theorem wC(l m:List Pc):eO (l++m)=eO l+eO m:=by
 simp[eO]
theorem wD(l m:List Pc):gk (l++m)=gk m++gk l:=by
 simp[gk]
theorem B7:∀l:List Pc,l.length<=eO l
 |[]=>by simp[eO]
 |p::r=>by
  have:=B7 r
  have h:1<=p.wt:=by
   cases p with
   |sg x=>simp[Pc.wt]
   |tm u=>have:=u.nodes_pos;simp only[Pc.wt];omega
  simp only[eO,bP,jH,zLC]at *
  omega
def jv(r:List Tm):List Pc:=r.reverse.flatMap fun p=>[Pc.tm p,Pc.sg ","]
def jW(p:Tm)(r:List Tm):List Pc:=[Pc.sg ")"]++jv r++[Pc.tm p]
theorem B8:(bT ",").cps.toList=[44]:=by decide +kernel
theorem B9:(bT ")").cps.toList=[41]:=by decide +kernel
theorem Ca:(bT "(").cps.toList=[40]:=by decide +kernel
theorem Cb:(bT "?").cps.toList=[63]:=by decide +kernel
theorem Ix(r:List Tm):gk (jv r)=fT r:=by
 induction r with
 |nil=>rfl
 |cons p r ih=>
  have e:jv (p::r)=jv r++[Pc.tm p]++[Pc.sg ","]:=by simp[jv]
  rw[e,wB,wB,ih]
  simp only[Pc.out,B8,fT,eL,iq]
theorem Iy(p:Tm)(r:List Tm):gk (jW p r)=nD (p::r)++[41]:=by
 unfold jW
 rw[wD,wD,Ix]
 simp[gk,Pc.out,B9,nD]
theorem Iz(r:List Tm):eO (jv r)=3 * aX r:=by
 induction r with
 |nil=>rfl
 |cons p r ih=>
  have e:jv (p::r)=jv r++[Pc.tm p]++[Pc.sg ","]:=by simp[jv]
  have:=p.nodes_pos
  rw[e,sR,sR,ih]
  simp only[Pc.wt,aX];omega
theorem IA(p:Tm)(r:List Tm):eO (jW p r)=3 * aX (p::r):=by
 unfold jW
 rw[sR,wC,Iz]
 have:=p.nodes_pos
 simp[eO,Pc.wt,aX];omega
def lZ(k:List Nat):Prop:=k=[]\/∃r,k=44::r\/k=41::r
theorem Cc{p:Nat->Bool}{a k:List Nat}(ha:∀c∈a,p c=true)(hk:k=[]\/∃c r,k=c::r/\p c=false):(a++k).takeWhile p=a:=by
 induction a with
 |nil=>
  rcases hk with rfl|⟨c,r,rfl,h⟩
  ·rfl
  ·simp[h]
 |cons x r ih=>
  have:=ha x (by simp)
  rw[eL,zn,this]
  simp only[if_true]
  rw[ih fun c hc=>ha c (by simp[hc])]
open PySem.Spec PyProof.Rows L2
mutual
def aQ(H:Hp):V->Dt->Prop
 |v,.int i=>v= .int i
 |v,.str x=>v= .str x
 |v,.tup l=>∃a vs,v= .ref a/\H a=some (.tup vs)/\bX H vs l
 |v,.lst l=>∃a vs,v= .ref a/\H a=some (.lst vs)/\bX H vs l
def bX(H:Hp):List V->List Dt->Prop
 |vs,[]=>vs=[]
 |vs,d::r=>∃v us,vs=v::us/\aQ H v d/\bX H us r
end
theorem Dt.ind{P:Dt->Prop}(h1:∀n,P (.int n))(h2:∀w,P (.str w))(h3:∀l,(∀p∈l,P p)->P (.tup l))(h4:∀l,(∀p∈l,P p)->P (.lst l)):∀t,P t
 |.int n=>h1 n
 |.str w=>h2 w
 |.tup l=>h3 l fun p hp=>Dt.ind h1 h2 h3 h4 p
 |.lst l=>h4 l fun p hp=>Dt.ind h1 h2 h3 h4 p
termination_by t=>sizeOf t
decreasing_by
 ·have:=u9 hp
  simp only[Dt.tup.sizeOf_spec];omega
 ·have:=u9 hp
  simp only[Dt.lst.sizeOf_spec];omega
theorem bX.length{H:Hp}:∀{vs:List V}{l:List Dt},bX H vs l->vs.length=l.length
 |vs,[],h=>by simp only[bX]at h;subst h;rfl
 |vs,d::r,h=>by
  simp only[bX]at h
  obtain⟨v,us,rfl,_,h2⟩:=h
  simp only[zLC,h2.length]
theorem bX.get{H:Hp}:∀{vs:List V}{l:List Dt},bX H vs l->∀(i:Nat)(h1:i<vs.length)(h2:i<l.length),aQ H vs[i] l[i]
 |vs,[],h,i,h1,h2=>absurd h2 (Nat.not_lt_zero _)
 |vs,d::r,h,i,h1,h2=>by
  simp only[bX]at h
  obtain⟨v,us,rfl,h3,h4⟩:=h
  cases i with
  |zero=>exact h3
  |succ i=>exact h4.get i _ _
theorem bX.of_get{H:Hp}:∀{vs:List V}{l:List Dt},vs.length=l.length->(∀(i:Nat)(h1:i<vs.length)(h2:i<l.length),aQ H vs[i] l[i])->bX H vs l
 |[],[],_,_=>by simp only[bX]
 |v::us,d::r,hl,h=>by
  simp only[bX]
  refine⟨v,us,rfl,h 0 (by simp) (by simp),bX.of_get (by simpa using hl) fun i h1 h2=>h (i+1) (by simpa using h1) (by simpa using h2)⟩
 |[],_::_,hl,_=>by simp at hl
 |_::_,[],hl,_=>by simp at hl
theorem bX.append{H:Hp}:∀{vs us:List V}{l m:List Dt},bX H vs l->bX H us m->bX H (vs++us) (l++m)
 |vs,us,[],m,h,h'=>by simp only[bX]at h;subst h;exact h'
 |vs,us,d::r,m,h,h'=>by
  simp only[bX]at h
  obtain⟨v,ws,rfl,h1,h2⟩:=h
  simp only[eL,bX]
  exact⟨v,ws++us,rfl,h1,h2.append h'⟩
def aV(H H':Hp):Prop:=∀b xs,H b=some (.tup xs)->H' b=some (.tup xs)
theorem aV.refl(H:Hp):aV H H:=fun _ _ h=>h
theorem aV.trans{H H1 H2:Hp}(a:aV H H1)(b:aV H1 H2):aV H H2:=fun c o h=>b c o (a c o h)
theorem aV.of{H H':Hp}(e:aq H H'):aV H H':=fun b xs h=>e b _ h
theorem bz{H:Hp}{p:Addr}(h:H p=none)(o:HO):aq H (ae H p o):=fun b u q=>by rw[am (aN q h)];exact q
theorem aV.lst{H:Hp}{a:Addr}{xs:List V}{o:HO}(h:H a=some (.lst xs)):aV H (ae H a o):=fun b ys q=>by
 rw[am (cy q h (by intro z;cases z))];exact q
theorem aV.new{H:Hp}{a:Addr}{o:HO}(h:H a=none):aV H (ae H a o):=fun b ys q=>by
 rw[am (aN q h)];exact q
mutual
def Dt.noL:Dt->Prop
 |.int _=>True
 |.str _=>True
 |.tup l=>jX l
 |.lst _=>False
def jX:List Dt->Prop
 |[]=>True
 |d::r=>d.noL/\jX r
end
theorem Cd(l:List Dt):jX l↔∀d∈l,d.noL:=by
 induction l with
 |nil=>simp[jX]
 |cons d r ih=>simp[jX,ih]
theorem Tm.noL(t:Tm):t.dt.noL:=by
 induction t using Tm.ind with
 |h1 n=>simp[Tm.dt,Dt.noL,jX]
 |h2 n=>simp[Tm.dt,Dt.noL,jX]
 |h3 n=>simp[Tm.dt,Dt.noL,jX]
 |h4 w ps ih=>
  simp only[Tm.dt,Dt.noL,jX,true_and,and_true]
  rw[Cd,fj]
  intro d hd
  obtain⟨p,hp,rfl⟩:=bL.mp hd
  exact ih p hp
theorem aQ.mono{H H':Hp}(k:aV H H'):∀(d:Dt)(v:V),d.noL->aQ H v d->aQ H' v d:=by
 intro d
 induction d using Dt.ind with
 |h1 n=>intro v _ h;simpa only[aQ]using h
 |h2 n=>intro v _ h;simpa only[aQ]using h
 |h3 l ih=>
  intro v hn h
  simp only[aQ]at h |-
  simp only[Dt.noL]at hn
  rw[Cd]at hn
  obtain⟨a,vs,rfl,h1,h2⟩:=h
  exact⟨a,vs,rfl,k _ _ h1,.of_get h2.length fun i g1 g2=>ih _ (zGM _) _ (hn _ (zGM _)) (h2.get i g1 g2)⟩
 |h4 l ih=>intro v hn h;exact absurd hn (by simp[Dt.noL])
theorem aQ.same{H H':Hp}(k:aq H H'):∀(d:Dt)(v:V),aQ H v d->aQ H' v d:=by
 intro d
 induction d using Dt.ind with
 |h1 n=>intro v h;simpa only[aQ]using h
 |h2 n=>intro v h;simpa only[aQ]using h
 |h3 l ih=>
  intro v h
  simp only[aQ]at h |-
  obtain⟨a,vs,rfl,h1,h2⟩:=h
  exact⟨a,vs,rfl,k _ _ h1,.of_get h2.length fun i g1 g2=>ih _ (zGM _) _ (h2.get i g1 g2)⟩
 |h4 l ih=>
  intro v h
  simp only[aQ]at h |-
  obtain⟨a,vs,rfl,h1,h2⟩:=h
  exact⟨a,vs,rfl,k _ _ h1,.of_get h2.length fun i g1 g2=>ih _ (zGM _) _ (h2.get i g1 g2)⟩
theorem aQ.inj{H:Hp}:∀(d d':Dt)(v:V),aQ H v d->aQ H v d'->d=d':=by
 intro d
 induction d using Dt.ind with
 |h1 n=>
  intro d' v h h'
  simp only[aQ]at h;subst h
  cases d'<;>simp_all [aQ]
 |h2 n=>
  intro d' v h h'
  simp only[aQ]at h;subst h
  cases d'<;>simp_all [aQ]
 |h3 l ih=>
  intro d' v h h'
  simp only[aQ]at h
  obtain⟨a,vs,rfl,h1,h2⟩:=h
  cases d' with
  |int i=>simp[aQ]at h'
  |str i=>simp[aQ]at h'
  |lst m=>
   simp only[aQ]at h'
   obtain⟨b,us,e,h3,_⟩:=h'
   cases e;rw[h1]at h3;cases h3
  |tup m=>
   simp only[aQ]at h'
   obtain⟨b,us,e,h3,h4⟩:=h'
   cases e;rw[h1]at h3;cases h3
   congr 1
   refine rB (by rw[<-h2.length,<-h4.length]) fun i g1 g2=>?_
   exact ih _ (zGM _) _ _ (h2.get i (by rw[h2.length];exact g1) g1) (h4.get i (by rw[h2.length];exact g1) g2)
 |h4 l ih=>
  intro d' v h h'
  simp only[aQ]at h
  obtain⟨a,vs,rfl,h1,h2⟩:=h
  cases d' with
  |int i=>simp[aQ]at h'
  |str i=>simp[aQ]at h'
  |tup m=>
   simp only[aQ]at h'
   obtain⟨b,us,e,h3,_⟩:=h'
   cases e;rw[h1]at h3;cases h3
  |lst m=>
   simp only[aQ]at h'
   obtain⟨b,us,e,h3,h4⟩:=h'
   cases e;rw[h1]at h3;cases h3
   congr 1
   refine rB (by rw[<-h2.length,<-h4.length]) fun i g1 g2=>?_
   exact ih _ (zGM _) _ _ (h2.get i (by rw[h2.length];exact g1) g1) (h4.get i (by rw[h2.length];exact g1) g2)
abbrev aw(H:Hp)(v:V)(t:Tm):Prop:=aQ H v t.dt
abbrev aT(H:Hp)(vs:List V)(ts:List Tm):Prop:=bX H vs (dq ts)
theorem aw.mono{H H':Hp}{v:V}{t:Tm}(k:aV H H')(h:aw H v t):aw H' v t:=aQ.mono k _ _ t.noL h
theorem aT.mono{H H':Hp}{vs:List V}{ts:List Tm}(k:aV H H')(h:aT H vs ts):aT H' vs ts:=
 .of_get h.length fun i g1 g2=>aQ.mono k _ _ (by
  have:(dq ts)[i]∈ts.map Tm.dt:=by rw[<-fj];exact zGM _
  obtain⟨p,_,e⟩:=bL.mp this
  rw[<-e];exact p.noL) (h.get i g1 g2)
theorem fm{H:Hp}{v:V}{n:Int}:aw H v (.num n)↔∃a,v= .ref a/\H a=some (.tup [.str "number",.int n]):=by
 simp only[aw,Tm.dt,aQ,bX]
 constructor
 ·rintro⟨a,vs,rfl,h,_,_,rfl,rfl,_,_,rfl,rfl,rfl⟩;exact⟨a,rfl,h⟩
 ·rintro⟨a,rfl,h⟩;exact⟨a,_,rfl,h,_,_,rfl,rfl,_,_,rfl,rfl,rfl⟩
theorem eD{H:Hp}{v:V}{w:ac}:aw H v (.name w)↔∃a,v= .ref a/\H a=some (.tup [.str "name",.str w]):=by
 simp only[aw,Tm.dt,aQ,bX]
 constructor
 ·rintro⟨a,vs,rfl,h,_,_,rfl,rfl,_,_,rfl,rfl,rfl⟩;exact⟨a,rfl,h⟩
 ·rintro⟨a,rfl,h⟩;exact⟨a,_,rfl,h,_,_,rfl,rfl,_,_,rfl,rfl,rfl⟩
theorem dU{H:Hp}{v:V}{w:ac}:aw H v (.blank w)↔∃a,v= .ref a/\H a=some (.tup [.str "blank",.str w]):=by
 simp only[aw,Tm.dt,aQ,bX]
 constructor
 ·rintro⟨a,vs,rfl,h,_,_,rfl,rfl,_,_,rfl,rfl,rfl⟩;exact⟨a,rfl,h⟩
 ·rintro⟨a,rfl,h⟩;exact⟨a,_,rfl,h,_,_,rfl,rfl,_,_,rfl,rfl,rfl⟩
theorem dr{H:Hp}{v:V}{w:ac}{ps:List Tm}:aw H v (.thing w ps)↔
 ∃a b vs,v= .ref a/\H a=some (.tup [.str "thing",.str w,.ref b])/\H b=some (.tup vs)/\aT H vs ps:=by
 simp only[aw,aT,Tm.dt,aQ,bX]
 constructor
 ·rintro⟨a,vs,rfl,h,_,_,rfl,rfl,_,_,rfl,rfl,_,_,rfl,⟨b,us,rfl,h2,h3⟩,rfl⟩;exact⟨a,b,us,rfl,h,h2,h3⟩
 ·rintro⟨a,b,us,rfl,h,h2,h3⟩;exact⟨a,_,rfl,h,_,_,rfl,rfl,_,_,rfl,rfl,_,_,rfl,⟨b,us,rfl,h2,h3⟩,rfl⟩
theorem aT.len{H:Hp}{vs:List V}{ts:List Tm}(h:aT H vs ts):vs.length=ts.length:=by
 rw[h.length,fj,zLM]
theorem aT.at{H:Hp}{vs:List V}{ts:List Tm}(h:aT H vs ts)(i:Nat)(h1:i<vs.length)(h2:i<ts.length):aw H vs[i] ts[i]:=by
 have q:=h.get i h1 (by rw[fj,zLM];exact h2)
 simpa only[fj,jl]using q
theorem aT.nil{H:Hp}:aT H [] []:=by simp only[aT,dq,bX]
theorem aT.cons{H:Hp}{v:V}{t:Tm}{vs:List V}{ts:List Tm}(h:aw H v t)(h':aT H vs ts):aT H (v::vs) (t::ts):=by
 simp only[aT,dq,bX];exact⟨v,vs,rfl,h,h'⟩
theorem aT.app{H:Hp}{vs us:List V}{ts qs:List Tm}(h:aT H vs ts)(h':aT H us qs):aT H (vs++us) (ts++qs):=by
 have:=bX.append h h'
 simpa only[aT,fj,zMA]using this
theorem aT.of_at{H:Hp}{vs:List V}{ts:List Tm}(hl:vs.length=ts.length)(h:∀(i:Nat)(h1:i<vs.length)(h2:i<ts.length),aw H vs[i] ts[i]):aT H vs ts:=
 .of_get (by rw[fj,zLM];exact hl) fun i h1 h2=>by
  have h2':i<ts.length:=by rwa [fj,zLM]at h2
  have:=h i h1 h2'
  simpa only[fj,jl]using this
theorem aT.dropN{H:Hp}{vs:List V}{ts:List Tm}(h:aT H vs ts)(n:Nat):aT H (vs.drop n) (ts.drop n):=
 .of_at (by rw[dD,dD,h.len]) fun i h1 h2=>by
  rw[pp,pp]
  exact h.at _ _ _
theorem aT.takeN{H:Hp}{vs:List V}{ts:List Tm}(h:aT H vs ts)(n:Nat):aT H (vs.take n) (ts.take n):=
 .of_at (by rw[zLT,zLT,h.len]) fun i h1 h2=>by
  rw[pq,pq]
  exact h.at _ _ _
section
variable{P:aP}{w:aH}{H:Hp}{s:ah}
theorem iU(ok:cA P w H s.heap){a:Addr}{vs:List V}(h:H a=some (.tup vs)):∃its:List aa,aS vs its/\cz s.heap a its.toArray:=by
 obtain⟨_,its,r,q⟩:=(show cu P w H s.heap a (.tup vs)from ok a _ h)
 exact⟨its,r,q⟩
theorem jw(ok:cA P w H s.heap){a:Addr}{vs:List V}(h:H a=some (.lst vs)):∃its:List aa,aS vs its/\s.heap.IsList a its.toArray:=by
 obtain⟨_,its,n,r,q⟩:=(show cu P w H s.heap a (.lst vs)from ok a _ h)
 exact⟨its,r,⟨_,q,rfl,n,rfl⟩⟩
theorem aS.at{vs:List V}{us:List aa}(r:aS vs us)(i:Nat)(h1:i<vs.length)(h2:i<us.length):aW vs[i] us[i]:=by
 obtain⟨u,hu,rv⟩:=r.get (zGE h1)
 rw[zGE h2]at hu
 cases hu;exact rv
def Ce(A:bx)(s:ah)(u u':aa)(d d':Dt):Prop:=∃b,er A s u u' b/\(b=true↔d=d')
theorem sS{A:bx}{l m:List Dt}{us us':List aa}(hl:us.length=l.length)(hm:us'.length=m.length)
 (h:∀i (h1:i<l.length)(h2:i<m.length)(g1:i<us.length)(g2:i<us'.length),Ce A s us[i] us'[i] l[i] m[i]):
 ∃e:Nat->Bool,(∀j (h1:j<us.toArray.size)(h2:j<us'.toArray.size),er A s us.toArray[j] us'.toArray[j] (e j))/\
  (((jF (min us.toArray.size us'.toArray.size)).all e&&us.toArray.size==us'.toArray.size)=true↔l=m):=by
 have h0:∀j:Nat,∃b:Bool,∀(h1:j<l.length)(h2:j<m.length)(g1:j<us.length)(g2:j<us'.length),er A s us[j] us'[j] b/\(b=true↔l[j]=m[j]):=by
  intro j
  by_cases c:j<l.length/\j<m.length
  ·obtain⟨b,hb⟩:=h j c.1 c.2 (by omega) (by omega)
   exact⟨b,fun _ _ _ _=>hb⟩
  ·exact⟨true,fun h1 h2=>absurd ⟨h1,h2⟩ c⟩
 obtain⟨e,he⟩:=Aj h0
 refine⟨e,fun j h1 h2=>?_,?_⟩
 ·have g1:j<us.length:=by simpa using h1
  have g2:j<us'.length:=by simpa using h2
  have:=(he j (by omega) (by omega) g1 g2).1
  simpa only[vc]using this
 ·rw[iO,lD]
  simp only[bW,beq_iff_eq,List.mem_range]
  constructor
  ·rintro⟨h1,h2⟩
   refine rB (by omega) fun i g1 g2=>?_
   exact(he i g1 g2 (by omega) (by omega)).2.mp (h1 i (by omega))
  ·rintro rfl
   refine⟨fun i hi=>?_,by omega⟩
   exact(he i (by omega) (by omega) (by omega) (by omega)).2.mpr rfl
theorem ma(A:bx):A.in1.units=A.units+1:=rfl
theorem wE(ok:cA P w H s.heap):∀(d d':Dt)(v v':V)(u u':aa)(A:bx),aQ H v d->aQ H v' d'->aW v u->aW v' u'->A.units+d.dep<cLine->Ce A s u u' d d':=by
 intro d
 induction d using Dt.ind with
 |h1 n=>
  intro d' v v' u u' A h h' r r' hu
  simp only[aQ]at h;subst h
  obtain⟨t,rfl⟩:=r
  cases d' with
  |int i=>simp only[aQ]at h';subst h';obtain⟨t',rfl⟩:=r';exact⟨_,.int_int n t i t',by simp⟩
  |str x=>simp only[aQ]at h';subst h';obtain⟨t',rfl⟩:=r';exact⟨_,.int_str n t x t',by simp⟩
  |tup m=>
   simp only[aQ]at h';obtain⟨a,vs,rfl,h1,_⟩:=h';cases r'
   obtain⟨its,_,q⟩:=iU ok h1
   exact⟨_,.int_tuple n t q (by omega),by simp⟩
  |lst m=>
   simp only[aQ]at h';obtain⟨a,vs,rfl,h1,_⟩:=h';cases r'
   obtain⟨its,_,q⟩:=jw ok h1
   exact⟨_,.int_list n t q (by omega),by simp⟩
 |h2 n=>
  intro d' v v' u u' A h h' r r' hu
  simp only[aQ]at h;subst h
  obtain⟨t,rfl⟩:=r
  cases d' with
  |int i=>simp only[aQ]at h';subst h';obtain⟨t',rfl⟩:=r';exact⟨_,.str_int n t i t',by simp⟩
  |str x=>simp only[aQ]at h';subst h';obtain⟨t',rfl⟩:=r';exact⟨_,.str_str n t x t',by simp⟩
  |tup m=>
   simp only[aQ]at h';obtain⟨a,vs,rfl,h1,_⟩:=h';cases r'
   obtain⟨its,_,q⟩:=iU ok h1
   exact⟨_,.str_tuple n t q (by omega),by simp⟩
  |lst m=>
   simp only[aQ]at h';obtain⟨a,vs,rfl,h1,_⟩:=h';cases r'
   obtain⟨its,_,q⟩:=jw ok h1
   exact⟨_,.str_list n t q (by omega),by simp⟩
 |h3 l ih=>
  intro d' v v' u u' A h h' r r' hu
  have hh:=h
  simp only[aQ]at h;obtain⟨a,vs,rfl,h1,h2⟩:=h;cases r
  obtain⟨its,ri,q⟩:=iU ok h1
  simp only[Dt.dep]at hu
  cases d' with
  |int i=>simp only[aQ]at h';subst h';obtain⟨t',rfl⟩:=r';exact⟨_,.tuple_int i t' q (by omega),by simp⟩
  |str x=>simp only[aQ]at h';subst h';obtain⟨t',rfl⟩:=r';exact⟨_,.tuple_str x t' q (by omega),by simp⟩
  |lst m=>
   simp only[aQ]at h';obtain⟨b,us,rfl,h3,_⟩:=h';cases r'
   obtain⟨its',_,q'⟩:=jw ok h3
   exact⟨_,.tuple_list q q' (by omega),by simp⟩
  |tup m=>
   have hh':=h'
   simp only[aQ]at h';obtain⟨b,us,rfl,h3,h4⟩:=h';cases r'
   obtain⟨its',ri',q'⟩:=iU ok h3
   by_cases e:a=b
   ·subst e
    exact⟨true,.same _,by simpa using aQ.inj _ _ _ hh hh'⟩
   ·have l1:=ri.length
    have l2:=ri'.length
    have l3:=h2.length
    have l4:=h4.length
    obtain⟨f,hf,hb⟩:=sS (A:=A.in1) (s:=s) (l:=l) (m:=m) (us:=its) (us':=its') (by omega) (by omega) fun i h1 h2' g1 g2=>
       ih _ (zGM _) _ _ _ _ _ _ (h2.get i (by omega) h1) (h4.get i (by omega) h2') (aS.at ri i _ _) (aS.at ri' i _ _) (by
        have:=pZ (zGM h1);rw[ma];omega)
    exact⟨_,.of_refs e (.tuples q q' (by omega) hf),by simpa using hb⟩
 |h4 l ih=>
  intro d' v v' u u' A h h' r r' hu
  have hh:=h
  simp only[aQ]at h;obtain⟨a,vs,rfl,h1,h2⟩:=h;cases r
  obtain⟨its,ri,q⟩:=jw ok h1
  simp only[Dt.dep]at hu
  cases d' with
  |int i=>simp only[aQ]at h';subst h';obtain⟨t',rfl⟩:=r';exact⟨_,.list_int i t' q (by omega),by simp⟩
  |str x=>simp only[aQ]at h';subst h';obtain⟨t',rfl⟩:=r';exact⟨_,.list_str x t' q (by omega),by simp⟩
  |tup m=>
   simp only[aQ]at h';obtain⟨b,us,rfl,h3,_⟩:=h';cases r'
   obtain⟨its',_,q'⟩:=iU ok h3
   exact⟨_,.list_tuple q q' (by omega),by simp⟩
  |lst m=>
   have hh':=h'
   simp only[aQ]at h';obtain⟨b,us,rfl,h3,h4⟩:=h';cases r'
   obtain⟨its',ri',q'⟩:=jw ok h3
   by_cases e:a=b
   ·subst e
    exact⟨true,.same _,by simpa using aQ.inj _ _ _ hh hh'⟩
   ·have l1:=ri.length
    have l2:=ri'.length
    have l3:=h2.length
    have l4:=h4.length
    by_cases hs:l.length=m.length
    ·obtain⟨f,hf,hb⟩:=sS (A:=A.in1) (s:=s) (l:=l) (m:=m) (us:=its) (us':=its') (by omega) (by omega) fun i h1 h2' g1 g2=>
        ih _ (zGM _) _ _ _ _ _ _ (h2.get i (by omega) h1) (h4.get i (by omega) h2') (aS.at ri i _ _) (aS.at ri' i _ _) (by
         have:=pZ (zGM h1);rw[ma];omega)
     have hz:its.toArray.size=its'.toArray.size:=by simp;omega
     refine⟨_,.of_refs e (.lists q q' hz (by omega) hf),?_⟩
     rw[hz,Nat.min_self,beq_self_eq_true,Bool.and_true]at hb
     rw[hz]
     simpa using hb
    ·refine⟨_,.of_refs e (.lists_lengths q q' (by simp;omega) (by omega)),?_⟩
     simp only[iP,Dt.lst.injEq,false_iff]
     rintro rfl;exact hs rfl
end
section
variable{X:Cx}
inductive Cf(X:Cx)(x:V)(y:V)(H:Hp)(Q:VK):Prop
 |mk:∀l m,(aQ H x (.tup l))->(aQ H y (.tup m))->(X.A.units+(Dt.tup l).dep<cLine)->(∀b,(b=true↔l=m)->Q (.bl b) H)->Cf X x y H Q
theorem IB:cL X (compareOp .Eq) (fun x y H Q=>Cf X x y H Q):=by
 intro pins s σ H x y v u Q I rx ry h
 obtain⟨l,m,h,h',hu,q⟩:=h
 simp only[aQ]at h h'
 obtain⟨a,vs,rfl,h1,h2⟩:=h;cases rx
 obtain⟨b,us,rfl,h3,h4⟩:=h';cases ry
 obtain⟨its,ri,p1⟩:=iU I.hok h1
 obtain⟨its',ri',p2⟩:=iU I.hok h3
 have l1:=ri.length
 have l2:=ri'.length
 have l3:=h2.length
 have l4:=h4.length
 simp only[Dt.dep]at hu
 obtain⟨f,hf,hb⟩:=sS (A:=X.A.in1) (s:=s) (l:=l) (m:=m) (us:=its) (us':=its') (by omega) (by omega) fun i h1 h2' g1 g2=>
  wE I.hok _ _ _ _ _ _ _ (h2.get i (by omega) h1) (h4.get i (by omega) h2') (aS.at ri i _ _) (aS.at ri' i _ _) (by
   have:=pZ (zGM h1);rw[ma];omega)
 exact Ae p1 p2 (by omega) hf ⟨.bl _,H,I,rfl,q _ hb⟩
inductive Cg(X:Cx)(x:V)(y:V)(H:Hp)(Q:VK):Prop
 |mk:∀l m,(aQ H x (.tup l))->(aQ H y (.tup m))->(X.A.units+(Dt.tup l).dep<cLine)->(∀b,(b=true↔¬l=m)->Q (.bl b) H)->Cg X x y H Q
theorem sT:cL X (compareOp .NotEq) (fun x y H Q=>Cg X x y H Q):=by
 intro pins s σ H x y v u Q I rx ry h
 obtain⟨l,m,h,h',hu,q⟩:=h
 simp only[aQ]at h h'
 obtain⟨a,vs,rfl,h1,h2⟩:=h;cases rx
 obtain⟨b,us,rfl,h3,h4⟩:=h';cases ry
 obtain⟨its,ri,p1⟩:=iU I.hok h1
 obtain⟨its',ri',p2⟩:=iU I.hok h3
 have l1:=ri.length
 have l2:=ri'.length
 have l3:=h2.length
 have l4:=h4.length
 simp only[Dt.dep]at hu
 obtain⟨f,hf,hb⟩:=sS (A:=X.A.in1) (s:=s) (l:=l) (m:=m) (us:=its) (us':=its') (by omega) (by omega) fun i h1 h2' g1 g2=>
  wE I.hok _ _ _ _ _ _ _ (h2.get i (by omega) h1) (h4.get i (by omega) h2') (aS.at ri i _ _) (aS.at ri' i _ _) (by
   have:=pZ (zGM h1);rw[ma];omega)
 refine vF.tuples p1 p2 (by omega) hf _ _ _ _ ⟨.bl _,H,I,rfl,q _ ?_⟩
 rw[<-hb,vE,Ac]
theorem Tm.isTup(t:Tm):∃l,t.dt= .tup l:=by cases t<;>exact⟨_,rfl⟩
inductive Ci(X:Cx)(x:V)(y:V)(H:Hp)(Q:VK):Prop
 |mk:∀t u,(aw H x t)->(aw H y u)->(X.A.units+2 * t.nodes<cLine)->(∀b,(b=true↔¬t=u)->Q (.bl b) H)->Ci X x y H Q
theorem wF:cL X (compareOp .NotEq) (fun x y H Q=>Ci X x y H Q):=by
 intro pins s σ H x y v u Q I rx ry h
 obtain⟨t,t',h,h',hu,q⟩:=h
 obtain⟨l,e⟩:=t.isTup
 obtain⟨m,e'⟩:=t'.isTup
 have hd:=t.dep_le
 refine sT pins s σ H x y v u Q I rx ry ⟨l,m,by rw[<-e];exact h,by rw[<-e'];exact h',by rw[<-e];omega,fun b hb=>q b (hb.trans (not_congr ?_))⟩
 constructor
 ·intro z;exact Tm.dt_inj _ _ (by rw[e,e',z])
 ·rintro rfl;rw[e]at e';cases e';rfl
inductive Cj(x:V)(y:V)(H:Hp)(Q:VK):Prop
 |mk:∀a b xs,(x= .ref a)->(y= .ref b)->(H a=some (.lst xs))->(H b=some (.lst []))->(Q (.bl (!xs.isEmpty)) H)->Cj x y H Q
theorem sU(hu:X.A.units<cLine):cL X (compareOp .NotEq) (fun x y H Q=>Cj x y H Q):=by
 intro pins s σ H x y v u Q I rx ry h
 obtain⟨a,b,xs,rfl,rfl,h1,h2,q⟩:=h
 cases rx;cases ry
 obtain⟨its,ri,p1⟩:=jw I.hok h1
 obtain⟨its',ri',p2⟩:=jw I.hok h2
 cases ri'
 cases ri with
 |nil=>exact vF.lists (e:=fun _=>true) p1 p2 rfl hu (fun j g1 _=>absurd g1 (by simp)) _ _ _ _ ⟨.bl _,H,I,rfl,q⟩
 |cons r rr=>exact vF.lists_lengths p1 p2 (by simp) hu _ _ _ _ ⟨.bl _,H,I,rfl,q⟩
inductive Ck(x:V)(y:V)(H:Hp)(Q:VK):Prop
 |mk:∀a b xs,(x= .ref a)->(y= .ref b)->(H a=some (.tup xs))->(H b=some (.tup []))->(Q (.bl xs.isEmpty) H)->Ck x y H Q
theorem Cm(hu:X.A.units<cLine):cL X (compareOp .Eq) (fun x y H Q=>Ck x y H Q):=by
 intro pins s σ H x y v u Q I rx ry h
 obtain⟨a,b,xs,rfl,rfl,h1,h2,q⟩:=h
 cases rx;cases ry
 obtain⟨its,ri,p1⟩:=iU I.hok h1
 obtain⟨its',ri',p2⟩:=iU I.hok h2
 cases ri'
 refine Ae (e:=fun _=>true) p1 p2 hu (fun j g1 g2=>absurd g2 (by simp)) ⟨.bl _,H,I,rfl,?_⟩
 cases ri with
 |nil=>exact q
 |cons r rr=>exact q
inductive Cn(x:V)(y:V)(H:Hp)(Q:VK):Prop
 |mk:∀i j,(x= .str i)->(y= .str j)->(Q (.bl (!decide (j.cps.toList<i.cps.toList))) H)->Cn x y H Q
theorem IC:cL X (compareOp .LtE) (fun x y H Q=>Cn x y H Q):=by
 intro pins s σ H x y v u Q I rx ry h
 obtain⟨i,j,rfl,rfl,q⟩:=h
 obtain⟨t,rfl⟩:=rx
 obtain⟨t',rfl⟩:=ry
 exact PySem.P.le_str (cH I q rfl)
inductive d5:String->String->Bool->Prop
 |ii:d5 "int" "int" true
 |ib:d5 "int" "bool" false
 |is:d5 "int" "str" false
 |it:d5 "int" "tuple" false
 |il:d5 "int" "list" false
 |bb:d5 "bool" "bool" true
 |bi:d5 "bool" "int" true
 |bs:d5 "bool" "str" false
 |ss:d5 "str" "str" true
 |si:d5 "str" "int" false
 |sb:d5 "str" "bool" false
 |st:d5 "str" "tuple" false
 |sl:d5 "str" "list" false
 |tt:d5 "tuple" "tuple" true
 |ts:d5 "tuple" "str" false
 |ti:d5 "tuple" "int" false
 |tl:d5 "tuple" "list" false
 |ll:d5 "list" "list" true
 |lt:d5 "list" "tuple" false
 |ls:d5 "list" "str" false
theorem d5.ok{K:aB}{t c:String}{b:Bool}(k:d5 t c b):PySem.W.kitOne K (.type t) (.type c)=some b:=by
 cases k<;>kernel_rfl
inductive Co(X:Cx)(xs:List V)(H:Hp)(Q:VK):Prop
 |mk:∀x c t b,(xs=[x,.ty c])->(gJ X.K H x (.type t))->(d5 t c b)->(Q (.bl b) H)->Co X xs H Q
theorem cW:fR X (.builtin "isinstance") (fun xs H Q=>Co X xs H Q):=by
 intro pins s σ H xs us Q I r h
 obtain⟨x,c,t,b,rfl,ty,k,q⟩:=h
 obtain⟨u,u',rfl,ru,rc⟩:=sv r
 cases (show u'=aa.type c from rc)
 exact GZ I ru ty k.ok fun tk=>⟨.bl b,H,I.tok tk,rfl,q⟩
theorem wG:∀{ys:List ac}{us:List aa},aS (ys.map V.str) us->StrsAre us ys
 |[],us,h=>by cases h;first|exact .nil|constructor
 |y::ys,us,h=>by
  cases h with
  |cons r rr=>
   obtain⟨t,rfl⟩:=r
   exact .cons y t (wG rr)
inductive Cp(x:V)(vs:List V)(H:Hp)(Q:VK):Prop
 |mk:∀(p:Addr)(ys:List ac),(x= .str "")->(vs=[.ref p])->(H p=some (.lst (ys.map V.str)))->((ys.map (·.length)).sum<=16777216)->(Q (.str (Txt.join "" ys)) H)->Cp x vs H Q
theorem ID:sK X "str.join" (fun x vs H Q=>Cp x vs H Q):=by
 intro pins s σ H x vs v us Q I rx rv h
 obtain⟨p,ys,rfl,rfl,h1,hz,q⟩:=h
 obtain⟨t,rfl⟩:=rx
 obtain⟨u,rfl,ru⟩:=ix rv
 cases ru
 obtain⟨its,ri,pl⟩:=jw I.hok h1
 refine join_list pl (by simpa using wG ri) ?_ fun t' k=>⟨.str _,H,I.tok k,⟨t',rfl⟩,q⟩
 have e:(bT "").length=0:=by decide +kernel
 rw[e];omega
end
def aG(P:aP)(w:aH)(K:aB)(mg:ac->Option aa)(base:aA)(k:Nat)(x:ac)(ps:List ac)(sp:Sp):Prop:=
 ∃(f:Addr)(fd:bd),be P w K mg base bh k f fd ps sp/\iz K fd ps []/\bn K (.ref f)=true/\mg x=some (.ref f)
section
variable{X:Cx}{k:Nat}{x:ac}{ps:List ac}{sp:Sp}{p pos:Pos}{e:Expr}{es:List Expr}{t:TA}
theorem aY(C:aG X.prog X.w X.K X.mg X.base k x ps sp)(hr:df k X.A)(ha:PA X (e::es) t)(hg:Gl X x:=by rfl)(hdb:(x==("__debug__":ac))=false:=by decide)
 (he:starEach (e::es) X.env=(false,eval e X.env)::starEach es X.env:=by rfl) (hpl:(backTo pos (starEach es X.env)).any (·.1)=false:=by rfl):PE X (.Call (.Name x p) (e::es) [] pos) (A6 sp [] E0 t):=by
 obtain⟨f,fd,F,b,kp,m⟩:=C
 exact G3 F hr hg m kp b .nil sP ha hdb he hpl
end
theorem cj:bootBuiltins "len"=some (.builtin "len"):=by decide +kernel
theorem IE:bootBuiltins "abs"=some (.builtin "abs"):=by decide +kernel
theorem cT:bootBuiltins "isinstance"=some (.builtin "isinstance"):=by decide +kernel
theorem wH:bootBuiltins "int"=some (.type "int"):=by decide +kernel
theorem sV:bootBuiltins "bool"=some (.type "bool"):=by decide +kernel
theorem jY:bootBuiltins "str"=some (.type "str"):=by decide +kernel
theorem fM:bootBuiltins "tuple"=some (.type "tuple"):=by decide +kernel
theorem gm:bootBuiltins "list"=some (.type "list"):=by decide +kernel
theorem sW:bootBuiltins "reversed"=some (.type "reversed"):=by decide +kernel
theorem IF:(10:Int) ^ 39<26 ^ 28:=by decide +kernel
structure WI(l:Int)(x:ac):Prop where
 lo: -1<=l
 hi:(l+1) * 26 ^ x.cps.toList.length<=10 ^ 39
 ab:∀c∈x.cps.toList,97<=c/\c<=122
 ne:l= -1->1<=x.cps.toList.length
 ln:x.cps.toList.length<=28
theorem WI.start(i:Int):WI ((if i<0 then -i else i) % 10 ^ 39) "":=by
 have e:(bT "").cps.toList=[]:=by decide +kernel
 have h0:(0:Int)<=(if i<0 then -i else i) % 10 ^ 39:=na _ (by decide +kernel)
 have h1:(if i<0 then -i else i) % 10 ^ 39<10 ^ 39:=ng _ (by decide +kernel)
 refine⟨by omega,?_,?_,by omega,?_⟩
 ·rw[e,zLN,Int.pow_zero,vH];omega
 ·rw[e];simp
 ·rw[e];simp
theorem IG{a b:Nat}(h:a<=b):(26:Int) ^ a<=26 ^ b:=by
 obtain⟨k,rfl⟩:=u5 h
 rw[Int.pow_add]
 have h1:(1:Int)<=26 ^ k:=by
  induction k with
  |zero=>simp
  |succ k ih=>rw[Int.pow_succ];omega
 have h2:(0:Int)<=26 ^ a:=vI (by decide)
 calc (26:Int) ^ a=26 ^ a * 1:=by rw[vH]
  _<=26 ^ a * 26 ^ k:=Int.mul_le_mul_of_nonneg_left h1 h2
theorem WI.short{l:Int}{x:ac}(h:WI l x)(c:0<=l):x.cps.toList.length<=27:=by
 by_cases hl:x.cps.toList.length<=27
 ·exact hl
 ·exfalso
  have h1:=IG (a:=28) (b:=x.cps.toList.length) (by omega)
  have h2:=h.hi
  have h3:(0:Int)<=26 ^ x.cps.toList.length:=vI (by decide)
  have h4:(1:Int) * 26 ^ x.cps.toList.length<=(l+1) * 26 ^ x.cps.toList.length:=Af (by omega) h3
  have h5:=IF
  rw[Int.one_mul]at h4
  exact absurd (Int.lt_of_le_of_lt (vJ h1 (vJ h4 h2)) h5) (Int.lt_irrefl _)
def md:ac:="abcdefghijklmnopqrstuvwxyz"
theorem Cq(k:Nat)(h:k<26):md.cps.toList[k]?=some (97+k):=by
 have:∀k:Fin 26,md.cps.toList[(k:Nat)]?=some (97+(k:Nat)):=by decide +kernel
 exact this ⟨k,h⟩
theorem gn(a b:ac):(a++b).cps.toList=a.cps.toList++b.cps.toList:=by
 show (a.cps++b.cps).toList=_
 rw[Array.toList_append]
theorem gK(a:ac):a.length=a.cps.toList.length:=by simp[ac.length]
theorem WI.turn{l:Int}{x:ac}{c:Nat}(h:WI l x)(h0:0<=l)(hc:97<=c/\c<=122):WI (l / 26 - 1) ((⟨#[c]⟩:ac)++x):=by
 have e:((⟨#[c]⟩:ac)++x).cps.toList=c::x.cps.toList:=by rw[gn];rfl
 have hs:=h.short h0
 have hp:(0:Int)<=26 ^ x.cps.toList.length:=vI (by decide)
 have hd:0<=l / 26:=Int.ediv_nonneg h0 (by decide)
 refine⟨by omega,?_,?_,fun _=>?_,?_⟩
 ·rw[e,zLC,Int.pow_succ]
  have e1:(l / 26 - 1+1) * (26 ^ x.cps.toList.length * 26)=(l / 26 * 26) * 26 ^ x.cps.toList.length:=by
   rw[show l / 26 - 1+1=l / 26 from by omega,Int.mul_comm (26 ^ _) 26,<-Int.mul_assoc]
  rw[e1]
  exact vJ (Af (by omega) hp) h.hi
 ·rw[e]
  intro d hd
  rcases bF.mp hd with rfl|hd
  ·exact hc
  ·exact h.ab d hd
 ·rw[e];simp
 ·rw[e,zLC];omega
theorem WI.wd{l:Int}{x:ac}(h:WI l x)(c:¬0<=l):Wd x/\x.cps.toList.length<=30:=
 have:=h.ln
 ⟨⟨h.ne (by have:=h.lo;omega),by omega,h.ab⟩,by omega⟩
theorem Wd.lits:Wd "oak"/\Wd "oik"/\Wd "f"/\Wd "pair"/\Wd "row"/\Wd "end"/\Wd "x"/\Wd "y"/\Wd "z":=by
 unfold Wd;decide +kernel
theorem Wd.zz{x:ac}(h:Wd x)(hl:x.cps.toList.length<=30):Wd ((("zz":ac))++x):=by
 have e:(bT "zz").cps.toList=[122,122]:=by decide +kernel
 unfold Wd
 rw[gn,e]
 refine⟨by simp,by simp only[zLA,zLC,zLN];omega,?_⟩
 intro c hc
 simp only[eL,iq,bF]at hc
 rcases hc with rfl|rfl|hc
 ·decide
 ·decide
 ·exact h.2.2 c hc
theorem ck{b:Bool}{A B:Prop}(h:b=false)(hB:B):if b=true then A else B:=by rw[h];exact bf hB
theorem iV{b:Bool}{A B:Prop}(h:b=true)(hA:A):if b=true then A else B:=by rw[h];exact g9 hA
theorem Wd.ne{x:ac}(h:Wd x):x≠"":=by
 intro z
 have e:(bT "").cps.toList.length=0:=by decide +kernel
 have:=h.1
 rw[z,e]at this
 omega
theorem aT.snoc{H:Hp}{us:List V}{u:V}{ts:List Tm}{t:Tm}(h:aT H (us++[u]) (ts++[t])):aT H us ts/\aw H u t:=by
 have hl:=h.len
 simp only[zLA,zLC,zLN]at hl
 have hl':us.length=ts.length:=by omega
 refine⟨.of_at hl' fun i h1 h2=>?_,?_⟩
 ·have:=h.at i (by simp;omega) (by simp;omega)
  simpa only[pw h1,pw h2]using this
 ·have:=h.at us.length (by simp) (by simp;omega)
  simpa[hl']using this
theorem IH{c:Nat}(h1:97<=c)(h2:c<=122):(!(!(vR md ⟨#[c]⟩ 0 md.length 1).isEmpty))=false:=by
 have:∀k:Fin 26,(!(!(vR md ⟨#[97+(k:Nat)]⟩ 0 md.length 1).isEmpty))=false:=by decide +kernel
 have h:=this ⟨c - 97,by omega⟩
 simp only[show 97+(c - 97)=c from by omega]at h
 exact h
def p6(z:ac):It:=⟨fun i _=>i<z.cps.size,fun i H x H'=>H'=H/\∃c,z.cps.toList[i]?=some c/\x= .str ⟨#[c]⟩,fun i _=>i=z.cps.size⟩
theorem Cr{P:aP}{w:aH}{K:aB}{tg:Expr}(it:Addr)(z:ac)(t:Tok)(nm:String)
 (hn:["enumerate","zip","dict_itemiterator","dict_reverseitemiterator","odict_iterator","itertools.zip_longest","itertools.pairwise"].contains nm=false)
 (W:∀A':bx,A'.handled=none->Walks P w A' it [it] [it] z.cps.size (SignAt z) (fun i h=>h.IsStrIter it nm z t i))
 (hself:∀(A:bx)(i:Nat)(s:ah)(Q:aa->ah->Prop)(E:aa->ah->Prop),s.heap.IsStrIter it nm z t i->Q (.ref it) s->wpAny (model P w) A (pyIter (.ref it)) Q E s):
 jr P w K tg (p6 z) [it] it (fun i h=>h.IsStrIter it nm z t i) where
 mem:=by simp
 obj:=fun i h st b hb=>by
  have e:b=it:=by simpa using hb
  subst e
  obtain⟨o,e,c,d⟩:=st
  exact⟨o,e,fun v z=>by rw[d]at z;cases z⟩
 keep:=fun i h h' st k=>let ⟨o,ho,r⟩:=st;⟨o,k it (by simp) o ho,r⟩
 item:=by
  intro X hP hw hK hc i pins s σ H E I hf st hg
  subst hP hw hK
  obtain⟨f0,f1,f2,f3,f4,f5⟩:=hf it (by simp)
  refine(W _ (I.ok.hd hc)).item i s _ _ hg st fun v h' tk hv st' kk=>?_
  obtain⟨c,u,hc',rfl⟩:=hv
  have I1:Inv X pins σ H { s with heap:=h',toks:=tk}:=I.turned (fun b o hb e=>kk b o (by simpa using hb) e) f0 f1 f3 f4 f5
  obtain⟨o,e,c0,d⟩:=id st'
  exact⟨_,rfl,pN (s:={ s with heap:=h',toks:=tk}) e c0 d hn ⟨.str ⟨#[c]⟩,H,I1,⟨u,rfl⟩,⟨rfl,c,by simpa using hc',rfl⟩,st',fun b hb=>(hf b hb).1⟩⟩
 done:=by
  intro X hP hw hK hc i pins s σ H E I hf st hg
  subst hP hw hK
  obtain⟨f0,f1,f2,f3,f4,f5⟩:=hf it (by simp)
  have hi:i=z.cps.size:=hg
  subst hi
  exact(W _ (I.ok.hd hc)).done s _ _ st fun h' tk kk=>⟨rfl,I.turned (fun b o hb e=>kk b o (by simpa using hb) e) f0 f1 f3 f4 f5⟩
 self:=fun A i s Q E st h=>hself A i s Q E st h
section
variable{X:Cx}{tg:Expr}
def II(tl:TE):TI:=fun σ H R=>tl σ H fun x H1=>∃z,x= .str z/\R (p6 z) H1
theorem IJ{l:Expr}{tl:TE}(hl:PE X l tl):PI X tg l (II tl):=by
 intro pins s σ H R I h
 refine aL (hl pins s σ H _ I h) fun v s1 ⟨x,H1,I1,r1,q1⟩=>?_
 obtain⟨z,e,q⟩:=q1
 subst e
 obtain⟨t,rfl⟩:=r1
 have fp:∀b∈[s1.heap.objs.size],d4 X pins H1 b:=fun b hb=>by
  have e:b=s1.heap.objs.size:=by simpa using hb
  subst e
  exact I1.fpOk (aJ _) (I1.hok.fresh (aJ _))
 cases ha:z.cps.all (· <128)
 ·refine wpAny_pyIter_wide ha ?_
  exact⟨s1.heap.objs.size,[s1.heap.objs.size],_,_,H1,rfl,I1.kept (t':=s1.toks) fun b o e=>br _ e,Cr _ z t "str_iterator" (by decide) (fun A' hA=>Walks.strWide hA _ z t) (fun A i s Q E st h=>wpAny_pyIter_striter_wide st h),⟨_,bY _ rfl,rfl,rfl⟩,fp,q⟩
 ·refine wpAny_pyIter_ascii ha ?_
  exact⟨s1.heap.objs.size,[s1.heap.objs.size],_,_,H1,rfl,I1.kept (t':=s1.toks) fun b o e=>br _ e,Cr _ z t "str_ascii_iterator" (by decide) (fun A' hA=>Walks.strAscii hA _ z t) (fun A i s Q E st h=>wpAny_pyIter_striter_ascii st h),⟨_,bY _ rfl,rfl,rfl⟩,fp,q⟩
end
theorem IK{z:ac}{g:TG}{tb:TS}{D:dE}{σ:L2.St}{H:Hp}(Pv:Nat->L2.St->Hp->Prop)(h0:Pv 0 σ H)
 (hs:∀i c σ H,z.cps.toList[i]?=some c->Pv i σ H->g (.str ⟨#[c]⟩) σ H fun σ2 H2=>tb { D with nx:=Pv (i+1),ct:=Pv (i+1),bk:=D.nx} σ2 H2) (hd:∀σ H,Pv z.cps.size σ H->D.nx σ H):
 ∃W:Nat->Nat->L2.St->Hp->Prop,(∃m,W 0 m σ H)/\∀i m σ H,W i m σ H->
  ((p6 z).stop i H/\D.nx σ H)\/((p6 z).go i H/\∃N:L2.St->Hp->Prop,(∀σ' H',N σ' H'->∃m',m'<m/\W (i+1) m' σ' H')/\∀x H',(p6 z).yld i H x H'->g x σ H' fun σ2 H2=>tb { D with nx:=N,ct:=N,bk:=D.nx} σ2 H2):=by
 refine⟨fun i m σ H=>m=z.cps.size - i/\i<=z.cps.size/\Pv i σ H,⟨z.cps.size,by simp,cP _,h0⟩,?_⟩
 rintro i m σ H ⟨rfl,hi,p⟩
 by_cases c:i=z.cps.size
 ·subst c
  exact .inl ⟨rfl,hd σ H p⟩
 ·have hlt:i<z.cps.size:=by omega
  refine .inr ⟨hlt,Pv (i+1),fun σ' H' n=>⟨z.cps.size - (i+1),by omega,rfl,by omega,n⟩,?_⟩
  rintro x H' ⟨rfl,c,hc,rfl⟩
  exact hs i c σ H' hc p
section
variable{X:Cx}{tg:Expr}
end
open Sem (wp)
namespace RV
theorem wI:Manifest.owners.lookup (String.ofList ['d','e','s','r','e','v','e','r'].reverse)=some Manifest.sig_reversed:=by kernel_rfl
theorem slot_next:Slot "reversed" "__next__" "reversed.__next__":=
 .of (owner:="reversed") (n:="__next__") (by rw[ik,im];kernel_rfl) (by decide +kernel) (by decide +kernel) (by decide +kernel)
  (by first|exact .inl (by decide +kernel)|exact .inr (by decide +kernel)) (by rw[ko];kernel_rfl)
theorem entry_next:entryFor table "reversed.__next__"=some dA.«reversed.__next__»:=qY (by kernel_rfl)
theorem args_next(a:aa):argsOk "reversed.__next__" ⟨[a],[]⟩:=by
 unfold argsOk;rw[uL (id:="reversed.__next__") (n:=['_','_','t','x','e','n','_','_']) (o:=['d','e','s','r','e','v','e','r']) (by kernel_rfl) wI];kernel_rfl
theorem slot_iter:Slot "reversed" "__iter__" "reversed.__iter__":=
 .of (owner:="reversed") (n:="__iter__") (by rw[ik,im];kernel_rfl) (by decide +kernel) (by decide +kernel) (by decide +kernel)
  (by first|exact .inl (by decide +kernel)|exact .inr (by decide +kernel)) (by rw[ko];kernel_rfl)
theorem args_iter(a:aa):argsOk "reversed.__iter__" ⟨[a],[]⟩:=by
 unfold argsOk;rw[uL (id:="reversed.__iter__") (n:=['_','_','r','e','t','i','_','_']) (o:=['d','e','s','r','e','v','e','r']) (by kernel_rfl) wI];kernel_rfl
theorem entry_iter:entryFor table "reversed.__iter__"=some dA.«dict_keyiterator.__iter__»:=
 entryFor_alias (id':="dict_keyiterator.__iter__") (by kernel_rfl) (by first|rfl|decide +kernel|(unfold String.splitOn;simp +decide [String.splitOnAux])) (by decide +kernel) (by kernel_rfl)
theorem entry_new:entryFor table "reversed.__new__"=some dA.«reversed.__new__»:=qY (by kernel_rfl)
theorem tuple_norev:typeLookup (.type "tuple") "__reversed__"=pure none:=by rw[ik,im];kernel_rfl
theorem sub_tuple_dict:isSubtype (.type "tuple") (.type "dict")=pure false:=by rw[ko];kernel_rfl
theorem sub_rev:isSubtype (.type "reversed") (.type "reversed")=pure true:=by rw[ko];kernel_rfl
theorem IL:Slot "reversed" "__init__" "object.__init__":=
 .of (owner:="object") (n:="__init__") (by rw[ik,im];kernel_rfl) (by decide +kernel) (by decide +kernel) (by decide +kernel)
  (by first|exact .inl (by decide +kernel)|exact .inr (by decide +kernel)) (by rw[ko];kernel_rfl)
theorem Cs:mroOf (.type "reversed")=pure [.type "reversed",.type "object"]:=by rw[mroOf_type];kernel_rfl
theorem IM:typeLookup (.type "reversed") "__new__"=pure (some (.builtin "reversed.__new__")):=by rw[ik,im];kernel_rfl
theorem IN:Bind.madeBy (.type "reversed")=pure (some "reversed.__new__"):=madeBy_type Cs IM (by decide +kernel)
theorem called_rev:TypeCalled "reversed" "reversed.__new__" "object.__init__":=
 ⟨by decide +kernel,by decide +kernel,⟨_,_,Cs⟩,IN,by decide +kernel,sub_rev,IL⟩
end RV
def iW(t:Addr)(i:Int):aI:={ cls:= .type "reversed",data:= .fields #[.ref t,rawInt i]}
section
variable{prog:aP}{w:aH}{A:bx}{E:aa->ah->Prop}{s:ah}
theorem Ct{it t:Addr}{i:Nat}{items:Array aa}{x:aa}{Q:Option aa->ah->Prop}(hit:s.heap.get? it=some (iW t (i:Int)))(ht:cz s.heap t items)(hx:items[i]?=some x)(hz:(items.size:Int)<2 ^ 63)
 (hQ:∀h' tk,h'.get? it=some (iW t ((i:Int) - 1))->gT it s.heap h'->Q (some x) { s with heap:=h',toks:=tk}):wpAny (model prog w) A (pyNext (.ref it)) Q E s:=by
 have hT:s.TypeIs (.ref it) "reversed":=⟨_,hit,rfl⟩
 have hi:i<items.size:=(Array.getElem?_eq_some_iff.mp hx).1
 unfold pyNext
 refine ai (kq (ij (name:=bT "__next__") hT RV.slot_next (fF RV.slot_next hT RV.entry_next ?_ (RV.args_next _))))
 unfold dA.«reversed.__next__»
 refine ai (io (a:=(aa.ref it,[])) rfl ?_)
 try dsimp only
 refine ai (da hit rfl (x:= .ref t) rfl ?_)
 refine ai (da hit rfl (x:=rawInt (i:Int)) rfl ?_)
 show wpAny _ _ (if (i:Int)<0 then _ else _) _ _ s
 rw[if_neg (by omega)]
 refine ai (je ht.typeIs vB.lookup ?_)
 show wpAny _ _ (if (false:Bool)=true then _ else _) _ _ s
 rw[if_neg dm]
 refine ai (uM ?_)
 refine ai (kq (getItem_tuple (j:=i) (x:=x) (s:={ s with toks:=s.toks+1}) ht (by omega) (by omega) (by unfold seqIndex?;simp;omega) hx ?_))
 refine ai (da (s:={ s with toks:=s.toks+1}) hit rfl (x:=rawInt (i:Int)) rfl ?_)
 refine ai (pe (s:={ s with toks:=s.toks+1}) hit rfl (by simp) ?_)
 refine aR ⟨x,rfl,aR (hQ _ _ ?_ (pK ..))⟩
 exact jD _ hit (vG (pG rfl _))
theorem Cu{it t:Addr}{Q:Option aa->ah->Prop}(hh:A.handled=none)(hit:s.heap.get? it=some (iW t (-1)))
 (hQ:∀h',aA.ExtBut it s.heap h'->Q none { s with heap:=h'}):wpAny (model prog w) A (pyNext (.ref it)) Q E s:=by
 have hT:s.TypeIs (.ref it) "reversed":=⟨_,hit,rfl⟩
 unfold pyNext
 refine ai (kq (ij (name:=bT "__next__") hT RV.slot_next (fF RV.slot_next hT RV.entry_next ?_ (RV.args_next _))))
 unfold dA.«reversed.__next__»
 refine ai (io (a:=(aa.ref it,[])) rfl ?_)
 try dsimp only
 refine ai (da hit rfl (x:= .ref t) rfl ?_)
 refine ai (da hit rfl (x:=rawInt (-1)) rfl ?_)
 show wpAny _ _ (if (-1:Int)<0 then _ else _) _ _ s
 rw[if_pos (by decide)]
 refine ai (jf ?_)
 refine ai ?_
 refine ai (m:=setField (.ref it) 1 (rawInt (-1))) (pe hit rfl (by simp) ?_)
 have hit2:=jD (h:=s.heap) (aI.mapFields (·.setIfInBounds 1 (rawInt (-1)))) hit (vG (pG rfl _))
 refine pe (s:={ s with heap:=s.heap.update it (aI.mapFields (·.setIfInBounds 1 (rawInt (-1))))}) hit2 (pG rfl _) (by simp) ?_
 refine ai ?_
 show wpAny _ _ (newExc (.type "StopIteration") [] >>= _) _ _ _
 refine ai ?_
 simp only[newExc,newTuple]
 refine ai (jd ?_ (by size_fits))
 refine ai (m:=firstArgMember _ _) (io (a:=aa.none) (by first|rfl|(simp only[firstArgMember];rfl)) ?_)
 refine jd ?_ (by size_fits)
 simp only[raiseNew]
 refine ai (wpAny_handled ?_)
 first|rw[show A.in1.handled=none from hh]|rw[hh]
 refine ai (aR (wpAny_throw ?_))
 refine ai (mO (T:="StopIteration") (b:=true) ⟨_,bY _ rfl,rfl⟩ uN ?_)
 exact aR (hQ _ ((((pK ..).trans (pK ..)).extBut.push _).push _))
theorem wJ{it t:Addr}{i:Int}{Q:aa->ah->Prop}(hit:s.heap.get? it=some (iW t i))(h:Q (.ref it) s):wpAny (model prog w) A (pyIter (.ref it)) Q E s:=by
 have hT:s.TypeIs (.ref it) "reversed":=⟨_,hit,rfl⟩
 refine uO hT RV.slot_iter (fF RV.slot_iter hT RV.entry_iter ?_ (RV.args_iter _))
 show wpAny _ _ (ret (.ref it)) _ _ s
 exact aR ⟨_,rfl,"reversed",_,hT,RV.slot_next.lookup,h⟩
theorem IP(a:aa):Ah "reversed" ⟨[.type "reversed",a],[]⟩=pure (.type "reversed",[a]):=by
 unfold Ah
 simp only[isType,RV.sub_rev,vT,Bool.not_true,iP,if_false]
theorem IQ(t:Addr)(items:Array aa):
 Meets (dA.«reversed.__new__» ⟨[.type "reversed",.ref t],[]⟩) (fun _ R s=>cz s.heap t items/\(items.size:Int)<2 ^ 63/\
  ∀tk,R (.ok (.ret (.ref s.heap.objs.size))) { s with heap:=s.heap.push (iW t ((items.size:Int) - 1)),toks:=tk}):=
 .of_wp fun prog w A R s h=>by
  obtain⟨ht,hz,h⟩:=h
  unfold dA.«reversed.__new__»
  refine ai (io (IP _) ?_)
  try dsimp only
  refine ai (io (a:=()) (by first|rfl|kernel_rfl) ?_)
  refine ai (io (a:=()) (by first|rfl|kernel_rfl) ?_)
  try dsimp only
  refine ai (je ht.typeIs RV.tuple_norev ?_)
  try dsimp only
  refine ai ?_
  refine ai (m:=isInstance (.ref t) (.type "dict")) (mO ht.typeIs RV.sub_tuple_dict ?_)
  show wpAny _ _ (if (false:Bool)=true then _ else _) _ _ _
  rw[if_neg dm]
  refine ai (je ht.typeIs vB.lookup ?_)
  try dsimp only
  rw[if_pos (by decide)]
  refine aR ?_
  show wpAny _ _ (if (false:Bool)=true then _ else _) _ _ _
  rw[if_neg dm]
  refine ai (vC ht hz ?_)
  refine ai (io (a:=some (items.size:Int)) (by first|rfl|simp[asInt?]) ?_)
  try dsimp only
  refine ai (m:=newObj (.type "reversed") (.fields #[.ref t,rawInt ((items.size:Int) - 1)])) (jd ?_ (by size_fits))
  exact aR ⟨_,rfl,h _⟩
theorem Cv{t:Addr}{items:Array aa}{Q:aa->ah->Prop}(ht:cz s.heap t items)(hz:(items.size:Int)<2 ^ 63)
 (h:∀tk,Q (.ref s.heap.objs.size) { s with heap:=s.heap.push (iW t ((items.size:Int) - 1)),toks:=tk}):wpAny (model prog w) A (call (.type "reversed") [.ref t]) Q E s:=
 uP RV.called_rev (by decide) (by kernel_rfl) (by kernel_rfl) (fun obj=>PySem.F.args_object_init_2 obj _) RV.entry_new (IQ t items) ⟨ht,hz,fun tk=>⟨⟨_,bY _ rfl,rfl⟩,h tk⟩⟩
end
def p8(K:aB)(a:Addr)(xs:List V):It:=
 ⟨fun i H=>ag K H a xs/\i<xs.length,fun i H x H'=>H'=H/\xs.reverse[i]?=some x,fun i H=>i=xs.length⟩
theorem IR{P:aP}{w:aH}{K:aB}{tg:Expr}(a it:Addr)(xs:List V):jr P w K tg (p8 K a xs) [it] it (fun i h=>h.get? it=some (iW a ((xs.length:Int) - 1 - (i:Nat)))) where
 mem:=by simp
 obj:=fun i h st b hb=>by
  have e:b=it:=by simpa using hb
  subst e
  exact⟨_,st,fun v z=>by
    have z':km.fields _=km.cell v:=z
    cases z'⟩
 keep:=fun i h h' st k=>k it (by simp) _ st
 item:=by
  intro X hP hw hK hc i pins s σ H E I hf st hg
  subst hP hw hK
  obtain⟨hq,hi⟩:=hg
  obtain⟨its,rv,p,hz⟩:=I.tuple hq
  obtain⟨f0,f1,f2,f3,f4,f5⟩:=hf it (by simp)
  have hl:=rv.length
  have hn:=gY
  have e1:(xs.length:Int) - 1 - (i:Nat)=((xs.length - 1 - i:Nat):Int):=by omega
  obtain⟨x,hx⟩:∃x,xs[xs.length - 1 - i]?=some x:=⟨_,zGE (by omega)⟩
  obtain⟨u,hu,ru⟩:=rv.get hx
  rw[e1]at st
  refine Ct st p (x:=u) (by simpa using hu) (by simp only[bW];omega) fun h' tk st' sb=>?_
  have I1:Inv X pins σ H { s with heap:=h',toks:=tk}:=I.turned (fun b o hb e=>(sb.2 b hb).trans e) f0 f1 f3 f4 f5
  have e2:((xs.length - 1 - i:Nat):Int) - 1=(xs.length:Int) - 1 - ((i+1:Nat):Int):=by omega
  rw[e2]at st'
  exact⟨u,rfl,pN (s:={ s with heap:=h',toks:=tk}) (n:="reversed") st' rfl rfl (by decide) ⟨x,H,I1,ru,⟨rfl,by rw[rC (by omega)];exact hx⟩,st',fun b hb=>(hf b hb).1⟩⟩
 done:=by
  intro X hP hw hK hc i pins s σ H E I hf st hg
  subst hP hw hK
  obtain⟨f0,f1,f2,f3,f4,f5⟩:=hf it (by simp)
  have hi:i=xs.length:=hg
  have e1:(xs.length:Int) - 1 - (i:Nat)= -1:=by omega
  rw[e1]at st
  exact Cu (I.ok.hd hc) st fun h' eb=>⟨rfl,I.turned (t':=s.toks) (fun b o hb e=>eb b o hb e) f0 f1 f3 f4 f5⟩
 self:=fun _ _ _ _ _ st h=>wJ st h
section
variable{X:Cx}{tg:Expr}
def IS(K:aB)(ta:TA):TI:=fun σ H R=>ta σ H fun vs H1=>∃a xs,vs=[.ref a]/\ag K H1 a xs/\R (p8 K a xs) H1
theorem IT{a:Expr}{ta:TA}{p pos:Pos}(hg:Gl X "reversed")(hm:X.mg "reversed"=none)(ha:PA X [a] ta)(hs:starEach [a] X.env=[(false,eval a X.env)]:=by rfl):PI X tg (.Call (.Name "reversed" p) [a] [] pos) (IS X.K ta):=by
 intro pins s σ H R I h
 refine Call_ (gg I hg hm sW (gW (aL (ha pos pins s σ H _ I h) fun us s1 ⟨vs,H1,I1,r1,q1⟩=>?_) hs rfl))
 obtain⟨b,xs,e,hq,q⟩:=q1
 subst e
 obtain⟨u,rfl,ru⟩:=ix r1
 cases ru
 obtain⟨its,rv,pl,hz⟩:=I1.tuple hq
 have hl:=rv.length
 have hn:=gY
 refine Cv pl (by simp only[bW];omega) fun tk=>?_
 have e3:(((its.toArray).size:Nat):Int) - 1=(xs.length:Int) - 1 - ((0:Nat):Int):=by simp only[bW];omega
 rw[e3]
 have I2:Inv X pins σ H1 { s1 with heap:=s1.heap.push (iW b ((xs.length:Int) - 1 - ((0:Nat):Int))),toks:=tk}:=I1.kept fun b o e=>br _ e
 refine wJ (s:={ s1 with heap:=s1.heap.push (iW b ((xs.length:Int) - 1 - ((0:Nat):Int))),toks:=tk}) (t:=b) (i:=(xs.length:Int) - 1 - ((0:Nat):Int)) (bY _ rfl) ?_
 refine⟨s1.heap.objs.size,[s1.heap.objs.size],_,_,H1,rfl,I2,IR b _ xs,bY _ rfl,fun c hc=>?_,q⟩
 have e:c=s1.heap.objs.size:=by simpa using hc
 subst e
 exact I1.fpOk (aJ _) (I1.hok.fresh (aJ _))
end
theorem IU{K:aB}{a:Addr}{xs:List V}{g:TG}{tb:TS}{D:dE}{σ:L2.St}{H:Hp}(Pv:Nat->L2.St->Hp->Prop)(h0:Pv 0 σ H)(hl:∀i σ H,i<=xs.length->Pv i σ H->ag K H a xs)
 (hs:∀i x σ H,xs.reverse[i]?=some x->Pv i σ H->g x σ H fun σ2 H2=>tb { D with nx:=Pv (i+1),ct:=Pv (i+1),bk:=D.nx} σ2 H2) (hd:∀σ H,Pv xs.length σ H->D.nx σ H):
 ∃W:Nat->Nat->L2.St->Hp->Prop,(∃m,W 0 m σ H)/\∀i m σ H,W i m σ H->
  ((p8 K a xs).stop i H/\D.nx σ H)\/((p8 K a xs).go i H/\∃N:L2.St->Hp->Prop,(∀σ' H',N σ' H'->∃m',m'<m/\W (i+1) m' σ' H')/\∀x H',(p8 K a xs).yld i H x H'->g x σ H' fun σ2 H2=>tb { D with nx:=N,ct:=N,bk:=D.nx} σ2 H2):=by
 refine⟨fun i m σ H=>m=xs.length - i/\i<=xs.length/\Pv i σ H,⟨xs.length,by simp,cP _,h0⟩,?_⟩
 rintro i m σ H ⟨rfl,hi,p⟩
 by_cases c:i=xs.length
 ·subst c
  exact .inl ⟨rfl,hd σ H p⟩
 ·have hlt:i<xs.length:=by omega
  refine .inr ⟨⟨hl i σ H hi p,hlt⟩,Pv (i+1),fun σ' H' k=>⟨xs.length - (i+1),by omega,rfl,by omega,k⟩,?_⟩
  rintro x H' ⟨rfl,hx⟩
  exact hs i x σ H' hx p
def cU(P:aP)(w:aH)(K:aB)(mg:ac->Option aa)(base:aA)(k:Nat)(C:Addr)(m:ac)(ps:List ac)(sp:Sp):Prop:=
 ∃(f:Addr)(fd:bd),be P w K mg base bh k f fd ps sp/\iz K fd ps []/\sy K C m f/\iy K C
def wK(P:aP)(w:aH)(K:aB)(mg:ac->Option aa)(base:aA)(k:Nat)(C:Addr)(x:ac)(ps:List ac)(sp:Sp):Prop:=
 ∃(f:Addr)(fd:bd),Mk K C f/\be P w K mg base bh k f fd ps sp/\iz K fd ps []/\mg x=some (.ref C)
section
variable{X:Cx}{k:Nat}{x m:ac}{ps:List ac}{sp:Sp}{p pos apos:Pos}{o e:Expr}{es:List Expr}{t:TA}{ta:TE}{C:Addr}
theorem d6{pl:Sem Bool}(M:cU X.prog X.w X.K X.mg X.base k C m ps sp)(hr:df k X.A)(he:PE X o ta)(ha:PA X (e::es) t)
 (hst:starEach (e::es) X.env=(false,eval e X.env)::starEach es X.env:=by rfl) (hpl:(backTo pos (starEach es X.env)).any (·.1)=false:=by rfl)
 (ht:eval (.Call (.Attribute o m apos) (e::es) [] pos) X.env=(do
  let ov <-eval o X.env
  standAt apos.atName
  let (f,first) <-holding [ov] (getMethod ov m pl)
  callWith pos f first (backTo pos (starEach (e::es) X.env)) (backToKw pos (keywordEach [] X.env))):=by rfl):
 PE X (.Call (.Attribute o m apos) (e::es) [] pos) (sI C m sp [] E0 ta t):=by
 obtain⟨f,fd,F,b,mm,c⟩:=M
 exact G4 (pl:=pl) he c mm F hr b .nil sP ha hst hpl ht
theorem IV{pl:Sem Bool}(M:cU X.prog X.w X.K X.mg X.base k C m ps sp)(hr:df k X.A)(he:PE X o ta)
 (ht:eval (.Call (.Attribute o m apos) [] [] pos) X.env=(do
  let ov <-eval o X.env
  standAt apos.atName
  let (f,first) <-holding [ov] (getMethod ov m pl)
  callWith pos f first (backTo pos (starEach [] X.env)) (backToKw pos (keywordEach [] X.env))):=by rfl):
 PE X (.Call (.Attribute o m apos) [] [] pos) (sI C m sp [] E0 ta sH):=by
 obtain⟨f,fd,F,b,mm,c⟩:=M
 exact G5 (pl:=pl) he c mm F hr b .nil sP ht
theorem IW(N:wK X.prog X.w X.K X.mg X.base k C x ps sp)(hr:df (k+1) X.A)(ha:PA X (e::es) t)(hg:Gl X x:=by rfl)(hdb:(x==("__debug__":ac))=false:=by decide)
 (he:starEach (e::es) X.env=(false,eval e X.env)::starEach es X.env:=by rfl) (hpl:(backTo pos (starEach es X.env)).any (·.1)=false:=by rfl):
 PE X (.Call (.Name x p) (e::es) [] pos) (A8 C sp [] E0 t):=by
 obtain⟨f,fd,M,F,b,mg⟩:=N
 exact G7 M F hr hg mg b .nil sP ha hdb he hpl
end
def Cw(H:Hp)(v:V):Pc->Prop
 |.sg x=>v= .str x
 |.tm u=>aw H v u
def jx:Pc->Prop
 |.sg x=>x.cps.toList.length<=1
 |.tm u=>u.Ok
def dN(H:Hp)(vs:List V)(l:List Pc):Prop:=Paired (Cw H) vs l
theorem dN.len{H:Hp}{vs:List V}{l:List Pc}(h:dN H vs l):vs.length=l.length:=Paired.length h
theorem dN.mono{H H':Hp}{vs:List V}{l:List Pc}(k:aV H H')(h:dN H vs l):dN H' vs l:=
 Paired.imp' (fun v p hp=>by
  cases p with
  |sg x=>exact hp
  |tm u=>exact aw.mono k hp) h
theorem dN.app{H:Hp}:∀{vs us:List V}{l m:List Pc},dN H vs l->dN H us m->dN H (vs++us) (l++m)
 |_,_,_,_,.nil,h=>h
 |_,_,_,_,.cons a b,h=>.cons a (dN.app b h)
theorem dN.snoc{H:Hp}:∀{vs:List V}{v:V}{l:List Pc}{p:Pc},dN H (vs++[v]) (l++[p])->dN H vs l/\Cw H v p
 |[],v,[],p,h=>by
  cases h with
  |cons a b=>exact⟨.nil,a⟩
 |[],v,q::l,p,h=>by
  have:=h.len;simp at this
 |u::vs,v,[],p,h=>by
  have:=h.len;simp at this
 |u::vs,v,q::l,p,h=>by
  cases h with
  |cons a b=>obtain⟨h1,h2⟩:=dN.snoc b;exact⟨.cons a h1,h2⟩
theorem iE{α:Type}{l:List α}(h:l≠[]):∃l0 x,l=l0++[x]:=⟨l.dropLast,l.getLast h,(vd h).symm⟩
def cN(m:Nat):List Nat:=(rl 10 m).map Char.toNat
theorem wL(m:Nat):NumText.AllDigits (cN m):=by
 intro c hc
 obtain⟨ch,hch,e⟩:=bL.mp hc
 have r:=PyProof.Rows.digit_range (Nat.isDigit_of_mem_toDigits (by decide) (by decide) hch)
 rw[<-e]
 exact r
theorem p9(m:Nat):cN m≠[]:=by
 intro e
 have h:=PySem.toDigits_len_ge 10 m
 rw[List.map_eq_nil_iff.mp e]at h
 exact absurd h (by decide)
theorem IX{m:Nat}(h:10<=m):cN m=cN (m / 10)++[(Nat.digitChar (m % 10)).toNat]:=by
 have hm:m % 10<10:=eY m (by decide)
 have t:rl 10 (m / 10)++rl 10 (m % 10)=rl 10 (10 * (m / 10)+m % 10):=Nat.toDigits_append_toDigits (by decide) (by omega) hm
 rw[Nat.div_add_mod]at t
 unfold cN
 rw[<-t,zMA,za hm]
 rfl
theorem Cy{m:Nat}(h:m<10):cN m=[48+m]:=by
 unfold cN
 rw[za h]
 have:∀d:Nat,d<10->(Nat.digitChar d).toNat=48+d:=by decide
 simp[this m h]
theorem Cz:∀(m:Nat)(r:List Nat),cN m=48::r->m=0:=by
 intro m
 induction m using Nat.strongRecOn with
 |_ m ih=>
  intro r e
  by_cases h:m<10
  ·rw[Cy h]at e
   have:=(List.cons.inj e).1
   omega
  ·rw[IX (by omega)]at e
   cases hf:cN (m / 10)with
   |nil=>exact absurd hf (p9 _)
   |cons c cs=>
    rw[hf]at e
    have hc:c=48:=(List.cons.inj e).1
    have:=ih (m / 10) (by omega) cs (by rw[hf,hc])
    omega
theorem CA{m k:Nat}(hk:1<=k)(h:m<10 ^ k):(cN m).length<=k:=by
 unfold cN
 rw[zLM]
 exact PyProof.Rows.digits10_le hk h
theorem CB(m:Nat):vU (cN m)=m:=PySem.W.KIN.val_back m
theorem CC(m:Nat):ju (m:Int)=cN m:=PySem.W.KIN.signs_num m
theorem CD(m:Nat):ju (Int.negSucc m)=45::cN (m+1):=by
 unfold ju
 rw[PyProof.Rows.signs_ofString]
 show ("-"++Nat.repr (m+1)).toList.map Char.toNat=_
 rw[String.toList_append,zMA,Nat.toList_repr]
 rfl
theorem big{n:Nat}(h:n<=16000000):n<sizeLine:=rm h (by decide)
theorem eP{n:Nat}(h:n<=16000000):n<=sizeLine:=mQ (big h)
def hG(xs:List ac):List Nat:=xs.flatMap fun x=>x.cps.toList
theorem CF(xs:List ac)(z:ac):hG (xs++[z])=hG xs++z.cps.toList:=by simp[hG]
theorem IY(xs:List ac):(hG xs).length=(xs.map (·.length)).sum:=by
 induction xs with
 |nil=>rfl
 |cons x r ih=>simp only[hG,rD,zLA,bP,jH]at *;rw[ih,gK]
theorem IZ(xs:List ac):(Txt.join "" xs).cps.toList=hG xs:=by
 have e:Txt.join "" xs=rM "" xs:=r8 (zZ _ _)
 rw[e]
 have e0:(bT "").cps.toList=[]:=by decide +kernel
 induction xs with
 |nil=>rfl
 |cons x r ih=>
  cases r with
  |nil=>simp[rM,hG]
  |cons y r=>
   have:rM "" (x::y::r)=x++""++rM "" (y::r):=rfl
   rw[this,gn,gn,e0,ih (r8 (zZ _ _))]
   simp[hG]
theorem I0{n:Int}(h:(Tm.num n).Ok):n.natAbs.log2<1920:=by
 simp only[Tm.Ok]at h
 have h1:n.natAbs<=10 ^ 61:=by
  have:((10 ^ 61:Nat):Int)=10 ^ 61:=by norm_cast
  omega
 by_cases h0:n.natAbs=0
 ·rw[h0];decide
 ·rw[Nat.log2_lt h0]
  exact rm h1 (by decide +kernel)
theorem Ja{n:Int}(h:(Tm.num n).Ok):(ju n).length<=63:=by
 simp only[Tm.Ok]at h
 have c:((10 ^ 61:Nat):Int)=10 ^ 61:=by norm_cast
 cases n with
 |ofNat m=>
  have:=CA (m:=m) (k:=62) (by decide) (by have:(Int.ofNat m)<=10 ^ 61:=h.2;have e:(Int.ofNat m)=(m:Int):=rfl;have:m<=10 ^ 61:=by omega
                                          exact rm this (by decide +kernel))
  rw[show (Int.ofNat m)=(m:Int)from rfl,CC];omega
 |negSucc m=>
  have:=CA (m:=m+1) (k:=62) (by decide) (by have:m+1<=10 ^ 61:=by omega
                                            exact rm this (by decide +kernel))
  rw[CD,zLC];omega
theorem CG{n:Nat}:∀{l:List Tm},(∀t∈l,t.line.length+1<=70 * t.nodes)->(fT l).length<=70 * aX l
 |[],_=>by simp[fT,aX]
 |t::r,h=>by
  have h1:=h t (by simp)
  have h2:=CG (n:=n) (l:=r) fun u hu=>h u (by simp[hu])
  simp only[fT,aX,zLC,zLA]
  omega
theorem Tm.line_len(t:Tm):t.Ok->t.line.length+1<=70 * t.nodes:=by
 induction t using Tm.ind with
 |h1 n=>intro h;have:=Ja h;simp only[Tm.line,Tm.nodes];omega
 |h2 w=>intro h;simp only[Tm.Ok]at h;have:=h.2.1;simp only[Tm.line,Tm.nodes];omega
 |h3 w=>intro h;simp only[Tm.Ok]at h;have:=h.2.1;simp only[Tm.line,Tm.nodes,zLC];omega
 |h4 w ps ih=>
  intro h
  simp only[Tm.Ok]at h
  obtain⟨hw,hne,hok⟩:=h
  rw[pY]at hok
  have:=hw.2.1
  cases ps with
  |nil=>exact absurd rfl hne
  |cons p r=>
   have h1:=ih p (by simp) (hok p (by simp))
   have h2:=CG (n:=0) (l:=r) fun u hu=>ih u (by simp[hu]) (hok u (by simp[hu]))
   simp only[Tm.line,Tm.nodes,aX,nD,zLA,zLC,zLN]
   omega
theorem Jb{t:Tm}{ts:List Tm}(h:eA (t::ts)):∀c∈jW t ts,jx c:=by
 rw[pY]at h
 intro c hc
 unfold jW jv at hc
 simp only[bR,bF,fG,or_false,zo,mU]at hc
 rcases hc with(rfl|⟨u,hu,rfl|rfl⟩)|rfl
 ·simp[jx,B9]
 ·exact h u (by simp[hu])
 ·simp[jx,B8]
 ·exact h t (by simp)
section
variable{X:Cx}{x:ac}{p pos:Pos}{e:Expr}{es:List Expr}{t:TA}{id T:String}{r:List V->Hp->VK->Prop}
theorem bc(hc:fR X (.builtin id) r)(hm:X.mg x=none)(hv:bootBuiltins x=some (.builtin id))(ha:PA X (e::es) t)(hg:Gl X x:=by rfl)(hn:x≠"__name__":=by decide)(hdb:(x==("__debug__":ac))=false:=by decide)
 (he:starEach (e::es) X.env=(false,eval e X.env)::starEach es X.env:=by rfl) (hpl:(backTo pos (starEach es X.env)).any (·.1)=false:=by rfl):PE X (.Call (.Name x p) (e::es) [] pos) (pR r t):=Ha hc hg hm hv ha hn hdb he hpl
theorem gM(hc:fR X (.type T) r)(hm:X.mg x=none)(hv:bootBuiltins x=some (.type T))(ha:PA X (e::es) t)(hg:Gl X x:=by rfl)(hn:x≠"__name__":=by decide)(hdb:(x==("__debug__":ac))=false:=by decide)
 (he:starEach (e::es) X.env=(false,eval e X.env)::starEach es X.env:=by rfl) (hpl:(backTo pos (starEach es X.env)).any (·.1)=false:=by rfl):PE X (.Call (.Name x p) (e::es) [] pos) (pR r t):=Hb hc hg hm hv ha hn hdb he hpl
theorem cO(hm:X.mg x=none)(hv:bootBuiltins x=some (.type T))(hg:Gl X x:=by rfl)(hn:x≠"__name__":=by decide)(hdb:(x==("__debug__":ac))=false:=by decide):PE X (.Name x pos) (tC (.ty T)):=FZ hg hm hv rfl hn hdb
end
section
variable{P:aP}{w:aH}{K:aB}{mg:ac->Option aa}{base:aA}{N:List ac}{qual:ac}{scope:Scope}{f:Addr}{cd:aa}{A:bx}{outer:List Env}{s0:ah}{H0:Hp}{E:XK}
end
section
variable{X:Cx}{x:ac}{C:Addr}{np cpos pos:Pos}{e:Expr}{es:List Expr}{t:TA}{B newId initId:String}{bmB:List aa}
end
section
variable{X:Cx}{pins:List (Addr×aI)}{σ:L2.St}{H:Hp}{s:ah}{ea T:Addr}{cls fl:aa}
end
section
variable{X:Cx}{pins:List (Addr×aI)}{σ:L2.St}{H:Hp}{s:ah}{ea T:Addr}{cls fl:aa}{oe:aI}
variable{C CX:Addr}{x:ac}{np hpos:Pos}{b₀:Stmt}{suite:List Stmt}{D:dE}{L:Addr}
end
section
variable{X:Cx}{k:Nat}{f:Addr}{fd:bd}{ps:List ac}{sp:Sp}{dvs:List V}{ds:List aa}{x:ac}{p pos hpos tpos np:Pos}{e:Expr}{es:List Expr}{t:TA}
variable{st b₀:Stmt}{suite:List Stmt}{tb:dE->(Addr->Hp->Prop)->L2.St->Hp->Prop}{C CX L:Addr}
end
open PySem.W
section
variable{prog:aP}{w:aH}{A:bx}{E:aa->ah->Prop}{h:aA}{g:Array GenState}{d:Drawn}{t:Nat}{os:OsState}{a C:Addr}{o:aI}{vs:Array aa}{K:Frag}
end
section
variable{X:Cx}{ea C:Addr}{oe:aI}
end
theorem tf:∀{xs:List V}{us:List aa},xs.length=us.length->(∀(i:Nat) x u,xs[i]?=some x->us[i]?=some u->aW x u)->aS xs us
 |[],[],_,_=>.nil
 |x::xs,u::us,hl,h=>.cons (h 0 x u rfl rfl) (tf (by simpa using hl) fun i a b e1 e2=>h (i+1) a b (by simpa using e1) (by simpa using e2))
 |[],_::_,hl,_=>by simp at hl
 |_::_,[],hl,_=>by simp at hl
structure tj(prog:aP)(w:aH)(T:String)(I d:Addr)(n:Nat)(P:Nat->aa->Prop)(St:Nat->aA->Prop):Prop where
 W:∀A:bx,A.handled=none->Walks prog w A I [I,d] [I] n P St
 ty:∀s:ah,St 0 s.heap->s.TypeIs (.ref I) T
 nl:(aa.type T==aa.type "list")=false
 nt:(aa.type T==aa.type "tuple")=false
 hint:∀(A:bx)(E:aa->ah->Prop)(s:ah)(Q:Bool->ah->Prop),St 0 s.heap->(∀b tk,Q b { s with toks:=tk})->wpAny (model prog w) A (pI (.ref I)) Q E s
section
variable{prog:aP}{w:aH}{A:bx}{E:aa->ah->Prop}{s:ah}{T:String}{I d:Addr}{n:Nat}{P:Nat->aa->Prop}{St:Nat->aA->Prop}
theorem Jc{R:Result->ah->Prop}(Z:tj prog w T I d n P St)(hh:A.handled=none)(st:St 0 s.heap)(S:Addr)(n1:S≠I)(n2:S≠d)(c₀:Nat)(hS:s.heap.get? S=some { cls:= .type "list",data:= .seq #[] c₀})
 (hR:∀h' tk acc' c',(∀b o,b≠S->b≠I->s.heap.get? b=some o->h'.get? b=some o)->h'.get? S=some { cls:= .type "list",dict:=none,data:= .seq acc' c',slots:=#[]}->ItemsOf P acc' n->R (.ok (.ret .none)) { s with heap:=h',toks:=tk}) (hn:n<=sizeLine):
 wpAny (model prog w) A.in1 (lI (.ref S) (.ref I) .none) (fun fin s'=>match fin with|.done f=>R (.ok f) s'|.again c'=>c'.quiet=true/\codeAny (model prog w) A c' R s') (fun e s'=>R (.error e) s') s:=by
 have nf:S∉[I,d]:=by simp[n1,n2]
 have W:=Z.W A.in1 hh
 have key:∀(h:aA)(c₁ tk:Nat),St 0 h->(∀b o,b≠S->s.heap.get? b=some o->h.get? b=some o)->h.get? S=some { cls:= .type "list",data:= .seq #[] c₁}->
  codeAny (model prog w) A (.builtin "list.extend.loop" ⟨[.ref S,.ref I,.none],[]⟩) R { s with heap:=h,toks:=tk}:=fun h c₁ tk hst hk h1=>by
  refine codeAny_extend_loopS W.toS hn S nf .none n 0 _ #[] c₁ rfl (cP _) hst h1 (ItemsOf.nil _) fun s' acc' c' hm h2 hacc=>?_
  rw[Moved.eq_with hm]
  refine hR s'.heap s'.toks acc' c' (fun b o hb hbI e=>hm.heap b o (fun z=>?_) (hk b o hb e)) h2 hacc
  rcases bF.mp z with z|z
  ·exact hb z
  ·exact hbI (by simpa using z)
 unfold lI
 refine ai (ly (T:=T) (Z.ty s st) ?_)
 have g1:rW (.ref S) (.ref I)=false:=by simp[rW,n1]
 simp only[g1,Z.nl,Z.nt,vD,iP,if_false]
 refine ai (W.self 0 _ _ _ st ?_)
 refine ai (gR (Z.hint _ _ _ _ st fun b tk=>?_))
 refine jg (fun _=>?_) (fun _=>aR ⟨mP vy _,key _ c₀ tk st (fun _ _ _ e=>e) hS⟩)
 refine ai (jf (ai ?_))
 show wpAny _ _ (updateSeq S (·.push .none) >>= fun _=>updateSeq S (·.pop)) _ _ _
 refine ai (lz (s:={ s with toks:=tk}) hS rfl ?_)
 have g2:=jD (eM (·.push aa.none)) hS rfl
 refine lz (hz:=by seq_fits) g2 rfl ?_
 have g3:=jD (eM (·.pop)) g2 rfl
 have oth:∀b o,b≠S->s.heap.get? b=some o->((s.heap.update S (eM (·.push aa.none))).update S (eM (·.pop))).get? b=some o:=
  fun b o hb e=>by rw[jE _ _ (gc hb),jE _ _ (gc hb)];exact e
 exact aR ⟨mP vy _,key _ _ tk (W.frame 0 _ _ st fun b hb o e=>oth b o (fun z=>nf (z▸hb)) e) (fun b o hb e=>oth b o hb e) g3⟩
theorem CH{Q:aa->ah->Prop}(Z:tj prog w T I d n P St)(hh:A.handled=none)(st:St 0 s.heap)(h1:I<s.heap.objs.size)(h2:d<s.heap.objs.size)(hn:n<=sizeLine)
 (hQ:∀h' tk acc' c',(∀b o,b≠I->s.heap.get? b=some o->h'.get? b=some o)->h'.get? s.heap.objs.size=some { cls:= .type "list",dict:=none,data:= .seq acc' c',slots:=#[]}->ItemsOf P acc' n->Q (.ref s.heap.objs.size) { s with heap:=h',toks:=tk}):
 wpAny (model prog w) A (call (.type "list") [.ref I]) Q E s:=by
 refine uQ (Q₁:=fun obj s₁=>obj= .ref s.heap.objs.size/\s₁={ s with heap:=s.heap.push { cls:= .type "list",data:= .seq #[]}}) zI (zK _) zL (code_list_new _ ⟨rfl,rfl⟩) fun obj s₁ g=>?_
 obtain⟨rfl,rfl⟩:=g
 have hS:(s.heap.push { cls:= .type "list",data:= .seq #[]}).get? s.heap.objs.size=some { cls:= .type "list",data:= .seq #[]}:=bY _ rfl
 refine⟨⟨_,hS,rfl⟩,zM _ _,?_⟩
 show wpAny _ _ (do let old <-rX (.ref s.heap.objs.size);Ak (.ref s.heap.objs.size) (fun _=>#[]);letGo old.toList.reverse;lI (.ref s.heap.objs.size) (.ref I) .none) _ _ _
 refine ai ?_
 unfold rX
 refine ai (jh hS rfl (aR ?_))
 show wpAny _ _ (updateSeq s.heap.objs.size (fun _=>#[]) >>= fun _=>letGo (#[]:Array aa).toList.reverse >>= fun _=>lI (.ref s.heap.objs.size) (.ref I) .none) _ _ _
 refine ai (lz hS rfl ?_)
 have g2:=jD (eM (fun _=>(#[]:Array aa))) hS rfl
 have oth:∀b o,s.heap.get? b=some o->((s.heap.push { cls:= .type "list",data:= .seq #[]}).update s.heap.objs.size (eM (fun _=>(#[]:Array aa)))).get? b=some o:=
  fun b o e=>by rw[jE _ _ (ji (bm e))];exact br _ e
 refine ai (pf ?_)
 refine Jc (A:=A.in1) Z hh ((Z.W A hh).frame 0 _ _ st fun b _ o e=>oth b o e) _ (ji h1) (ji h2) _ g2 (fun h' tk acc' c' hk hS' hacc=>?_) hn
 exact⟨rfl,hQ h' tk acc' c' (fun b o hb e=>hk b o (cJ (bm e)) hb (oth b o e)) hS' hacc⟩
end
namespace RV
theorem lri_len:typeLookup (.type "list_reverseiterator") "__len__"=pure none:=by rw[ik,im];kernel_rfl
theorem lri_hint:typeLookup (.type "list_reverseiterator") "__length_hint__"=pure (some (.builtin "list_reverseiterator.__length_hint__")):=by rw[ik,im];kernel_rfl
theorem rev_len:typeLookup (.type "reversed") "__len__"=pure none:=by rw[ik,im];kernel_rfl
theorem slot_hint:Slot "reversed" "__length_hint__" "reversed.__length_hint__":=
 .of (owner:="reversed") (n:="__length_hint__") (by rw[ik,im];kernel_rfl) (by decide +kernel) (by decide +kernel) (by decide +kernel)
  (by first|exact .inl (by decide +kernel)|exact .inr (by decide +kernel)) (by rw[ko];kernel_rfl)
theorem entry_hint:entryFor table "reversed.__length_hint__"=some dA.«reversed.__length_hint__»:=qY (by kernel_rfl)
theorem args_hint(a:aa):argsOk "reversed.__length_hint__" ⟨[a],[]⟩:=by
 unfold argsOk;rw[uL (id:="reversed.__length_hint__") (n:=['_','_','t','n','i','h','_','h','t','g','n','e','l','_','_']) (o:=['d','e','s','r','e','v','e','r']) (by kernel_rfl) wI];kernel_rfl
end RV
section
variable{prog:aP}{w:aH}
theorem Jd(I l:Addr)(hne:l≠I)(items:Array aa):tj prog w "list_reverseiterator" I l items.size (fun i v=>items[items.size - 1 - i]?=some v) (fun i h=>i<=items.size/\h.IsRevIter I l ((items.size:Int) - 1 - (i:Int))/\h.IsList l items) where
 W:=fun A hh=>Walks.listRev hh I l hne items
 ty:=fun s st=>st.2.1.typeIs
 nl:=by decide
 nt:=by decide
 hint:=fun A E s Q st hQ=>by
  have hT:=st.2.1.typeIs
  unfold pI
  refine ai (je hT RV.lri_len ?_)
  show wpAny _ _ (specialOf (aa.ref I) (bT "__length_hint__") >>= _) _ _ _
  refine ai (je hT RV.lri_hint ?_)
  generalize hid:("list_reverseiterator.__length_hint__":String)=id0
  wp_delta
  rw[show splitId id0=some ("list_reverseiterator","__length_hint__")from by subst hid;decide +kernel]
  subst hid
  refine ai (mO (T:="list_reverseiterator") (b:=true) hT (by rw[ko];kernel_rfl) ?_)
  refine jg (fun hab=>absurd hab (by decide)) (fun _=>?_)
  refine jg (fun _=>?_) (fun hab=>absurd (by decide +kernel) hab)
  refine jg (fun hab=>absurd hab (by decide +kernel)) (fun _=>?_)
  exact aR (hQ false s.toks)
end
section
variable{prog:aP}{w:aH}
theorem Je(I l:Addr)(hne:l≠I)(items:Array aa)(hz:items.size<=sizeLine):tj prog w "reversed" I l items.size (fun i v=>items[items.size - 1 - i]?=some v) (fun i h=>i<=items.size/\h.get? I=some (iW l ((items.size:Int) - 1 - (i:Int)))/\cz h l items) where
 W:=fun A hh=>{
  sub:=fun b hb=>by simp at hb;simp[hb]
  frame:=fun _ _ _ x hk=>⟨x.1,hk I (by simp) _ x.2.1,let ⟨o,ho,r⟩:=x.2.2;⟨o,hk l (by simp) o ho,r⟩⟩
  item:=fun i s Q E hi x hQ=>by
   have hn:=gY
   have e:(items.size:Int) - 1 - (i:Int)=((items.size - 1 - i:Nat):Int):=by omega
   have hit:=x.2.1
   rw[e]at hit
   have hx:items[items.size - 1 - i]?=some (items[items.size - 1 - i]'(by omega)):=Array.getElem?_eq_getElem (by omega)
   refine Ct hit x.2.2 hx (by omega) fun h' tk hit' hs'=>?_
   have e2:((items.size - 1 - i:Nat):Int) - 1=(items.size:Int) - 1 - ((i+1:Nat):Int):=by omega
   rw[e2]at hit'
   exact hQ _ h' tk hx ⟨hi,hit',let ⟨o,ho,r⟩:=x.2.2;⟨o,(hs'.2 l hne).trans ho,r⟩⟩ fun b o hb eo=>(hs'.2 b fun h=>hb (by simp[h])).trans eo
  done:=fun s Q E x hQ=>by
   have e:(items.size:Int) - 1 - (items.size:Int)= -1:=by omega
   have hit:=x.2.1
   rw[e]at hit
   exact Cu hh hit fun h' he'=>hQ h' s.toks fun b o hb eo=>he' b o (fun h=>hb (by simp[h])) eo
  self:=fun _ _ _ _ x hQ=>wJ x.2.1 hQ}
 ty:=fun s st=>⟨_,st.2.1,rfl⟩
 nl:=by decide
 nt:=by decide
 hint:=fun A E s Q st hQ=>by
  have hT:s.TypeIs (.ref I) "reversed":=⟨_,st.2.1,rfl⟩
  have hn:=gY
  unfold pI
  refine ai (je hT RV.rev_len ?_)
  show wpAny _ _ (specialOf (aa.ref I) (bT "__length_hint__") >>= _) _ _ _
  refine ai (je hT RV.slot_hint.lookup ?_)
  generalize hid:("reversed.__length_hint__":String)=id0
  wp_delta
  rw[show splitId id0=some ("reversed","__length_hint__")from by subst hid;decide +kernel]
  subst hid
  refine ai (mO (T:="reversed") (b:=true) hT (by rw[ko];kernel_rfl) ?_)
  refine jg (fun hab=>absurd hab (by decide)) (fun _=>?_)
  refine jg (fun hab=>absurd hab (by decide +kernel)) (fun _=>?_)
  refine ai (jf ?_)
  refine ai (io (RV.slot_hint.bind (.ref I)) ?_)
  dsimp only
  refine ai (kq (fF RV.slot_hint hT RV.entry_hint ?_ (RV.args_hint _)))
  unfold dA.«reversed.__length_hint__»
  refine ai (io (a:=aa.ref I) rfl ?_)
  refine ai (da st.2.1 rfl (x:= .ref l) rfl ?_)
  refine jg (fun hab=>absurd hab (by simp)) (fun _=>?_)
  refine ai (vC st.2.2 (by omega) ?_)
  refine ai (io (a:=some (items.size:Int)) (by first|rfl|simp[asInt?]) ?_)
  dsimp only
  refine ai (da (x:=rawInt ((items.size:Int) - 1 - ((0:Nat):Int))) st.2.1 rfl rfl ?_)
  show wpAny _ _ (if (items.size:Int)<((items.size:Int) - 1 - ((0:Nat):Int))+1 then _ else _) _ _ _
  rw[if_neg (by omega)]
  unfold retInt
  refine ai (uM (aR ⟨_,rfl,?_⟩))
  dsimp only
  refine ai (io (a:=some ((items.size:Int) - 1 - ((0:Nat):Int)+1)) (by first|rfl|simp[asInt?]) ?_)
  have e1:(items.size:Int) - 1 - ((0:Nat):Int)+1=(items.size:Int):=by omega
  rw[e1]
  dsimp only
  have f1:Al (items.size:Int)=true:=by
   unfold Al
   simp only[iO,decide_eq_true_eq]
   omega
  have f2:pH ((items.size:Int).toNat)=false:=by
   unfold pH
   simp only[decide_eq_false_iff_not]
   omega
  rw[f1,f2]
  refine jg (fun hab=>absurd hab (by decide)) (fun _=>?_)
  refine jg (fun hab=>absurd hab (by omega)) (fun _=>?_)
  refine jg (fun hab=>absurd hab (by decide)) (fun _=>?_)
  exact aR (hQ _ _)
end
theorem qc{α β:Type}{F:α->β->Prop}:∀{l:List α}{m:List β}{i:Nat}{a:α},Paired F l m->l[i]?=some a->∃b,m[i]?=some b/\F a b
 |_,_,_,_,.nil,e=>by simp at e
 |_,_,0,_,.cons r _,e=>by cases e;exact⟨_,rfl,r⟩
 |_,_,i+1,_,.cons _ rr,e=>by simpa using qc (i:=i) rr (by simpa using e)
section
variable{X:Cx}{p p' pos pos':Pos}{e:Expr}{te:TE}
theorem tq{P:aP}{w:aH}{k:Key}{v:aa}(h:(cR P w).is k v=true):aW (kV k) v:=by
 rcases jo h with⟨i,t,rfl,rfl⟩|⟨x,t,rfl,rfl⟩
 ·exact⟨t,rfl⟩
 ·exact⟨t,rfl⟩
theorem Jf(hc:X.calm=true):fR X (.type "list") (fun xs H Q=>∃q kvs,xs=[.ref q]/\H q=some (.dK kvs)/\∀l,H l=none->Q (.ref l) (ae H l (.lst (kvs.map fun kv=>kV kv.1)))):=by
 intro pins s σ H xs us Q I r h
 obtain⟨q,kvs,rfl,hq,h⟩:=h
 obtain⟨u,rfl,ru⟩:=ix r
 cases ru
 obtain⟨z,lo,vs,rel,hd⟩:=pV I.hok hq
 obtain⟨ep,hat⟩:=hd.dictAt
 have hl:kvs.length=vs.length:=rel.length
 refine PySem.W.kdl_call (y8 (knd:=cR X.prog X.w) (kvs:=vs) (ep:=ep) lo) (I.ok.hd hc) hat (by omega) fun h' tk acc' c' hk hS hacc=>?_
 have rr:aS (kvs.map fun kv=>kV kv.1) acc'.toList:=by
  have hz:=hacc.1
  refine tf (by simp only[zLM,ni];omega) fun i x u h1 h2=>?_
  obtain⟨k,y,h3,h4⟩:=hacc.2 i u (by simpa using h2)
  rw[cV]at h1
  cases h5:kvs[i]? with
  |none=>rw[h5]at h1;cases h1
  |some kv=>
   rw[h5]at h1
   cases h1
   obtain⟨kv',h6,h7,_⟩:=qc rel h5
   rw[h3]at h6
   cases h6
   have h7:kv.1=k:=h7
   show aW (kV kv.1) u
   rw[h7]
   exact tq h4
 have z2:(kvs.map fun kv=>kV kv.1).length<=sizeLine:=by rw[zLM];exact z
 exact⟨.ref s.heap.objs.size,_,I.laid (t':=tk) hk (aJ _) (show cu X.prog X.w _ h' _ (.lst (kvs.map fun kv=>kV kv.1))from ⟨z2,acc'.toList,c',rr,hS⟩),rfl,h _ (I.hok.fresh (aJ _))⟩
theorem Jg{es:List Expr}{t:TA}(hm:X.mg "list"=none)(ha:PA X (e::es) t)(hc:X.calm=true:=by rfl)(hg:Gl X "list":=by rfl)(he:starEach (e::es) X.env=(false,eval e X.env)::starEach es X.env:=by rfl)(hpl:(backTo pos (starEach es X.env)).any (·.1)=false:=by rfl):
 PE X (.Call (.Name "list" p) (e::es) [] pos) (pR (fun xs H Q=>∃q kvs,xs=[.ref q]/\H q=some (.dK kvs)/\∀l,H l=none->Q (.ref l) (ae H l (.lst (kvs.map fun kv=>kV kv.1)))) t):=
 gM (Jf hc) hm gm ha hg (by decide) (by decide) he hpl
theorem CI{pins:List (Addr×aI)}{σ:L2.St}{H:Hp}{s1:ah}{xs:List V}{its:List aa}{oI:aI}{tk0 tk:Nat}{h':aA}{acc':Array aa}{c':Nat}{Q:VK}(I1:Inv X pins σ H s1)(rv:aS xs its)(hz:xs.length<=sizeLine)
 (hk:∀b o,b≠s1.heap.objs.size->(s1.heap.push oI).get? b=some o->h'.get? b=some o) (hS:h'.get? (s1.heap.push oI).objs.size=some { cls:= .type "list",dict:=none,data:= .seq acc' c',slots:=#[]})
 (hacc:ItemsOf (fun i v=>its.toArray[its.toArray.size - 1 - i]?=some v) acc' its.toArray.size) (q:∀l,H l=none->Q (.ref l) (ae H l (.lst xs.reverse))):
 EP X pins σ Q (.ref (s1.heap.push oI).objs.size) { s1 with heap:=h',toks:=tk}:=by
 have hl:=rv.length
 have h1:=hacc.1
 simp only[bW]at h1
 have rr:aS xs.reverse acc'.toList:=by
  refine tf (by simp only[d3,ni];omega) fun i x u e1 e2=>?_
  have hi:i<xs.length:=by
   have:=(bI.mp e1).1
   simpa using this
  have h3:=hacc.2 i u (by simpa using e2)
  simp only[bW]at h3
  rw[rC hi]at e1
  obtain⟨u',h5,h6⟩:=rv.get e1
  have e3:its.length - 1 - i=xs.length - 1 - i:=by omega
  rw[e3]at h3
  have h3':its[xs.length - 1 - i]?=some u:=by simpa using h3
  rw[h5]at h3'
  cases h3'
  exact h6
 have z2:xs.reverse.length<=sizeLine:=by simpa using hz
 have sz:s1.heap.objs.size<=(s1.heap.push oI).objs.size:=by simp[pj]
 exact⟨.ref _,_,I1.laid (a:=(s1.heap.push oI).objs.size) (t':=tk) (fun b o e=>hk b o (cJ (bm e)) (br _ e)) sz (show cu X.prog X.w _ h' _ (.lst xs.reverse)from ⟨z2,acc'.toList,c',rr,hS⟩),rfl,q _ (I1.hok.fresh sz)⟩
def CJ(sq:Hp->Addr->List V->Prop)(te:TE):TE:=fun σ H Q=>te σ H fun v H1=>∃a xs,v= .ref a/\sq H1 a xs/\∀l,H1 l=none->Q (.ref l) (ae H1 l (.lst xs.reverse))
theorem CK(hm:X.mg "list"=none)(hm':X.mg "reversed"=none)(h:PE X e te)(hc:X.calm=true:=by rfl)(hg:Gl X "list":=by rfl)(hg':Gl X "reversed":=by rfl)
 (h1:starEach [.Call (.Name "reversed" p') [e] [] pos'] X.env=[(false,eval (.Call (.Name "reversed" p') [e] [] pos') X.env)]:=by rfl) (h2:starEach [e] X.env=[(false,eval e X.env)]:=by rfl):
 PE X (.Call (.Name "list" p) [.Call (.Name "reversed" p') [e] [] pos'] [] pos) (CJ (ak X.K) te):=by
 intro pins s σ H Q I hw
 refine Call_ (gg I hg hm gm (gW ?_ h1 rfl))
 rw[h1]
 refine jm ?_
 refine Call_ (gg I hg' hm' sW (gW ?_ h2 rfl))
 rw[h2]
 refine jm (aL (h pins s σ H _ I hw) fun u s1 ⟨x,H1,I1,r1,q1⟩=>jJ ?_)
 obtain⟨a,xs,rfl,hq,q⟩:=q1
 cases r1
 obtain⟨its,rv,pl,hz⟩:=I1.list hq
 have hl:=rv.length
 refine yM pl.isList (jJ ?_)
 have ha:a<s1.heap.objs.size:=let ⟨o,ho,_⟩:=pl.isList;bm ho
 have e0:(its.toArray.size:Int) - 1=(its.toArray.size:Int) - 1 - ((0:Nat):Int):=by omega
 refine CH (d:=a) (Jd s1.heap.objs.size a (cJ ha) its.toArray) (I.ok.hd hc) (s:={ s1 with heap:=s1.heap.push (revObj a ((its.toArray.size:Int) - 1))}) ⟨cP _,⟨_,bY _ rfl,rfl,by rw[<-e0];rfl⟩,?_⟩ (by simp[pj]) (u4 ha (by simp[pj])) (by simp only[bW];omega) fun h' tk acc' c' hk hS hacc=>?_
 ·obtain⟨o,ho,r⟩:=pl.isList
  exact⟨o,br _ ho,r⟩
 ·exact CI (tk0:=0) I1 rv hz hk hS hacc q
theorem Jh(hm:X.mg "list"=none)(hm':X.mg "reversed"=none)(h:PE X e te)(hc:X.calm=true:=by rfl)(hg:Gl X "list":=by rfl)(hg':Gl X "reversed":=by rfl)
 (h1:starEach [.Call (.Name "reversed" p') [e] [] pos'] X.env=[(false,eval (.Call (.Name "reversed" p') [e] [] pos') X.env)]:=by rfl) (h2:starEach [e] X.env=[(false,eval e X.env)]:=by rfl):
 PE X (.Call (.Name "list" p) [.Call (.Name "reversed" p') [e] [] pos'] [] pos) (CJ (ag X.K) te):=by
 intro pins s σ H Q I hw
 refine Call_ (gg I hg hm gm (gW ?_ h1 rfl))
 rw[h1]
 refine jm ?_
 refine Call_ (gg I hg' hm' sW (gW ?_ h2 rfl))
 rw[h2]
 refine jm (aL (h pins s σ H _ I hw) fun u s1 ⟨x,H1,I1,r1,q1⟩=>jJ ?_)
 obtain⟨a,xs,rfl,hq,q⟩:=q1
 cases r1
 obtain⟨its,rv,pl,hz⟩:=I1.tuple hq
 have hl:=rv.length
 have hn:=gY
 refine Cv pl (by simp only[bW];omega) fun tk0=>jJ ?_
 have ha:a<s1.heap.objs.size:=let ⟨o,ho,_⟩:=pl;bm ho
 have e0:(its.toArray.size:Int) - 1=(its.toArray.size:Int) - 1 - ((0:Nat):Int):=by omega
 refine CH (d:=a) (Je s1.heap.objs.size a (cJ ha) its.toArray (by simp only[bW];omega)) (I.ok.hd hc) (s:={ s1 with heap:=s1.heap.push (iW a ((its.toArray.size:Int) - 1)),toks:=tk0}) ⟨cP _,(by rw[<-e0];exact bY _ rfl),?_⟩ (by simp[pj]) (u4 ha (by simp[pj])) (by simp only[bW];omega) fun h' tk acc' c' hk hS hacc=>?_
 ·obtain⟨o,ho,r⟩:=pl
  exact⟨o,br _ ho,r⟩
 ·exact CI (tk0:=0) I1 rv hz hk hS hacc q
end
section
variable{P:aP}{w:aH}{K:aB}{mg:ac->Option aa}{base:aA}
end
section
variable{X:Cx}{k:Nat}{x:ac}{ps:List ac}{sp:Sp}{p pos:Pos}{e:Expr}{es:List Expr}{t:TA}
end
theorem hJ{t u:TS}{D:dE}{σ:L2.St}{H:Hp}(Pv:L2.St->Hp->Prop)(key:∀σ' H',Pv σ' H'->u D σ' H')(main:(∀σ' H',Pv σ' H'->u D σ' H')->t { D with nx:=u D} σ H):gh t u D σ H:=main key
def gq(env:Env):List (ac×dS)->List (ac×Addr)->List (ac×Addr)
 |[],cs=>cs
 |(n,k)::r,cs=>gq env r (if (k==dS.free)=true then (match env.cells.lookup n with|some c=>(n,c)::cs|none=>cs)else cs)
theorem Ji(env:Env)(scope:Scope)(h:∀y∈scope.names,y.2= .free->∃c,env.cells.lookup y.1=some c):closureFor scope env=pure (gq env scope.names []):=by
 unfold closureFor
 have key:∀(l:List (ac×dS))(cs:List (ac×Addr)),(∀y∈l,y.2= .free->∃c,env.cells.lookup y.1=some c)->
  (forIn l cs fun x r=>match x with|(name,kind)=>if (kind==dS.free)=true then (do let a <-cellOf env name;pure (ForInStep.yield ((name,a)::r)))else pure (ForInStep.yield r):Sem (List (ac×Addr)))=pure (gq env l cs):=by
  intro l
  induction l with
  |nil=>intro cs _;rfl
  |cons y r ih=>
   intro cs hl
   obtain⟨n,k⟩:=y
   rw[px]
   by_cases hk:k= .free
   ·subst hk
    obtain⟨c,hc⟩:=hl (n,.free) eZ rfl
    have e:cellOf env n=pure c:=by unfold cellOf;rw[hc]
    simp only[beq_self_eq_true,if_true,e,gq,hc,vT]
    exact ih _ fun y hy=>hl y (dC _ hy)
   ·have hb:(k==dS.free)=false:=by simpa using hk
    simp only[hb,iP,if_false,gq,vT]
    exact ih _ fun y hy=>hl y (dC _ hy)
 have:=key scope.names [] h
 simpa using this
theorem CL(env:Env):∀(l:List (ac×dS))(cs:List (ac×Addr)),(∀x c,cs.lookup x=some c->env.cells.lookup x=some c)->∀x c,(gq env l cs).lookup x=some c->env.cells.lookup x=some c:=by
 intro l
 induction l with
 |nil=>intro cs h x c e;exact h x c e
 |cons y r ih=>
  intro cs h x c e
  obtain⟨n,k⟩:=y
  simp only[gq]at e
  refine ih _ (fun x c e=>?_) x c e
  split at e
  ·split at e
   ·next c' hc=>
    rw[e8]at e
    split at e
    ·next hx=>
     have hx':x=n:=by simpa using hx
     cases e
     rw[hx']
     exact hc
    ·exact h x c e
   ·exact h x c e
  ·exact h x c e
theorem CM(env:Env):∀(l:List (ac×dS))(cs:List (ac×Addr))(x:ac),((x,dS.free)∈l/\(∃c,env.cells.lookup x=some c))\/(∃c,cs.lookup x=some c)->∃c,(gq env l cs).lookup x=some c:=by
 intro l
 induction l with
 |nil=>
  intro cs x h
  rcases h with⟨h,_⟩|h
  ·simp at h
  ·exact h
 |cons y r ih=>
  intro cs x h
  obtain⟨n,k⟩:=y
  simp only[gq]
  rcases h with⟨h,c,hc⟩|⟨c,hc⟩
  ·rcases bF.mp h with e|e
   ·cases e
    refine ih _ _ (.inr ⟨c,?_⟩)
    simp[hc]
   ·exact ih _ _ (.inl ⟨e,c,hc⟩)
  ·refine ih _ _ (.inr ?_)
   split
   ·split
    ·rw[e8]
     split
     ·exact⟨_,rfl⟩
     ·exact⟨c,hc⟩
    ·exact⟨c,hc⟩
   ·exact⟨c,hc⟩
abbrev eQ(X:Cx)(Nc:List ac)(scope:Scope)(C:Addr)(s₀:ah)(H₀:Hp)(fp:List Addr):Cx:=
 { X with N:=Nc,s₀:=s₀,H₀:=H₀,env:=compEnvC scope (gq X.env scope.names []) C X.env,outer:=X.stack,stack:=X.stack,ex:=fp,fn:=fun _=>false,xe:=fun _ _=>False}
def qd(X:Cx)(ifs:List Expr)(tt:TT):Prop:=
 ∀(pins:List (Addr×aI))(s:ah)(σ:L2.St)(H:Hp)(Q:Bool->Hp->Prop),Inv X pins σ H s->tt σ H Q->
  wpAny (model X.prog X.w) X.A (forIn ifs true fun c r=>if r=true then do let ok <-isTrue c X.env (eval c X.env);pure (ForInStep.yield ok)else pure (ForInStep.yield r)) (TP X pins σ Q) X.xe s
def qe:TT:=fun _ H Q=>Q true H
theorem nE{X:Cx}:qd X [] qe:=fun _ _ _ H _ I h=>wpAny_tests_nil ⟨H,I,h⟩
theorem tu{X:Cx}{c:Expr}{t:TT}(h:PT X c t):qd X [c] t:=fun pins s σ H Q I q=>wpAny_tests_one (h pins s σ H Q I q)
section
variable{prog:aP}{w:aH}{A:bx}{E:aa->ah->Prop}{R:Result->ah->Prop}{s:ah}
theorem Jj{elt target iter:Expr}{ifs:List Expr}{scope:Scope}{pos:Pos}{it acc:aa}{env:Env}(I:Nat->ah->Prop)
 (turn:∀n s,I n s->wpAny (model prog w) A (pyNext it) (fun r s₁=>match r with
  |none=>R (.ok .next) s₁
  |some v=>wpAny (model prog w) A (letOwnedTupleGo target it v) (fun _ s₀=>wpAny (model prog w) A (assign target env v) (fun _ s₂=>
      wpAny (model prog w) A (forIn ifs true fun c r=>if r=true then do let ok <-isTrue c env (eval c env);pure (ForInStep.yield ok)else pure (ForInStep.yield r)) (fun ok s₃=>
       if ok=true then wpAny (model prog w) A (eval elt env) (fun x s₄=>
        wpAny (model prog w) A (call (.builtin "list.append") [acc,x]) (fun _ s₅=>∃m,m<n/\I m s₅) (notedBy (model prog w) A env fun e s'=>R (.error e) s') s₄) (notedBy (model prog w) A env fun e s'=>R (.error e) s') s₃
       else ∃m,m<n/\I m s₃) (notedBy (model prog w) A env fun e s'=>R (.error e) s') s₂) (notedBy (model prog w) A env fun e s'=>R (.error e) s') s₀) (notedBy (model prog w) A env fun e s'=>R (.error e) s') s₁) (notedBy (model prog w) A env fun e s'=>R (.error e) s') s)
 (n:Nat) (h:I n s):
 codeAny (model prog w) A (.compLoop (.ListComp elt [⟨target,iter,ifs,0⟩] scope pos) 0 it acc env) R s:=by
 refine codeAny_loop rfl I (fun n s hI=>?_) n h
 show wpAny _ A ((compTurn (.ListComp elt [⟨target,iter,ifs,0⟩] scope pos) 0 it acc env).onRaise (fun x=>do noteFrame x env;theTreesLotGoes x)) _ _ s
 refine wpAny_noted ?_
 rw[compTurn_list]
 refine ai (uH (ai (fE (turn n s hI) (fun r s₁ h₁=>?_) fun _ _ h'=>h')))
 cases r with
 |none=>exact aR h₁
 |some v=>
  refine ai (fE h₁ (fun _ s₀ h₀=>?_) fun _ _ h'=>h')
  refine ai (fE h₀ (fun _ s₂ h₂=>ai (fE h₂ (fun ok s₃ h₃=>?_) fun _ _ h'=>h')) fun _ _ h'=>h')
  cases ok with
  |false=>exact aR ⟨rfl,h₃⟩
  |true=>
   exact ai (ai (fE h₃ (fun x s₄ h₄=>ai (fE h₄ (fun _ s₅ h₅=>aR (aR ⟨rfl,h₅⟩)) fun _ _ h'=>h')) fun _ _ h'=>h'))
end
def me(σ:L2.St)(k:Nat)(js:List Nat):L2.St:=List.replicate k none++js.map fun j=>(σ[j]?).join
def mf(g:TG)(tt:TT)(te:TE)(J:It)(σc:L2.St)(H1:Hp)(D:Addr)(Q:Hp->Prop):Prop:=
 ∃W:Nat->Nat->L2.St->Hp->Prop,(∃m,W 0 m σc H1)/\∀i m σ H,W i m σ H->
  (J.stop i H/\Q H)\/(J.go i H/\∃N:L2.St->Hp->Prop,(∀σ' H',N σ' H'->∃m',m'<m/\W (i+1) m' σ' H')/\∀x H',J.yld i H x H'->g x σ H' fun σ2 H2=>tt σ2 H2 fun b H3=>
   if b=true then te σ2 H3 fun y H4=>∃ys,H4 D=some (.lst ys)/\ys.length<sizeLine/\N σ2 (ae H4 D (.lst (ys++[y])))else N σ2 H3)
abbrev nF(α:Type):=Addr->ah->Hp->List Addr->α
def CN(k:Nat)(js:List Nat)(wi:TI)(g:nF TG)(tt:nF TT)(te:nF TE):TE:=fun σ H Q=>wi σ H fun J H1=>∀D,H1 D=none->∀C s₀ H₀ fp,mf (g C s₀ H₀ fp) (tt C s₀ H₀ fp) (te C s₀ H₀ fp) J (me σ k js) (ae H1 D (.lst [])) D fun H2=>Q (.ref D) H2
structure nG(X:Cx)(Nc:List ac)(k:Nat)(js:List Nat)(scope:Scope):Prop where
 kind:scope.kind= .function
 nocell:(scope.names.all fun y=>y.2 != .cell)=true
 loc:(scope.names.all fun y=>y.2 != .local||scope.names.lookup y.1==some .local)=true
 fre:(scope.names.all fun y=>y.2 != .free||X.env.scope.names.lookup y.1==some .cell)=true
 len:Nc.length=k+js.length
 out:((Nc.drop k).zip js).all (fun p=>X.N[p.2]?==some p.1&&X.env.scope.names.lookup p.1==some .cell&&scope.names.lookup p.1==some .free)=true
theorem CO{env:Env}{x:ac}:∀{names:List (ac×dS)},(names.map fun (n,k)=>if (k==dS.free&&env.scope.kind== .function&&env.kindOf n==some .cell)then (n,dS.cell)else (n,k)).lookup x=some .cell\/(names.map fun (n,k)=>if (k==dS.free&&env.scope.kind== .function&&env.kindOf n==some .cell)then (n,dS.cell)else (n,k)).lookup x=some .free->
 (names.all fun y=>y.2 != .cell)=true->(x,dS.free)∈names
 |[],h,_=>by simp at h
 |(n,k)::r,h,hc=>by
  have hc':k≠ .cell/\(r.all fun y=>y.2 != .cell)=true:=by simpa using hc
  by_cases hx:x=n
  ·subst hx
   by_cases hk:k= .free
   ·rw[hk];exact eZ
   ·exfalso
    have hb:(k==dS.free)=false:=by simpa using hk
    simp only[bP,hb,Bool.false_and,iP,if_false,e8,beq_self_eq_true]at h
    rcases h with h|h
    ·exact hc'.1 (cQ h)
    ·exact hk (cQ h)
  ·have hb:(x==n)=false:=by simpa using hx
   refine dC _ (CO (env:=env) ?_ hc'.2)
   simp only[bP]at h
   split at h<;>(simp only[e8,hb]at h;exact h)
theorem CP{env:Env}{x:ac}:∀{names:List (ac×dS)},names.lookup x=some .free->
 (names.map fun (n,k)=>if (k==dS.free&&env.scope.kind== .function&&env.kindOf n==some .cell)then (n,dS.cell)else (n,k)).lookup x=some .cell\/(names.map fun (n,k)=>if (k==dS.free&&env.scope.kind== .function&&env.kindOf n==some .cell)then (n,dS.cell)else (n,k)).lookup x=some .free
 |[],h=>by simp at h
 |(n,k)::r,h=>by
  by_cases hx:x=n
  ·subst hx
   simp only[e8,beq_self_eq_true]at h
   cases h
   simp only[bP]
   split
   ·left;simp[e8]
   ·right;simp[e8]
  ·have hb:(x==n)=false:=by simpa using hx
   simp only[e8,hb]at h
   have:=CP (env:=env) h
   simp only[bP]
   split<;>(simp only[e8,hb];exact this)
section
variable{X:Cx}{pins:List (Addr×aI)}{σ:L2.St}{s2:ah}{tg elt iter:Expr}{ifs:List Expr}{scope:Scope}{pos:Pos}{Nc:List ac}{k:Nat}{js:List Nat}{g:nF TG}{tt:nF TT}{te:nF TE}{J:It}{fp:List Addr}{it:Addr}{tn:Nat->aA->Prop}{H2:Hp}
theorem Jk{H3:Hp}{s3 s4:ah}{C:Addr}{m4:ac->Option aa}(S:nG X Nc k js scope)(I3:Inv X pins σ H3 s3)(f3:∀b∈fp,d4 X pins H3 b)(hfp:∀b∈fp,∃o,s3.heap.get? b=some o)(hC:s3.heap.objs.size<=C)
 (ho:s4.os=s3.os) (hgn:s4.gens=s3.gens) (hk:∀b o,s3.heap.get? b=some o->s4.heap.get? b=some o) (hn:s4.heap.Ns C m4):Inv (eQ X Nc scope C s3 H3 fp) [] (me σ k js) H3 s4:=by
 have hclo:∀x c,(gq X.env scope.names []).lookup x=some c->X.env.cells.lookup x=some c:=CL X.env _ _ (fun _ _ e=>by simp at e)
 have below:∀b,b∈fp->b∉ir X.stack:=fun b hb z=>(bF.mp (I3.stkSub b z)).elim (f3 b hb).2.1 (f3 b hb).2.2.1
 have fresh:∀b o,s3.heap.get? b=some o->b≠C:=fun b o e=>cJ (eX (bm e) hC)
 refine⟨⟨I3.ok.mod,S.kind,I3.ok.glob,I3.ok.blt,hC,fun x y c h1 h2=>I3.ok.inj x y c (hclo x c h1) (hclo y c h2),fun x hx=>?_,fun x c h _=>absurd h dm,I3.ok.hd,I3.ok.frames,.inl rfl,fun b hb=>⟨?_,fun x c e=>(f3 b hb).2.2.2.2.1 x c (hclo x c e)⟩,I3.bs,
  dJ I3.ok.bsz I3.sz,fun b o e hb=>?_,below,I3.stack,I3.stkFree⟩,ho,by rw[hgn];exact I3.bare,Un.kept hk,⟨m4,hn,fun i x v h1 h2 h3=>?_⟩,fun x c e=>?_,I3.hok.fresh hC,fun x c e=>I3.freeC x c (hclo x c e),fun p hp=>?_,I3.hok.kept hk,?_⟩
 ·have hm:=CO (env:=X.env) (names:=scope.names) hx S.nocell
  refine CM X.env _ _ x (.inl ⟨hm,?_⟩)
  have:=lD.mp S.fre _ hm
  have this':X.env.scope.names.lookup x=some .cell:=by simpa using this
  exact I3.ok.has x (.inl this')
 ·obtain⟨o,e⟩:=hfp b hb
  exact fresh b o e
 ·rcases(f3 b hb).2.2.2.1 with z|z
  ·exact I3.ok.noex b o e z
  ·exact absurd (eX (bm (I3.ok.bs b o e).1) z) (ku _)
 ·have hik:k<=i:=by
   by_cases hi:k<=i
   ·exact hi
   ·exfalso
    have hi':i<k:=by omega
    unfold me at h2
    rw[kF (by simpa using hi'),zj,if_pos hi']at h2
    cases h2
  have h2':(js[i - k]?).map (fun j=>(σ[j]?).join)=some (some v):=by
   unfold me at h2
   rw[mT (by simpa using hik)]at h2
   simpa using h2
  obtain⟨j,hj,hv⟩:=Ap.mp h2'
  have hσ:σ[j]?=some (some v):=by
   cases e:σ[j]? with
   |none=>rw[e]at hv;cases hv
   |some o=>rw[e]at hv;rw[show o=some v from hv]
  have hz:((Nc.drop k).zip js)[i - k]?=some (x,j):=by
   rw[lE]
   refine⟨?_,hj⟩
   rw[List.getElem?_drop]
   have:k+(i - k)=i:=by omega
   rw[this]
   exact h1
  have ho:=lD.mp S.out _ (zMG hz)
  simp only[iO,beq_iff_eq]at ho
  obtain⟨⟨o1,o2⟩,o3⟩:=ho
  obtain⟨m,hm,hl⟩:=I3.loc
  obtain⟨u,r,l⟩:=hl j x v o1 hσ (.inr (.inl o2))
  rcases l with⟨l,_⟩|⟨_,c,hc,o,hco,hcd⟩
  ·have l':X.env.scope.names.lookup x=some .local:=l
   rw[o2]at l'
   cases l'
  ·obtain⟨c',hc'⟩:=CM X.env scope.names [] x (.inl ⟨mM o3,c,hc⟩)
   have e:=hclo x c' hc'
   rw[hc]at e
   cases e
   exact⟨u,r,.inr ⟨CP (env:=X.env) o3,c,hc',o,hk _ _ hco,hcd⟩⟩
 ·obtain⟨v,o,h1,h2⟩:=I3.cell x c (hclo x c e)
  exact⟨v,o,hk _ _ h1,h2⟩
 ·have hp':p∈X.pn:=by simpa using hp
  obtain⟨e,n,ne,nf,d⟩:=I3.pin p (eJ _ hp')
  exact⟨hk _ _ e,n,fresh _ _ e,fun z=>(bF.mp (I3.stkSub _ z)).elim ne nf,d⟩
 ·simp[me,S.len]
theorem Jl{H3 H5:Hp}{s3 s5:ah}{C:Addr}{σ5:L2.St}(I3:Inv X pins σ H3 s3)(f3:∀b∈fp,d4 X pins H3 b)(hC:s3.heap.objs.size<=C)(I5:Inv (eQ X Nc scope C s3 H3 fp) [] σ5 H5 s5):
 Inv X pins σ H5 s5/\d4 X pins H5 C/\∃m,s5.heap.Ns C m:=by
 refine⟨I3.call' I5.os I5.base I5.hok I5.bare (fun b hb=>?_),I3.fpOk hC I5.free,let ⟨m,hm,_⟩:=I5.loc;⟨m,hm⟩⟩
 obtain⟨f0,f1,f2,f4,f5,f6⟩:=f3 b hb
 exact⟨f4,f1,f5,f6⟩
theorem CQ{Q:Addr->Hp->Prop}{E:aa->ah->Prop}{RR:aa->Addr->Result->ah->Prop}(S:nG X Nc k js scope)(hcalm:X.calm=true)(hg:∀C s₀ H₀ fp,PG (eQ X Nc scope C s₀ H₀ fp) tg (g C s₀ H₀ fp))(ht:∀C s₀ H₀ fp,qd (eQ X Nc scope C s₀ H₀ fp) ifs (tt C s₀ H₀ fp))
 (he:∀C s₀ H₀ fp,PE (eQ X Nc scope C s₀ H₀ fp) elt (te C s₀ H₀ fp)) (I2:Inv X pins σ H2 s2) (T:jr X.prog X.w X.K tg J fp it tn) (st2:tn 0 s2.heap) (f2:∀b∈fp,d4 X pins H2 b)
 (hw:∀D,H2 D=none->∀C s₀ H₀ fp,mf (g C s₀ H₀ fp) (tt C s₀ H₀ fp) (te C s₀ H₀ fp) J (me σ k js) (ae H2 D (.lst [])) D (Q D))
 (hRR:∀D C s' H',Q D H'->Inv X pins σ H' s'->d4 X pins H' C->(∃m,s'.heap.Ns C m)->RR (.ref D) C (.ok .next) s'):
 wpAny (model X.prog X.w) X.A (newList []) (fun acc s₃=>wpAny (model X.prog X.w) X.A (newFunctionEnv scope X.env.globals (gq X.env scope.names []) [] X.env.qual none .none (some X.env)) (fun cenv s₄=>
  codeAny (model X.prog X.w) X.A (.compStart (.ListComp elt [⟨tg,iter,ifs,0⟩] scope pos) 0 (.ref it) acc { cenv with scope:=relabel scope X.env}) (RR acc cenv.locals) s₄) E s₃) E s2:=by
 have I3:Inv X pins σ (ae H2 s2.heap.objs.size (.lst [])) { s2 with heap:=s2.heap.push { cls:= .type "list",data:= .seq ([]:List aa).toArray}}:=I2.lnew (its:=[]) (t':=s2.toks) .nil (by decide)
 have hold:∀b∈fp,∃o,s2.heap.get? b=some o:=fun b hb=>let ⟨o,e,_⟩:=T.obj _ _ st2 b hb;⟨o,e⟩
 have f3:∀b∈fp,d4 X pins (ae H2 s2.heap.objs.size (.lst [])) b:=fun b hb=>by
  obtain⟨o,e⟩:=hold b hb
  exact⟨by rw[am (cJ (bm e))];exact(f2 b hb).1,(f2 b hb).2⟩
 have w3:=hw _ I2.fresh
 generalize hD:s2.heap.objs.size=D at I3 f3 w3
 have kp3:∀b o,s2.heap.get? b=some o->(s2.heap.push { cls:= .type "list",data:= .seq ([]:List aa).toArray}).get? b=some o:=fun b o e=>br _ e
 refine jd (wpAny_newFunctionEnv (fun y hy z=>?_) (by intro y hy;simp at hy) (fun h₁ hns₁ hsb₁=>?_) S.kind)
 ·have:=lD.mp S.nocell y hy
  rw[z]at this
  exact absurd this (by decide)
 dsimp only at hns₁ hsb₁ |-
 rw[hD]
 generalize hH:s2.heap.push { cls:= .type "list",dict:=none,data:= .seq ([]:List aa).toArray}=h3 at hns₁ hsb₁ I3 kp3 |-
 have k4:∀b o,h3.get? b=some o->h₁.get? b=some o:=fun b o e=>hsb₁.extBut b o (cJ (bm e)) (br _ e)
 have hold3:∀b∈fp,∃o,h3.get? b=some o:=fun b hb=>let ⟨o,e⟩:=hold b hb;⟨o,kp3 b o e⟩
 have I4:Inv (eQ X Nc scope h3.objs.size { s2 with heap:=h3} (ae H2 D (.lst [])) fp) [] (me σ k js) (ae H2 D (.lst [])) { s2 with heap:=h₁,toks:=s2.toks+([]:List (ac×aa)).length}:=
  Jk S I3 f3 hold3 (aJ _) rfl rfl k4 hns₁
 have hclo:∀x c,(gq X.env scope.names []).lookup x=some c->X.env.cells.lookup x=some c:=CL X.env _ _ (fun _ _ e=>by simp at e)
 have stat:∀{H':Hp},(∀b∈fp,H' b=none)->∀b∈fp,d4 (eQ X Nc scope h3.objs.size { s2 with heap:=h3} (ae H2 D (.lst [])) fp) [] H' b:=fun hn b hb=>by
  obtain⟨o,e⟩:=hold3 b hb
  obtain⟨_,g1,g2,g3,g4,g5⟩:=f3 b hb
  exact⟨hn b hb,cJ (bm e),fun z=>(bF.mp (I3.stkSub b z)).elim g1 g2,.inl hb,fun x c e=>g4 x c (hclo x c e),fun p hp=>g5 p (eJ _ (by simpa using hp))⟩
 have loop:codeAny (model X.prog X.w) X.A (.compLoop (.ListComp elt [⟨tg,iter,ifs,0⟩] scope pos) 0 (.ref it) (.ref D) (compEnvC scope (gq X.env scope.names []) h3.objs.size X.env)) (RR (.ref D) h3.objs.size)
  { s2 with heap:=h₁,toks:=s2.toks+([]:List (ac×aa)).length}:=by
  obtain⟨W,⟨m0,w0⟩,turn⟩:=w3 h3.objs.size { s2 with heap:=h3} (ae H2 D (.lst [])) fp
  refine Jj (fun n s'=>∃i σ' H',Inv (eQ X Nc scope h3.objs.size { s2 with heap:=h3} (ae H2 D (.lst [])) fp) [] σ' H' s'/\tn i s'.heap/\(∀b∈fp,H' b=none)/\W i n σ' H') ?_ m0
   ⟨0,_,_,I4,T.keep _ _ _ st2 (fun b hb o e=>k4 b o (kp3 b o e)),fun b hb=>(f3 b hb).1,w0⟩
  rintro n s5 ⟨i,σ5,H5,I5,st5,fr5,w5⟩
  rcases turn i n σ5 H5 w5 with⟨stop,q⟩|⟨go,N,hN,step⟩
  ·refine aL (T.done (eQ X Nc scope h3.objs.size { s2 with heap:=h3} (ae H2 D (.lst [])) fp) rfl rfl rfl hcalm i [] s5 σ5 H5 _ I5 (stat fr5) st5 stop) fun r s6 ⟨hr,I6⟩=>?_
   subst hr
   obtain⟨a,b,c⟩:=Jl I3 f3 (aJ _) I6
   exact hRR D _ s6 H5 q a b c
  ·refine aL (T.item (eQ X Nc scope h3.objs.size { s2 with heap:=h3} (ae H2 D (.lst [])) fp) rfl rfl rfl hcalm i [] s5 σ5 H5 _ I5 (stat fr5) st5 go) fun r s6 ⟨u,hr,h6⟩=>?_
   subst hr
   refine aL h6 fun _ s7 ⟨x,H7,I7,r7,y7,st7,fr7⟩=>?_
   have I7':=I7.pinned (stat fr7) (T.obj _ _ st7)
   have q7:=step x H7 y7
   have again:∀{σ':L2.St}{H':Hp}{s':ah},Inv (eQ X Nc scope h3.objs.size { s2 with heap:=h3} (ae H2 D (.lst [])) fp) ([]++pO fp s7.heap) σ' H' s'->N σ' H'->
    ∃m,m<n/\∃i σ' H',Inv (eQ X Nc scope h3.objs.size { s2 with heap:=h3} (ae H2 D (.lst [])) fp) [] σ' H' s'/\tn i s'.heap/\(∀b∈fp,H' b=none)/\W i m σ' H':=fun {σ' H' s'} I' n'=>by
        obtain⟨m',hm,w7⟩:=hN σ' H' n'
        refine⟨m',hm,i+1,σ',H',I'.unpinned,T.keep _ _ _ st7 fun b hb o e=>(I'.pin (b,o) (eK _ (eK _ (so hb e)))).1,fun b hb=>?_,w7⟩
        obtain⟨o,e,d⟩:=T.obj _ _ st7 b hb
        exact(I'.pin (b,o) (eK _ (eK _ (so hb e)))).2.1
   refine fE (hg _ _ _ _ _ s7 σ5 H7 x u _ I7' r7 q7) (fun _ s8 ⟨σ8,H8,I8,q8⟩=>?_) (fun _ _ f=>f.elim)
   refine fE (ht _ _ _ _ _ s8 σ8 H8 _ I8 q8) (fun ok s9 ⟨H9,I9,q9⟩=>?_) (fun _ _ f=>f.elim)
   cases ok with
   |false=>
    rw[if_neg dm]at q9 |-
    exact again I9 q9
   |true=>
    rw[if_pos rfl]at q9 |-
    refine fE (he _ _ _ _ _ s9 σ8 H9 _ I9 q9) (fun y s10 ⟨v,H10,I10,r10,ys,hys,hz,q10⟩=>?_) (fun _ _ f=>f.elim)
    exact fE (dg (X:=eQ X Nc scope h3.objs.size { s2 with heap:=h3} (ae H2 D (.lst [])) fp) _ s10 σ8 H10 (.ref D) [v] (.ref D) [y] (fun _ H'=>N σ8 H') I10 rfl (.cons r10 .nil) ⟨D,ys,v,rfl,rfl,hys,hz,q10⟩) (fun _ s11 ⟨_,H11,I11,_,q11⟩=>again I11 q11) (fun _ _ f=>f.elim)
 exact codeAny_compStart_list loop (T.self _ 0 _ _ _ (T.keep _ _ _ st2 (fun b hb o e=>k4 b o (kp3 b o e))) loop)
theorem CS(S:nG X Nc k js scope){H:Hp}{s:ah}(I:Inv X pins σ H s):closureFor scope X.env=pure (gq X.env scope.names []):=
 Ji X.env scope fun y hy z=>by
  have:=lD.mp S.fre y hy
  rw[z]at this
  have this':X.env.scope.names.lookup y.1=some .cell:=by simpa using this
  exact I.ok.has y.1 (.inl this')
theorem CT(S:nG X Nc k js scope):∀y∈scope.names,y.2= .local->scope.names.lookup y.1=some .local:=fun y hy z=>by
 have:=lD.mp S.loc y hy
 rw[z]at this
 simpa using this
theorem kU{wi:TI}(S:nG X Nc k js scope)(hi:PI X tg iter wi)(hg:∀C s₀ H₀ fp,PG (eQ X Nc scope C s₀ H₀ fp) tg (g C s₀ H₀ fp))(ht:∀C s₀ H₀ fp,qd (eQ X Nc scope C s₀ H₀ fp) ifs (tt C s₀ H₀ fp))
 (he:∀C s₀ H₀ fp,PE (eQ X Nc scope C s₀ H₀ fp) elt (te C s₀ H₀ fp)) (hcalm:X.calm=true:=by rfl) (hs:∀x,foldedSetIterable iter X.env x=pure x:=by intro _;rfl):PE X (.ListComp elt [⟨tg,iter,ifs,0⟩] scope pos) (CN k js wi g tt te):=by
 intro pins s σ H Q I h
 rw[eval_ListComp]
 refine yN (use:=none) rfl hs (CS S I) S.kind (CT S) ?_
 refine aL (hi pins s σ H _ I h) fun v s1 h1=>aL h1 fun itv s2 h2=>?_
 obtain⟨it,fp,tn,J,H2,e,I2,T,st2,f2,w⟩:=h2
 subst e
 refine CQ (Q:=fun D H'=>Q (.ref D) H') (RR:=fun acc C=>compPost (model X.prog X.w) X.A X.xe none (EP X pins σ Q) acc C) S hcalm hg ht he I2 T st2 f2 w fun D C s' H' q I' fC hm=>?_
 obtain⟨m,hm⟩:=hm
 exact⟨m,hm,fun h' sb=>⟨.ref D,H',I'.turned (t':=s'.toks) (fun b o hb e=>(sb.2 b hb).trans e) fC.1 fC.2.1 fC.2.2.2.1 fC.2.2.2.2.1 fC.2.2.2.2.2,rfl,q⟩⟩
theorem CU{wi:TI}{y:ac}{py spos:Pos}{i:Nat}(S:nG X Nc k js scope)(hN:X.N.Nodup)(hiN:X.N[i]?=some y)(hx:nn X.env.scope y)(hi:PI X tg iter wi)(hg:∀C s₀ H₀ fp,PG (eQ X Nc scope C s₀ H₀ fp) tg (g C s₀ H₀ fp))(ht:∀C s₀ H₀ fp,qd (eQ X Nc scope C s₀ H₀ fp) ifs (tt C s₀ H₀ fp))
 (he:∀C s₀ H₀ fp,PE (eQ X Nc scope C s₀ H₀ fp) elt (te C s₀ H₀ fp)) (hsw:swapsWith (.ListComp elt [⟨tg,iter,ifs,0⟩] scope pos) (some (.Name y py)) spos.line X.env=pure true:=by rfl) (hcalm:X.calm=true:=by rfl) (hs:∀x,foldedSetIterable iter X.env x=pure x:=by intro _;rfl)
 (hf:X.fn y=true\/X.env.scope.names.lookup y=some .local:=by first|exact .inl rfl|exact .inr rfl|assumption):
 PS X (.Assign [.Name y py] (.ListComp elt [⟨tg,iter,ifs,0⟩] scope pos) spos) (sk (CN k js wi g tt te) (jM i)):=by
 intro pins s σ H D I h
 rw[exec_Assign_Name_used _ _ _ _ hsw]
 refine ai (uH (ai ?_))
 show wpAny _ X.A (do let _ <-comprehension (.ListComp elt [⟨tg,iter,ifs,0⟩] scope pos) scope X.env _ (newList []) false (eval iter X.env) (some (assign (.Name y py) X.env))) _ _ s
 refine ai (fE (yN (use:=some (assign (.Name y py) X.env)) (Q:=fun _ s'=>SP X pins D .next s') rfl hs (CS S I) S.kind (CT S)
  (aL (hi pins s σ H _ I h) fun v s1 h1=>aL h1 fun itv s2 h2=>?_)) (fun _ s' hq=>aR (aR hq)) fun _ _ e=>e)
 obtain⟨it,fp,tn,J,H2,e,I2,T,st2,f2,w⟩:=h2
 subst e
 refine CQ (Q:=fun Dd H'=>D.nx (σ.set i (some (.ref Dd))) H') (RR:=fun acc C=>compPost (model X.prog X.w) X.A X.xe (some (assign (.Name y py) X.env)) (fun _ s'=>SP X pins D .next s') acc C) S hcalm hg ht he I2 T st2 f2 w fun Dd C s' H' q I' fC hm=>?_
 obtain⟨m,hm⟩:=hm
 show wpAny _ X.A (assign (.Name y py) X.env (.ref Dd)) _ _ _
 refine yD (AB I' hN hiN hx (v:= .ref Dd) rfl (fun s'' I'' ⟨a,sb,ha⟩=>?_) hf)
 have hCa:C≠a:=by
  rcases ha with z|z
  ·rw[z];exact fC.2.1
  ·exact gc (fC.2.2.2.2.1 y a z)
 exact⟨m,hm.sameBut sb hCa,fun h' sb'=>⟨_,H',I''.turned (t':=s''.toks) (fun b o hb e=>(sb'.2 b hb).trans e) fC.1 fC.2.1 fC.2.2.2.1 fC.2.2.2.2.1 fC.2.2.2.2.2,q⟩⟩
end
theorem wM{K:aB}{a D:Addr}{xs:List V}{g:TG}{tt:TT}{te:TE}{σ:L2.St}{H:Hp}{Q:Hp->Prop}(Pv:Nat->L2.St->Hp->Prop)(h0:Pv 0 σ H)(hl:∀i σ H,i<=xs.length->Pv i σ H->ak K H a xs)
 (hs:∀i x σ H,xs[i]?=some x->Pv i σ H->g x σ H fun σ2 H2=>tt σ2 H2 fun b H3=>if b=true then te σ2 H3 fun y H4=>∃ys,H4 D=some (.lst ys)/\ys.length<sizeLine/\Pv (i+1) σ2 (ae H4 D (.lst (ys++[y])))else Pv (i+1) σ2 H3)
 (hd:∀σ H,Pv xs.length σ H->Q H):mf g tt te (lK K a) σ H D Q:=by
 refine⟨fun i m σ H=>m=xs.length - i/\i<=xs.length/\Pv i σ H,⟨xs.length,by simp,cP _,h0⟩,?_⟩
 rintro i m σ H ⟨rfl,hi,p⟩
 have q:=hl i σ H hi p
 by_cases hlt:i<xs.length
 ·refine .inr ⟨⟨xs,xs[i],q,by simp[hlt]⟩,Pv (i+1),fun σ' H' p'=>⟨xs.length - (i+1),by omega,rfl,hlt,p'⟩,fun x H' y=>?_⟩
  obtain⟨e,y⟩:=y
  subst e
  exact hs i x σ _ (y xs q) p
 ·have e:i=xs.length:=by omega
  subst e
  exact .inl ⟨⟨xs,q,aJ _⟩,hd σ H p⟩
theorem Jm{lo:Int}{n:Nat}{D:Addr}{g:TG}{tt:TT}{te:TE}{σ:L2.St}{H:Hp}{Q:Hp->Prop}(Pv:Nat->L2.St->Hp->Prop)(h0:Pv 0 σ H)
 (hs:∀i σ H,i<n->Pv i σ H->g (.int (lo+i)) σ H fun σ2 H2=>tt σ2 H2 fun b H3=>if b=true then te σ2 H3 fun y H4=>∃ys,H4 D=some (.lst ys)/\ys.length<sizeLine/\Pv (i+1) σ2 (ae H4 D (.lst (ys++[y])))else Pv (i+1) σ2 H3)
 (hd:∀σ H,Pv n σ H->Q H):mf g tt te (jN lo n) σ H D Q:=by
 refine⟨fun i m σ H=>m=n - i/\i<=n/\Pv i σ H,⟨n,by simp,cP _,h0⟩,?_⟩
 rintro i m σ H ⟨rfl,hi,p⟩
 by_cases hlt:i<n
 ·refine .inr ⟨hlt,Pv (i+1),fun σ' H' p'=>⟨n - (i+1),by omega,rfl,hlt,p'⟩,fun x H' y=>?_⟩
  obtain⟨e,y⟩:=y
  subst e
  subst y
  exact hs i σ _ hlt p
 ·have e:i=n:=by omega
  subst e
  exact .inl ⟨aJ _,hd σ H p⟩
theorem qf{K:aB}{a D:Addr}{xs:List V}{te:TE}{σ:L2.St}{H:Hp}{Q:Hp->Prop}(Pv:Nat->L2.St->Hp->Prop)(h0:Pv 0 σ H)(hl:∀i σ H,i<=xs.length->Pv i σ H->ak K H a xs)
 (hs:∀i x σ H,xs[i]?=some x->Pv i σ H->te (σ.set 0 (some x)) H fun y H4=>∃ys,H4 D=some (.lst ys)/\ys.length<sizeLine/\Pv (i+1) (σ.set 0 (some x)) (ae H4 D (.lst (ys++[y]))))
 (hd:∀σ H,Pv xs.length σ H->Q H):mf (jM 0) qe te (lK K a) σ H D Q:=
 wM Pv h0 hl (fun i x σ H hx hp=>by
  simp only[jM,qe,if_true]
  exact hs i x σ H hx hp) hd
theorem Jn{lo:Int}{n:Nat}{D:Addr}{te:TE}{σ:L2.St}{H:Hp}{Q:Hp->Prop}(Pv:Nat->L2.St->Hp->Prop)(h0:Pv 0 σ H)
 (hs:∀i σ H,i<n->Pv i σ H->te (σ.set 0 (some (.int (lo+i)))) H fun y H4=>∃ys,H4 D=some (.lst ys)/\ys.length<sizeLine/\Pv (i+1) (σ.set 0 (some (.int (lo+i)))) (ae H4 D (.lst (ys++[y]))))
 (hd:∀σ H,Pv n σ H->Q H):mf (jM 0) qe te (jN lo n) σ H D Q:=
 Jm Pv h0 (fun i σ H hi hp=>by
  simp only[jM,qe,if_true]
  exact hs i σ H hi hp) hd
theorem Jo{v v':V}{u:aa}(h:aW v u)(h':aW v' u):v=v':=by
 cases v<;>cases v'<;>simp only[L2.aW]at h h'<;>first
  |rfl
  |(subst h;cases h';rfl)
  |(subst h;obtain⟨t',e⟩:=h';cases e)
  |(obtain⟨t,rfl⟩:=h;cases h';done)
  |(obtain⟨t,rfl⟩:=h;obtain⟨t',e⟩:=h';cases e;rfl)
  |(obtain⟨t,rfl⟩:=h;obtain⟨t',e⟩:=h';cases e)
section
variable{P:aP}{w:aH}{H:Hp}{s:ah}
theorem wN(ok:cA P w H s.heap){A:bx}{its:List aa}{vs:List V}{ds:List Dt}{x:V}{xv:aa}{d:Dt}(rv:aS vs its)(hd:bX H vs ds)(hx:aQ H x d)(rx:aW x xv)(hu:∀e∈ds,A.units+e.dep<cLine):
 ∃e:aa->Bool,(∀y,y∈its.toArray->er A s y xv (e y))/\∀i (h1:i<its.length)(h2:i<ds.length),e its[i]=true↔ds[i]=d:=by
 have l1:=rv.length
 have l2:=hd.length
 have h0:∀y:aa,∃b:Bool,∀i (h1:i<its.length)(h2:i<ds.length),its[i]=y->er A s y xv b/\(b=true↔ds[i]=d):=by
  intro y
  by_cases c:∃i,∃h:i<its.length,its[i]=y
  ·obtain⟨i,hi,e⟩:=c
   obtain⟨b,h1,h2⟩:=wE ok ds[i] d vs[i] x its[i] xv A (hd.get i (by omega) (by omega)) hx (aS.at rv i (by omega) hi) rx (hu _ (zGM _))
   refine⟨b,fun j g1 g2 ej=>?_⟩
   have ev:vs[j]=vs[i]:=Jo (aS.at rv j (by omega) g1) (by rw[ej,<-e];exact aS.at rv i (by omega) hi)
   have ed:ds[j]=ds[i]:=aQ.inj _ _ vs[j] (hd.get j (by omega) g2) (by rw[ev];exact hd.get i (by omega) (by omega))
   rw[ed]
   exact⟨e▸h1,h2⟩
  ·exact⟨true,fun i h1 _ e=>absurd ⟨i,h1,e⟩ c⟩
 obtain⟨e,he⟩:=Aj h0
 refine⟨e,fun y hy=>?_,fun i h1 h2=>(he _ i h1 h2 rfl).2⟩
 have hy':y∈its:=by simpa using hy
 obtain⟨i,hi,e1⟩:=pz hy'
 exact(he y i hi (by omega) e1).1
theorem CV{its:List aa}{ds:List Dt}{d:Dt}{e:aa->Bool}(hl:its.length=ds.length)(h:∀i (h1:i<its.length)(h2:i<ds.length),e its[i]=true↔ds[i]=d):its.toArray.any e=true↔d∈ds:=by
 rw[List.any_toArray,ve]
 constructor
 ·rintro⟨y,hy,hb⟩
  obtain⟨i,hi,rfl⟩:=pz hy
  exact kI.mpr ⟨i,by omega,(h i hi (by omega)).mp hb⟩
 ·intro hm
  obtain⟨i,hi,e1⟩:=pz hm
  exact⟨its[i]'(by omega),zGM _,(h i (by omega) hi).mpr e1⟩
end
section
variable{X:Cx}
inductive CW(X:Cx)(x:V)(y:V)(H:Hp)(Q:VK):Prop
 |mk:∀d p vs ds,(aQ H x d)->(y= .ref p)->(H p=some (.lst vs))->(bX H vs ds)->((∀e∈ds,X.A.units+1+e.dep<cLine))->(∀b,(b=true↔d∈ds)->Q (.bl b) H)->CW X x y H Q
theorem Jp:cL X (compareOp .In) (fun x y H Q=>CW X x y H Q):=by
 intro pins s σ H x y v u Q I rx ry h
 obtain⟨d,p,vs,ds,hx,rfl,hp,hd,hu,q⟩:=h
 cases ry
 obtain⟨its,ri,p1⟩:=jw I.hok hp
 obtain⟨e,he,hb⟩:=wN (A:=X.A.in1) I.hok ri hd hx rx (fun e z=>by rw[ma];exact hu e z)
 exact SeqAt.in_listAt e p1 he ⟨.bl _,H,I,rfl,q _ (CV (by have:=ri.length;have:=hd.length;omega) hb)⟩
inductive CY(X:Cx)(x:V)(y:V)(H:Hp)(Q:VK):Prop
 |mk:∀d p vs ds,(aQ H x d)->(y= .ref p)->(H p=some (.lst vs))->(bX H vs ds)->((∀e∈ds,X.A.units+1+e.dep<cLine))->(∀b,(b=true↔¬d∈ds)->Q (.bl b) H)->CY X x y H Q
theorem qg:cL X (compareOp .NotIn) (fun x y H Q=>CY X x y H Q):=by
 intro pins s σ H x y v u Q I rx ry h
 obtain⟨d,p,vs,ds,hx,rfl,hp,hd,hu,q⟩:=h
 cases ry
 obtain⟨its,ri,p1⟩:=jw I.hok hp
 obtain⟨e,he,hb⟩:=wN (A:=X.A.in1) I.hok ri hd hx rx (fun e z=>by rw[ma];exact hu e z)
 refine Ad e p1 he ⟨.bl _,H,I,rfl,q _ ?_⟩
 rw[<-CV (by have:=ri.length;have:=hd.length;omega) hb,vE,Ac]
def Jq(X:Cx):V->List V->Hp->VK->Prop:=fun x xs H Q=>∃p v vs ds d j,x= .ref p/\xs=[v]/\H p=some (.lst vs)/\bX H vs ds/\aQ H v d/\(∀e∈ds,X.A.units+2+e.dep<cLine)/\(∃h:j<ds.length,ds[j]=d/\∀i (h':i<ds.length),i<j->ds[i]≠d)/\Q (.int j) H
theorem CZ:sK X "list.index" (Jq X):=by
 intro pins s σ H x vs v us Q I rx rv h
 obtain⟨p,y,ys,ds,d,j,rfl,rfl,hp,hd,hy,hu,⟨hj,hj1,hj2⟩,q⟩:=h
 cases rx
 obtain⟨u,rfl,ru⟩:=rv.one
 obtain⟨z,its,n,r,hl,e⟩:=I.lstM hp
 have l2:=hd.length
 obtain⟨f,he,hb⟩:=wN (A:=X.A.in1) I.hok r hd hy ru (fun e z=>by rw[ma];have:=hu e z;omega)
 have hn:=gY
 refine pb F.slot_list_index ⟨_,e,rfl⟩ F.entry_list_index (F.args_list_index_2 _ _) (SeqAt.list_indexAt p its.toArray n none #[] u f j (by simp only[bW];omega) (by omega)
  (by simp only[vc];exact(hb j (by omega) hj).mpr hj1) (fun m hm h1=>?_)) ⟨e,?_,?_⟩
 ·simp only[vc]
  have hm':m<its.length:=by simpa using hm
  exact fH.mpr fun z=>hj2 m (by omega) h1 ((hb m hm' (by omega)).mp z)
 ·exact he
 ·exact⟨.int j,H,I.tok _,⟨_,rfl⟩,q⟩
end
def qh(K:aB)(a:Addr)(xs:List V):It:=
 ⟨fun i H=>ak K H a xs/\i<xs.length,fun i H x H'=>H'=H/\xs.reverse[i]?=some x,fun i H=>i=xs.length⟩
theorem Jr{P:aP}{w:aH}{K:aB}{tg:Expr}(a it:Addr)(xs:List V):jr P w K tg (qh K a xs) [it] it (fun i h=>h.IsRevIter it a ((xs.length:Int) - 1 - (i:Nat))) where
 mem:=by simp
 obj:=fun i h st b hb=>by
  have e:b=it:=by simpa using hb
  subst e
  obtain⟨o,ho,hc,hd⟩:=st
  exact⟨o,ho,fun v z=>by rw[hd]at z;cases z⟩
 keep:=fun i h h' st k=>st.at fun o e=>k it (by simp) o e
 item:=by
  intro X hP hw hK hc i pins s σ H E I hf st hg
  subst hP hw hK
  obtain⟨hq,hi⟩:=hg
  obtain⟨its,rv,p,hz⟩:=I.list hq
  obtain⟨f0,f1,f2,f3,f4,f5⟩:=hf it (by simp)
  have hl:=rv.length
  have e1:(xs.length:Int) - 1 - (i:Nat)=((xs.length - 1 - i:Nat):Int):=by omega
  obtain⟨x,hx⟩:∃x,xs[xs.length - 1 - i]?=some x:=⟨_,zGE (by omega)⟩
  obtain⟨u,hu,ru⟩:=rv.get hx
  rw[e1]at st
  refine wpAny_pyNext_rev_item st p.isList (x:=u) (by simpa using hu) fun h' st' sb=>?_
  have I1:Inv X pins σ H { s with heap:=h'}:=I.turned (t':=s.toks) (fun b o hb e=>(sb.2 b hb).trans e) f0 f1 f3 f4 f5
  have e2:((xs.length - 1 - i:Nat):Int) - 1=(xs.length:Int) - 1 - ((i+1:Nat):Int):=by omega
  rw[e2]at st'
  obtain⟨o,ho,hoc,hod⟩:=id st'
  exact⟨u,rfl,pN (s:={ s with heap:=h'}) (n:="list_reverseiterator") ho hoc hod (by decide) ⟨x,H,I1,ru,⟨rfl,by rw[rC (by omega)];exact hx⟩,st',fun b hb=>(hf b hb).1⟩⟩
 done:=by
  intro X hP hw hK hc i pins s σ H E I hf st hg
  subst hP hw hK
  obtain⟨f0,f1,f2,f3,f4,f5⟩:=hf it (by simp)
  have hi:i=xs.length:=hg
  have e1:(xs.length:Int) - 1 - (i:Nat)= -1:=by omega
  rw[e1]at st
  exact wpAny_pyNext_rev_end (I.ok.hd hc) st fun h' eb=>⟨rfl,I.turned (t':=s.toks) (fun b o hb e=>eb b o hb e) f0 f1 f3 f4 f5⟩
 self:=fun _ _ _ _ _ st h=>yO st h
section
variable{X:Cx}{tg:Expr}
def Js(K:aB)(ta:TA):TI:=fun σ H R=>ta σ H fun vs H1=>∃a xs,vs=[.ref a]/\ak K H1 a xs/\R (qh K a xs) H1
theorem C0{a:Expr}{ta:TA}{p pos:Pos}(hg:Gl X "reversed")(hm:X.mg "reversed"=none)(ha:PA X [a] ta)(hs:starEach [a] X.env=[(false,eval a X.env)]:=by rfl):PI X tg (.Call (.Name "reversed" p) [a] [] pos) (Js X.K ta):=by
 intro pins s σ H R I h
 refine Call_ (gg I hg hm sW (gW (aL (ha pos pins s σ H _ I h) fun us s1 ⟨vs,H1,I1,r1,q1⟩=>?_) hs rfl))
 obtain⟨b,xs,e,hq,q⟩:=q1
 subst e
 obtain⟨u,rfl,ru⟩:=ix r1
 cases ru
 obtain⟨its,rv,pl,hz⟩:=I1.list hq
 have hl:=rv.length
 refine yM pl.isList ?_
 have e3:(((its.toArray).size:Nat):Int) - 1=(xs.length:Int) - 1 - ((0:Nat):Int):=by simp only[bW];omega
 rw[e3]
 have I2:Inv X pins σ H1 { s1 with heap:=s1.heap.push (revObj b ((xs.length:Int) - 1 - ((0:Nat):Int)))}:=I1.kept (t':=s1.toks) fun b o e=>br _ e
 have st:(s1.heap.push (revObj b ((xs.length:Int) - 1 - ((0:Nat):Int)))).IsRevIter s1.heap.objs.size b ((xs.length:Int) - 1 - ((0:Nat):Int)):=⟨_,bY _ rfl,rfl,rfl⟩
 refine yO (s:={ s1 with heap:=s1.heap.push (revObj b ((xs.length:Int) - 1 - ((0:Nat):Int)))}) st ?_
 refine⟨s1.heap.objs.size,[s1.heap.objs.size],_,_,H1,rfl,I2,Jr b _ xs,st,fun c hc=>?_,q⟩
 have e:c=s1.heap.objs.size:=by simpa using hc
 subst e
 exact I1.fpOk (aJ _) (I1.hok.fresh (aJ _))
end
theorem C1{K:aB}{a:Addr}{xs:List V}{g:TG}{tb:TS}{D:dE}{σ:L2.St}{H:Hp}(Pv:Nat->L2.St->Hp->Prop)(h0:Pv 0 σ H)(hl:∀i σ H,i<=xs.length->Pv i σ H->ak K H a xs)
 (hs:∀i x σ H,xs.reverse[i]?=some x->Pv i σ H->g x σ H fun σ2 H2=>tb { D with nx:=Pv (i+1),ct:=Pv (i+1),bk:=D.nx} σ2 H2) (hd:∀σ H,Pv xs.length σ H->D.nx σ H):
 ∃W:Nat->Nat->L2.St->Hp->Prop,(∃m,W 0 m σ H)/\∀i m σ H,W i m σ H->
  ((qh K a xs).stop i H/\D.nx σ H)\/((qh K a xs).go i H/\∃N:L2.St->Hp->Prop,(∀σ' H',N σ' H'->∃m',m'<m/\W (i+1) m' σ' H')/\∀x H',(qh K a xs).yld i H x H'->g x σ H' fun σ2 H2=>tb { D with nx:=N,ct:=N,bk:=D.nx} σ2 H2):=by
 refine⟨fun i m σ H=>m=xs.length - i/\i<=xs.length/\Pv i σ H,⟨xs.length,by simp,cP _,h0⟩,?_⟩
 rintro i m σ H ⟨rfl,hi,p⟩
 by_cases c:i=xs.length
 ·subst c
  exact .inl ⟨rfl,hd σ H p⟩
 ·have hlt:i<xs.length:=by omega
  refine .inr ⟨⟨hl i σ H hi p,hlt⟩,Pv (i+1),fun σ' H' k=>⟨xs.length - (i+1),by omega,rfl,by omega,k⟩,?_⟩
  rintro x H' ⟨rfl,hx⟩
  exact hs i x σ _ hx p
end BF
namespace PySem
open Sem (wp)
namespace DP
theorem entry_loop:entryFor table "dict.update.loop"=some dA.«dict.update.loop»:=qY (by kernel_rfl)
theorem plain_loop:plainId "dict.update.loop"=true:=by decide +kernel
theorem list_nokeys:typeLookup (.type "list") "keys"=pure none:=by rw[ik,im];kernel_rfl
end DP
theorem Jt{prog:aP}{w:aH}{A:bx}{E:aa->ah->Prop}{s:ah}{a:Addr}{o:aI}{xs:Array aa}{k:Nat}{name:ac}{Q:Option aa->ah->Prop}
 (hx:s.heap.get? a=some o) (hc:o.cls= .type "list") (hdat:o.data= .seq xs k) (hd:o.dict=none) (hmiss:typeLookup (.type "list") name=pure none) (hname:(["__module__","__name__","__qualname__","__doc__","__annotations__"]:List ac).contains name=false) (hA:A.handled=none)
 (h:∀h' tk,(∀b o,s.heap.get? b=some o->h'.get? b=some o)->Q none { s with heap:=h',toks:=tk}) (hsz:name.length+100<=sizeLine:=by size_fits):
 wpAny (model prog w) A (getAttr? (.ref a) name) Q E s:=by
 obtain⟨c,dct,dat,sl⟩:=o
 simp only at hc hdat hd
 subst hc hdat hd
 obtain⟨hp,g,d,tk,os⟩:=s
 have hT:∀tk',(⟨hp,g,d,tk',os⟩:ah).TypeIs (.ref a) "list":=fun _=>⟨_,hx,rfl⟩
 have f1:=sub_AttributeError
 have f3:=vz.lookup
 have f4:=vz.bind (.ref a)
 have f5:=am_list_getattr_none
 unfold getAttr? getAttrBy? getAttrBy
 repeat (any_goals (first|assumption|exact hT _|((with_reducible show wpAny _ _ (call (aa.builtin "list.__getattribute__") _ _) _ _ _);refine pb vz (hT _) am_entry_list_getattribute (F.args_list_getattribute_2 _ _) (meets_getattribute_miss_list a xs k sl name _ hmiss hname hsz) ⟨hx,hA,fun h' tk' e hx'=>?_⟩)|wp_step))
 obtain⟨t',u',he⟩:=hx'.there
 show wpAny _ _ (getattributeRaised _ _ _ _ _ _ _) _ _ _
 unfold getattributeRaised
 repeat (any_goals (first|assumption|wp_step))
 exact h _ _ hx'.of.keeps
section
variable{prog:aP}{w:aH}{K:Type}[DecidableEq K]{knd:KeyKind prog w K}{A:bx}{R:Result->ah->Prop}
def C2(knd:KeyKind prog w K)(h:aA)(u:aa)(p:K×aa):Prop:=∃a key,u= .ref a/\h.IsTuple a #[key,p.2]/\knd.is p.1 key=true
theorem Ju(hh:A.handled=none){h0:aA}{items:Array aa}{vs:List (K×aa)}{l it d:Addr}(hdi:d≠it)(hld:l≠d)(hli:l≠it)(hl:h0.IsList l items)(hlen:vs.length=items.size)
 (hp:∀i (h:i<items.size)(h':i<vs.length),C2 knd h0 items[i] vs[i]/\∀a,items[i]= .ref a->a≠d/\a≠it) (hz:items.size<sizeLine):
 ∀(n i:Nat)(s:ah)(acc:List (K×aa)),items.size - i=n->i<=items.size->acc.length<=i->s.heap.IsListIter it l i->(∀b o,b≠d->b≠it->h0.get? b=some o->s.heap.get? b=some o)->s.heap.DictOf knd d acc->
  (∀h' tk,h'.DictOf knd d ((vs.drop i).foldl (fun a p=>stored a p.1 p.2) acc)->(∀b o,b≠d->b≠it->h0.get? b=some o->h'.get? b=some o)->(∀b o,b≠d->b≠it->s.heap.get? b=some o->h'.get? b=some o)->R (.ok (.ret .none)) { s with heap:=h',toks:=tk})->
  codeAny (model prog w) A (.builtin "dict.update.loop" ⟨[.ref d,.ref it,rawInt i,.none],[]⟩) R s:=by
 intro n
 induction n with
 |zero=>
  intro i s acc hn hi ha hit hk hd hR
  have e:i=items.size:=by omega
  subst e
  refine qZ DP.entry_loop ?_
  rw[sd DP.plain_loop _]
  show wpAny _ A.in1 (pyNext (.ref it) >>= _) _ _ s
  obtain⟨o,ho,r⟩:=id hl
  refine ai (yF hh hit ⟨o,hk l o hld hli ho,r⟩ (by simp) fun h1 he=>?_)
  show wpAny _ _ (dA.Dict.addKeywords d [] >>= _) _ _ _
  refine ai (aR (aR (hR h1 _ ?_ (fun b o hb hi e=>he b o hi (hk b o hb hi e)) (fun b o hb hi e=>he b o hi e))))
  rw[vf (by omega)]
  exact hd.extBut he hdi
 |succ n ih=>
  intro i s acc hn hi ha hit hk hd hR
  have hlt:i<items.size:=by omega
  have hlt':i<vs.length:=by omega
  refine qZ DP.entry_loop ?_
  rw[sd DP.plain_loop _]
  show wpAny _ A.in1 (pyNext (.ref it) >>= _) _ _ s
  obtain⟨o,ho,r⟩:=id hl
  refine ai (yE hit ⟨o,hk l o hld hli ho,r⟩ (x:=items[i]) (by simp[hlt]) fun h1 hit1 hs1=>?_)
  obtain⟨⟨a,key,ea,ht,hkey⟩,hane⟩:=hp i hlt hlt'
  obtain⟨ne1,ne2⟩:=hane a ea
  rw[ea]
  dsimp only
  refine ai (gR ?_)
  obtain⟨ot,hot,htc,nt,htd⟩:=id ht
  have hot1:h1.get? a=some ot:=(hs1.2 a ne2).trans (hk a ot ne1 ne2 hot)
  refine ai (wpAny_tryCatch ?_)
  unfold dA.Dict.pairItems
  refine ai (ly (T:="tuple") ⟨ot,hot1,htc⟩ ?_)
  rw[if_pos (by decide)]
  refine ai (jh hot1 htd (aR ?_))
  show wpAny _ _ (holding [key,vs[i].2] (dictSet d key vs[i].2)) _ _ _
  have hd1:h1.DictOf knd d acc:=hd.sameBut hs1 hdi
  refine gR (wpAny_dictSet_pairs (s:={ s with heap:=h1}) (hsz:=by omega) hkey hd1 fun h2 hd2 hs2=>?_)
  refine aR ⟨mP DP.plain_loop _,?_⟩
  have e1:rawInt ((i:Int)+1)=rawInt ((i+1:Nat):Int):=by push_cast;rfl
  rw[e1]
  have hla:(stored acc vs[i].1 vs[i].2).length<=i+1:=by
   unfold stored
   split
   ·rw[zLM];omega
   ·rw[zLA];simp only[zLC,zLN];omega
  obtain⟨oi,hoi,ri⟩:=id hit1
  have hk2:∀b o,b≠d->b≠it->h0.get? b=some o->h2.get? b=some o:=fun b o hb hi e=>(hs2.2 b hb).trans ((hs1.2 b hi).trans (hk b o hb hi e))
  have hk3:∀b o,b≠d->b≠it->s.heap.get? b=some o->h2.get? b=some o:=fun b o hb hi e=>(hs2.2 b hb).trans ((hs1.2 b hi).trans e)
  refine ih (i+1) { s with heap:=h2,toks:=s.toks+1} _ (by omega) (by omega) hla ⟨oi,(hs2.2 it (gc hdi)).trans hoi,ri⟩ hk2 hd2 fun h' tk hd' q1 q2=>?_
  refine hR h' tk ?_ q1 (fun b o hb hi e=>q2 b o hb hi (hk3 b o hb hi e))
  rw[rE hlt',rF]
  exact hd'
end
end PySem
namespace BF
open PySem PySem.Spec PyProof.Rows L2
open Sem (wp)
def tw(H:Hp)(ps:List V)(kvs:List (Key×V)):Prop:=Paired (fun x kv=>∃a,x= .ref a/\H a=some (.tup [kV kv.1,kv.2])) ps kvs
def iF(acc kvs:List (Key×V)):List (Key×V):=kvs.foldl (fun a p=>cS a p.1 p.2) acc
theorem C3:∀(kvs acc:List (Key×V)),(iF acc kvs).length<=acc.length+kvs.length
 |[],acc=>by simp[iF]
 |p::r,acc=>by
  have h1:=C3 r (cS acc p.1 p.2)
  have h2:=nB acc p.1 p.2
  simp only[iF,rF,zLC]at h1 |-
  omega
theorem C4:∀{more:List (Key×V)}{rs:List (Key×aa)}{kvs:List (Key×V)}{vs:List (Key×aa)},KV more rs->KV kvs vs->KV (iF kvs more) (rs.foldl (fun a p=>stored a p.1 p.2) vs)
 |_,_,_,_,.nil,r=>r
 |p::ps,q::qs,kvs,vs,.cons h t,r=>by
  have h':p.1=q.1/\aW p.2 q.2:=h
  simp only[iF,rF]
  rw[h'.1]
  exact C4 t (r.put q.1 h'.2)
theorem C5{P:aP}{w:aH}{H:Hp}{h:aA}(ok:cA P w H h):∀{ps:List V}{kvs:List (Key×V)}{its:List aa},tw H ps kvs->aS ps its->
 ∃vs:List (Key×aa),KV kvs vs/\vs.length=its.length/\∀i (h1:i<its.length)(h2:i<vs.length),C2 (cR P w) h its[i] vs[i]
 |_,_,_,.nil,.nil=>⟨[],.nil,rfl,fun i h1=>absurd h1 (by simp)⟩
 |_::_,kv::_,_::_,.cons h1 t,.cons r rr=>by
  obtain⟨a,rfl,ha⟩:=h1
  cases r
  obtain⟨z,its,rv,q⟩:=(show cu P w H h a (.tup [kV kv.1,kv.2])from ok a _ ha)
  obtain⟨vs,k1,k2,k3⟩:=C5 ok t rr
  cases rv with
  |cons r1 rr1=>
   cases rr1 with
   |cons r2 rr2=>
    cases rr2
    rename_i u1 u2
    refine⟨(kv.1,u2)::vs,.cons ⟨rfl,r2⟩ k1,by simp[k2],fun i h1 h2=>?_⟩
    cases i with
    |zero=>exact⟨a,u1,rfl,q,jT r1⟩
    |succ i=>exact k3 i (by simpa using h1) (by simpa using h2)
inductive C6(xs:List V)(H:Hp)(Q:VK):Prop
 |mk:∀l ps kvs,(xs=[.ref l])->(H l=some (.lst ps))->(tw H ps kvs)->(ps.length<sizeLine)->(∀d,H d=none->Q (.ref d) (ae H d (.dK (iF [] kvs))))->C6 xs H Q
theorem Jv{X:Cx}(hc:X.calm=true):fR X (.type "dict") (fun xs H Q=>C6 xs H Q):=by
 intro pins s σ H xs us Q I r h
 obtain⟨l,ps,kvs,rfl,hl,hp,hz,q⟩:=h
 obtain⟨u,rfl,ru⟩:=r.one
 cases ru
 obtain⟨z,its,n,rv,hil,e⟩:=I.lstM hl
 obtain⟨vs,kv,vl,hpr⟩:=C5 I.hok hp rv
 refine uQ (Q₁:=fun obj s₁=>obj= .ref s.heap.objs.size/\s₁={ s with heap:=s.heap.push { cls:= .type "dict",data:= .dict #[]}}) PySem.F.kt_called_dict (PySem.F.kt_typeCall_dict_1 _) PySem.F.entry_dict_init (kt_code_dict_new _ ⟨rfl,rfl⟩) ?_
 rintro obj s₁ ⟨rfl,rfl⟩
 have hnew:(s.heap.push { cls:= .type "dict",data:= .dict #[]}).DictOf (cR X.prog X.w) s.heap.objs.size []:=Ax s.heap
 have k1:∀b o,s.heap.get? b=some o->(s.heap.push { cls:= .type "dict",data:= .dict #[]}).get? b=some o:=fun b o e=>br _ e
 have hs1:(s.heap.push { cls:= .type "dict",data:= .dict #[]}).objs.size=s.heap.objs.size+1:=ip ..
 refine⟨hnew.typeIs,PySem.F.args_dict_init_2 _ _,?_⟩
 unfold dA.«dict.__init__»
 refine ai ?_
 unfold dA.Dict.selfAndRest
 refine ai (wpAny_notOrdered_dict hnew.typeIs ?_)
 show wpAny _ _ (pure (s.heap.objs.size,[aa.ref l])) _ _ _
 refine aR ?_
 show wpAny _ _ (Ay "dict.__init__" s.heap.objs.size (.ref l) [] .none) _ _ _
 unfold Ay
 generalize s.heap.push { cls:= .type "dict",data:= .dict #[]}=h1 at hnew k1 hs1 |-
 have e1:=k1 _ _ e
 refine ai (ly (T:="list") ⟨_,e1,rfl⟩ ?_)
 rw[if_pos (by decide)]
 refine ai (Jt e1 rfl rfl rfl DP.list_nokeys (by decide +kernel) (I.ok.hd hc) (fun h2 tk hk2=>?_) (by decide))
 rw[if_pos (show (none:Option aa).isNone=true from rfl)]
 refine ai (jf ?_)
 have hl2:h2.IsList l its.toArray:=⟨_,hk2 _ _ e1,rfl,n,rfl⟩
 have hd2:h2.DictOf (cR X.prog X.w) s.heap.objs.size []:=let ⟨o,es,ep,ho,r⟩:=hnew;⟨o,es,ep,hk2 _ _ ho,r⟩
 have hdlt:s.heap.objs.size<h2.objs.size:=by
  obtain⟨o,es,ep,ho,r⟩:=id hd2
  exact bm ho
 have llt:l<h2.objs.size:=bm (hk2 _ _ e1)
 have ll:l<s.heap.objs.size:=bm e
 refine ai (yG hl2 (aR ⟨mP DP.plain_loop _,?_⟩))
 refine Ju (A:=X.A.in1) (knd:=cR X.prog X.w) (I.ok.hd hc) (h0:=h2) (items:=its.toArray) (vs:=vs) (cJ hdlt) (cJ ll) (cJ llt) hl2 (by simp[vl]) (fun i g1 g2=>?_) (by simp only[bW];omega) its.length 0 { s with heap:=h2.push { cls:= .type "list_iterator",data:= .fields #[.ref l,.int 0 0]},toks:=tk} [] (by simp) (cP _) (cP _)
  ⟨_,bY _ rfl,rfl,rfl⟩ (fun b o _ _ e=>br _ e) (hd2.push _) fun h' tk' hd' q1 q2=>?_
 ·obtain⟨a,key,ea,⟨o,ho,ht⟩,hk⟩:=hpr i (by simpa using g1) g2
  have ea':its.toArray[i]= .ref a:=by simpa using ea
  refine⟨⟨a,key,ea',⟨o,hk2 _ _ (k1 _ _ ho),ht⟩,hk⟩,fun b eb=>?_⟩
  rw[ea']at eb
  cases eb
  exact⟨cJ (bm ho),cJ (bm (hk2 _ _ (k1 _ _ ho)))⟩
 ·have hln:(iF [] kvs).length<=sizeLine:=by
   have a1:=C3 kvs []
   have a2:=Paired.length hp
   simp only[zLN]at a1
   omega
  refine⟨rfl,.ref s.heap.objs.size,ae H s.heap.objs.size (.dK (iF [] kvs)),I.laid (a:=s.heap.objs.size) (t':=tk') (fun b o z=>q1 b o (cJ (bm z)) (cJ (bm (hk2 _ _ (k1 _ _ z)))) (hk2 _ _ (k1 _ _ z))) (aJ _)
   (wn hln (beq_eq_false_iff_ne.mpr (gc (cJ I.big))) (C4 kv .nil) ?_),rfl,q _ I.fresh⟩
  simpa using hd'
theorem Jw:bootBuiltins "dict"=some (.type "dict"):=by decide +kernel
section
variable{X:Cx}
theorem C7:bootBuiltins "zip"=some (.type "zip"):=by decide +kernel
inductive iX:String->List String->Bool->Prop
 |l:iX "list" ["list","tuple"] true
 |t:iX "tuple" ["list","tuple"] true
 |s:iX "str" ["list","tuple"] false
 |i:iX "int" ["list","tuple"] false
 |b:iX "bool" ["list","tuple"] false
 |n:iX "NoneType" ["list","tuple"] false
theorem iX.ok{K:aB}{t:String}{cs:List String}{b:Bool}(k:iX t cs b):PySem.W.kitAny K (.type t) (cs.map aa.type)=some b:=by
 cases k<;>kernel_rfl
theorem iX.nots{t:String}{cs:List String}{b:Bool}(k:iX t cs b):t≠"float"/\t≠"dict":=by
 cases k<;>decide
inductive C8(X:Cx)(xs:List V)(H:Hp)(Q:VK):Prop
 |mk:∀(x:V)(tp:Addr)(cs:List String)(t:String)(b:Bool),(xs=[x,.ref tp])->(H tp=some (.tup (cs.map V.ty)))->(gJ X.K H x (.type t))->(iX t cs b)->(Q (.bl b) H)->C8 X xs H Q
theorem Jx:fR X (.builtin "isinstance") (fun xs H Q=>C8 X xs H Q):=by
 intro pins s σ H xs us Q I r h
 obtain⟨x,tp,cs,t,b,rfl,htp,ty,k,q⟩:=h
 obtain⟨u,u',rfl,ru,rc⟩:=sv r
 cases (show u'=aa.ref tp from rc)
 have fin:∀tk,EP X pins σ Q (.bool b) { s with toks:=tk}:=fun tk=>⟨.bl b,H,I.tok tk,rfl,q⟩
 obtain⟨_,its,rv,p⟩:=(show cu X.prog X.w H s.heap tp (.tup (cs.map V.ty))from I.hok tp _ htp)
 have eits:its=cs.map aa.type:=by
  have hl:=rv.length
  rw[zLM]at hl
  refine rB (by simp[hl]) fun i h1 h2=>?_
  have hi:i<cs.length:=by omega
  obtain⟨u,hu,ru⟩:=rv.get (show (cs.map V.ty)[i]?=some (V.ty cs[i])by simp[hi])
  rw[zGE h1]at hu
  cases hu
  rw[jl]
  exact ru
 subst eits
 obtain⟨⟨c,dd,dt,sl⟩,hp1,hp2,n,hp3⟩:=p
 simp only at hp2 hp3
 subst hp2 hp3
 have e:=k.ok (K:=X.K)
 cases ty with
 |non=>cases (show u=aa.none from ru);exact lA yS I.kIn True.intro hp1 e (fun z=>nomatch z) fin
 |bl y=>cases (show u=aa.bool y from ru);exact lA yT I.kIn True.intro hp1 e (fun z=>nomatch z) fin
 |int i=>obtain⟨t,q⟩:=(show ∃t,u=aa.int i t from ru);cases q;exact lA yU I.kIn True.intro hp1 e (fun z=>nomatch z) fin
 |str y=>obtain⟨t,q⟩:=(show ∃t,u=aa.str y t from ru);cases q;exact lA yV I.kIn True.intro hp1 e (fun z=>nomatch z) fin
 |flt y=>exact absurd rfl k.nots.1
 |@lst a xs ea=>
  cases (show u=aa.ref a from ru)
  obtain⟨_,_,n,_,h1⟩:=(show cu X.prog X.w H s.heap a (.lst xs)from I.hok a _ ea)
  exact lA rj I.kIn ⟨_,h1,rfl⟩ hp1 e (fun z=>nomatch z) fin
 |@frz a ob xs ea=>
  cases (show u=aa.ref a from ru)
  obtain⟨_,_,_,n,_,h1⟩:=(show cu X.prog X.w H s.heap a (.frz ob (.lst xs))from I.hok a _ ea)
  exact lA rj I.kIn ⟨_,h1,rfl⟩ hp1 e (fun z=>nomatch z) fin
 |@tup a xs ea=>
  cases (show u=aa.ref a from ru)
  obtain⟨_,_,_,p⟩:=(show cu X.prog X.w H s.heap a (.tup xs)from I.hok a _ ea)
  obtain⟨o,h1,h2,_⟩:=p
  exact lA yW I.kIn ⟨o,h1,h2⟩ hp1 e (fun z=>nomatch z) fin
 |@dK a kvs ea=>exact absurd rfl k.nots.2
 |@dT a kvs ea=>exact absurd rfl k.nots.2
theorem _root_.L2.Inv.turnedL{pins:List (Addr×aI)}{σ:L2.St}{H:Hp}{s:ah}{h':aA}{t':Nat}{ch:List Addr}(I:Inv X pins σ H s)(k:∀b o,b∉ch->s.heap.get? b=some o->h'.get? b=some o)(hf:∀b∈ch,d4 X pins H b):
 Inv X pins σ H { s with heap:=h',toks:=t'}:=by
 have nit:∀b u,H b=some u->b∉ch:=fun b u e z=>by rw[(hf b z).1]at e;cases e
 have hL:X.env.locals∉ch:=fun z=>(hf _ z).2.1 rfl
 refine I.step (g':=s.gens) (d':=s.drawn) (ch:=ch) (fun b hb=>?_) (fun b o _ _ hc e _=>k b o hc e) (fun b o _ _ hc e _=>⟨o.slots,k b o hc e⟩) (fun _ _ _ _ n=>n)
  (fun b o hc e=>⟨o,k b o hc e⟩) (fun _ _ e=>e) (fun _ _ _ e=>e) (fun b ps e=>⟨#[],by rw[e];simp⟩) (fun m hm=>?_) (fun b u e=>?_) I.bare
 ·obtain⟨f0,f1,f2,f3,f4,f5⟩:=hf b hb
  exact⟨f3,f1,f4,f5⟩
 ·obtain⟨o,es,ep,ho,r⟩:=hm
  exact⟨o,es,ep,k _ o hL ho,r⟩
 ·refine(I.hok b u e).stay (fun c v hc q=>k c v ?_ q) (fun _ q=>q) fun _ _ q=>q
  rcases hc with z|z
  ·rw[z];exact nit b u e
  ·exact nit c _ z
end
section
variable{X:Cx}{elts:List Expr}{epos:Pos}
end
theorem C9:∀{us:List aa}{ys:List ac},StrsAre us ys->aS (ys.map V.str) us
 |_,_,.nil=>.nil
 |_,_,.cons y t r=>.cons ⟨t,rfl⟩ (C9 r)
theorem Da:∀(p:ac)(l:List ac),risingS p l=true->(p::l).Pairwise fun a b=>¬b.cps.toList<a.cps.toList
 |p,[],_=>zp _ _
 |p,x::r,h=>by
  have h':(!ltCps x.cps.toList p.cps.toList&&risingS x r)=true:=h
  rw[iO,ltCps_eq]at h'
  have h1:¬x.cps.toList<p.cps.toList:=by simpa using h'.1
  have ih:=Da x r h'.2
  refine zq.mpr ⟨fun b hb=>?_,ih⟩
  rcases bF.mp hb with rfl|hb
  ·exact h1
  ·have h2:=List.rel_of_pairwise_cons ih hb
   intro z
   exact absurd (List.le_trans (vg.mp h1) (vg.mp h2)) (List.not_le.mpr z)
theorem Jy(l:List ac)(h:sortedS l=true):l.Pairwise fun a b=>¬b.cps.toList<a.cps.toList:=by
 cases l with
 |nil=>exact .nil
 |cons x r=>exact Da x r h
theorem Jz{X:Cx}(hc:X.calm=true):fR X (.builtin "sorted") (fun xs H Q=>∃(d:Addr)(kvs:List (Key×V))(ws:List ac),xs=[.ref d]/\H d=some (.dK kvs)/\kvs.map (·.1)=ws.map Sum.inr/\ws.length<64/\
 ∀(l:Addr)(ss:List ac),H l=none->ss.Perm ws->(ss.Pairwise fun a b=>¬b.cps.toList<a.cps.toList)->Q (.ref l) (ae H l (.lst (ss.map V.str)))):=by
 intro pins s σ H xs us Q I r h
 obtain⟨d,kvs,ws,rfl,hd,hks,hlen,q⟩:=h
 obtain⟨u,rfl,ru⟩:=r.one
 cases ru
 obtain⟨z,lo,vs,rel,dd⟩:=pV I.hok hd
 obtain⟨ep,hat⟩:=dd.dictAt
 have hkl:kvs.length=ws.length:=by have:=congrArg kz hks;simpa using this
 have hvl:=rel.length
 have hn:=gY
 refine Calls.call_function_entry kind_sorted plain_sorted entry_sorted (args_sorted1 _) ?_
 unfold dA.«sorted»
 refine ai (m:=checkCount "sorted" 1 1 _) (aR ?_)
 refine ai (PySem.W.kdu_collect (A:=X.A.in1) (y8 (knd:=cR X.prog X.w) (kvs:=vs) (ep:=ep) lo) (I.ok.hd hc) hat (by omega) fun h1 tk acc hk hacc=>?_)
 have hal:acc.toList.length=ws.length:=by rw[ni,hacc.1];omega
 have hS:StrsAre acc.toList ws:=by
  refine wG (tf (by simp[hal]) fun i x u e1 e2=>?_)
  obtain⟨k,y,hy,hky⟩:=hacc.2 i u (by rw[<-Am];exact e2)
  have hk1:(vs.map (·.1))[i]?=some k:=by rw[cV,hy];rfl
  rw[<-rel.keys,hks,cV]at hk1
  rw[cV]at e1
  cases hw:ws[i]? with
  |none=>rw[hw]at hk1;cases hk1
  |some w'=>
   rw[hw]at hk1 e1
   cases hk1
   cases e1
   exact tq hky
 have I1:Inv X pins σ H { s with heap:=h1,toks:=tk}:=I.kept hk
 refine ai (wpAny_newList ?_ (by rw[hal];omega))
 have ho:(h1.push (seqObj "list" acc.toList.toArray 0)).get? h1.objs.size=some (seqObj "list" acc.toList.toArray 0):=bY _ rfl
 have fresh:H h1.objs.size=none:=I1.fresh
 refine ai (gR (fF slot_list_sort ⟨_,ho,rfl⟩ entry_list_sort (list_sort_treeK strKind_oneLt ho hS.keysOf (fun v₁ v₂ rest e=>keyKind_strs (by rw[<-e];exact hS)) (by omega) fun st' hp hs=>⟨_,rfl,?_⟩) (args_list_sort _)))
 obtain⟨ss,g1,g2,g3⟩:=sorted_out_str hS hp hs
 obtain⟨e,he⟩:=sortedHeap_at (out:=(arrOf st').map (·.2)) ho
 refine aR ⟨_,rfl,?_⟩
 have hsl:(ss.map V.str).length<=sizeLine:=by rw[zLM,g2.length_eq];omega
 refine⟨.ref h1.objs.size,ae H h1.objs.size (.lst (ss.map V.str)),I1.laid (a:=h1.objs.size) (t':=tk) (fun b o eb=>?_) (aJ _) ⟨hsl,_,e,C9 g1,he⟩,rfl,q _ ss fresh g2 (Jy ss g3)⟩
 have hlt:b<h1.objs.size:=bm eb
 have hsz:(h1.push (seqObj "list" acc.toList.toArray 0)).objs.size=h1.objs.size+1:=ip ..
 rw[sortedHeap_old (cJ hlt) (by rw[hsz];exact u6 hlt)]
 exact br _ eb
theorem JA:bootBuiltins "sorted"=some (.builtin "sorted"):=by decide +kernel
mutual
def Tm.bl:Tm->List ac
 |.num _=>[]
 |.name _=>[]
 |.blank w=>[w]
 |.thing _ ps=>fq ps
def fq:List Tm->List ac
 |[]=>[]
 |p::r=>p.bl++fq r
end
def eT(acc:List ac):List ac->List ac
 |[]=>acc
 |x::r=>if x∈acc then eT acc r else eT (acc++[x]) r
theorem Db(acc a b:List ac):eT acc (a++b)=eT (eT acc a) b:=by
 induction a generalizing acc with
 |nil=>rfl
 |cons x r ih=>
  simp only[eL,eT]
  split<;>exact ih _
def Tm.firsts(t:Tm):List ac:=eT [] t.bl
mutual
def Tm.rp:Tm->List Tm
 |.num n=>[.num n]
 |.name w=>[.name w]
 |.blank w=>[.blank w]
 |.thing w ps=>.thing w ps::cb ps
def cb:List Tm->List Tm
 |[]=>[]
 |p::r=>cb r++p.rp
end
theorem wO(a b:List Tm):cb (a++b)=cb b++cb a:=by
 induction a with
 |nil=>simp[cb]
 |cons x r ih=>simp only[eL,cb,ih,d8]
def Tm.b1:Tm->List ac
 |.blank w=>[w]
 |_=>[]
theorem Dc(t:Tm):(t.rp.reverse.flatMap Tm.b1)=t.bl:=by
 induction t using Tm.ind with
 |h1 n=>rfl
 |h2 n=>rfl
 |h3 n=>rfl
 |h4 w ps ih=>
  have h:∀l:List Tm,(∀p∈l,p.rp.reverse.flatMap Tm.b1=p.bl)->(cb l).reverse.flatMap Tm.b1=fq l:=by
   intro l
   induction l with
   |nil=>intro _;rfl
   |cons p r ih2=>
    intro hp
    simp only[cb,lF,mV,fq]
    rw[hp p (by simp),ih2 fun q hq=>hp q (by simp[hq])]
  simp only[Tm.rp,gU,mV,h ps ih,Tm.bl]
  simp[Tm.b1]
theorem hV(t:Tm):t.rp.length=t.nodes:=by
 induction t using Tm.ind with
 |h1 n=>rfl
 |h2 n=>rfl
 |h3 n=>rfl
 |h4 w ps ih=>
  have h:∀l:List Tm,(∀p∈l,p.rp.length=p.nodes)->(cb l).length=aX l:=by
   intro l
   induction l with
   |nil=>intro _;rfl
   |cons p r ih2=>
    intro hp
    simp only[cb,zLA,aX]
    rw[hp p (by simp),ih2 fun q hq=>hp q (by simp[hq])]
    omega
  simp only[Tm.rp,zLC,h ps ih,Tm.nodes]
  omega
theorem mh(t:Tm):t.bl.length<=t.nodes:=by
 induction t using Tm.ind with
 |h1 n=>simp[Tm.bl,Tm.nodes]
 |h2 n=>simp[Tm.bl,Tm.nodes]
 |h3 n=>simp[Tm.bl,Tm.nodes]
 |h4 w ps ih=>
  have h:∀l:List Tm,(∀p∈l,p.bl.length<=p.nodes)->(fq l).length<=aX l:=by
   intro l
   induction l with
   |nil=>intro _;simp[fq]
   |cons p r ih2=>
    intro hp
    have:=hp p (by simp)
    have:=ih2 fun q hq=>hp q (by simp[hq])
    simp only[fq,zLA,aX]
    omega
  have:=h ps ih
  simp only[Tm.bl,Tm.nodes]
  omega
abbrev Fl:=List (ac×Tm)
def look(f:Fl)(w:ac):Option Tm:=(f.find? fun p=>decide (p.1=w)).map (·.2)
mutual
def Tm.fill(f:Fl):Tm->Tm
 |.num n=>.num n
 |.name w=>.name w
 |.blank w=>(look f w).getD (.blank w)
 |.thing w ps=>.thing w (hW f ps)
def hW(f:Fl):List Tm->List Tm
 |[]=>[]
 |p::r=>p.fill f::hW f r
end
theorem De(f:Fl)(ps:List Tm):hW f ps=ps.map (Tm.fill f):=by
 induction ps with
 |nil=>rfl
 |cons p r ih=>simp only[hW,ih,bP]
theorem Df(f:Fl)(ps:List Tm):(hW f ps).length=ps.length:=by rw[De,zLM]
mutual
def Tm.lp:Tm->List Tm
 |.num n=>[.num n]
 |.name w=>[.name w]
 |.blank w=>[.blank w]
 |.thing w ps=>.thing w ps::eE ps
def eE:List Tm->List Tm
 |[]=>[]
 |p::r=>p.lp++eE r
end
theorem JB(a b:List Tm):eE (a++b)=eE a++eE b:=by
 induction a with
 |nil=>rfl
 |cons x r ih=>simp only[eL,eE,ih,d8]
theorem JC{ps:List Tm}(h:∀p∈ps,p.lp.length=p.nodes):(eE ps).length=aX ps:=by
 induction ps with
 |nil=>rfl
 |cons p r ih=>
  simp only[eE,aX,zLA]
  rw[h p eZ,ih fun q hq=>h q (dC _ hq)]
theorem Dg(t:Tm):t.lp.length=t.nodes:=by
 induction t using Tm.ind with
 |h1 n=>rfl
 |h2 n=>rfl
 |h3 n=>rfl
 |h4 w ps ih=>simp only[Tm.lp,Tm.nodes,zLC,JC ih];omega
def wP(f:Fl)(made:List Tm):Tm->List Tm
 |.num n=>made++[.num n]
 |.name w=>made++[.name w]
 |.blank w=>made++[(look f w).getD (.blank w)]
 |.thing w ps=>made.take (made.length - ps.length)++[.thing w (made.drop (made.length - ps.length)).reverse]
def iG(f:Fl):List Tm->List Tm->List Tm
 |made,[]=>made
 |made,t::r=>iG f (wP f made t) r
theorem tz(f:Fl):∀(a made b:List Tm),iG f made (a++b)=iG f (iG f made a) b
 |[],_,_=>rfl
 |x::r,made,b=>tz f r _ b
theorem JD(f:Fl){ps:List Tm}(h:∀p∈ps,∀made,iG f made p.lp.reverse=made++[p.fill f]):∀made,iG f made (eE ps).reverse=made++(hW f ps).reverse:=by
 induction ps with
 |nil=>intro made;simp[eE,hW,iG]
 |cons p r ih=>
  intro made
  simp only[eE,hW,lF,gU]
  rw[tz,ih (fun q hq=>h q (dC _ hq)) made,h p eZ,d8]
theorem JE(f:Fl)(t:Tm):∀made,iG f made t.lp.reverse=made++[t.fill f]:=by
 induction t using Tm.ind with
 |h1 n=>intro made;rfl
 |h2 n=>intro made;rfl
 |h3 n=>intro made;rfl
 |h4 w ps ih=>
  intro made
  simp only[Tm.lp,gU]
  rw[tz,JD f ih made]
  simp only[iG,wP,Tm.fill]
  have e:(made++(hW f ps).reverse).length - ps.length=made.length:=by simp[Df]
  rw[e]
  simp
theorem iH{f:Fl}{w:ac}{t:Tm}(h:look f w=some t):(w,t)∈f:=by
 unfold look at h
 cases e:f.find? (fun p=>decide (p.1=w))with
 |none=>rw[e]at h;cases h
 |some p=>
  rw[e]at h
  have h1:=List.mem_of_find?_eq_some e
  have h2:=List.find?_some e
  simp only[decide_eq_true_eq]at h2
  obtain⟨a,b⟩:=p
  simp only[nj,m9]at h h2
  subst h h2
  exact h1
def cF:Nat->List Tm->Prop
 |_,[]=>True
 |m,.thing _ ps::r=>ps.length<=m/\cF (m - ps.length+1) r
 |m,_::r=>cF (m+1) r
theorem JF{ps:List Tm}(h:∀p∈ps,∀m r,cF m (p.lp.reverse++r)↔cF (m+1) r):∀m r,cF m ((eE ps).reverse++r)↔cF (m+ps.length) r:=by
 induction ps with
 |nil=>intro m r;simp[eE]
 |cons p q ih=>
  intro m r
  simp only[eE,lF,d8,zLC]
  rw[ih (fun x hx=>h x (dC _ hx)),h p eZ]
  have e:m+q.length+1=m+(q.length+1):=by omega
  rw[e]
theorem JG(t:Tm):∀m r,cF m (t.lp.reverse++r)↔cF (m+1) r:=by
 induction t using Tm.ind with
 |h1 n=>intro m r;simp[Tm.lp,cF]
 |h2 n=>intro m r;simp[Tm.lp,cF]
 |h3 n=>intro m r;simp[Tm.lp,cF]
 |h4 w ps ih=>
  intro m r
  simp only[Tm.lp,gU,d8,vh]
  rw[JF ih]
  simp only[cF]
  have e:m+ps.length - ps.length+1=m+1:=by omega
  rw[e]
  exact⟨fun h=>h.2,fun h=>⟨by omega,h⟩⟩
theorem JH(t:Tm):cF 0 t.lp.reverse:=by
 have:=(JG t 0 []).mpr trivial
 simpa using this
mutual
def Dt.size:Dt->Nat
 |.int _=>1
 |.str _=>1
 |.tup l=>1+dh l
 |.lst l=>1+dh l
def dh:List Dt->Nat
 |[]=>0
 |d::r=>d.size+dh r
end
theorem Dt.size_pos(d:Dt):1<=d.size:=by cases d<;>simp only[Dt.size]<;>omega
theorem wQ(a b:List Dt):dh (a++b)=dh a+dh b:=by
 induction a with
 |nil=>simp[dh]
 |cons x r ih=>simp only[eL,dh,ih];omega
theorem wR(a:List Dt):a.length<=dh a:=by
 induction a with
 |nil=>simp[dh]
 |cons x r ih=>have:=x.size_pos;simp only[zLC,dh];omega
theorem JI{ps:List Tm}(h:∀p∈ps,p.dt.size<=4 * p.nodes):dh (dq ps)<=4 * aX ps:=by
 induction ps with
 |nil=>simp[dq,dh,aX]
 |cons p r ih=>
  simp only[dq,dh,aX]
  have h1:=h p eZ
  have h2:=ih fun q hq=>h q (dC _ hq)
  omega
theorem wS(t:Tm):t.dt.size<=4 * t.nodes:=by
 induction t using Tm.ind with
 |h1 n=>simp[Tm.dt,Dt.size,dh,Tm.nodes]
 |h2 n=>simp[Tm.dt,Dt.size,dh,Tm.nodes]
 |h3 n=>simp[Tm.dt,Dt.size,dh,Tm.nodes]
 |h4 w ps ih=>
  have:=JI ih
  simp only[Tm.dt,Dt.size,dh,Tm.nodes]
  omega
def dW(H:Hp)(ps:List V)(f:Fl):Prop:=Paired (fun x p=>∃a v,x= .ref a/\H a=some (.tup [.str p.1,v])/\aw H v p.2) ps f
def mi(H:Hp)(kvs:List (Key×V))(f:Fl):Prop:=∀w:ac,(look f w=none->bQ kvs (Sum.inr w)=none)/\∀t,look f w=some t->∃v,bQ kvs (Sum.inr w)=some v/\aw H v t
theorem jZ{α β:Type}{F G:α->β->Prop}(h:∀a b,F a b->G a b):∀{l:List α}{m:List β},Paired F l m->Paired G l m
 |_,_,.nil=>.nil
 |_,_,.cons a r=>.cons (h _ _ a) (jZ h r)
theorem dW.mono{H H':Hp}{ps:List V}{f:Fl}(k:aV H H')(h:dW H ps f):dW H' ps f:=jZ (fun _ _ ⟨a,v,e,h1,h2⟩=>⟨a,v,e,k _ _ h1,h2.mono k⟩) h
theorem mi.mono{H H':Hp}{kvs:List (Key×V)}{f:Fl}(k:aV H H')(h:mi H kvs f):mi H' kvs f:=fun w=>⟨(h w).1,fun t ht=>let ⟨v,h1,h2⟩:=(h w).2 t ht;⟨v,h1,h2.mono k⟩⟩
theorem dW.len{H:Hp}{ps:List V}{f:Fl}(h:dW H ps f):ps.length=f.length:=Paired.length h
theorem Dh(k:Key):bQ ([]:List (Key×V)) k=none:=rfl
theorem nH(p:Key×V)(r:List (Key×V))(k:Key):bQ (p::r) k=if p.1=k then some p.2 else bQ r k:=by
 by_cases e:p.1=k
 ·rw[if_pos e,iA e]
 ·rw[if_neg e,iB e]
theorem Di:∀{kvs:List (Key×V)}{k:Key},k∉kvs.map (·.1)->bQ kvs k=none
 |[],_,_=>rfl
 |p::r,k,h=>by
  rw[nH,if_neg (fun e=>h (by rw[<-e];simp))]
  exact Di fun z=>h (by rw[bP];exact dC _ z)
theorem Dj:∀(kvs acc:List (Key×V))(k:Key),(kvs.map (·.1)).Nodup->bQ (iF acc kvs) k=(bQ kvs k).or (bQ acc k)
 |[],acc,k,_=>by simp[iF,Dh]
 |p::r,acc,k,h=>by
  rw[bP,iN]at h
  have ih:=Dj r (cS acc p.1 p.2) k h.2
  simp only[iF,rF]at ih |-
  rw[ih,sM,nH]
  by_cases e:p.1=k
  ·subst e
   rw[if_pos rfl,if_pos rfl,Di h.1]
   rfl
  ·rw[if_neg e,if_neg (fun z=>e z.symm)]
theorem qi(p:ac×Tm)(r:Fl)(w:ac):look (p::r) w=if p.1=w then some p.2 else look r w:=by
 unfold look
 rw[kH]
 by_cases e:p.1=w
 ·simp[e]
 ·simp[e]
theorem Dk{H:Hp}:∀{ps:List V}{f:Fl},dW H ps f->∃kvs:List (Key×V),tw H ps kvs/\kvs.map (·.1)=f.map (fun p=>Sum.inr p.1)/\∀w:ac,(look f w=none->bQ kvs (Sum.inr w)=none)/\∀t,look f w=some t->∃v,bQ kvs (Sum.inr w)=some v/\aw H v t
 |_,_,.nil=>⟨[],.nil,rfl,fun w=>⟨fun _=>rfl,fun t h=>by simp[look]at h⟩⟩
 |_::_,p::f,.cons ⟨a,v,e,h1,h2⟩ r=>by
  obtain⟨kvs,g1,g2,g3⟩:=Dk r
  refine⟨(Sum.inr p.1,v)::kvs,.cons ⟨a,e,h1⟩ g1,by simp[g2],fun w=>?_⟩
  rw[qi,nH]
  by_cases c:p.1=w
  ·rw[if_pos c,if_pos (by rw[c])]
   exact⟨fun z=>(by cases z),fun t z=>⟨v,rfl,by cases z;exact h2⟩⟩
  ·rw[if_neg c,if_neg (fun z=>c (kM z))]
   exact g3 w
theorem JJ{H:Hp}{ps:List V}{f:Fl}(h:dW H ps f)(hn:(f.map (·.1)).Nodup):∃kvs:List (Key×V),tw H ps kvs/\mi H (iF [] kvs) f:=by
 obtain⟨kvs,g1,g2,g3⟩:=Dk h
 refine⟨kvs,g1,fun w=>?_⟩
 have hk:(kvs.map (·.1)).Nodup:=by
  rw[g2]
  have e:f.map (fun p=>(Sum.inr p.1:Key))=(f.map (·.1)).map Sum.inr:=by rw[lG];rfl
  rw[e]
  exact pA.mpr (hn.imp fun hab e=>hab (kM e))
 rw[Dj kvs [] _ hk,Dh,vN]
 exact g3 w
theorem dW.get{H:Hp}{ps:List V}{f:Fl}(h:dW H ps f)(i:Nat)(h1:i<ps.length)(h2:i<f.length):∃a v,ps[i]= .ref a/\H a=some (.tup [.str f[i].1,v])/\aw H v f[i].2:=by
 obtain⟨b,hb,hp⟩:=qc h (zGE h1)
 rw[zGE h2]at hb
 cases hb
 exact hp
theorem dW.app{H:Hp}{ps:List V}{f:Fl}{x:V}{p:ac×Tm}(h:dW H ps f)(hx:∃a v,x= .ref a/\H a=some (.tup [.str p.1,v])/\aw H v p.2):dW H (ps++[x]) (f++[p]):=Paired.snoc h hx
def wT(p:Addr)(H H':Hp):Prop:=∀b o,b≠p->H b=some o->H' b=some o
def j3(t:Tm)(w:ac):Bool:=match t with
 |.blank x=>decide (x=w)
 |_=>false
theorem tD(t:Tm)(w:ac):j3 t w=true↔t= .blank w:=by
 cases t with
 |blank x=>simp[j3]
 |_=>simp[j3]
def cM(f:Fl):List ac->Fl
 |[]=>[]
 |w::r=>(match look f w with|some t=>if j3 t w=true then []else [(w,t)]|none=>[])++cM f r
theorem j4{f:Fl}:∀{ss:List ac}{p:ac×Tm},p∈cM f ss->p.1∈ss/\look f p.1=some p.2/\p.2≠ .blank p.1
 |[],_,h=>by simp[cM]at h
 |w::r,p,h=>by
  simp only[cM]at h
  rcases bR.mp h with h|h
  ·cases e:look f w with
   |none=>rw[e]at h;simp at h
   |some t=>
    rw[e]at h
    by_cases c:j3 t w=true
    ·simp[c]at h
    ·simp only[c,iP,if_false,bZ]at h
     subst h
     exact⟨eZ,e,fun z=>c ((tD _ _).mpr z)⟩
  ·obtain⟨a,b⟩:=j4 h
   exact⟨dC _ a,b⟩
theorem Dl{f:Fl}:∀{ss:List ac},ss.Pairwise (fun a b=>a.cps.toList<b.cps.toList)->(cM f ss).Pairwise (fun p q=>p.1.cps.toList<q.1.cps.toList)
 |[],_=>.nil
 |w::r,h=>by
  simp only[cM]
  rw[List.pairwise_append]
  obtain⟨h1,h2⟩:=zq.mp h
  refine⟨?_,Dl h2,fun p hp q hq=>?_⟩
  ·split
   ·split
    ·exact .nil
    ·exact zp _ _
   ·exact .nil
  ·have e:p.1=w:=by
        split at hp
        ·split at hp
         ·simp at hp
         ·simp only[bZ]at hp;rw[hp]
        ·simp at hp
   rw[e]
   exact h1 _ (j4 hq).1
theorem qj(a b:Fl)(w:ac):look (a++b) w=(look a w).or (look b w):=by
 unfold look
 rw[List.find?_append]
 cases a.find? (fun p=>decide (p.1=w))<;>rfl
theorem wU{f:Fl}:∀{ss:List ac}{w:ac},w∈ss->(look (cM f ss) w).getD (.blank w)=(look f w).getD (.blank w)
 |[],_,h=>by simp at h
 |x::r,w,h=>by
  simp only[cM]
  rw[qj]
  by_cases e:x=w
  ·subst e
   cases hx:look f x with
   |none=>
    simp only
    rw[show look ([]:Fl) x=none from rfl,rZ]
    by_cases hr:x∈r
    ·rw[wU hr,hx]
    ·have:look (cM f r) x=none:=by
         cases e:look (cM f r) x with
         |none=>rfl
         |some t=>exact absurd (j4 (iH e)).1 hr
     rw[this]
   |some t=>
    by_cases c:j3 t x=true
    ·simp only[c,if_true]
     rw[show look ([]:Fl) x=none from rfl,rZ]
     have et:=(tD _ _).mp c
     have:look (cM f r) x=none:=by
         cases e:look (cM f r) x with
         |none=>rfl
         |some t'=>
          have:=(j4 (iH e)).2
          rw[hx]at this
          exact absurd et (by rw[cQ this.1];exact this.2)
     rw[this,et]
     rfl
    ·simp only[c,iP,if_false]
     have:look [(x,t)] x=some t:=by simp[look]
     rw[this]
     rfl
  ·have hr:w∈r:=by
        rcases bF.mp h with z|z
        ·exact absurd z.symm e
        ·exact z
   have:look (match look f x with|some t=>if j3 t x=true then []else [(x,t)]|none=>[]) w=none:=by
        split
        ·split
         ·rfl
         ·simp[look,e]
        ·rfl
   rw[this,rZ]
   exact wU hr
theorem JK{f:Fl}{ss:List ac}{w:ac}(h:w∉ss):look (cM f ss) w=none:=by
 cases e:look (cM f ss) w with
 |none=>rfl
 |some t=>exact absurd (j4 (iH e)).1 h
theorem wV{f:Fl}{w:ac}(h:w∈f.map (·.1)):∃t,look f w=some t:=by
 induction f with
 |nil=>simp at h
 |cons p r ih=>
  by_cases e:p.1=w
  ·exact⟨p.2,by simp[look,e]⟩
  ·rw[bP]at h
   rcases bF.mp h with z|z
   ·exact absurd z.symm e
   ·obtain⟨t,ht⟩:=ih z
    exact⟨t,by simpa[look,e]using ht⟩
theorem kW{f:Fl}{w:ac}(h:w∉f.map (·.1)):look f w=none:=by
 cases e:look f w with
 |none=>rfl
 |some t=>exact absurd (bL.mpr ⟨_,iH e,rfl⟩) h
def tE(f:Fl)(made:List Tm):Tm->List Tm
 |.num n=>made++[.num n]
 |.name w=>made++[.name w]
 |.blank w=>made++[(look f w).getD (.blank w)]
 |.thing w ps=>made.take (made.length - ps.length)++[.thing w (made.drop (made.length - ps.length))]
def hX(f:Fl):List Tm->List Tm->List Tm
 |made,[]=>made
 |made,t::r=>hX f (tE f made t) r
theorem tF(f:Fl):∀(a made b:List Tm),hX f made (a++b)=hX f (hX f made a) b
 |[],_,_=>rfl
 |x::r,made,b=>tF f r _ b
theorem JL(f:Fl){ps:List Tm}(h:∀p∈ps,∀made,hX f made p.rp.reverse=made++[p.fill f]):∀made,hX f made (cb ps).reverse=made++hW f ps:=by
 induction ps with
 |nil=>intro made;simp[cb,hW,hX]
 |cons p r ih=>
  intro made
  simp only[cb,hW,lF]
  rw[tF,h p eZ,ih (fun q hq=>h q (dC _ hq))]
  simp
theorem JM(f:Fl)(t:Tm):∀made,hX f made t.rp.reverse=made++[t.fill f]:=by
 induction t using Tm.ind with
 |h1 n=>intro made;rfl
 |h2 n=>intro made;rfl
 |h3 n=>intro made;rfl
 |h4 w ps ih=>
  intro made
  simp only[Tm.rp,gU]
  rw[tF,JL f ih made]
  simp only[hX,tE,Tm.fill]
  have e:(made++hW f ps).length - ps.length=made.length:=by simp[Df]
  rw[e]
  simp
theorem JN{ps:List Tm}(h:∀p∈ps,∀m r,cF m (p.rp.reverse++r)↔cF (m+1) r):∀m r,cF m ((cb ps).reverse++r)↔cF (m+ps.length) r:=by
 induction ps with
 |nil=>intro m r;simp[cb]
 |cons p q ih=>
  intro m r
  simp only[cb,lF,d8,zLC]
  rw[h p eZ,ih (fun x hx=>h x (dC _ hx))]
  have e:m+1+q.length=m+(q.length+1):=by omega
  rw[e]
theorem JO(t:Tm):∀m r,cF m (t.rp.reverse++r)↔cF (m+1) r:=by
 induction t using Tm.ind with
 |h1 n=>intro m r;simp[Tm.rp,cF]
 |h2 n=>intro m r;simp[Tm.rp,cF]
 |h3 n=>intro m r;simp[Tm.rp,cF]
 |h4 w ps ih=>
  intro m r
  simp only[Tm.rp,gU,d8,vh]
  rw[JN ih]
  simp only[cF]
  have e:m+ps.length - ps.length+1=m+1:=by omega
  rw[e]
  exact⟨fun h=>h.2,fun h=>⟨by omega,h⟩⟩
theorem JP(t:Tm):cF 0 t.rp.reverse:=by
 have:=(JO t 0 []).mpr trivial
 simpa using this
mutual
def Tm.dp:Tm->Nat
 |.num _=>1
 |.name _=>1
 |.blank _=>1
 |.thing _ ps=>1+iY ps
def iY:List Tm->Nat
 |[]=>0
 |p::r=>max p.dp (iY r)
end
theorem wW{n:Nat}:∀{l:List Tm},(∀t∈l,t.dp<=n)->iY l<=n
 |[],_=>by simp[iY]
 |t::r,h=>by
  have h1:=h t eZ
  have h2:=wW (l:=r) fun x hx=>h x (dC _ hx)
  simp only[iY];omega
theorem Dm{t:Tm}:∀{l:List Tm},t∈l->t.dp<=iY l
 |x::r,h=>by
  rcases bF.mp h with rfl|h
  ·simp only[iY];omega
  ·have:=Dm h;simp only[iY];omega
theorem Dn(t:Tm):t.dp<=t.nodes:=by
 induction t using Tm.ind with
 |h1 n=>simp[Tm.dp,Tm.nodes]
 |h2 n=>simp[Tm.dp,Tm.nodes]
 |h3 n=>simp[Tm.dp,Tm.nodes]
 |h4 w ps ih=>
  have:iY ps<=aX ps:=wW fun p hp=>dJ (ih p hp) (sQ hp)
  simp only[Tm.dp,Tm.nodes];omega
theorem tG(t:Tm):t.dt.dep<=2 * t.dp:=by
 induction t using Tm.ind with
 |h1 n=>simp[Tm.dt,Dt.dep,eC,Tm.dp]
 |h2 n=>simp[Tm.dt,Dt.dep,eC,Tm.dp]
 |h3 n=>simp[Tm.dt,Dt.dep,eC,Tm.dp]
 |h4 w ps ih=>
  have:eC (dq ps)<=2 * iY ps:=by
   rw[fj]
   refine wA fun d hd=>?_
   obtain⟨p,hp,rfl⟩:=bL.mp hd
   have:=ih p hp
   have:=Dm hp
   omega
  simp only[Tm.dt,Dt.dep,eC,Tm.dp]
  omega
def dw(H:Hp)(kvs:List (Key×V))(f:Fl):Prop:=Paired (fun kv p=>kv.1=Sum.inr p.1/\aw H kv.2 p.2) kvs f
theorem dw.mono{H H':Hp}{kvs:List (Key×V)}{f:Fl}(k:aV H H')(h:dw H kvs f):dw H' kvs f:=jZ (fun _ _ ⟨e,h2⟩=>⟨e,h2.mono k⟩) h
theorem dw.len{H:Hp}{kvs:List (Key×V)}{f:Fl}(h:dw H kvs f):kvs.length=f.length:=Paired.length h
theorem dw.keys{H:Hp}:∀{kvs:List (Key×V)}{f:Fl},dw H kvs f->kvs.map (·.1)=(f.map (·.1)).map Sum.inr
 |_,_,.nil=>rfl
 |_::_,_::_,.cons h r=>by
  simp only[bP]
  rw[h.1,dw.keys r]
theorem dw.dof{H:Hp}:∀{kvs:List (Key×V)}{f:Fl},dw H kvs f->mi H kvs f
 |_,_,.nil=>fun w=>⟨fun _=>rfl,fun t h=>by simp[look]at h⟩
 |kv::_,p::_,.cons h r=>fun w=>by
  have ih:=dw.dof r w
  rw[qi,nH,h.1]
  by_cases c:p.1=w
  ·rw[if_pos c,if_pos (by rw[c])]
   exact⟨fun z=>(by cases z),fun t z=>⟨kv.2,rfl,by cases z;exact h.2⟩⟩
  ·rw[if_neg c,if_neg (fun z=>c (kM z))]
   exact ih
section
variable{X:Cx}
inductive Do(X:Cx)(x:V)(y:V)(H:Hp)(Q:VK):Prop
 |mk:∀t u,(aw H x t)->(aw H y u)->(X.A.units+t.dt.dep<cLine)->(∀b,(b=true↔t=u)->Q (.bl b) H)->Do X x y H Q
theorem Dp:cL X (compareOp .Eq) (fun x y H Q=>Do X x y H Q):=by
 intro pins s σ H x y v u Q I rx ry h
 obtain⟨t,t',h,h',hu,q⟩:=h
 obtain⟨l,e⟩:=t.isTup
 obtain⟨m,e'⟩:=t'.isTup
 refine IB pins s σ H x y v u Q I rx ry ⟨l,m,by rw[<-e];exact h,by rw[<-e'];exact h',by rw[<-e];exact hu,fun b hb=>q b (hb.trans ?_)⟩
 constructor
 ·intro z;exact Tm.dt_inj _ _ (by rw[e,e',z])
 ·rintro rfl;rw[e]at e';cases e';rfl
inductive Dq(X:Cx)(x:V)(y:V)(H:Hp)(Q:VK):Prop
 |mk:∀t u,(aw H x t)->(aw H y u)->(X.A.units+t.dt.dep<cLine)->(∀b,(b=true↔¬t=u)->Q (.bl b) H)->Dq X x y H Q
theorem Dr:cL X (compareOp .NotEq) (fun x y H Q=>Dq X x y H Q):=by
 intro pins s σ H x y v u Q I rx ry h
 obtain⟨t,t',h,h',hu,q⟩:=h
 obtain⟨l,e⟩:=t.isTup
 obtain⟨m,e'⟩:=t'.isTup
 refine sT pins s σ H x y v u Q I rx ry ⟨l,m,by rw[<-e];exact h,by rw[<-e'];exact h',by rw[<-e];exact hu,fun b hb=>q b (hb.trans (not_congr ?_))⟩
 constructor
 ·intro z;exact Tm.dt_inj _ _ (by rw[e,e',z])
 ·rintro rfl;rw[e]at e';cases e';rfl
end
theorem wX(f:Fl):∀(a:List ac)(w:ac),cM f (a++[w])=cM f a++cM f [w]
 |[],w=>rfl
 |x::r,w=>by
  rw[eL]
  show _++cM f (r++[w])=(_++cM f r)++cM f [w]
  rw[wX f r w,d8]
theorem JQ{f:Fl}{w:ac}{t:Tm}(h:look f w=some t)(c:t= .blank w):cM f [w]=[]:=by
 have:j3 t w=true:=(tD _ _).mpr c
 simp only[cM,h,this,if_true,jG]
theorem JR{f:Fl}{w:ac}{t:Tm}(h:look f w=some t)(c:¬t= .blank w):cM f [w]=[(w,t)]:=by
 have:j3 t w=false:=fH.mpr fun z=>c ((tD _ _).mp z)
 simp only[cM,h,this,iP,if_false,jG]
theorem JS{x y:ac}(h:x.cps.toList=y.cps.toList):x=y:=by
 obtain⟨⟨a⟩⟩:=x
 obtain⟨⟨b⟩⟩:=y
 have h':a=b:=h
 rw[h']
theorem JT{ss ws:List ac}(hp:ss.Perm ws)(hn:ws.Nodup)(h:ss.Pairwise fun a b=>¬b.cps.toList<a.cps.toList):ss.Pairwise fun a b=>a.cps.toList<b.cps.toList:=by
 have hn':ss.Nodup:=hp.nodup_iff.mpr hn
 refine(List.Pairwise.and h hn').imp ?_
 rintro a b ⟨h1,h2⟩
 rcases List.le_iff_lt_or_eq.mp (vg.mp h1)with z|z
 ·exact z
 ·exact absurd (JS z) h2
def cX:Tm->Bool|.blank _=>true|_=>false
def cc:Tm->Bool|.thing _ _=>true|_=>false
theorem wY{w:ac}:∀{l acc:List ac},w∈eT acc l↔w∈acc\/w∈l
 |[],acc=>by simp[eT]
 |x::r,acc=>by
  simp only[eT]
  split
  ·next h=>
   rw[wY]
   constructor
   ·rintro(a|a)
    ·exact .inl a
    ·exact .inr (dC _ a)
   ·rintro(a|a)
    ·exact .inl a
    ·rcases bF.mp a with rfl|a
     ·exact .inl h
     ·exact .inr a
  ·rw[wY,bR,bZ,bF]
   constructor
   ·rintro((a|a)|a)
    ·exact .inl a
    ·exact .inr (.inl a)
    ·exact .inr (.inr a)
   ·rintro(a|a|a)
    ·exact .inl (.inl a)
    ·exact .inl (.inr a)
    ·exact .inr a
theorem ld{w:ac}{t:Tm}:w∈t.firsts↔w∈t.bl:=by
 unfold Tm.firsts
 rw[wY]
 simp
theorem Ds{w:ac}{t:Tm}:w∈t.b1↔t= .blank w:=by
 cases t with
 |blank x=>simp only[Tm.b1,bZ,Tm.blank.injEq];exact eq_comm
 |_=>simp[Tm.b1]
theorem tH{w:ac}{t:Tm}:Tm.blank w∈t.rp.reverse↔w∈t.bl:=by
 rw[<-Dc,zo]
 constructor
 ·intro h;exact⟨_,h,Ds.mpr rfl⟩
 ·rintro⟨p,hp,hw⟩
  rw[<-Ds.mp hw]
  exact hp
theorem JU{ps:List Tm}(h:∀p∈ps,p.lp.flatMap Tm.b1=p.bl):(eE ps).flatMap Tm.b1=fq ps:=by
 induction ps with
 |nil=>rfl
 |cons p r ih=>simp only[eE,fq,mV,h p eZ,ih fun q hq=>h q (dC _ hq)]
theorem JV(t:Tm):t.lp.flatMap Tm.b1=t.bl:=by
 induction t using Tm.ind with
 |h1 n=>rfl
 |h2 n=>rfl
 |h3 n=>rfl
 |h4 w ps ih=>
  simp only[Tm.lp,Tm.bl,rD,Tm.b1,iq]
  exact JU ih
abbrev Ln:=Tm×Tm
def tI(R:List Ln):Prop:=(∀p∈R,cX p.1=true)/\(∀i (h:i<R.length),∃w,(R[(i+1) % R.length]'(eY _ (by omega))).1= .blank w/\w∈(R[i]).2.bl)/\∃p∈R,cc p.2=true
theorem JW{ps:List Tm}(h:∀p∈ps,∀u∈p.rp,u.nodes<=p.nodes):∀u∈cb ps,u.nodes<=aX ps:=by
 induction ps with
 |nil=>intro u hu;simp[cb]at hu
 |cons p r ih=>
  intro u hu
  simp only[cb]at hu
  simp only[aX]
  rcases bR.mp hu with z|z
  ·have:=ih (fun q hq=>h q (dC _ hq)) u z
   omega
  ·have:=h p eZ u z
   omega
theorem tJ{t u:Tm}:u∈t.rp->u.nodes<=t.nodes:=by
 induction t using Tm.ind generalizing u with
 |h1 n=>intro h;simp only[Tm.rp,bZ]at h;rw[h];exact aJ _
 |h2 n=>intro h;simp only[Tm.rp,bZ]at h;rw[h];exact aJ _
 |h3 n=>intro h;simp only[Tm.rp,bZ]at h;rw[h];exact aJ _
 |h4 w ps ih=>
  intro h
  simp only[Tm.rp]at h
  rcases bF.mp h with z|z
  ·rw[z];exact aJ _
  ·have:=JW (fun p hp u hu=>ih p hp hu) u z
   simp only[Tm.nodes]
   omega
theorem JX(t:Tm):t.dt.dep<=2 * t.nodes:=t.dep_le
theorem aw.kind{H:Hp}{v:V}{t:Tm}(h:aw H v t):∃a xs k,v= .ref a/\H a=some (.tup (.str k::xs))/\(k="blank"↔cX t=true)/\(k="thing"↔cc t=true):=by
 cases t with
 |num n=>
  obtain⟨a,rfl,e⟩:=fm.mp h
  exact⟨a,_,_,rfl,e,by simp[cX,wy],by simp[cc,BZ]⟩
 |name n=>
  obtain⟨a,rfl,e⟩:=eD.mp h
  exact⟨a,_,_,rfl,e,by simp[cX,wz],by simp[cc,B0]⟩
 |blank n=>
  obtain⟨a,rfl,e⟩:=dU.mp h
  exact⟨a,_,_,rfl,e,by simp[cX],by simp[cc,B1]⟩
 |thing n ps=>
  obtain⟨a,b,vs,rfl,e,_⟩:=dr.mp h
  exact⟨a,_,_,rfl,e,by simp[cX,B5],by simp[cc]⟩
def eG(k:Nat):List Nat:=[97+k % 3,97+k / 3 % 3,97+k / 9 % 3]++(if 26<k then [97+k / 27 % 26]else [])
theorem Du{x:ac}{k:Nat}(h:x.cps.toList=eG k):Wd x:=by
 unfold Wd
 rw[h]
 unfold eG
 have h1:=eY k (show 0<3 by decide)
 have h2:=eY (k / 3) (show 0<3 by decide)
 have h3:=eY (k / 9) (show 0<3 by decide)
 have h4:=eY (k / 27) (show 0<26 by decide)
 by_cases c:26<k
 ·rw[if_pos c]
  refine⟨by simp,by simp,fun y hy=>?_⟩
  simp only[eL,iq,bF,fG,or_false]at hy
  omega
 ·rw[if_neg c]
  refine⟨by simp,by simp,fun y hy=>?_⟩
  simp only[jG,bF,fG,or_false]at hy
  omega
theorem JY{j k:Nat}(hj:j<700)(hk:k<700)(h:eG j=eG k):j=k:=by
 unfold eG at h
 simp only[eL,iq,jK]at h
 obtain⟨h1,h2,h3,h4⟩:=h
 by_cases c:26<j
 ·by_cases d:26<k
  ·rw[if_pos c,if_pos d]at h4
   simp only[jK,and_true]at h4
   omega
  ·rw[if_pos c,if_neg d]at h4
   cases h4
 ·by_cases d:26<k
  ·rw[if_neg c,if_pos d]at h4
   cases h4
  ·omega
def iZ(w:ac):Prop:=∃c r,w.cps.toList=c::r/\120<=c/\r.length<=38
theorem wZ:iZ "x"/\iZ "y"/\iZ "z":=by
 unfold iZ
 exact⟨⟨120,[],by decide +kernel,by decide,by decide⟩,⟨121,[],by decide +kernel,by decide,by decide⟩,⟨122,[],by decide +kernel,by decide,by decide⟩⟩
theorem JZ(x:ac)(hl:x.cps.toList.length<=30):iZ ((("zz":ac))++x):=by
 refine⟨122,122::x.cps.toList,?_,by decide,by rw[zLC];omega⟩
 rw[gn]
 have e:(("zz":ac)).cps.toList=[122,122]:=by decide +kernel
 rw[e]
 rfl
theorem J0{w:ac}{k:Nat}(h:iZ w):w.cps.toList≠eG k:=by
 obtain⟨c,r,e,hc,_⟩:=h
 rw[e]
 unfold eG
 intro z
 simp only[eL,jK]at z
 omega
def qk:Tm->Prop
 |.blank w=>iZ w
 |.thing _ _=>False
 |_=>True
def j5(m:Nat)(seen:List Tm)(t p:Tm):Prop:=∃x i,p= .blank x/\x.cps.toList=eG (i % m)/\seen[i]?=some t
mutual
def cw(m:Nat)(seen:List Tm):Tm->Tm->Prop
 |.num n,p=>j5 m seen (.num n) p\/p= .num n
 |.name w,p=>j5 m seen (.name w) p\/p= .name w
 |.blank w,p=>j5 m seen (.blank w) p\/(p= .blank w/\iZ w)
 |.thing w ts,p=>j5 m seen (.thing w ts) p\/∃ps,p= .thing w ps/\gr m seen ts ps
def gr(m:Nat)(seen:List Tm):List Tm->List Tm->Prop
 |[],ps=>ps=[]
 |t::ts,ps=>∃p r,ps=p::r/\cw m seen t p/\gr m seen ts r
end
theorem cw.inn{m:Nat}{seen:List Tm}{t p:Tm}(h:j5 m seen t p):cw m seen t p:=by
 cases t<;>simp only[cw]<;>exact .inl h
theorem cw.leaf{m:Nat}{seen:List Tm}{t:Tm}(h:qk t):cw m seen t t:=by
 cases t with
 |thing w ts=>exact h.elim
 |blank w=>simp only[cw];exact .inr ⟨trivial,h⟩
 |num n=>simp[cw]
 |name w=>simp[cw]
theorem cw.thing{m:Nat}{seen:List Tm}{w:ac}{ts ps:List Tm}(h:gr m seen ts ps):cw m seen (.thing w ts) (.thing w ps):=by
 simp only[cw]
 exact .inr ⟨ps,rfl,h⟩
theorem tK{m:Nat}{seen:List Tm}{t p u:Tm}(h:j5 m seen t p):j5 m (seen++[u]) t p:=by
 obtain⟨x,i,e,h1,h2⟩:=h
 refine⟨x,i,e,h1,?_⟩
 rw[kF (bI.mp h2).1]
 exact h2
theorem Dv{m:Nat}{seen:List Tm}{u:Tm}:∀{ts:List Tm},(∀t∈ts,∀p,cw m seen t p->cw m (seen++[u]) t p)->∀{ps},gr m seen ts ps->gr m (seen++[u]) ts ps
 |[],_,ps,h=>by simpa[gr]using h
 |t::ts,k,ps,h=>by
  simp only[gr]at h |-
  obtain⟨p,r,e,h1,h2⟩:=h
  exact⟨p,r,e,k t eZ p h1,Dv (fun t ht=>k t (dC _ ht)) h2⟩
theorem Dw{m:Nat}{seen:List Tm}{u:Tm}(t:Tm):∀p,cw m seen t p->cw m (seen++[u]) t p:=by
 induction t using Tm.ind with
 |h1 n=>intro p h;simp only[cw]at h |-;exact h.imp tK id
 |h2 w=>intro p h;simp only[cw]at h |-;exact h.imp tK id
 |h3 w=>intro p h;simp only[cw]at h |-;exact h.imp tK id
 |h4 w ps ih=>intro p h;simp only[cw]at h |-;exact h.imp tK fun⟨qs,e,hq⟩=>⟨qs,e,Dv (fun t ht p=>ih t ht p) hq⟩
abbrev cG:=Tm×Tm×Tm
def dy:Nat->cG->Tm
 |0,d=>d.1
 |1,d=>d.2.1
 |_,d=>d.2.2
def eI(m:Nat)(seen:List Tm)(d:cG):Prop:=cw m seen d.2.2 d.1/\cw m seen d.2.2 d.2.1/\d.1.Ok/\d.2.1.Ok/\d.2.2.Ok/\d.1.nodes<=d.2.2.nodes/\d.2.1.nodes<=d.2.2.nodes
theorem eI.app{m:Nat}{seen:List Tm}{u:Tm}{d:cG}(h:eI m seen d):eI m (seen++[u]) d:=⟨Dw _ _ h.1,Dw _ _ h.2.1,h.2.2⟩
theorem eI.leaf{m:Nat}{seen:List Tm}{t:Tm}(h:qk t)(ho:t.Ok):eI m seen (t,t,t):=⟨.leaf h,.leaf h,ho,ho,ho,aJ _,aJ _⟩
def dO:List cG->Nat
 |[]=>0
 |d::r=>d.2.2.nodes+dO r
theorem w6(a b:List cG):dO (a++b)=dO a+dO b:=by
 induction a with
 |nil=>simp[dO]
 |cons d r ih=>simp only[eL,dO,ih];omega
theorem J5(a:List cG)(k:Nat):dO (a.take k)+dO (a.drop k)=dO a:=by
 rw[<-w6,zr]
theorem w8(a:List cG):a.length<=dO a:=by
 induction a with
 |nil=>simp[dO]
 |cons d r ih=>have:=d.2.2.nodes_pos;simp only[zLC,dO];omega
theorem J6(a:List cG):aX (a.map (dy 2))=dO a:=by
 induction a with
 |nil=>rfl
 |cons d r ih=>simp only[bP,aX,ih,dO];rfl
theorem Dx{m:Nat}{seen:List Tm}:∀{a:List cG},(∀d∈a,eI m seen d)->gr m seen (a.map (dy 2)) (a.map (dy 0))/\gr m seen (a.map (dy 2)) (a.map (dy 1))/\aX (a.map (dy 0))<=dO a/\aX (a.map (dy 1))<=dO a/\eA (a.map (dy 0))/\eA (a.map (dy 1))/\eA (a.map (dy 2))
 |[],_=>by simp[gr,aX,eA,dO]
 |d::r,h=>by
  obtain⟨i1,i2,i3,i4,i5,i6,i7⟩:=Dx (a:=r) fun d hd=>h d (dC _ hd)
  obtain⟨h1,h2,h3,h4,h5,h6,h7⟩:=h d eZ
  simp only[bP,gr,aX,eA,dO,dy]
  exact⟨⟨_,_,rfl,h1,i1⟩,⟨_,_,rfl,h2,i2⟩,by omega,by omega,⟨h3,i5⟩,⟨h4,i6⟩,⟨h5,i7⟩⟩
def fU(w:ac)(a:List cG):cG:=(.thing w (a.map (dy 0)),.thing w (a.map (dy 1)),.thing w (a.map (dy 2)))
theorem eI.th{m:Nat}{seen:List Tm}{w:ac}{a:List cG}(hw:Wd w)(hn:a≠[])(h:∀d∈a,eI m seen d):eI m seen (fU w a)/\(fU w a).2.2.nodes=dO a+1:=by
 obtain⟨i1,i2,i3,i4,i5,i6,i7⟩:=Dx h
 have e:=J6 a
 have ne:∀k,a.map (dy k)≠[]:=fun k z=>hn (by simpa using z)
 refine⟨⟨.thing i1,.thing i2,?_,?_,?_,?_,?_⟩,?_⟩
 ·simp only[fU,Tm.Ok];exact⟨hw,ne 0,i5⟩
 ·simp only[fU,Tm.Ok];exact⟨hw,ne 1,i6⟩
 ·simp only[fU,Tm.Ok];exact⟨hw,ne 2,i7⟩
 ·simp only[fU,Tm.nodes];omega
 ·simp only[fU,Tm.nodes];omega
 ·simp only[fU,Tm.nodes];omega
theorem Dy(k:Nat)(w:ac)(a:List cG):dy k (fU w a)= .thing w (a.map (dy k)):=by
 match k with
 |0=>rfl
 |1=>rfl
 |k+2=>rfl
inductive WR:Int->ac->ac->Prop
 |done {l:Int} {x:ac}:¬0<=l->WR l x x
 |step {l:Int} {x y:ac}:0<=l->WR (l / 26 - 1) ((⟨#[97+(l % 26).toNat]⟩:ac)++x) y->WR l x y
theorem WR.det{l:Int}{x y z:ac}(h:WR l x y):WR l x z->y=z:=by
 induction h with
 |done c=>intro k;cases k with
  |done _=>rfl
  |step d _=>exact absurd d c
 |step c _ ih=>intro k;cases k with
  |done d=>exact absurd c d
  |step _ k=>exact ih k
def w9(i:Int):Int:=(if i<0 then -i else i) % 10 ^ 39
def HW(i:Int)(x:ac):Prop:=if i % 7=5 then WR (w9 (i / 7)) "" x else if i % 2=0 then x="f" else x="pair"
theorem HW.det{i:Int}{x y:ac}(h:HW i x)(k:HW i y):x=y:=by
 unfold HW at h k
 split at h
 ·rename_i c
  rw[if_pos c]at k
  exact h.det k
 ·rename_i c
  rw[if_neg c]at k
  split at h
  ·rename_i d
   rw[if_pos d]at k
   rw[h,k]
  ·rename_i d
   rw[if_neg d]at k
   rw[h,k]
theorem xa{α β:Type}{F:α->β->Prop}:∀{l:List α}{m:List β}(n:Nat),Paired F l m->Paired F (l.take n) (m.take n)
 |_,_,0,_=>.nil
 |_,_,_+1,.nil=>.nil
 |_,_,n+1,.cons h r=>.cons h (xa n r)
theorem Dz{α β:Type}{F:α->β->Prop}:∀{l:List α}{m:List β}(n:Nat),Paired F l m->Paired F (l.drop n) (m.drop n)
 |_,_,0,h=>h
 |_,_,_+1,.nil=>.nil
 |_,_,n+1,.cons _ r=>Dz n r
theorem ql{α β:Type}{F:α->β->Prop}:∀{l:List α}{m:List β},Paired F l m->∀(i:Nat)(x:α),l[i]?=some x->∃y,m[i]?=some y/\F x y
 |_,_,.nil,i,x,h=>by simp at h
 |_,_,.cons f r,0,x,h=>by
  simp only[List.getElem?_cons_zero,m9]at h
  subst h
  exact⟨_,rfl,f⟩
 |_,_,.cons f r,i+1,x,h=>by
  simp only[vi]at h |-
  exact ql r i x h
theorem j6{α β:Type}{F:α->β->Prop}{x:α}{y:β}:∀{l:List α}{m:List β},Paired F l m->F x y->Paired F (l++[x]) (m++[y])
 |_,_,.nil,h=>.cons h .nil
 |_,_,.cons f r,h=>.cons f (j6 r h)
def qm(H:Hp)(x:V)(d:cG):Prop:=∃a x0 x1 x2,x= .ref a/\H a=some (.lst [x0,x1,x2])/\aw H x0 d.1/\aw H x1 d.2.1/\aw H x2 d.2.2
def gN(H:Hp)(us:List V)(ds:List cG):Prop:=Paired (qm H) us ds
def fu(p:Addr)(us:List V):Prop:=∀x∈us,x≠V.ref p
theorem qm.same{H H':Hp}{x:V}{d:cG}(s:aq H H'):qm H x d->qm H' x d:=
 fun⟨a,x0,x1,x2,e,h,h0,h1,h2⟩=>⟨a,x0,x1,x2,e,s _ _ h,h0.mono (.of s),h1.mono (.of s),h2.mono (.of s)⟩
theorem gN.same{H H':Hp}{us:List V}{ds:List cG}(s:aq H H')(h:gN H us ds):gN H' us ds:=jZ (fun _ _ h=>h.same s) h
theorem gN.lst{H:Hp}{q:Addr}{ys zs:List V}(hq:H q=some (.lst zs)):∀{us:List V}{ds:List cG},fu q us->gN H us ds->gN (ae H q (.lst ys)) us ds
 |_,_,_,.nil=>.nil
 |_,_,ap,.cons ⟨a,x0,x1,x2,e,h,h0,h1,h2⟩ r=>.cons
  ⟨a,x0,x1,x2,e,by
        rw[am (fun z=>ap _ eZ (by rw[e,z]))]
        exact h,h0.mono (.lst hq),h1.mono (.lst hq),h2.mono (.lst hq)⟩ (gN.lst hq (fun x hx=>ap x (dC _ hx)) r)
theorem gN.apart{H:Hp}{q:Addr}(hq:H q=none):∀{us:List V}{ds:List cG},gN H us ds->fu q us
 |_,_,.nil=>fun _ z=>nomatch z
 |_,_,.cons ⟨a,x0,x1,x2,e,h,_⟩ r=>fun x hx=>by
  rcases bF.mp hx with z|z
  ·rw[z,e]
   intro z'
   cases z'
   rw[hq]at h
   cases h
  ·exact gN.apart hq r x z
theorem fu.sub{p:Addr}{us vs:List V}(h:fu p us)(k:∀x∈vs,x∈us):fu p vs:=fun x hx=>h x (k x hx)
theorem fu.snoc{p q:Addr}{us:List V}(h:fu p us)(k:q≠p):fu p (us++[.ref q]):=fun x hx=>by
 rcases bR.mp hx with z|z
 ·exact h x z
 ·cases bZ.mp z
  intro z'
  cases z'
  exact k rfl
theorem DA{H:Hp}{x:V}{d:cG}(h:qm H x d)(k:Nat)(hk:k<3):∃a xs v,x= .ref a/\H a=some (.lst xs)/\dn xs ((k:Nat):Int)=some v/\aw H v (dy k d):=by
 obtain⟨a,x0,x1,x2,e,h,h0,h1,h2⟩:=h
 have hz:k=0\/k=1\/k=2:=by omega
 rcases hz with rfl|rfl|rfl
 ·exact⟨a,_,x0,e,h,rfl,h0⟩
 ·exact⟨a,_,x1,e,h,rfl,h1⟩
 ·exact⟨a,_,x2,e,h,rfl,h2⟩
theorem DB{α:Type}{x:α}:∀{l:List α},x∈l->∃j,∃h:j<l.length,l[j]=x/\∀i (h':i<l.length),i<j->l[i]≠x
 |a::l,h=>by
  by_cases c:a=x
  ·exact⟨0,by simp,c,fun i _ z=>by omega⟩
  ·have hm:x∈l:=by
        rcases bF.mp h with z|z
        ·exact absurd z.symm c
        ·exact z
   obtain⟨j,hj,e,k⟩:=DB hm
   refine⟨j+1,by simp only[zLC];omega,by simpa using e,fun i hi z=>?_⟩
   cases i with
   |zero=>simpa using c
   |succ i=>
    simp only[List.getElem_cons_succ]
    exact k i (by simpa using hi) (by omega)
structure gu(H:Hp)(m:Nat)(p sn tr:Addr)(us ss:List V)(ds:List cG)(seen:List Tm)(x0 x1 x2:V)(d:cG)(H':Hp):Prop where
 sm:aq H H'
 gp:H' p=some (.lst us)
 gs:H' sn=some (.lst ss)
 hss:aT H' ss seen
 hpl:gN H' us ds
 gtr:H' tr=some (.lst [x0,x1,x2])
 h0:aw H' x0 d.1
 h1:aw H' x1 d.2.1
 h2:aw H' x2 d.2.2
 hd:eI m seen d
theorem gu.same{H:Hp}{m:Nat}{p sn tr:Addr}{us ss:List V}{ds:List cG}{seen:List Tm}{x0 x1 x2:V}{d:cG}{H' H'':Hp}(s:aq H' H'')(M:gu H m p sn tr us ss ds seen x0 x1 x2 d H'):gu H m p sn tr us ss ds seen x0 x1 x2 d H'':=
 ⟨M.sm.trans s,s _ _ M.gp,s _ _ M.gs,M.hss.mono (.of s),M.hpl.same s,s _ _ M.gtr,M.h0.mono (.of s),M.h1.mono (.of s),M.h2.mono (.of s),M.hd⟩
theorem gu.put0{H:Hp}{m:Nat}{p sn tr:Addr}{us ss:List V}{ds:List cG}{seen:List Tm}{x0 x1 x2 v:V}{t:Tm}{d:cG}{H':Hp}(ftr:H tr=none)(ntp:tr≠p)(nts:tr≠sn)(ap:fu tr us)(hv:aw H' v t)(hh:cw m seen d.2.2 t)(ho:t.Ok)(hn:t.nodes<=d.2.2.nodes)
 (M:gu H m p sn tr us ss ds seen x0 x1 x2 d H'):gu H m p sn tr us ss ds seen v x1 x2 (t,d.2) (ae H' tr (.lst [v,x1,x2])):=
 have k:aV H' (ae H' tr (.lst [v,x1,x2])):= .lst M.gtr
 ⟨fun b ob z=>by rw[am (aN z ftr)];exact M.sm _ _ z,by rw[am ntp.symm];exact M.gp,by rw[am nts.symm];exact M.gs,M.hss.mono k,M.hpl.lst M.gtr ap,au,hv.mono k,M.h1.mono k,M.h2.mono k,
  ⟨hh,M.hd.2.1,ho,M.hd.2.2.2.1,M.hd.2.2.2.2.1,hn,M.hd.2.2.2.2.2.2⟩⟩
theorem gu.put1{H:Hp}{m:Nat}{p sn tr:Addr}{us ss:List V}{ds:List cG}{seen:List Tm}{x0 x1 x2 v:V}{t:Tm}{d:cG}{H':Hp}(ftr:H tr=none)(ntp:tr≠p)(nts:tr≠sn)(ap:fu tr us)(hv:aw H' v t)(hh:cw m seen d.2.2 t)(ho:t.Ok)(hn:t.nodes<=d.2.2.nodes)
 (M:gu H m p sn tr us ss ds seen x0 x1 x2 d H'):gu H m p sn tr us ss ds seen x0 v x2 (d.1,t,d.2.2) (ae H' tr (.lst [x0,v,x2])):=
 have k:aV H' (ae H' tr (.lst [x0,v,x2])):= .lst M.gtr
 ⟨fun b ob z=>by rw[am (aN z ftr)];exact M.sm _ _ z,by rw[am ntp.symm];exact M.gp,by rw[am nts.symm];exact M.gs,M.hss.mono k,M.hpl.lst M.gtr ap,au,M.h0.mono k,hv.mono k,M.h2.mono k,
  ⟨M.hd.1,hh,M.hd.2.2.1,ho,M.hd.2.2.2.2.1,M.hd.2.2.2.2.2.1,hn⟩⟩
inductive Rs where
 |giv
 |turn (n:Nat)
 |part (n k:Nat)
 |chain (n m:Nat)
def Rs.In(l:Nat):Rs->Prop
 |.giv=>True
 |.turn n=>n<l
 |.part n _=>n<l
 |.chain n m=>n<l/\m<l
def lg(ds:List Ln)(g:Ln):Rs->Ln->Prop
 |.giv,p=>p=g
 |.turn n,p=>∃q,ds[n]?=some q/\p=(q.2,q.1)
 |.part n k,p=>∃w ps qs x y,ds[n]?=some (.thing w ps,.thing w qs)/\ps.length=qs.length/\ps[k]?=some x/\qs[k]?=some y/\p=(x,y)
 |.chain n m,p=>∃a b c,ds[n]?=some (a,b)/\ds[m]?=some (b,c)/\p=(a,c)
inductive RI where
 |giv
 |turn (n:Int)
 |part (n k:Int)
 |chain (n m:Int)
def Rs.ri:Rs->RI
 |.giv=>.giv
 |.turn n=>.turn n
 |.part n k=>.part n k
 |.chain n m=>.chain n m
def i0(H:Hp)(ls:List V)(ds:List Ln):Prop:=Paired (fun x p=>∃a u v r,x= .ref a/\H a=some (.tup (u::v::r))/\aw H u p.1/\aw H v p.2) ls ds
theorem i0.mono{H H':Hp}{ls:List V}{ds:List Ln}(k:aV H H')(h:i0 H ls ds):i0 H' ls ds:=jZ (fun _ _ ⟨a,u,v,r,e,h1,h2,h3⟩=>⟨a,u,v,r,e,k _ _ h1,h2.mono k,h3.mono k⟩) h
theorem i0.get{H:Hp}{ls:List V}{ds:List Ln}(h:i0 H ls ds){n:Nat}(hn:n<ds.length):∃a u v r,dn ls ((n:Nat):Int)=some (.ref a)/\H a=some (.tup (u::v::r))/\aw H u ds[n].1/\aw H v ds[n].2:=by
 have hl:ls.length=ds.length:=Paired.length h
 obtain⟨p,hp,a,u,v,r,e,h1,h2,h3⟩:=ql h n ls[n] (zGE (by omega))
 rw[zGE hn]at hp
 cases hp
 exact⟨a,u,v,r,by rw[dH (zGE (by omega)),e],h1,h2,h3⟩
def xb:Rs->List V
 |.giv=>[.str "given"]
 |.turn n=>[.str "turn",.int (n:Nat)]
 |.part n k=>[.str "part",.int (n:Nat),.int (k:Nat)]
 |.chain n m=>[.str "chain",.int (n:Nat),.int (m:Nat)]
def J7(H:Hp)(x:V)(r:Rs):Prop:=∃a,x= .ref a/\H a=some (.tup (xb r))
def mj:RI->List V
 |.giv=>[.str "given"]
 |.turn n=>[.str "turn",.int n]
 |.part n k=>[.str "part",.int n,.int k]
 |.chain n m=>[.str "chain",.int n,.int m]
theorem J8(r:Rs):mj r.ri=xb r:=by cases r<;>rfl
def dX(H:Hp)(ls:List V)(fs:List (Ln×RI)):Prop:=Paired (fun x p=>∃a u v r,x= .ref a/\H a=some (.tup [u,v,.ref r])/\H r=some (.tup (mj p.2))/\aw H u p.1.1/\aw H v p.1.2) ls fs
theorem dX.mono{H H':Hp}{ls:List V}{fs:List (Ln×RI)}(k:aV H H')(h:dX H ls fs):dX H' ls fs:=jZ (fun _ _ ⟨a,u,v,r,e,h1,h2,h3,h4⟩=>⟨a,u,v,r,e,k _ _ h1,k _ _ h2,h3.mono k,h4.mono k⟩) h
def RI.val(n:Nat):RI->Option Rs
 |.giv=>some .giv
 |.turn i=>if 0<=i/\i<(n:Int)then some (.turn i.toNat)else none
 |.part i k=>if (0<=i/\i<(n:Int))/\0<=k then some (.part i.toNat k.toNat)else none
 |.chain i j=>if (0<=i/\i<(n:Int))/\0<=j/\j<(n:Int)then some (.chain i.toNat j.toNat)else none
theorem RI.val_in{n:Nat}{r:RI}{q:Rs}(h:r.val n=some q):q.In n/\q.ri=r:=by
 cases r with
 |giv=>simp only[RI.val]at h;cases h;exact⟨True.intro,rfl⟩
 |turn i=>
  simp only[RI.val]at h
  split at h
  ·rename_i c
   cases h
   exact⟨show i.toNat<n by omega,by simp only[Rs.ri];congr 1;omega⟩
  ·cases h
 |part i k=>
  simp only[RI.val]at h
  split at h
  ·rename_i c
   cases h
   exact⟨show i.toNat<n by omega,by simp only[Rs.ri];congr 1<;>omega⟩
  ·cases h
 |chain i j=>
  simp only[RI.val]at h
  split at h
  ·rename_i c
   cases h
   exact⟨show i.toNat<n/\j.toNat<n by omega,by simp only[Rs.ri];congr 1<;>omega⟩
  ·cases h
def j7(ds:List Ln)(g:Ln)(r:RI)(p:Ln):Prop:=∃q,r.val ds.length=some q/\lg ds g q p
def eg(g:Ln):List Ln->List (Ln×RI)->Prop
 |_,[]=>True
 |ds,x::rest=>j7 ds g x.2 x.1/\eg g (ds++[x.1]) rest
theorem xc(g:Ln):∀(a b:List (Ln×RI))(ds:List Ln),eg g ds (a++b)↔eg g ds a/\eg g (ds++a.map (·.1)) b
 |[],b,ds=>by simp[eg]
 |x::a,b,ds=>by
  simp only[eL,eg,xc g a b,bP,d8,iq,and_assoc]
theorem DC(g:Ln)(a:List (Ln×RI))(x:Ln×RI)(ds:List Ln):eg g ds (a++[x])↔eg g ds a/\j7 (ds++a.map (·.1)) g x.2 x.1:=by
 rw[xc]
 simp[eg]
theorem DD{g:Ln}{ds:List Ln}{fs:List (Ln×RI)}(i:Nat)(h:eg g ds fs):eg g ds (fs.take i):=by
 rw[<-zr i fs,xc]at h
 exact h.1
theorem J9{g:Ln}{fs:List (Ln×RI)}{i:Nat}(hi:i<fs.length)(h:eg g [] (fs.take i)):eg g [] (fs.take (i+1))↔j7 ((fs.take i).map (·.1)) g fs[i].2 fs[i].1:=by
 rw[zTS hi,DC,iq]
 exact⟨fun z=>z.2,fun z=>⟨h,z⟩⟩
mutual
def Tm.sub(φ:ac->Tm):Tm->Tm
 |.num n=>.num n
 |.name w=>.name w
 |.blank w=>φ w
 |.thing w ps=>.thing w (nI φ ps)
def nI(φ:ac->Tm):List Tm->List Tm
 |[]=>[]
 |p::r=>p.sub φ::nI φ r
end
theorem ja(φ:ac->Tm)(ps:List Tm):nI φ ps=ps.map (Tm.sub φ):=by
 induction ps with
 |nil=>rfl
 |cons p r ih=>simp only[nI,ih,bP]
theorem Ka(φ:ac->Tm)(ps:List Tm):(nI φ ps).length=ps.length:=by rw[ja,zLM]
def bJ(f:Fl):ac->Tm:=fun w=>(look f w).getD (.blank w)
theorem gP(f:Fl)(t:Tm):t.fill f=t.sub (bJ f):=by
 refine Tm.ind (P:=fun t=>t.fill f=t.sub (bJ f)) (fun _=>rfl) (fun _=>rfl) (fun _=>rfl) (fun w ps ih=>?_) t
 simp only[Tm.fill,Tm.sub,De,ja]
 rw[mW ih]
theorem tL{w:ac}{ps:List Tm}:w∈fq ps↔∃p∈ps,w∈p.bl:=by
 induction ps with
 |nil=>simp[fq]
 |cons p r ih=>simp[fq,ih]
theorem DE{φ ψ:ac->Tm}(t:Tm):(∀w∈t.bl,φ w=ψ w)->t.sub φ=t.sub ψ:=by
 refine Tm.ind (P:=fun t=>(∀w∈t.bl,φ w=ψ w)->t.sub φ=t.sub ψ) (fun _ _=>rfl) (fun _ _=>rfl) (fun w h=>h w (by simp[Tm.bl])) (fun w ps ih h=>?_) t
 simp only[Tm.sub,ja]
 rw[mW fun p hp=>ih p hp fun x hx=>h x (by simp only[Tm.bl];exact tL.mpr ⟨p,hp,hx⟩)]
theorem Kb(φ ψ:ac->Tm)(t:Tm):(t.sub φ).sub ψ=t.sub fun w=>(φ w).sub ψ:=by
 refine Tm.ind (P:=fun t=>(t.sub φ).sub ψ=t.sub fun w=>(φ w).sub ψ) (fun _=>rfl) (fun _=>rfl) (fun _=>rfl) (fun w ps ih=>?_) t
 simp only[Tm.sub,ja,lG]
 exact congrArg (Tm.thing w) (mW ih)
theorem Kc{φ:ac->Tm}{w v:ac}{ps qs:List Tm}:(Tm.thing w ps).sub φ= .thing v qs↔w=v/\ps.length=qs.length/\∀z∈ps.zip qs,z.1.sub φ=z.2:=by
 simp only[Tm.sub,ja,Tm.thing.injEq]
 refine and_congr_right fun _=>?_
 induction ps generalizing qs with
 |nil=>cases qs<;>simp
 |cons p r ih=>
  cases qs with
  |nil=>simp
  |cons q s=>
   simp only[bP,jK,ih,zLC,zb,zt,bF,forall_eq_or_imp]
   exact⟨fun⟨a,b,c⟩=>⟨b,a,c⟩,fun⟨b,a,c⟩=>⟨a,b,c⟩⟩
theorem DF{φ:ac->Tm}{w v:ac}{ps qs:List Tm}:(Tm.thing w ps).sub φ=(Tm.thing v qs).sub φ↔w=v/\ps.length=qs.length/\∀z∈ps.zip qs,z.1.sub φ=z.2.sub φ:=by
 have e:(Tm.thing v qs).sub φ= .thing v (qs.map (Tm.sub φ)):=by simp only[Tm.sub,ja]
 rw[e,Kc,zLM]
 refine and_congr_right fun _=>and_congr_right fun _=>?_
 rw[List.zip_map_right]
 constructor
 ·intro h z hz
  exact h (z.1,z.2.sub φ) (bL.mpr ⟨z,hz,rfl⟩)
 ·intro h z hz
  obtain⟨y,hy,rfl⟩:=bL.mp hz
  exact h y hy
variable{pat term:Tm}{cs:List Mt}{tm:Fl}{ph:List (ac×List Int)}
open Classical
abbrev Nx:=Tm->Option Tm
inductive a0(nx:Nx):Nat->Tm->Tm->Prop
 |root {t:Tm}:nx t=none->a0 nx 0 t t
 |step {k:Nat} {t u e:Tm}:nx t=some u->a0 nx k u e->a0 nx (k+1) t e
theorem a0.det{nx:Nx}{k k':Nat}{t e e':Tm}(h:a0 nx k t e)(h':a0 nx k' t e'):k=k'/\e=e':=by
 induction h generalizing k' with
 |root hn=>
  cases h' with
  |root _=>exact⟨rfl,rfl⟩
  |step hs _=>rw[hn]at hs;cases hs
 |step hs _ ih=>
  cases h' with
  |root hn=>rw[hn]at hs;cases hs
  |step hs' r'=>
   rw[hs]at hs'
   cases hs'
   obtain⟨h1,h2⟩:=ih r'
   exact⟨by rw[h1],h2⟩
theorem a0.end'{nx:Nx}{k:Nat}{t e:Tm}(h:a0 nx k t e):nx e=none:=by
 induction h with
 |root hn=>exact hn
 |step _ _ ih=>exact ih
theorem a0.of_root{nx:Nx}{k:Nat}{t e:Tm}(h:a0 nx k t e)(hn:nx t=none):k=0/\e=t:=h.det (.root hn)
noncomputable def put(nx:Nx)(t u:Tm):Nx:=fun s=>if s=t then some u else nx s
theorem lh(nx:Nx)(t u:Tm):put nx t u t=some u:=if_pos rfl
theorem h8{nx:Nx}{t u s:Tm}(h:s≠t):put nx t u s=nx s:=if_neg h
theorem a0.join{nx:Nx}{a b:Tm}(ha:nx a=none)(hb:nx b=none)(hab:a≠b){k:Nat}{t e:Tm}(h:a0 nx k t e):(e≠a->a0 (put nx a b) k t e)/\(e=a->a0 (put nx a b) (k+1) t b):=by
 induction h with
 |@root t hn=>
  refine⟨fun z=>.root (by rw[h8 z];exact hn),?_⟩
  rintro rfl
  exact .step (lh ..) (.root (by rw[h8 hab.symm];exact hb))
 |@step k t u e hs r ih=>
  have z:t≠a:=by rintro rfl;rw[ha]at hs;cases hs
  exact⟨fun y=>.step (by rw[h8 z];exact hs) (ih.1 y),fun y=>.step (by rw[h8 z];exact hs) (ih.2 y)⟩
theorem a0.short{nx:Nx}{t e:Tm}{k:Nat}(ht:a0 nx (k+1) t e){j:Nat}{s f:Tm}(h:a0 nx j s f):∃i,i<=j/\a0 (put nx t e) i s f:=by
 have he:=ht.end'
 have hne:e≠t:=by rintro rfl;cases ht with|step hs _=>rw[he]at hs;cases hs
 induction h with
 |@root s hn=>
  have z:s≠t:=by rintro rfl;cases ht with|step hs _=>rw[hn]at hs;cases hs
  exact⟨0,aJ _,.root (by rw[h8 z];exact hn)⟩
 |@step j s u f hs r ih=>
  by_cases z:s=t
  ·subst z
   have:=(a0.step hs r).det ht
   obtain⟨_,rfl⟩:=this
   exact⟨1,by omega,.step (lh ..) (.root (by rw[h8 hne];exact he))⟩
  ·obtain⟨i,h1,h2⟩:=ih
   exact⟨i+1,by omega,.step (by rw[h8 z];exact hs) h2⟩
theorem jb{α:Type}:∀{l m:List α},l.Nodup->(∀x∈l,x∈m)->l.length<=m.length
 |[],_,_,_=>cP _
 |x::l,m,hn,h=>by
  rw[iN]at hn
  have hx:=h x (by simp)
  have:=jb (l:=l) (m:=m.erase x) hn.2 fun y hy=>(List.mem_erase_of_ne (by rintro rfl;exact hn.1 hy)).mpr (h y (by simp[hy]))
  rw[List.length_erase_of_mem hx]at this
  have:=List.length_pos_of_mem hx
  simp only[zLC]
  omega
theorem a0.len{nx:Nx}{ks:List Tm}(hk:∀t u,nx t=some u->t∈ks){k:Nat}{t e:Tm}(h:a0 nx k t e):k<=ks.length:=by
 suffices H:∃l:List Tm,l.length=k/\l.Nodup/\∀s∈l,s∈ks/\∃j,j<=k/\a0 nx j s e by
  obtain⟨l,h1,h2,h3⟩:=H
  rw[<-h1]
  exact jb h2 fun s hs=>(h3 s hs).1
 induction h with
 |root hn=>exact⟨[],rfl,.nil,fun s hs=>by simp at hs⟩
 |@step k t u e hs r ih=>
  obtain⟨l,h1,h2,h3⟩:=ih
  refine⟨t::l,by simp[h1],iN.mpr ⟨fun z=>?_,h2⟩,fun s hs'=>?_⟩
  ·obtain⟨_,j,hj,hr⟩:=h3 t z
   have:=(hr.det (a0.step hs r)).1
   omega
  ·rcases bF.mp hs' with z|z
   ·subst z
    exact⟨hk _ _ hs,k+1,aJ _,.step hs r⟩
   ·obtain⟨h4,j,hj,hr⟩:=h3 s z
    exact⟨h4,j,by omega,hr⟩
inductive Cl(nx:Nx)(pd:List Ln):Tm->Tm->Prop
 |nx {t u:Tm}:nx t=some u->Cl nx pd t u
 |pd {t u:Tm}:(t,u)∈pd->Cl nx pd t u
 |refl {t:Tm}:Cl nx pd t t
 |symm {t u:Tm}:Cl nx pd t u->Cl nx pd u t
 |trans {t u v:Tm}:Cl nx pd t u->Cl nx pd u v->Cl nx pd t v
theorem a0.cl{nx:Nx}{pd:List Ln}{k:Nat}{t e:Tm}(h:a0 nx k t e):Cl nx pd t e:=by
 induction h with
 |root _=>exact .refl
 |step hs _ ih=>exact .trans (.nx hs) ih
theorem Cl.mono{nx nx':Nx}{pd pd':List Ln}(h1:∀t u,nx t=some u->Cl nx' pd' t u)(h2:∀p∈pd,Cl nx' pd' p.1 p.2){t u:Tm}(h:Cl nx pd t u):Cl nx' pd' t u:=by
 induction h with
 |nx hs=>exact h1 _ _ hs
 |pd hp=>exact h2 _ hp
 |refl=>exact .refl
 |symm _ ih=>exact .symm ih
 |trans _ _ i1 i2=>exact .trans i1 i2
theorem Cl.same{nx:Nx}{t u:Tm}(tot:∀t,∃k e,a0 nx k t e)(h:Cl nx [] t u):∃e k j,a0 nx k t e/\a0 nx j u e:=by
 induction h with
 |@nx t u hs=>
  obtain⟨k,e,h⟩:=tot u
  exact⟨e,k+1,k,.step hs h,h⟩
 |pd hp=>cases hp
 |@refl t=>
  obtain⟨k,e,h⟩:=tot t
  exact⟨e,k,k,h,h⟩
 |symm _ ih=>
  obtain⟨e,k,j,h1,h2⟩:=ih
  exact⟨e,j,k,h2,h1⟩
 |trans _ _ i1 i2=>
  obtain⟨e,k,j,h1,h2⟩:=i1
  obtain⟨e',k',j',h1',h2'⟩:=i2
  obtain⟨_,rfl⟩:=h2.det h1'
  exact⟨e,k,j',h1,h2'⟩
def fw(R:Tm->Tm->Prop)(t u:Tm):Prop:=∃w ps qs,t= .thing w ps/\u= .thing w qs/\ps.length=qs.length/\∀z∈ps.zip qs,R z.1 z.2
theorem zip_flip{ps qs:List Tm}{a b:Tm}(h:(a,b)∈ps.zip qs):(b,a)∈qs.zip ps:=by
 obtain⟨k,hk,e⟩:=kI.mp h
 have e':=zGE hk
 rw[e]at e'
 obtain⟨h1,h2⟩:=lE.mp e'
 exact zMG (lE.mpr ⟨h2,h1⟩)
theorem zip_mid{ps qs rs:List Tm}(hl:ps.length=qs.length){a c:Tm}(h:(a,c)∈ps.zip rs):∃b,(a,b)∈ps.zip qs/\((b,c)∈qs.zip rs):=by
 obtain⟨k,hk,e⟩:=kI.mp h
 have e':=zGE hk
 rw[e]at e'
 obtain⟨h1,h2⟩:=lE.mp e'
 have hk':k<qs.length:=by rw[<-hl];exact(bI.mp h1).1
 exact⟨qs[k],zMG (lE.mpr ⟨h1,zGE hk'⟩),zMG (lE.mpr ⟨zGE hk',h2⟩)⟩
theorem fw.symm{R:Tm->Tm->Prop}(hR:∀a b,R a b->R b a){t u:Tm}(h:fw R t u):fw R u t:=by
 obtain⟨w,ps,qs,rfl,rfl,hl,hz⟩:=h
 exact⟨w,qs,ps,rfl,rfl,hl.symm,fun z h=>hR _ _ (hz (z.2,z.1) (zip_flip h))⟩
theorem fw.trans{R:Tm->Tm->Prop}(hR:∀a b c,R a b->R b c->R a c){t u v:Tm}(h:fw R t u)(h':fw R u v):fw R t v:=by
 obtain⟨w,ps,qs,rfl,rfl,hl,hz⟩:=h
 obtain⟨w',qs',rs,e,rfl,hl',hz'⟩:=h'
 cases e
 refine⟨w,ps,rs,rfl,rfl,hl.trans hl',fun z h=>?_⟩
 obtain⟨b,h1,h2⟩:=zip_mid hl h
 exact hR _ _ _ (hz (z.1,b) h1) (hz' (b,z.2) h2)
structure dP(g:Ln)(nx:Nx)(pd:List Ln):Prop where
 tot:∀t,∃k e,a0 nx k t e
 kind:∀t u,nx t=some u->cX t=true\/fw (Cl nx pd) t u
 top:Cl nx pd g.1 g.2
theorem dP.way{g:Ln}{nx:Nx}{pd:List Ln}(h:dP g nx pd){k:Nat}{t e:Tm}(r:a0 nx k t e)(ht:cX t=false):(k=0/\e=t)\/fw (Cl nx pd) t e:=by
 induction r with
 |root _=>exact .inl ⟨rfl,rfl⟩
 |@step k t u e hs r ih=>
  rcases h.kind _ _ hs with z|z
  ·rw[ht]at z;cases z
  ·obtain⟨w,ps,qs,rfl,rfl,hl,hz⟩:=id z
   rcases ih rfl with⟨_,rfl⟩|y
   ·exact .inr z
   ·exact .inr (z.trans (fun _ _ _=>.trans) y)
theorem dP.start(g:Ln):dP g (fun _=>none) [g] where
 tot:=fun t=>⟨0,t,.root rfl⟩
 kind:=fun _ _ h=>by cases h
 top:= .pd (by simp)
theorem fw.mono{R S:Tm->Tm->Prop}(h:∀a b,R a b->S a b){t u:Tm}(l:fw R t u):fw S t u:=
 let ⟨w,ps,qs,e1,e2,e3,hz⟩:=l;⟨w,ps,qs,e1,e2,e3,fun z y=>h _ _ (hz z y)⟩
theorem dP.done{g:Ln}{nx:Nx}{pd:List Ln}{a b e:Tm}{k j:Nat}(h:dP g nx (pd++[(a,b)]))(ra:a0 nx k a e)(rb:a0 nx j b e):dP g nx pd:=by
 have m:∀t u,Cl nx (pd++[(a,b)]) t u->Cl nx pd t u:=fun t u=>Cl.mono (fun _ _=>.nx) fun p hp=>by
  rcases bR.mp hp with z|z
  ·exact .pd z
  ·cases bZ.mp z
   exact .trans ra.cl (.symm rb.cl)
 exact⟨h.tot,fun t u hs=>(h.kind t u hs).imp id (fw.mono m),m _ _ h.top⟩
theorem dP.short{g:Ln}{nx:Nx}{pd:List Ln}{t e:Tm}{k:Nat}(h:dP g nx pd)(r:a0 nx (k+1) t e):dP g (put nx t e) pd:=by
 have tot:∀s,∃k e',a0 (put nx t e) k s e':=fun s=>by
  obtain⟨j,f,hs⟩:=h.tot s
  obtain⟨i,_,hi⟩:=a0.short r hs
  exact⟨i,f,hi⟩
 have m:∀s u,Cl nx pd s u->Cl (put nx t e) pd s u:=fun s u=>Cl.mono (fun s u hs=>by
  obtain⟨j,f,hu⟩:=h.tot u
  obtain⟨i,_,hi⟩:=a0.short r hu
  obtain⟨i',_,hi'⟩:=a0.short r (a0.step hs hu)
  exact .trans hi'.cl (.symm hi.cl)) fun p hp=>.pd hp
 refine⟨tot,fun s u hs=>?_,m _ _ h.top⟩
 by_cases z:s=t
 ·subst z
  rw[lh]at hs
  cases hs
  cases hb:cX s with
  |true=>exact .inl rfl
  |false=>
   rcases h.way r hb with⟨y,_⟩|y
   ·omega
   ·exact .inr (y.mono m)
 ·rw[h8 z]at hs
  exact(h.kind s u hs).imp id (fw.mono m)
theorem dP.join{g:Ln}{nx:Nx}{pd pd':List Ln}{a b x y:Tm}{k j:Nat}(h:dP g nx (pd++[(a,b)]))(ra:a0 nx k a x)(rb:a0 nx j b y)(hxy:x≠y){c d:Tm}(hcd:(c=x/\d=y)\/(c=y/\d=x))
 (hpd:∀p∈pd,p∈pd') (hk:cX c=true\/fw (fun t u=>(t,u)∈pd'\/t=u) c d):dP g (put nx c d) pd':=by
 have hc:nx c=none:=by rcases hcd with⟨rfl,_⟩|⟨rfl,_⟩<;>first|exact ra.end'|exact rb.end'
 have hd:nx d=none:=by rcases hcd with⟨_,rfl⟩|⟨_,rfl⟩<;>first|exact ra.end'|exact rb.end'
 have ne:c≠d:=by rcases hcd with⟨rfl,rfl⟩|⟨rfl,rfl⟩<;>first|exact hxy|exact hxy.symm
 have old:∀s u,nx s=some u->put nx c d s=some u:=fun s u hs=>by rw[h8 (by rintro rfl;rw[hc]at hs;cases hs)];exact hs
 have lift:∀{k:Nat}{s e:Tm},a0 nx k s e->Cl (put nx c d) pd' s e:=fun r=>by
  induction r with
  |root _=>exact .refl
  |step hs _ ih=>exact .trans (.nx (old _ _ hs)) ih
 have m:∀s u,Cl nx (pd++[(a,b)]) s u->Cl (put nx c d) pd' s u:=fun s u=>Cl.mono (fun s u hs=>.nx (old s u hs)) fun p hp=>by
  rcases bR.mp hp with z|z
  ·exact .pd (hpd p z)
  ·cases bZ.mp z
   have cd:Cl (put nx c d) pd' c d:= .nx (lh ..)
   have xy:Cl (put nx c d) pd' x y:=by
        rcases hcd with⟨rfl,rfl⟩|⟨rfl,rfl⟩
        ·exact cd
        ·exact .symm cd
   exact .trans (lift ra) (.trans xy (.symm (lift rb)))
 refine⟨fun s=>?_,fun s u hs=>?_,m _ _ h.top⟩
 ·obtain⟨i,e,hs⟩:=h.tot s
  have:=hs.join hc hd ne
  by_cases z:e=c
  ·exact⟨_,_,this.2 z⟩
  ·exact⟨_,_,this.1 z⟩
 ·by_cases z:s=c
  ·subst z
   rw[lh]at hs
   cases hs
   refine hk.imp id (fw.mono fun t u hz=>?_)
   rcases hz with hz|hz
   ·exact .pd hz
   ·subst hz;exact .refl
  ·rw[h8 z]at hs
   exact(h.kind s u hs).imp id (fw.mono m)
theorem qo{φ:ac->Tm}{w:ac}{ps:List Tm}{p:Tm}(h:p∈ps):(p.sub φ).nodes<((Tm.thing w ps).sub φ).nodes:=by
 have:=sQ (bL.mpr ⟨p,h,rfl⟩:p.sub φ∈ps.map (Tm.sub φ))
 simp only[Tm.sub,ja,Tm.nodes]
 omega
theorem dP.alike{g:Ln}{nx:Nx}{σ:ac->Tm}(h:dP g nx [])(hσ:∀w k e,a0 nx k (.blank w) e->σ w=e.sub σ):∀(n:Nat)(t u e:Tm)(k j:Nat),(t.sub σ).nodes<=n->a0 nx k t e->a0 nx j u e->t.sub σ=u.sub σ:=by
 intro n
 induction n with
 |zero=>intro t u e k j hn;have:=(t.sub σ).nodes_pos;omega
 |succ n ih=>
  have things:∀(t u e:Tm)(k j:Nat),cc t=true->cc u=true->(t.sub σ).nodes<=n+1->a0 nx k t e->a0 nx j u e->t.sub σ=u.sub σ:=fun t u e k j ht hu hn rt ru=>by
   have bt:cX t=false:=by cases t<;>simp_all [cc,cX]
   have bu:cX u=false:=by cases u<;>simp_all [cc,cX]
   have main:fw (Cl nx []) t u->t.sub σ=u.sub σ:=by
        rintro⟨w,ps,qs,rfl,rfl,hl,hz⟩
        rw[DF]
        refine⟨rfl,hl,fun z hz'=>?_⟩
        obtain⟨e',i,i',h1,h2⟩:=(hz z hz').same h.tot
        refine ih z.1 z.2 e' i i' ?_ h1 h2
        have:=qo (φ:=σ) (w:=w) (rA hz').1
        omega
   rcases h.way rt bt with⟨_,rfl⟩|y
   ·rcases h.way ru bu with⟨_,rfl⟩|z
    ·rfl
    ·exact main (z.symm fun _ _=>.symm)
   ·rcases h.way ru bu with⟨_,rfl⟩|z
    ·exact main y
    ·exact main (y.trans (fun _ _ _=>.trans) (z.symm fun _ _=>.symm))
  have toend:∀(u e:Tm)(j:Nat),cc u=false->a0 nx j u e->u.sub σ=e.sub σ:=fun u e j hu ru=>by
   cases u with
   |blank w=>exact hσ w j e ru
   |thing _ _=>cases hu
   |num x=>
    rcases h.way ru rfl with⟨_,rfl⟩|⟨_,_,_,e,_⟩
    ·rfl
    ·cases e
   |name x=>
    rcases h.way ru rfl with⟨_,rfl⟩|⟨_,_,_,e,_⟩
    ·rfl
    ·cases e
  have endT:∀(u e:Tm)(j:Nat),cc u=true->a0 nx j u e->cc e=true:=fun u e j hu ru=>by
   have bu:cX u=false:=by cases u<;>simp_all [cc,cX]
   rcases h.way ru bu with⟨_,rfl⟩|⟨_,_,_,_,rfl,_⟩
   ·exact hu
   ·rfl
  intro t u e k j hn rt ru
  have re:a0 nx 0 e e:= .root rt.end'
  cases ht:cc t with
  |true=>
   cases hu:cc u with
   |true=>exact things t u e k j ht hu hn rt ru
   |false=>exact(things t e e k 0 ht (endT t e k ht rt) hn rt re).trans (toend u e j hu ru).symm
  |false=>
   have h1:=toend t e k ht rt
   cases hu:cc u with
   |true=>exact h1.trans (things e u e 0 j (endT u e j hu ru) hu (by rw[<-h1];exact hn) re ru)
   |false=>exact h1.trans (toend u e j hu ru).symm
theorem dP.both{g:Ln}{nx:Nx}{σ:ac->Tm}(h:dP g nx [])(hσ:∀w k e,a0 nx k (.blank w) e->σ w=e.sub σ):g.1.sub σ=g.2.sub σ:=by
 obtain⟨e,k,j,h1,h2⟩:=h.top.same h.tot
 exact h.alike hσ _ _ _ e k j (aJ _) h1 h2
end BF
namespace BF
open PySem
def j8(φ:ac->Tm)(p:Ln):Prop:=p.1.sub φ=p.2.sub φ
theorem lg.sol{φ:ac->Tm}{ds:List Ln}{g p:Ln}{r:Rs}(h:lg ds g r p)(hg:j8 φ g)(hd:∀q∈ds,j8 φ q):j8 φ p:=by
 cases r with
 |giv=>simp only[lg]at h;rw[h];exact hg
 |turn n=>
  simp only[lg]at h
  obtain⟨a,e,rfl⟩:=h
  exact(hd a (zMG e)).symm
 |part n i=>
  simp only[lg]at h
  obtain⟨w,ps,qs,x,y,e,hl,ex,ey,rfl⟩:=h
  have h1:=hd _ (zMG e)
  exact(DF.mp h1).2.2 (x,y) (zMG (lE.mpr ⟨ex,ey⟩))
 |chain n m=>
  simp only[lg]at h
  obtain⟨a,b,c,e1,e2,rfl⟩:=h
  have h1:a.sub φ=b.sub φ:=hd (a,b) (zMG e1)
  have h2:b.sub φ=c.sub φ:=hd (b,c) (zMG e2)
  exact h1.trans h2
theorem DG{φ:ac->Tm}{g:Ln}(hg:j8 φ g):∀(fs:List (Ln×RI))(ds:List Ln),eg g ds fs->(∀q∈ds,j8 φ q)->∀x∈fs,j8 φ x.1
 |[],_,_,_,_,hx=>by cases hx
 |y::fs,ds,h,hd,x,hx=>by
  simp only[eg]at h
  obtain⟨⟨q,_,hq⟩,h2⟩:=h
  have hy:=hq.sol hg hd
  rcases bF.mp hx with z|z
  ·rw[z];exact hy
  ·refine DG hg fs (ds++[y.1]) h2 (fun q hq=>?_) x z
   rcases bR.mp hq with z|z
   ·exact hd q z
   ·cases bZ.mp z
    exact hy
theorem Kd{φ:ac->Tm}{x:ac}(t:Tm):x∈(t.sub φ).bl↔∃w∈t.bl,x∈(φ w).bl:=by
 refine Tm.ind (P:=fun t=>x∈(t.sub φ).bl↔∃w∈t.bl,x∈(φ w).bl) (fun _=>by simp[Tm.sub,Tm.bl]) (fun _=>by simp[Tm.sub,Tm.bl]) (fun w=>by simp[Tm.sub,Tm.bl]) (fun v ps ih=>?_) t
 simp only[Tm.sub,Tm.bl,ja,tL,bL]
 constructor
 ·rintro⟨_,⟨p,hp,rfl⟩,hx⟩
  obtain⟨w,hw,h⟩:=(ih p hp).mp hx
  exact⟨w,⟨p,hp,hw⟩,h⟩
 ·rintro⟨w,⟨p,hp,hw⟩,h⟩
  exact⟨_,⟨p,hp,rfl⟩,(ih p hp).mpr ⟨w,hw,h⟩⟩
inductive eB(ends:Fl):Fl->Prop
 |nil:eB ends []
 |snoc {f:Fl} {w:ac} {e:Tm}:eB ends f->look ends w=some e->w∉f.map (·.1)->(∀x∈e.bl,look ends x≠none->x∈f.map (·.1))->eB ends (f++[(w,e.fill f)])
theorem xg{f:Fl}{w x:ac}{t:Tm}(h:x≠w):look (f++[(w,t)]) x=look f x:=by
 have:look [(w,t)] x=none:=kW (by simpa using h)
 rw[qj,this,vN]
theorem DH{f:Fl}{w:ac}{t:Tm}(h:w∉f.map (·.1)):look (f++[(w,t)]) w=some t:=by
 rw[qj,kW h]
 simp[look]
theorem eB.inv{ends f:Fl}(h:eB ends f):(f.map (·.1)).Nodup/\∀p∈f,∃e,look ends p.1=some e/\p.2=e.fill f/\look f p.1=some p.2/\∀x∈e.bl,look ends x≠none->x∈f.map (·.1):=by
 induction h with
 |nil=>exact⟨.nil,fun p hp=>by cases hp⟩
 |@snoc f w e _ hw hn hb ih=>
  obtain⟨nd,ih⟩:=ih
  have keep:∀t:Tm,(∀x∈t.bl,look ends x≠none->x∈f.map (·.1))->t.fill f=t.fill (f++[(w,e.fill f)]):=fun t ht=>by
   rw[gP,gP]
   refine DE t fun x hx=>?_
   have hxw:x≠w:=by rintro rfl;exact hn (ht x hx (by rw[hw];simp))
   simp only[bJ,xg hxw]
  refine⟨?_,fun p hp=>?_⟩
  ·rw[zMA]
   exact rG.mpr ⟨nd,by simp,fun x hx y hy=>by simp at hy;rintro rfl;subst hy;exact hn hx⟩
  ·rcases bR.mp hp with z|z
   ·obtain⟨e',h1,h2,h3,h4⟩:=ih p z
    refine⟨e',h1,h2.trans (keep e' h4),?_,fun x hx hx'=>by rw[zMA];exact eJ _ (h4 x hx hx')⟩
    rw[xg (by intro y;exact hn (y▸bL.mpr ⟨p,z,rfl⟩))]
    exact h3
   ·cases bZ.mp z
    exact⟨e,hw,keep e hb,DH hn,fun x hx hx'=>by rw[zMA];exact eJ _ (hb x hx hx')⟩
theorem eB.out{ends f:Fl}(h:eB ends f){w:ac}(hw:look ends w=none):look f w=none:=by
 refine kW fun z=>?_
 obtain⟨p,hp,rfl⟩:=bL.mp z
 obtain⟨e,h1,_⟩:=h.inv.2 p hp
 rw[hw]at h1
 cases h1
theorem eB.eqn{ends f:Fl}(h:eB ends f){w:ac}{e:Tm}(hw:look ends w=some e)(hf:w∈f.map (·.1)):bJ f w=e.sub (bJ f):=by
 obtain⟨p,hp,rfl⟩:=bL.mp hf
 obtain⟨e',h1,h2,h3,_⟩:=h.inv.2 p hp
 rw[hw]at h1
 cases h1
 rw[<-gP,<-h2]
 simp only[bJ,h3,pJ]
theorem eB.clean{ends f:Fl}(h:eB ends f):∀p∈f,∀x∈p.2.bl,look ends x=none/\∃q∈ends,x∈q.2.bl:=by
 induction h with
 |nil=>intro p hp;cases hp
 |@snoc f w e hs hw hn hb ih=>
  intro p hp x hx
  rcases bR.mp hp with z|z
  ·exact ih p z x hx
  ·cases bZ.mp z
   have hx:x∈(e.fill f).bl:=hx
   rw[gP,Kd]at hx
   obtain⟨v,hv,hx⟩:=hx
   cases hl:look f v with
   |none=>
    simp only[bJ,hl,rY,Tm.bl,bZ]at hx
    subst hx
    refine⟨?_,(w,e),iH hw,hv⟩
    refine jn fun y=>?_
    obtain⟨t,ht⟩:=wV (hb x hv y)
    rw[hl]at ht
    cases ht
   |some t=>
    simp only[bJ,hl,pJ]at hx
    exact ih (v,t) (iH hl) x hx
theorem eB.best{ends f:Fl}{φ:ac->Tm}(h:eB ends f)(hφ:∀w e,look ends w=some e->φ w=e.sub φ):∀w,(bJ f w).sub φ=φ w:=by
 induction h with
 |nil=>intro w;rfl
 |@snoc f w e hs hw hn hb ih=>
  intro x
  by_cases z:x=w
  ·subst z
   simp only[bJ,DH hn,pJ]
   rw[gP,Kb,hφ x e hw]
   exact DE e fun v _=>ih v
  ·have:=ih x
   simp only[bJ,xg z]at this |-
   exact this
theorem DI:∀k:Nat,k * 2 ^ k<=3 ^ k
 |0=>by decide
 |1=>by decide
 |2=>by decide
 |k+3=>by
  have h:=DI (k+2)
  have e1:(k+3) * 2 ^ (k+3)=2 * ((k+2) * 2 ^ (k+2))+2 * 2 ^ (k+2):=by
   rw[Nat.pow_succ 2 (k+2),show k+3=k+2+1 from rfl,jB,rn]
   have:(k+2) * (2 ^ (k+2) * 2)=(k+2) * 2 ^ (k+2) * 2:=by rw[jC]
   omega
  have e2:3 ^ (k+3)=3 * 3 ^ (k+2):=by rw[Nat.pow_succ 3 (k+2)];omega
  have h2:2 * 2 ^ (k+2)<=(k+2) * 2 ^ (k+2):=jj _ (by omega)
  omega
theorem Ke{D M A P S k:Nat}(hDM:D<=M)(hP:P<=A+S)(hS:D * S+k * (D * A)<=k * (2 * (A * M))):2 ^ k * D * (P+A)<=2 * A * (3 ^ k * M):=by
 have h1:D * (P+A)<=D * S+2 * (D * A):=by
  have:D * (P+A)<=D * (S+2 * A):=lB _ (by omega)
  have e:D * (S+2 * A)=D * S+2 * (D * A):=by rw[Nat.mul_add,mR D 2 A]
  omega
 have h2:D * A<=A * M:=by rw[kx A M];exact jj _ hDM
 have goal:2 ^ k * (D * (P+A))<=2 * (3 ^ k * (A * M)):=by
  generalize D * (P+A)=X at h1 |-
  generalize D * S=Y at h1 hS
  generalize D * A=Z at h1 h2 hS
  generalize A * M=W at h2 hS |-
  cases k with
  |zero=>simp at hS |-;omega
  |succ k=>
   cases k with
   |zero=>simp at hS |-;omega
   |succ k=>
    have h3:X<=(k+2) * (2 * W):=by
     have:2 * Z<=(k+1+1) * Z:=jj _ (by omega)
     have e:(k+1+1) * (2 * W)=(k+2) * (2 * W):=rfl
     omega
    have h4:2 ^ (k+2) * X<=2 ^ (k+2) * ((k+2) * (2 * W)):=lB _ h3
    have e:2 ^ (k+2) * ((k+2) * (2 * W))=2 * (((k+2) * 2 ^ (k+2)) * W):=by
     rw[<-jC,kx (2 ^ (k+2)) (k+2),mR]
    have h5:((k+2) * 2 ^ (k+2)) * W<=3 ^ (k+2) * W:=jj _ (DI (k+2))
    show 2 ^ (k+2) * X<=2 * (3 ^ (k+2) * W)
    omega
 have e1:2 ^ k * D * (P+A)=2 ^ k * (D * (P+A)):=jC ..
 have e2:2 * A * (3 ^ k * M)=2 * (3 ^ k * (A * M)):=by rw[jC,mR A]
 omega
def hv(q:Tm->Bool):Tm->Nat
 |.thing _ ps=>ps.countP q
 |_=>0
def h9(q:Tm->Bool)(σ:ac->Tm)(m:Nat):List Tm->Nat
 |[]=>0
 |t::r=>(if (t.sub σ).nodes<=m then hv q t else 0)+h9 q σ m r
theorem xh{q:Tm->Bool}{σ:ac->Tm}{m n:Nat}(h:m<=n):∀U:List Tm,h9 q σ m U<=h9 q σ n U
 |[]=>aJ _
 |t::r=>by
  have ih:=xh (q:=q) (σ:=σ) h r
  simp only[h9]
  split<;>split<;>omega
theorem DJ{q:Tm->Bool}{σ:ac->Tm}{m:Nat}{t:Tm}(h:m<(t.sub σ).nodes):∀{U:List Tm},t∈U->h9 q σ m U+hv q t<=h9 q σ (t.sub σ).nodes U
 |u::r,ht=>by
  simp only[h9]
  rcases bF.mp ht with z|z
  ·subst z
   have:=xh (q:=q) (σ:=σ) (mQ h) r
   rw[if_neg (by omega),if_pos (aJ _)]
   omega
  ·have:=DJ (q:=q) h z
   split<;>split<;>omega
theorem DK{q:Tm->Bool}{σ:ac->Tm}{m:Nat}:∀U:List Tm,h9 q σ m U<=(U.map (hv q)).sum
 |[]=>aJ _
 |t::r=>by
  have ih:=DK (q:=q) (σ:=σ) (m:=m) r
  simp only[h9,bP,jH]
  split<;>omega
structure qp(q:Tm->Bool)(L:Nat)(σ:ac->Tm)(U:List Tm):Prop where
 part:∀w ps,Tm.thing w ps∈U->∀p∈ps,cc p=true->p∈U
 blank:∀w ps,Tm.thing w ps∈U->∀x,Tm.blank x∈ps->(σ x).nodes=1\/∃e∈U,cc e=true/\σ x=e.sub σ
 light:∀w ps,Tm.thing w ps∈U->(ps.countP fun p=> !q p)<=L/\∀p∈ps,q p=false->(p.sub σ).nodes=1
theorem DL{σ:ac->Tm}{q:Tm->Bool}{B A D:Nat}:∀{ps:List Tm},(∀p∈ps,q p=false->(p.sub σ).nodes=1)->(∀p∈ps,q p=true->D * ((p.sub σ).nodes+A)<=B)->
 ∃S,aX (ps.map (Tm.sub σ))=(ps.countP fun p=> !q p)+S/\D * S+ps.countP q * (D * A)<=ps.countP q * B
 |[],_,_=>⟨0,rfl,by simp⟩
 |p::ps,h1,h2=>by
  obtain⟨S,e,hS⟩:=DL (ps:=ps) (fun p hp=>h1 p (by simp[hp])) (fun p hp=>h2 p (by simp[hp]))
  simp only[bP,aX,vj]
  cases hq:q p with
  |false=>
   have:=h1 p (by simp) hq
   exact⟨S,by simp;omega,by simpa using hS⟩
  |true=>
   have:=h2 p (by simp) hq
   refine⟨S+(p.sub σ).nodes,by simp;omega,?_⟩
   rw[Nat.mul_add]at this |-
   simp only[if_true]
   rw[jB,jB,rn,rn]
   omega
theorem qp.le{q:Tm->Bool}{L:Nat}{σ:ac->Tm}{U:List Tm}(h:qp q L σ U):∀(n:Nat)(t:Tm),t∈U->cc t=true->(t.sub σ).nodes<=n->2 ^ h9 q σ (t.sub σ).nodes U * ((t.sub σ).nodes+(L+1))<=2 * (L+1) * 3 ^ h9 q σ (t.sub σ).nodes U:=by
 intro n
 induction n with
 |zero=>intro t _ _ hn;have:=(t.sub σ).nodes_pos;omega
 |succ n ih=>
  intro t ht hT hn
  cases t with
  |num _=>cases hT
  |name _=>cases hT
  |blank _=>cases hT
  |thing w ps=>
   obtain⟨hl,h1⟩:=h.light w ps ht
   have hpos:=((Tm.thing w ps).sub σ).nodes_pos
   generalize hC:h9 q σ (((Tm.thing w ps).sub σ).nodes - 1) U=C
   have hless:=DJ (q:=q) (σ:=σ) (m:=((Tm.thing w ps).sub σ).nodes - 1) (t:= .thing w ps) (by omega) ht
   rw[hC]at hless
   have hp23:∀a b:Nat,a<=b->2 ^ b * 3 ^ a<=2 ^ a * 3 ^ b:=fun a b hab=>by
        obtain⟨d,rfl⟩:=u5 hab
        rw[mS,mS,jC,kx (2 ^ d)]
        exact lB _ (lB _ (u7 (by decide) d))
   have up:∀{a b x:Nat},a<=b->2 ^ a * x<=2 * (L+1) * 3 ^ a->2 ^ b * x<=2 * (L+1) * 3 ^ b:=fun {a b x} hab hx=>by
        have h3:3 ^ a * (2 ^ b * x)<=3 ^ a * (2 * (L+1) * 3 ^ b):=by
         have e1:3 ^ a * (2 ^ b * x)=(2 ^ b * 3 ^ a) * x:=by rw[<-jC,kx (3 ^ a)]
         have h4:(2 ^ b * 3 ^ a) * x<=(2 ^ a * 3 ^ b) * x:=jj _ (hp23 a b hab)
         have e2:(2 ^ a * 3 ^ b) * x=3 ^ b * (2 ^ a * x):=by rw[kx (2 ^ a),jC]
         have h5:3 ^ b * (2 ^ a * x)<=3 ^ b * (2 * (L+1) * 3 ^ a):=lB _ hx
         have e3:3 ^ b * (2 * (L+1) * 3 ^ a)=3 ^ a * (2 * (L+1) * 3 ^ b):=by rw[mR,mR (3 ^ a),kx (3 ^ a)]
         omega
        exact zc h3 (Nat.pow_pos (by decide))
   have one:2 ^ C * (1+(L+1))<=2 * (L+1) * 3 ^ C:=up (cP C) (by simp;omega)
   have part:∀p∈ps,2 ^ C * ((p.sub σ).nodes+(L+1))<=2 * (L+1) * 3 ^ C:=fun p hp=>by
        have hlt:=qo (φ:=σ) (w:=w) hp
        have use:∀e∈U,cc e=true->(e.sub σ).nodes=(p.sub σ).nodes->2 ^ C * ((p.sub σ).nodes+(L+1))<=2 * (L+1) * 3 ^ C:=fun e he hTe hee=>by
         have:=ih e he hTe (by omega)
         rw[<-hee]
         refine up ?_ this
         rw[<-hC]
         exact xh (by omega) U
        cases p with
        |num _=>exact one
        |name _=>exact one
        |thing v qs=>exact use _ (h.part w ps ht _ hp rfl) rfl rfl
        |blank x=>
         rcases h.blank w ps ht x hp with z|⟨e,he,hTe,z⟩
         ·have:((Tm.blank x).sub σ).nodes=1:=z
          rw[this]
          exact one
         ·refine use e he hTe ?_
          show _=(σ x).nodes
          rw[z]
   obtain⟨S,eS,hS⟩:=DL (q:=q) h1 fun p hp _=>part p hp
   have hk:hv q (.thing w ps)=ps.countP q:=rfl
   have hnod:((Tm.thing w ps).sub σ).nodes=1+aX (ps.map (Tm.sub σ)):=by simp only[Tm.sub,ja,Tm.nodes]
   have:=Ke (D:=2 ^ C) (M:=3 ^ C) (A:=L+1) (P:=((Tm.thing w ps).sub σ).nodes) (S:=S) (k:=ps.countP q) (u7 (by decide) C) (by omega) (by
        rw[show 2 * ((L+1) * 3 ^ C)=2 * (L+1) * 3 ^ C by rw[jC]];exact hS)
   rw[<-mS,<-mS]at this
   refine up (a:=ps.countP q+C) ?_ this
   rw[hk]at hless
   omega
theorem qp.num{q:Tm->Bool}{L:Nat}{σ:ac->Tm}{U:List Tm}(h:qp q L σ U){t:Tm}(ht:t∈U)(hT:cc t=true){c N:Nat}(hc:(U.map (hv q)).sum<=c)(hN:2 * (L+1) * 3 ^ c<=2 ^ c * N):(t.sub σ).nodes<=N:=by
 have h1:=h.le _ t ht hT (aJ _)
 have hle:=DK (q:=q) (σ:=σ) (m:=(t.sub σ).nodes) U
 generalize h9 q σ (t.sub σ).nodes U=C at h1 hle
 generalize (t.sub σ).nodes=P at h1 |-
 have hCc:C<=c:=by omega
 obtain⟨d,rfl⟩:=u5 hCc
 have h2:2 ^ C * P<=2 * (L+1) * 3 ^ C:=dJ (lB _ (by omega)) h1
 have h3:2 ^ (C+d) * P<=2 * (L+1) * 3 ^ (C+d):=by
  have e1:2 ^ (C+d) * P=2 ^ d * (2 ^ C * P):=by rw[mS,kx (2 ^ C),jC]
  have h4:2 ^ d * (2 ^ C * P)<=3 ^ d * (2 * (L+1) * 3 ^ C):=Nat.mul_le_mul (u7 (by decide) d) h2
  have e2:3 ^ d * (2 * (L+1) * 3 ^ C)=2 * (L+1) * 3 ^ (C+d):=by rw[mS,mR,kx (3 ^ d)]
  omega
 have h5:2 ^ (C+d) * P<=2 ^ (C+d) * N:=dJ h3 hN
 exact zc h5 (Nat.pow_pos (by decide))
variable{t u:Tm}{td:List Ln}{fo ba:Wp}
open PySem.Spec PyProof.Rows L2
theorem Kf{x y:ac}(h:x.cps.toList=y.cps.toList):x=y:=by
 cases x;cases y
 congr
 exact vL h
def rg(a b c:Nat):Bool:=decide (a<=c)&&decide (c<=b)
theorem DM{p:Nat->Bool}{a k:List Nat}(ha:∀c∈a,p c=true)(hk:lZ k)(h44:p 44=false)(h41:p 41=false):(a++k).takeWhile p=a:=by
 refine Cc ha ?_
 rcases hk with rfl|⟨r,rfl|rfl⟩
 ·exact .inl rfl
 ·exact .inr ⟨44,r,rfl,h44⟩
 ·exact .inr ⟨41,r,rfl,h41⟩
theorem DN(n:Int):∃(sg:List Nat)(m:Nat),ju n=sg++cN m/\((sg=[]/\n=(m:Int))\/(sg=[45]/\n= -(m:Int)/\m≠0)):=by
 cases n with
 |ofNat m=>exact⟨[],m,CC m,.inl ⟨rfl,rfl⟩⟩
 |negSucc m=>exact⟨[45],m+1,CD m,.inr ⟨rfl,rfl,by omega⟩⟩
theorem Kg(m:Nat):∀c∈cN m,rg 48 57 c=true:=fun c hc=>by
 have:=wL m c hc
 unfold rg
 rw[decide_eq_true this.1,decide_eq_true this.2];rfl
theorem Kh{n:Int}(k:List Nat):∃c r,ju n++k=c::r/\(c=45\/(48<=c/\c<=57)):=by
 obtain⟨sg,m,h,hh⟩:=DN n
 rcases hh with⟨rfl,_⟩|⟨rfl,_,_⟩
 ·cases hf:cN m with
  |nil=>exact absurd hf (p9 m)
  |cons c r=>
   refine⟨c,r++k,by rw[h,hf];rfl,.inr (wL m c (by rw[hf];simp))⟩
 ·exact⟨45,cN m++k,by rw[h];rfl,.inl rfl⟩
def dQ:Nat->Bool:=rg 97 122
def ml:Nat->Bool:=rg 48 57
def li(l:List Nat):ac:=⟨l.toArray⟩
theorem Ki(l:List Nat):(li l).cps.toList=l:=by simp[li]
def Lw(w:ac):Prop:=w.cps.toList≠[]/\∀c∈w.cps.toList,dQ c=true
mutual
def Tm.Gd:Tm->Prop
 |.num _=>True
 |.name w=>Lw w
 |.blank w=>Lw w
 |.thing w ps=>Lw w/\ps≠[]/\tM ps
def tM:List Tm->Prop
 |[]=>True
 |p::r=>p.Gd/\tM r
end
abbrev Bg:=List (ac×List Tm)
def qq(l:List Nat):List Nat:=if l.head?=some 45 then [45]else []
def j9(l:List Nat):List Nat:=if l.head?=some 45 then l.tail else l
def qr(l:List Nat):Option (Int×List Nat):=
 if (j9 l).takeWhile ml=[]then none
 else if ((j9 l).takeWhile ml).head?=some 48/\qq l++(j9 l).takeWhile ml≠[48]then none
 else some (if qq l=[]then (vU ((j9 l).takeWhile ml):Int)else -(vU ((j9 l).takeWhile ml):Int),(j9 l).dropWhile ml)
inductive eU:List Nat->Bg->Option (Tm×List Nat×Bg)->Prop where
 |more {k r:List Nat} {b:Bg} {res}:k.takeWhile dQ≠[]->k.dropWhile dQ=40::r->eU r ((li (k.takeWhile dQ),[])::b) res->eU k b res
 |name {k:List Nat} {b:Bg}:k.takeWhile dQ≠[]->(k.dropWhile dQ).head?≠some 40->eU k b (some (.name (li (k.takeWhile dQ)),k.dropWhile dQ,b))
 |blank {k r:List Nat} {b:Bg}:k=63::r->r.takeWhile dQ≠[]->eU k b (some (.blank (li (r.takeWhile dQ)),r.dropWhile dQ,b))
 |noblank {k r:List Nat} {b:Bg}:k=63::r->r.takeWhile dQ=[]->eU k b none
 |num {k r:List Nat} {b:Bg} {n:Int}:k.takeWhile dQ=[]->k.head?≠some 63->qr k=some (n,r)->eU k b (some (.num n,r,b))
 |nonum {k:List Nat} {b:Bg}:k.takeWhile dQ=[]->k.head?≠some 63->qr k=none->eU k b none
inductive fV:Tm->List Nat->Bg->Option Tm->Prop where
 |fin {t:Tm}:fV t [] [] (some t)
 |behind {t:Tm} {c:Nat} {k:List Nat}:fV t (c::k) [] none
 |comma {t t':Tm} {k k':List Nat} {w:ac} {d:List Tm} {b b':Bg} {res}:eU k ((w,d++[t])::b) (some (t',k',b'))->fV t' k' b' res->fV t (44::k) ((w,d)::b) res
 |nocomma {t:Tm} {k:List Nat} {w:ac} {d:List Tm} {b:Bg}:eU k ((w,d++[t])::b) none->fV t (44::k) ((w,d)::b) none
 |close {t:Tm} {k:List Nat} {w:ac} {d:List Tm} {b:Bg} {res}:fV (.thing w (d++[t])) k b res->fV t (41::k) ((w,d)::b) res
 |neither {t:Tm} {k:List Nat} {f:ac×List Tm} {b:Bg}:k.head?≠some 44->k.head?≠some 41->fV t k (f::b) none
inductive qt:List Nat->Option Tm->Prop where
 |yes {l k:List Nat} {t:Tm} {b:Bg} {res}:eU l [] (some (t,k,b))->fV t k b res->qt l res
 |no {l:List Nat}:eU l [] none->qt l none
theorem tw_dw{p:Nat->Bool}(l:List Nat):l.takeWhile p++l.dropWhile p=l:=List.takeWhile_append_dropWhile
def Ch(l:List Nat)(b:Bg)(res:Option Tm):Prop:=(∃t k b',eU l b (some (t,k,b'))/\fV t k b' res)\/(eU l b none/\res=none)
theorem DO{w:ac}{k:List Nat}(h:Lw w)(hk:lZ k):(w.cps.toList++k).takeWhile dQ=w.cps.toList:=DM h.2 hk (by decide) (by decide)
theorem nJ{p:Nat->Bool}{a k:List Nat}(h:(a++k).takeWhile p=a):(a++k).dropWhile p=k:=by
 have e:=tw_dw (p:=p) (a++k)
 rw[h]at e
 exact List.append_cancel_left e
theorem xi(w:ac):li w.cps.toList=w:=Kf (Ki _)
theorem Kj{k:List Nat}(hk:lZ k):k.head?≠some 40:=by
 rcases hk with rfl|⟨r,rfl|rfl⟩<;>simp
theorem tN{m:Nat}{k:List Nat}(hk:lZ k):(cN m++k).takeWhile ml=cN m:=DM (Kg m) hk (by decide) (by decide)
theorem DQ{m:Nat}:(cN m).head?=some 48->cN m=[48]:=by
 intro h
 cases e:cN m with
 |nil=>rw[e]at h;simp at h
 |cons c r=>
  rw[e]at h
  simp only[vk,m9]at h
  subst h
  have:=Cz m r e
  subst this
  rw[Cy (by decide)]at e
  exact e.symm
theorem DR(m:Nat)(k:List Nat):(cN m++k).head?≠some 45:=by
 cases e:cN m with
 |nil=>exact absurd e (p9 m)
 |cons c r=>
  have:=wL m c (by rw[e];simp)
  simp only[eL,vk,ne_eq,m9]
  omega
theorem Kk{n:Int}{k:List Nat}(hk:lZ k):qr (ju n++k)=some (n,k):=by
 obtain⟨sg,m,e,hh⟩:=DN n
 rcases hh with⟨rfl,rfl⟩|⟨rfl,rfl,hm⟩
 ·rw[e,iq]
  have h1:qq (cN m++k)=[]:=by unfold qq;rw[if_neg (DR m k)]
  have h2:j9 (cN m++k)=cN m++k:=by unfold j9;rw[if_neg (DR m k)]
  unfold qr
  rw[h1,h2,tN hk,if_neg (p9 m),if_neg (fun z=>z.2 (by rw[iq];exact DQ z.1)),if_pos rfl,CB,nJ (tN hk)]
 ·rw[e]
  have h1:qq ([45]++cN m++k)=[45]:=rfl
  have h2:j9 ([45]++cN m++k)=cN m++k:=rfl
  have h3:(cN m).head?≠some 48:=fun z=>by
   have y:=DQ z
   have:=Cz m [] y
   exact hm this
  unfold qr
  rw[h1,h2,tN hk,if_neg (p9 m),if_neg (fun z=>h3 z.1),if_neg (by simp),CB,nJ (tN hk)]
theorem DT{n:Int}{k:List Nat}:(ju n++k).takeWhile dQ=[]/\(ju n++k).head?≠some 63:=by
 obtain⟨c,r,e,hc⟩:=Kh (n:=n) k
 rw[e]
 constructor
 ·rw[zn,if_neg]
  unfold dQ rg
  rw[iO,decide_eq_true_eq,decide_eq_true_eq]
  omega
 ·simp only[vk,ne_eq,m9]
  omega
theorem xj{p:Tm}:∀{l:List Tm},tM l->p∈l->p.Gd
 |x::r,h,hm=>by
  rcases bF.mp hm with rfl|hm
  ·exact h.1
  ·exact xj h.2 hm
theorem DU(ps:List Tm)(k:List Nat):lZ (fT ps++41::k):=by
 cases ps with
 |nil=>exact .inr ⟨k,.inr rfl⟩
 |cons p r=>exact .inr ⟨_,.inl rfl⟩
theorem Kl(t:Tm):∀(k:List Nat)(b:Bg)(res:Option Tm),t.Gd->lZ k->fV t k b res->Ch (t.line++k) b res:=by
 induction t using Tm.ind with
 |h1 n=>
  intro k b res _ hk h
  exact .inl ⟨_,_,_,.num (DT (n:=n)).1 (DT (n:=n)).2 (Kk hk),h⟩
 |h2 w=>
  intro k b res hg hk h
  have e:=DO hg hk
  have hl:eU (w.cps.toList++k) b (some (.name (li ((w.cps.toList++k).takeWhile dQ)),(w.cps.toList++k).dropWhile dQ,b)):= .name (by rw[e];exact hg.1) (by rw[nJ e];exact Kj hk)
  rw[e,nJ e,xi]at hl
  exact .inl ⟨_,_,_,hl,h⟩
 |h3 w=>
  intro k b res hg hk h
  have e:=DO hg hk
  have hl:eU (63::(w.cps.toList++k)) b (some (.blank (li ((w.cps.toList++k).takeWhile dQ)),(w.cps.toList++k).dropWhile dQ,b)):= .blank rfl (by rw[e];exact hg.1)
  rw[e,nJ e,xi]at hl
  exact .inl ⟨_,_,_,hl,h⟩
 |h4 w ps ih=>
  intro k b res hg hk h
  simp only[Tm.Gd]at hg
  obtain⟨hw,hne,hgl⟩:=hg
  have parts:∀(qs:List Tm)(p:Tm)(d:List Tm),(∀q∈qs,q∈ps)->fV (.thing w (d++p::qs)) k b res->fV p (fT qs++41::k) ((w,d)::b) res:=by
   intro qs
   induction qs with
   |nil=>intro p d _ hw';exact .close hw'
   |cons q qs ih2=>
    intro p d hm hw'
    have hq:fV q (fT qs++41::k) ((w,d++[p])::b) res:=ih2 q (d++[p]) (fun x hx=>hm x (by simp[hx])) (by simpa using hw')
    have hc:=ih q (hm q (by simp)) _ _ _ (xj hgl (hm q (by simp))) (DU qs k) hq
    have e:fT (q::qs)++41::k=44::(q.line++(fT qs++41::k)):=by simp[fT]
    rw[e]
    rcases hc with⟨t',k',b',h1,h2⟩|⟨h1,rfl⟩
    ·exact .comma h1 h2
    ·exact .nocomma h1
  cases ps with
  |nil=>exact absurd rfl hne
  |cons p qs=>
   have hp:=parts qs p [] (fun q hq=>by simp[hq]) h
   have hc:=ih p (by simp) _ _ _ (xj hgl (by simp)) (DU qs k) hp
   have el:(Tm.thing w (p::qs)).line++k=w.cps.toList++40::(p.line++(fT qs++41::k)):=by simp[Tm.line,nD]
   have e:(w.cps.toList++40::(p.line++(fT qs++41::k))).takeWhile dQ=w.cps.toList:=Cc hw.2 (.inr ⟨40,_,rfl,by decide⟩)
   have more:∀r,eU (p.line++(fT qs++41::k)) ((w,[])::b) r->eU ((Tm.thing w (p::qs)).line++k) b r:=fun r hr=>by
        rw[el]
        exact .more (by rw[e];exact hw.1) (nJ e) (by rw[e,xi];exact hr)
   rcases hc with⟨t',k',b',h1,h2⟩|⟨h1,rfl⟩
   ·exact .inl ⟨_,_,_,more _ h1,h2⟩
   ·exact .inr ⟨more _ h1,rfl⟩
theorem DV{t:Tm}(h:t.Gd):qt t.line (some t):=by
 have hc:=Kl t [] [] (some t) h (.inl rfl) .fin
 rw[jG]at hc
 rcases hc with⟨t',k',b',h1,h2⟩|⟨_,e⟩
 ·exact .yes h1 h2
 ·cases e
theorem nK{k:List Nat}{b:Bg}{r1:Option (Tm×List Nat×Bg)}(h:eU k b r1):∀r2,eU k b r2->r1=r2:=by
 induction h with
 |more h1 h2 _ ih=>
  rename_i h3
  intro r2 g
  cases g with
  |more g1 g2 g3=>rw[h2]at g2;cases g2;exact ih _ g3
  |name g1 g2=>rw[h2]at g2;exact absurd rfl g2
  |blank g1 g2=>subst g1;exact absurd rfl h1
  |noblank g1 g2=>subst g1;exact absurd rfl h1
  |num g1 g2 g3=>exact absurd g1 h1
  |nonum g1 g2 g3=>exact absurd g1 h1
 |name h1 h2=>
  intro r2 g
  cases g with
  |more g1 g2 g3=>rw[g2]at h2;exact absurd rfl h2
  |name g1 g2=>rfl
  |blank g1 g2=>subst g1;exact absurd rfl h1
  |noblank g1 g2=>subst g1;exact absurd rfl h1
  |num g1 g2 g3=>exact absurd g1 h1
  |nonum g1 g2 g3=>exact absurd g1 h1
 |blank h1 h2=>
  subst h1
  intro r2 g
  cases g with
  |more g1 g2 g3=>exact absurd rfl g1
  |name g1 g2=>exact absurd rfl g1
  |blank g1 g2=>cases g1;rfl
  |noblank g1 g2=>cases g1;exact absurd g2 h2
  |num g1 g2 g3=>exact absurd rfl g2
  |nonum g1 g2 g3=>exact absurd rfl g2
 |noblank h1 h2=>
  subst h1
  intro r2 g
  cases g with
  |more g1 g2 g3=>exact absurd rfl g1
  |name g1 g2=>exact absurd rfl g1
  |blank g1 g2=>cases g1;exact absurd h2 g2
  |noblank g1 g2=>rfl
  |num g1 g2 g3=>exact absurd rfl g2
  |nonum g1 g2 g3=>exact absurd rfl g2
 |num h1 h2 h3=>
  intro r2 g
  cases g with
  |more g1 g2 g3=>exact absurd h1 g1
  |name g1 g2=>exact absurd h1 g1
  |blank g1 g2=>subst g1;exact absurd rfl h2
  |noblank g1 g2=>subst g1;exact absurd rfl h2
  |num g1 g2 g3=>rw[h3]at g3;cases g3;rfl
  |nonum g1 g2 g3=>rw[h3]at g3;cases g3
 |nonum h1 h2 h3=>
  intro r2 g
  cases g with
  |more g1 g2 g3=>exact absurd h1 g1
  |name g1 g2=>exact absurd h1 g1
  |blank g1 g2=>subst g1;exact absurd rfl h2
  |noblank g1 g2=>subst g1;exact absurd rfl h2
  |num g1 g2 g3=>rw[h3]at g3;cases g3
  |nonum g1 g2 g3=>rfl
theorem Km{t:Tm}{k:List Nat}{b:Bg}{r1:Option Tm}(h:fV t k b r1):∀r2,fV t k b r2->r1=r2:=by
 induction h with
 |fin=>intro r2 g;cases g;rfl
 |behind=>intro r2 g;cases g;rfl
 |comma h1 _ ih=>
  intro r2 g
  cases g with
  |comma g1 g2=>have:=nK h1 _ g1;cases this;exact ih _ g2
  |nocomma g1=>have:=nK h1 _ g1;cases this
  |neither g1 g2=>exact absurd rfl g1
 |nocomma h1=>
  intro r2 g
  cases g with
  |comma g1 g2=>have:=nK h1 _ g1;cases this
  |nocomma g1=>rfl
  |neither g1 g2=>rfl
 |close _ ih=>
  intro r2 g
  cases g with
  |close g1=>exact ih _ g1
  |neither g1 g2=>exact absurd rfl g2
 |neither h1 h2=>
  intro r2 g
  cases g with
  |comma g1 g2=>exact absurd rfl h1
  |nocomma g1=>rfl
  |close g1=>exact absurd rfl h2
  |neither g1 g2=>rfl
theorem Kn{l:List Nat}{r1 r2:Option Tm}(h:qt l r1)(g:qt l r2):r1=r2:=by
 cases h with
 |yes h1 h2=>
  cases g with
  |yes g1 g2=>have:=nK h1 _ g1;cases this;exact Km h2 _ g2
  |no g1=>have:=nK h1 _ g1;cases this
 |no h1=>
  cases g with
  |yes g1 g2=>have:=nK h1 _ g1;cases this
  |no g1=>rfl
open Classical
theorem Tm.Ok.gd{t:Tm}:t.Ok->t.Gd:=by
 refine Tm.ind (P:=fun t=>t.Ok->t.Gd) (fun _ _=>trivial) (fun x h=>?_) (fun x h=>?_) (fun x ps ih h=>?_) t
 ·simp only[Tm.Ok]at h;simp only[Tm.Gd];exact⟨fun z=>by have:=h.1;rw[z]at this;simp at this,fun c hc=>by have:=h.2.2 c hc;simp[dQ,rg,this]⟩
 ·simp only[Tm.Ok]at h;simp only[Tm.Gd];exact⟨fun z=>by have:=h.1;rw[z]at this;simp at this,fun c hc=>by have:=h.2.2 c hc;simp[dQ,rg,this]⟩
 ·simp only[Tm.Ok]at h
  simp only[Tm.Gd]
  refine⟨⟨fun z=>by have:=h.1.1;rw[z]at this;simp at this,fun c hc=>by have:=h.1.2.2 c hc;simp[dQ,rg,this]⟩,h.2.1,?_⟩
  have h2:=h.2.2
  clear h
  induction ps with
  |nil=>trivial
  |cons p r ih2=>
   simp only[eA]at h2
   simp only[tM]
   exact⟨ih p (by simp) h2.1,ih2 (fun q hq=>ih q (by simp[hq])) h2.2⟩
theorem Ko{t u:Tm}(ht:t.Ok)(hu:u.Ok)(h:t.line=u.line):t=u:=by
 have h1:=DV ht.gd
 have h2:=DV hu.gd
 rw[h]at h1
 exact cQ (Kn h1 h2)
abbrev On:=Tm->Option Nat
noncomputable def mn(on:On)(t:Tm)(n:Nat):On:=fun s=>if s=t then some n else on s
abbrev Lf:=Ln×RI
structure ia(g:Ln)(U:List Tm)(fs:List Lf)(on:On):Prop where
 snd:eg g [] fs
 inU:∀x∈fs,x.1.1∈U/\x.1.2∈U
 key:∀t n,on t=some n->∃x,fs[n]?=some x/\x.1.1=t
def bg(fs:List Lf)(on:On):Nx:=fun t=>(on t).bind fun n=>(fs[n]?).map fun x=>x.1.2
theorem nL{fs gs:List Lf}{n:Nat}{x:Lf}(h:fs[n]?=some x):(fs++gs)[n]?=some x:=by
 have:=(bI.mp h).1
 rw[kF this];exact h
theorem ia.add{g:Ln}{U:List Tm}{fs:List Lf}{on:On}{p:Ln}{r:RI}(h:ia g U fs on)(hl:j7 (fs.map (·.1)) g r p)(h1:p.1∈U)(h2:p.2∈U):ia g U (fs++[(p,r)]) on/\bg (fs++[(p,r)]) on=bg fs on:=by
 refine⟨⟨(DC g fs (p,r) []).mpr ⟨h.snd,by simpa using hl⟩,fun x hx=>?_,fun t n e=>?_⟩,?_⟩
 ·rcases bR.mp hx with z|z
  ·exact h.inU x z
  ·cases bZ.mp z;exact⟨h1,h2⟩
 ·obtain⟨x,e1,e2⟩:=h.key t n e
  exact⟨x,nL e1,e2⟩
 ·funext t
  unfold bg
  cases e:on t with
  |none=>rfl
  |some n=>
   obtain⟨x,e1,e2⟩:=h.key t n e
   simp only[Aq,e1,nL e1]
theorem ia.lead{g:Ln}{U:List Tm}{fs:List Lf}{on:On}{n:Nat}{x:Lf}(h:ia g U fs on)(hn:fs[n]?=some x):ia g U fs (mn on x.1.1 n)/\bg fs (mn on x.1.1 n)=put (bg fs on) x.1.1 x.1.2:=by
 refine⟨⟨h.snd,h.inU,fun t m e=>?_⟩,?_⟩
 ·unfold mn at e
  split at e
  ·rename_i c
   cases e
   exact⟨x,hn,c.symm⟩
  ·exact h.key t m e
 ·funext t
  unfold bg mn put
  by_cases c:t=x.1.1
  ·rw[if_pos c,if_pos c];simp[hn]
  ·rw[if_neg c,if_neg c]
theorem xk{g:Ln}{fs:List Lf}{n:Nat}{x:Lf}(hn:fs[n]?=some x):j7 (fs.map (·.1)) g (.turn (n:Nat)) (x.1.2,x.1.1):=by
 have hl:=(bI.mp hn).1
 refine⟨.turn n,?_,x.1,?_,rfl⟩
 ·simp only[RI.val,zLM]
  rw[if_pos ⟨by omega,by omega⟩]
  simp
 ·rw[cV,hn];rfl
theorem tO{g:Ln}{fs:List Lf}{n m:Nat}{x y:Lf}(hn:fs[n]?=some x)(hm:fs[m]?=some y)(e:x.1.2=y.1.1):j7 (fs.map (·.1)) g (.chain (n:Nat) (m:Nat)) (x.1.1,y.1.2):=by
 have hl:=(bI.mp hn).1
 have hl2:=(bI.mp hm).1
 refine⟨.chain n m,?_,x.1.1,x.1.2,y.1.2,?_,?_,rfl⟩
 ·simp only[RI.val,zLM]
  rw[if_pos ⟨⟨by omega,by omega⟩,by omega,by omega⟩]
  simp
 ·rw[cV,hn];rfl
 ·rw[cV,hm,e];rfl
theorem Kp{g:Ln}{fs:List Lf}{n k:Nat}{w:ac}{ps qs:List Tm}{r:RI}{a b:Tm}(hn:fs[n]?=some ((.thing w ps,.thing w qs),r))(hl:ps.length=qs.length)(ha:ps[k]?=some a)(hb:qs[k]?=some b):j7 (fs.map (·.1)) g (.part (n:Nat) (k:Nat)) (a,b):=by
 have hl':=(bI.mp hn).1
 refine⟨.part n k,?_,w,ps,qs,a,b,?_,hl,ha,hb,rfl⟩
 ·simp only[RI.val,zLM]
  rw[if_pos ⟨⟨by omega,by omega⟩,by omega⟩]
  simp
 ·rw[cV,hn];rfl
structure fN(g:Ln)(nx nx':Nx):Prop where
 non:∀s,nx' s=none↔nx s=none
 rch:∀s j f,a0 nx j s f->∃i,a0 nx' i s f
 inv:∀pd,dP g nx pd->dP g nx' pd
theorem fN.refl{g:Ln}{nx:Nx}:fN g nx nx:=⟨fun _=>Iff.rfl,fun _ j _ h=>⟨j,h⟩,fun _ h=>h⟩
theorem fN.trans{g:Ln}{a b c:Nx}(h:fN g a b)(k:fN g b c):fN g a c:=
 ⟨fun s=>(k.non s).trans (h.non s),fun s j f r=>let ⟨i,r'⟩:=h.rch s j f r;k.rch s i f r',fun pd u=>k.inv pd (h.inv pd u)⟩
theorem fN.short{g:Ln}{nx:Nx}{t e:Tm}{k:Nat}(r:a0 nx (k+1) t e):fN g nx (put nx t e):=by
 refine⟨fun s=>?_,fun s j f h=>?_,fun pd u=>u.short r⟩
 ·by_cases c:s=t
  ·subst c
   rw[lh]
   cases r with
   |step hs _=>rw[hs];simp
  ·rw[h8 c]
 ·obtain⟨i,_,h'⟩:=r.short h
  exact⟨i,h'⟩
theorem fN.pos{g:Ln}{nx nx':Nx}(h:fN g nx nx'){k:Nat}{t e:Tm}(r:a0 nx (k+1) t e):∃i,a0 nx' (i+1) t e:=by
 obtain⟨i,r'⟩:=h.rch _ _ _ r
 cases i with
 |zero=>
  cases r with
  |step hs _=>
   cases r' with
   |root hn=>rw[(h.non _).mp hn]at hs;cases hs
 |succ i=>exact⟨i,r'⟩
theorem a0.mono_app{g:Ln}{U:List Tm}{fs:List Lf}{on:On}(h:ia g U fs on){t u:Tm}(hn:bg fs on t=some u):∃n x,on t=some n/\fs[n]?=some x/\x.1=(t,u):=by
 unfold bg at hn
 cases e:on t with
 |none=>rw[e]at hn;cases hn
 |some n=>
  obtain⟨x,e1,e2⟩:=h.key t n e
  rw[e]at hn
  simp only[Aq,e1,nj,m9]at hn
  exact⟨n,x,rfl,e1,Prod.ext e2 hn⟩
theorem DW{fs:List Lf}{on:On}{g:Ln}{U:List Tm}(h:ia g U fs on){t:Tm}:bg fs on t=none↔on t=none:=by
 unfold bg
 cases e:on t with
 |none=>simp
 |some n=>
  obtain⟨x,e1,e2⟩:=h.key t n e
  simp[e1]
theorem xl{fs:List Lf}{on:On}{g:Ln}{U:List Tm}(h:ia g U fs on){t u:Tm}(e:bg fs on t=some u):t∈U/\u∈U:=by
 obtain⟨n,x,_,e1,e2⟩:=a0.mono_app h e
 have:=h.inU x (zMG e1)
 rw[e2]at this
 exact this
theorem DX{fs:List Lf}{on:On}{g:Ln}{U:List Tm}(h:ia g U fs on){k:Nat}{t e:Tm}(r:a0 (bg fs on) k t e)(ht:t∈U):e∈U:=by
 induction r with
 |root _=>exact ht
 |step hs _ ih=>exact ih (xl h hs).2
theorem Kq{fs:List Lf}{on:On}{g:Ln}{U:List Tm}(h:ia g U fs on){k:Nat}{t e:Tm}(r:a0 (bg fs on) k t e):k<=U.length:=r.len fun _ _ e=>(xl h e).1
inductive jy(fs:List Lf)(on:On)(t:Tm):List Nat->Tm->Prop
 |nil:jy fs on t [] t
 |snoc {ns:List Nat} {c:Tm} {n:Nat} {x:Lf}:jy fs on t ns c->on c=some n->fs[n]?=some x->x.1.1=c->jy fs on t (ns++[n]) x.1.2
theorem jy.unsnoc{fs:List Lf}{on:On}{t d:Tm}{ms:List Nat}(h:jy fs on t ms d):∀{ns:List Nat}{n:Nat},ms=ns++[n]->∃c x,jy fs on t ns c/\on c=some n/\fs[n]?=some x/\x.1=(c,d):=by
 cases h with
 |nil=>intro ns n e;simp at e
 |snoc h1 h2 h3 h4=>
  intro ns n e
  obtain⟨e1,e2⟩:=List.append_inj' e rfl
  cases e2
  subst e1
  exact⟨_,_,h1,h2,h3,Prod.ext h4 rfl⟩
theorem jy.rch{fs:List Lf}{on:On}{t c e:Tm}{ns:List Nat}(h:jy fs on t ns c){k:Nat}(r:a0 (bg fs on) k t e):∃j,a0 (bg fs on) j c e/\k=ns.length+j:=by
 induction h with
 |nil=>exact⟨k,r,by simp⟩
 |@snoc ns c n x h1 h2 h3 h4 ih=>
  obtain⟨j,r',e'⟩:=ih
  have hn:bg fs on c=some x.1.2:=by unfold bg;rw[h2];simp[h3]
  cases r' with
  |root z=>rw[z]at hn;cases hn
  |step z r''=>
   rw[hn]at z
   cases z
   exact⟨_,r'',by rw[zLA];simp;omega⟩
def ar:Tm->Nat
 |.thing _ ps=>ps.length
 |_=>0
noncomputable def jc(U:List Tm)(nx:Nx):Nat:=(U.map fun t=>if nx t=none then ar t else 0).sum
theorem tP{g:Ln}{U:List Tm}{nx nx':Nx}(h:fN g nx nx'):jc U nx'=jc U nx:=by
 unfold jc
 congr 1
 refine mW fun t _=>?_
 by_cases c:nx t=none
 ·rw[if_pos c,if_pos ((h.non t).mpr c)]
 ·rw[if_neg c,if_neg (fun z=>c ((h.non t).mp z))]
theorem xm{U:List Tm}{nx:Nx}{c d:Tm}(hc:nx c=none)(hU:c∈U):jc U (put nx c d)+ar c<=jc U nx:=by
 have le:∀l:List Tm,(l.map fun t=>if put nx c d t=none then ar t else 0).sum<=(l.map fun t=>if nx t=none then ar t else 0).sum:=fun l=>by
  induction l with
  |nil=>simp
  |cons a r ih=>
   simp only[bP,jH]
   have:(if put nx c d a=none then ar a else 0)<=if nx a=none then ar a else 0:=by
        by_cases z:a=c
        ·subst z;rw[lh];simp
        ·rw[h8 z];exact aJ _
   omega
 unfold jc
 induction U with
 |nil=>cases hU
 |cons a r ih=>
  simp only[bP,jH]
  by_cases z:a=c
  ·subst z
   have:=le r
   rw[lh,hc]
   simp only[if_true,reduceCtorEq,if_false]
   omega
  ·have:=ih (by rcases bF.mp hU with y|y;exact absurd y.symm z;exact y)
   rw[h8 z]
   omega
def bK(g:Ln):List Tm:=g.1.rp++g.2.rp
theorem qu(t:Tm):t∈t.rp:=by cases t<;>simp[Tm.rp]
theorem DY{ps:List Tm}{p u:Tm}(hp:p∈ps)(hu:u∈p.rp):u∈cb ps:=by
 induction ps with
 |nil=>cases hp
 |cons a r ih=>
  simp only[cb]
  rcases bF.mp hp with z|z
  ·subst z;exact eK _ hu
  ·exact eJ _ (ih z)
theorem tQ{t:Tm}:∀u∈t.rp,∀v∈u.rp,v∈t.rp:=by
 refine Tm.ind (P:=fun t=>∀u∈t.rp,∀v∈u.rp,v∈t.rp) (fun n u hu v hv=>?_) (fun n u hu v hv=>?_) (fun n u hu v hv=>?_) (fun x ps ih u hu v hv=>?_) t
 ·simp only[Tm.rp,bZ]at hu;subst hu;exact hv
 ·simp only[Tm.rp,bZ]at hu;subst hu;exact hv
 ·simp only[Tm.rp,bZ]at hu;subst hu;exact hv
 ·simp only[Tm.rp]at hu |-
  rcases bF.mp hu with z|z
  ·subst z;simpa only[Tm.rp]using hv
  ·refine dC _ ?_
   have:∃p∈ps,u∈p.rp:=by
        clear ih hu hv
        induction ps with
        |nil=>simp[cb]at z
        |cons a r ih2=>
         simp only[cb]at z
         rcases bR.mp z with y|y
         ·obtain⟨p,hp,hu⟩:=ih2 y
          exact⟨p,by simp[hp],hu⟩
         ·exact⟨a,by simp,y⟩
   obtain⟨p,hp,hu'⟩:=this
   exact DY hp (ih p hp u hu' v hv)
theorem tR{t:Tm}:t.Ok->∀u∈t.rp,u.Ok:=by
 refine Tm.ind (P:=fun t=>t.Ok->∀u∈t.rp,u.Ok) (fun n h u hu=>?_) (fun n h u hu=>?_) (fun n h u hu=>?_) (fun x ps ih h u hu=>?_) t
 ·simp only[Tm.rp,bZ]at hu;subst hu;exact h
 ·simp only[Tm.rp,bZ]at hu;subst hu;exact h
 ·simp only[Tm.rp,bZ]at hu;subst hu;exact h
 ·simp only[Tm.rp]at hu
  rcases bF.mp hu with z|z
  ·subst z;exact h
  ·simp only[Tm.Ok]at h
   have h2:=h.2.2
   clear hu h
   induction ps with
   |nil=>simp[cb]at z
   |cons a r ih2=>
    simp only[cb]at z
    simp only[eA]at h2
    rcases bR.mp z with y|y
    ·exact ih2 (fun p hp=>ih p (by simp[hp])) y h2.2
    ·exact ih a (by simp) h2.1 u y
theorem xn{g:Ln}{w:ac}{ps:List Tm}{p:Tm}(h:Tm.thing w ps∈bK g)(hp:p∈ps):p∈bK g:=by
 have hin:p∈(Tm.thing w ps).rp:=by
  simp only[Tm.rp]
  exact dC _ (DY hp (qu p))
 unfold bK at h |-
 rcases bR.mp h with z|z
 ·exact eJ _ (tQ _ z _ hin)
 ·exact eK _ (tQ _ z _ hin)
theorem tS(t:Tm):(t.rp.map ar).sum+1=t.nodes:=by
 refine Tm.ind (P:=fun t=>(t.rp.map ar).sum+1=t.nodes) (fun _=>rfl) (fun _=>rfl) (fun _=>rfl) (fun x ps ih=>?_) t
 simp only[Tm.rp,bP,jH,ar,Tm.nodes]
 have:((cb ps).map ar).sum+ps.length=aX ps:=by
  induction ps with
  |nil=>simp[cb,aX]
  |cons a r ih2=>
   have h1:=ih a (by simp)
   have h2:=ih2 fun p hp=>ih p (by simp[hp])
   simp only[cb,zMA,mX,aX,zLC]
   omega
 omega
theorem Kr(g:Ln):jc (bK g) (fun _=>none)+2=g.1.nodes+g.2.nodes:=by
 unfold jc bK
 simp only[if_true,zMA,mX]
 have h1:=tS g.1
 have h2:=tS g.2
 have e1:(g.1.rp.map fun t=>ar t)=g.1.rp.map ar:=rfl
 have e2:(g.2.rp.map fun t=>ar t)=g.2.rp.map ar:=rfl
 rw[e1,e2]
 omega
end BF
namespace BF
open PySem PySem.Spec PyProof.Rows L2
def eV(L O:Addr)(cl:V):List (ac×V):=[("lines",.ref L),("onward",.ref O),("clash",cl)]
theorem fP{L O:Addr}{cl:V}:(eV L O cl).lookup ("lines":ac)=some (V.ref L):=by
 unfold eV
 rw[e8]
 rw[show (("lines":ac)==("lines":ac))=true by decide +kernel]
theorem DZ{L O:Addr}{cl:V}:(eV L O cl).lookup ("onward":ac)=some (V.ref O):=by
 unfold eV
 rw[e8,show (("onward":ac)==("lines":ac))=false by decide +kernel]
 rw[e8,show (("onward":ac)==("onward":ac))=true by decide +kernel]
theorem tT{L O:Addr}{cl:V}:(eV L O cl).lookup ("clash":ac)=some cl:=by
 unfold eV
 rw[e8,show (("clash":ac)==("lines":ac))=false by decide +kernel]
 rw[e8,show (("clash":ac)==("onward":ac))=false by decide +kernel]
 rw[e8,show (("clash":ac)==("clash":ac))=true by decide +kernel]
theorem dY{L O:Addr}{cl:V}{m:ac}(h1:(m=="lines")=false)(h2:(m=="onward")=false)(h3:(m=="clash")=false):(eV L O cl).lookup m=none:=by
 unfold eV
 rw[e8,h1,e8,h2,e8,h3,List.lookup_nil]
theorem Ks{L O:Addr}{cl cl':V}:L2.cg "clash" cl' (eV L O cl)=eV L O cl':=by
 unfold eV
 simp only[L2.cg]
 rw[if_neg (by decide +kernel),if_neg (by decide +kernel),if_pos True.intro]
theorem Kt(L O:Addr):L2.cg "clash" .non (L2.cg "onward" (.ref O) (L2.cg "lines" (.ref L) []))=eV L O .non:=by
 unfold eV
 simp only[L2.cg]
 rw[if_neg (by decide +kernel)]
 simp only[L2.cg]
 rw[if_neg (by decide +kernel),if_neg (by decide +kernel)]
def cY:Option Nat->V
 |none=>.non
 |some n=>.int (n:Nat)
def tU(U:List Tm)(kvs:List (Key×V))(on:On):Prop:=∀t∈U,∀x:ac,x.cps.toList=t.line->bQ kvs (Sum.inr x)=(on t).map fun n=>V.int (n:Nat)
structure RK(C p dx L O:Addr)(g:Ln)(U:List Tm)(H:Hp)(fs:List Lf)(on:On)(cl:V)(N:Nat):Prop where
 self:H p=some (.ins C dx (eV L O cl))
 ls:∃ls,H L=some (.lst ls)/\dX H ls fs
 dic:∃kvs,H O=some (.dK kvs)/\tU U kvs on/\kvs.length<=N
 len:fs.length<=N
 st:ia g U fs on
 ok:∀t∈U,t.Ok/\t.nodes<=90
def cI(p L O:Addr)(H H':Hp):Prop:=∀b o,H b=some o->b≠p->b≠L->b≠O->H' b=some o
theorem cI.trans{p L O:Addr}{H H1 H2:Hp}(a:cI p L O H H1)(b:cI p L O H1 H2):cI p L O H H2:=fun c o h h1 h2 h3=>b c o (a c o h h1 h2 h3) h1 h2 h3
theorem cI.of{p L O:Addr}{H H':Hp}(s:aq H H'):cI p L O H H':=fun b o h _ _ _=>s b o h
theorem RK.ts{C p dx L O:Addr}{g:Ln}{U:List Tm}{H H':Hp}{fs:List Lf}{on:On}{cl:V}{N:Nat}(h:RK C p dx L O g U H fs on cl N)(f:cI p L O H H'):aV H H':=fun b xs e=>by
 obtain⟨ls,h1,_⟩:=h.ls
 obtain⟨kvs,h2,_⟩:=h.dic
 exact f b _ e (cy e h.self (by intro z;cases z)) (cy e h1 (by intro z;cases z)) (cy e h2 (by intro z;cases z))
theorem RK.lst{C p dx L O:Addr}{g:Ln}{U:List Tm}{H H':Hp}{fs:List Lf}{on:On}{cl:V}{N:Nat}(h:RK C p dx L O g U H fs on cl N)(f:cI p L O H H'){b:Addr}{xs:List V}(e:H b=some (.lst xs))(hb:b≠L):H' b=some (.lst xs):=by
 obtain⟨kvs,h2,_⟩:=h.dic
 exact f b _ e (cy e h.self (by intro z;cases z)) hb (cy e h2 (by intro z;cases z))
theorem RK.dct{C p dx L O:Addr}{g:Ln}{U:List Tm}{H H':Hp}{fs:List Lf}{on:On}{cl:V}{N:Nat}(h:RK C p dx L O g U H fs on cl N)(f:cI p L O H H'){b:Addr}{xs:List (Key×V)}(e:H b=some (.dK xs))(hb:b≠O):H' b=some (.dK xs):=by
 obtain⟨ls,h2,_⟩:=h.ls
 exact f b _ e (cy e h.self (by intro z;cases z)) (cy e h2 (by intro z;cases z)) hb
theorem RK.same{C p dx L O:Addr}{g:Ln}{U:List Tm}{H H':Hp}{fs:List Lf}{on:On}{cl:V}{N:Nat}(h:RK C p dx L O g U H fs on cl N)(s:aq H H'):RK C p dx L O g U H' fs on cl N where
 self:=s _ _ h.self
 ls:=let ⟨ls,h1,h2⟩:=h.ls;⟨ls,s _ _ h1,h2.mono (.of s)⟩
 dic:=let ⟨k,h1,h2⟩:=h.dic;⟨k,s _ _ h1,h2⟩
 len:=h.len
 st:=h.st
 ok:=h.ok
theorem RK.more{C p dx L O:Addr}{g:Ln}{U:List Tm}{H:Hp}{fs:List Lf}{on:On}{cl:V}{N M:Nat}(h:RK C p dx L O g U H fs on cl N)(hm:N<=M):RK C p dx L O g U H fs on cl M where
 self:=h.self
 ls:=h.ls
 dic:=let ⟨k,h1,h2,h3⟩:=h.dic;⟨k,h1,h2,dJ h3 hm⟩
 len:=dJ h.len hm
 st:=h.st
 ok:=h.ok
theorem RK.ne{C p dx L O:Addr}{g:Ln}{U:List Tm}{H:Hp}{fs:List Lf}{on:On}{cl:V}{N:Nat}(h:RK C p dx L O g U H fs on cl N):p≠L/\p≠O/\L≠O:=by
 obtain⟨ls,h1,_⟩:=h.ls
 obtain⟨kvs,h2,_⟩:=h.dic
 exact⟨cy h.self h1 (by intro z;cases z),cy h.self h2 (by intro z;cases z),cy h1 h2 (by intro z;cases z)⟩
theorem iI{H:Hp}{ls:List V}{fs:List Lf}(h:dX H ls fs){n:Nat}{x:Lf}(hx:fs[n]?=some x):∃a u v r,dn ls ((n:Nat):Int)=some (.ref a)/\H a=some (.tup [u,v,.ref r])/\H r=some (.tup (mj x.2))/\aw H u x.1.1/\aw H v x.1.2:=by
 have hl:ls.length=fs.length:=Paired.length h
 have hn:=(bI.mp hx).1
 obtain⟨p,hp,a,u,v,r,e,h1,h2,h3,h4⟩:=ql h n ls[n] (zGE (by omega))
 rw[hx]at hp
 cases hp
 exact⟨a,u,v,r,by rw[dH (zGE (by omega)),e],h1,h2,h3,h4⟩
abbrev ic(fs:List Lf)(ns:List Nat)(pd:List Ln):Prop:=Paired (fun n p=>∃x,fs[n]?=some x/\x.1=p) ns pd
theorem ic.app{fs gs:List Lf}{ns:List Nat}{pd:List Ln}(h:ic fs ns pd):ic (fs++gs) ns pd:=jZ (fun _ _ ⟨x,e1,e2⟩=>⟨x,nL e1,e2⟩) h
def bE(ns:List Nat):List V:=ns.map fun n=>V.int (n:Nat)
theorem tU.put{U:List Tm}{kvs:List (Key×V)}{on:On}{t:Tm}{n:Nat}{x:ac}(h:tU U kvs on)(ok:∀t∈U,t.Ok/\t.nodes<=90)(ht:t∈U)(hx:x.cps.toList=t.line):tU U (cS kvs (Sum.inr x) (.int (n:Nat))) (mn on t n):=fun u hu y hy=>by
 rw[sM]
 unfold mn
 by_cases c:u=t
 ·subst c
  have:y=x:=by cases y with|mk a=>cases x with|mk b=>simp only[ac.mk.injEq];exact vL (hy.trans hx.symm)
  subst this
  rw[if_pos rfl,if_pos rfl]
  rfl
 ·rw[if_neg c,if_neg (fun z=>c (Ko (ok u hu).1 (ok t ht).1 (by rw[<-hy,<-hx,kM z])))]
  exact h u hu y hy
theorem RK.put{C p dx L O:Addr}{g:Ln}{U:List Tm}{H:Hp}{fs:List Lf}{on:On}{cl:V}{N:Nat}(h:RK C p dx L O g U H fs on cl N){b:Addr}{xs ys:List V}(e:H b=some (.lst xs))(hb:b≠L):RK C p dx L O g U (ae H b (.lst ys)) fs on cl N where
 self:=by rw[am (cy h.self e (by intro z;cases z))];exact h.self
 ls:=let ⟨ls,h1,h2⟩:=h.ls;⟨ls,by rw[am hb.symm];exact h1,h2.mono (.lst e)⟩
 dic:=let ⟨k,h1,h2⟩:=h.dic;⟨k,by rw[am (cy h1 e (by intro z;cases z))];exact h1,h2⟩
 len:=h.len
 st:=h.st
 ok:=h.ok
theorem RK.free{C p dx L O:Addr}{g':Ln}{U':List Tm}{H H':Hp}{fs':List Lf}{on':On}{cl':V}{N':Nat}(h':RK C p dx L O g' U' H' fs' on' cl' N')(f:cI p L O H H'){b:Addr}(hb:H' b=none):H b=none:=by
 obtain⟨ls,h1,_⟩:=h'.ls
 obtain⟨kvs,h2,_⟩:=h'.dic
 cases e:H b with
 |none=>rfl
 |some o=>
  have:=f b o e (fun z=>by rw[z,h'.self]at hb;cases hb) (fun z=>by rw[z,h1]at hb;cases hb) (fun z=>by rw[z,h2]at hb;cases hb)
  rw[this]at hb
  cases hb
theorem Ku{α β:Type}{F:α->β->Prop}{l:List α}{m:List β}(h:Paired F l m):Paired F l.reverse m.reverse:=by
 induction h with
 |nil=>exact .nil
 |cons a _ ih=>rw[gU,gU];exact j6 ih a
theorem Kv{α β:Type}{F:α->β->Prop}{us vs:List α}{ps qs:List β}(h:Paired F us ps)(h':Paired F vs qs):Paired F (us++vs) (ps++qs):=by
 induction h with
 |nil=>exact h'
 |cons a _ ih=>exact .cons a ih
theorem D0{α β:Type}{F:α->β->Prop}:∀{us:List α}{u:α}{ds:List β}{d:β},Paired F (us++[u]) (ds++[d])->Paired F us ds/\F u d
 |[],_,[],_,.cons h .nil=>⟨.nil,h⟩
 |[],_,_::[],_,.cons _ r=>nomatch r
 |[],_,_::_::_,_,.cons _ r=>nomatch r
 |_::[],_,[],_,.cons _ r=>nomatch r
 |_::_::_,_,[],_,.cons _ r=>nomatch r
 |_::_,_,_::_,_,.cons h r=>let ⟨a,b⟩:=D0 r;⟨.cons h a,b⟩
theorem aD{X:Cx}{r:List Stmt}(T:TS)(h:gf X r T):gf X r T:=h
theorem aE{p:Prop}(v:TS)(k:let _T:TS:=v;p):p:=k
theorem aM{H H':Hp}{p:Addr}{o:HO}(h:H p=none)(e:ae H p o=H'):aq H H'/\H' p=some o:=by
 subst e
 exact⟨bz h o,au⟩
section
variable{X:Cx}{a:Expr}{ta:TE}{i:Int}{p pos pos':Pos}
theorem ao{j}(ha:PE X a ta):PE X (.Subscript a (.Constant (.int i) j p) pos) (lM (wf X.K) ta (tC (.int i))):=bG lV ha ax (fun _ _=>rfl)
theorem az{i:Nat}{x:ac}(hN:X.N.Nodup)(he:PE X a ta)(hi:X.N[i]?=some x:=by rfl)(hx:nn X.env.scope x:=by exact Or.inl rfl)(hs:swapsWith a (some (.Name x pos')) pos.line X.env=pure false:=by rfl)(hf:X.fn x=true\/X.env.scope.names.lookup x=some .local:=by first|exact .inl rfl|exact .inr rfl|assumption):PS X (.Assign [.Name x pos'] a pos) (sk ta (jM i)):=v6 hN hi hx he hs hf
end
theorem bj{b:Bool}{A B:Prop}(hB:B)(h:b=false:=by decide +kernel):if b=true then A else B:=ck h hB
theorem cZ{b:Bool}{A B:Prop}(hA:A)(h:b=true:=by decide +kernel):if b=true then A else B:=iV h hA
theorem fQ{b:Bool}{A B:Prop}(hB:B)(h:b=false:=by simp):if b=true then A else B:=ck h hB
theorem eW{P:List aa->Prop}(h:∀a,P [a]):∀us,us.length=1->P us
 |[a],_=>h a
theorem dj{P:List aa->Prop}(h:∀a b,P [a,b]):∀us,us.length=2->P us
 |[a,b],_=>h a b
theorem lj{P:List aa->Prop}(h:∀a b c,P [a,b,c]):∀us,us.length=3->P us
 |[a,b,c],_=>h a b c
theorem D1{P:List aa->Prop}(h:∀a b c d,P [a,b,c,d]):∀us,us.length=4->P us
 |[a,b,c,d],_=>h a b c d
theorem dz:([]:List V).length<=sizeLine:=by show 0<=sizeLine;decide
theorem gQ{a:V}:[a].length<=sizeLine:=by show 1<=sizeLine;decide
theorem cq{a b:V}:[a,b].length<=sizeLine:=by show 2<=sizeLine;decide
theorem gv{a b c:V}:[a,b,c].length<=sizeLine:=by show 3<=sizeLine;decide
theorem D2{a b c d:V}:[a,b,c,d].length<=sizeLine:=by show 4<=sizeLine;decide
end BF
set_option maxHeartbeats 4000000
namespace K07
open PySem L2 BF
def top(i:Nat):Stmt:=PySem.Challenge.pw_blankform_k07_whole_alike_or_shown.main.body.getD i (.Pass ⟨0,0,0,0⟩)
abbrev nM:Stmt:=top 1
theorem tV:bC ["term","met","coming","part"] ["term"] (av nM):=⟨rfl,rfl,rfl,by decide +kernel,rfl,by decide +kernel,by decide +kernel⟩
abbrev mq:Stmt:=top 2
theorem xo:bC ["term","words","part"] ["term"] (av mq):=⟨rfl,rfl,rfl,by decide +kernel,rfl,by decide +kernel,by decide +kernel⟩
abbrev nN:Stmt:=top 3
theorem Kw:bC ["term"] ["term"] (av nN):=⟨rfl,rfl,rfl,by decide +kernel,rfl,by decide +kernel,by decide +kernel⟩
abbrev nO:Stmt:=top 4
theorem xp:bC ["one","other","coming","pair"] ["one","other"] (av nO):=⟨rfl,rfl,rfl,by decide +kernel,rfl,by decide +kernel,by decide +kernel⟩
abbrev nP:Stmt:=top 6
theorem Kx:bC ["term","filling"] ["term","filling"] (av nP):=⟨rfl,rfl,rfl,by decide +kernel,rfl,by decide +kernel,by decide +kernel⟩
abbrev mr:Stmt:=top 7
theorem tW:bC ["term","terms","made","part","parts"] ["term","terms"] (av mr):=⟨rfl,rfl,rfl,by decide +kernel,rfl,by decide +kernel,by decide +kernel⟩
abbrev nQ:Stmt:=top 8
theorem D3:bC ["made","count","last"] ["made","count"] (av nQ):=⟨rfl,rfl,rfl,by decide +kernel,rfl,by decide +kernel,by decide +kernel⟩
abbrev mt:Stmt:=top 9
theorem Ky:bC ["terms"] ["terms"] (av mt):=⟨rfl,rfl,rfl,by decide +kernel,rfl,by decide +kernel,by decide +kernel⟩
abbrev nR:Stmt:=top 11
theorem tX:bC ["term","texts","coming","piece"] ["term"] (av nR):=⟨rfl,rfl,rfl,by decide +kernel,rfl,by decide +kernel,by decide +kernel⟩
abbrev nT:Stmt:=top 12
theorem D4:bC ["coming","parts","part"] ["coming","parts"] (av nT):=⟨rfl,rfl,rfl,by decide +kernel,rfl,by decide +kernel,by decide +kernel⟩
abbrev nU:Stmt:=top 13
theorem Kz:bC ["term"] ["term"] (av nU):=⟨rfl,rfl,rfl,by decide +kernel,rfl,by decide +kernel,by decide +kernel⟩
abbrev nV:Stmt:=iC (top 15) 0
theorem KA:bC ["self","one","other"] ["self","one","other"] (av nV):=⟨rfl,rfl,rfl,by decide +kernel,rfl,by decide +kernel,by decide +kernel⟩
abbrev nW:Stmt:=iC (top 15) 1
theorem xq:bC ["self","coming","number"] ["self"] (av nW):=⟨rfl,rfl,rfl,by decide +kernel,rfl,by decide +kernel,by decide +kernel⟩
abbrev nX:Stmt:=iC (top 15) 2
theorem qv:bC ["self","number","line","between","one","other"] ["self","number"] (av nX):=⟨rfl,rfl,rfl,by decide +kernel,rfl,by decide +kernel,by decide +kernel⟩
abbrev mw:Stmt:=iC (top 15) 3
theorem KB:bC ["self","number"] ["self","number"] (av mw):=⟨rfl,rfl,rfl,by decide +kernel,rfl,by decide +kernel,by decide +kernel⟩
abbrev mx:Stmt:=iC (top 15) 4
theorem KC:bC ["self","term"] ["self","term"] (av mx):=⟨rfl,rfl,rfl,by decide +kernel,rfl,by decide +kernel,by decide +kernel⟩
abbrev nY:Stmt:=iC (top 15) 5
theorem my:bC ["self","term","steps","number","whole","step"] ["self","term"] (av nY):=⟨rfl,rfl,rfl,by decide +kernel,rfl,by decide +kernel,by decide +kernel⟩
abbrev nZ:Stmt:=iC (top 15) 6
theorem D5:bC ["self","term","number"] ["self","term"] (av nZ):=⟨rfl,rfl,rfl,by decide +kernel,rfl,by decide +kernel,by decide +kernel⟩
abbrev n0:Stmt:=iC (top 15) 7
theorem mz:bC ["self","number","line","ahead","behind","between"] ["self","number"] (av n0):=⟨rfl,rfl,rfl,by decide +kernel,rfl,by decide +kernel,by decide +kernel⟩
abbrev n6:Stmt:=iC (top 15) 8
theorem qw:bC ["self","number","line","parts","place","pair"] ["self","number"] (av n6):=⟨rfl,rfl,rfl,by decide +kernel,rfl,by decide +kernel,by decide +kernel⟩
abbrev n8:Stmt:=iC (top 15) 9
theorem D6:bC ["self","number","line"] ["self","number"] (av n8):=⟨rfl,rfl,rfl,by decide +kernel,rfl,by decide +kernel,by decide +kernel⟩
abbrev n9:Stmt:=iC (top 15) 10
theorem KD:bC ["self","number","further"] ["self","number","further"] (av n9):=⟨rfl,rfl,rfl,by decide +kernel,rfl,by decide +kernel,by decide +kernel⟩
abbrev og:Stmt:=iC (top 15) 11
theorem KE:bC ["self","one","other","reason"] ["self","one","other","reason"] (av og):=⟨rfl,rfl,rfl,by decide +kernel,rfl,by decide +kernel,by decide +kernel⟩
abbrev mB:Stmt:=top 17
theorem oh:bC ["one","other","reckoning","numbers","ends","terms","filling"] ["one","other"] (av mB):=⟨rfl,rfl,rfl,by decide +kernel,rfl,by decide +kernel,by decide +kernel⟩
abbrev mC:Stmt:=top 18
theorem tY:bC ["reckoning","words","numbers","word","number"] ["reckoning","words"] (av mC):=⟨rfl,rfl,rfl,by decide +kernel,rfl,by decide +kernel,by decide +kernel⟩
abbrev mD:Stmt:=top 19
theorem tZ:bC ["lines","numbers","ends","word","number"] ["lines","numbers"] (av mD):=⟨rfl,rfl,rfl,by decide +kernel,rfl,by decide +kernel,by decide +kernel⟩
abbrev mE:Stmt:=top 20
theorem qx:bC ["ends","terms","ready","word"] ["ends"] (av mE):=⟨rfl,rfl,rfl,by decide +kernel,rfl,by decide +kernel,by decide +kernel⟩
abbrev mF:Stmt:=top 21
theorem KF:bC ["ends","terms"] ["ends","terms"] (av mF):=⟨rfl,rfl,rfl,by decide +kernel,rfl,by decide +kernel,by decide +kernel⟩
abbrev mG:Stmt:=top 22
theorem KG:bC ["ends","terms","word"] ["ends","terms","word"] (av mG):=⟨rfl,rfl,rfl,by decide +kernel,rfl,by decide +kernel,by decide +kernel⟩
abbrev mH:Stmt:=top 23
theorem ua:bC ["ends","terms","word","walked"] ["ends","terms"] (av mH):=⟨rfl,rfl,rfl,by decide +kernel,rfl,by decide +kernel,by decide +kernel⟩
abbrev oj:Stmt:=top 25
theorem KH:bC ["_law_found"] ["_law_found"] (av oj):=⟨rfl,rfl,rfl,by decide +kernel,rfl,by decide +kernel,by decide +kernel⟩
abbrev ol:Stmt:=top 26
theorem KI:bC ["_law_script","_law_k"] ["_law_script","_law_k"] (av ol):=⟨rfl,rfl,rfl,by decide +kernel,rfl,by decide +kernel,by decide +kernel⟩
abbrev om:Stmt:=top 27
theorem qy:bC ["_law_cell","_law_left","_law_word"] ["_law_cell"] (av om):=⟨rfl,rfl,rfl,by decide +kernel,rfl,by decide +kernel,by decide +kernel⟩
abbrev oo:Stmt:=top 28
theorem xr:bC ["_law_cell","_law_way","_law_rare"] ["_law_cell"] (av oo):=⟨rfl,rfl,rfl,by decide +kernel,rfl,by decide +kernel,by decide +kernel⟩
abbrev oq:Stmt:=top 29
theorem KJ:bC ["_law_cell"] ["_law_cell"] (av oq):=⟨rfl,rfl,rfl,by decide +kernel,rfl,by decide +kernel,by decide +kernel⟩
abbrev ou:Stmt:=top 30
theorem KK:bC ["_law_cell","_law_count"] ["_law_cell","_law_count"] (av ou):=⟨rfl,rfl,rfl,by decide +kernel,rfl,by decide +kernel,by decide +kernel⟩
abbrev ow:Stmt:=top 31
theorem ub:bC ["_law_k","_law_signs","_law_word"] ["_law_k"] (av ow):=⟨rfl,rfl,rfl,by decide +kernel,rfl,by decide +kernel,by decide +kernel⟩
abbrev ox:Stmt:=top 32
theorem uc:bC ["_law_term","_law_row","_law_todo","_law_part"] ["_law_term"] (av ox):=⟨rfl,rfl,rfl,by decide +kernel,rfl,by decide +kernel,by decide +kernel⟩
abbrev oy:Stmt:=top 33
theorem kc:bC ["_law_term","_law_pairs","_law_pile","_law_part","_law_made","_law_start","_law_pair"] ["_law_term","_law_pairs"] (av oy):=⟨rfl,rfl,rfl,by decide +kernel,rfl,by decide +kernel,by decide +kernel⟩
abbrev oz:Stmt:=top 34
theorem xt:bC ["_law_term","_law_row","_law_part"] ["_law_term"] (av oz):=⟨rfl,rfl,rfl,by decide +kernel,rfl,by decide +kernel,by decide +kernel⟩
abbrev oA:Stmt:=top 35
theorem fW:bC ["_law_cells","_law_many","_law_pile","_law_seen","_law_cell","_law_found","_law_k","_law_size","_law_part","_law_trio","_law_blank","_law_hide","_law_start","_law_parts"] ["_law_cells","_law_many"] (av oA):=⟨rfl,rfl,rfl,by decide +kernel,rfl,by decide +kernel,by decide +kernel⟩
abbrev oB:Stmt:=top 36
theorem D7:bC ["_law_found","_law_sign"] ["_law_found"] (av oB):=⟨rfl,rfl,rfl,by decide +kernel,rfl,by decide +kernel,by decide +kernel⟩
abbrev oC:Stmt:=top 37
theorem KL:bC ["_law_part"] ["_law_part"] (av oC):=⟨rfl,rfl,rfl,by decide +kernel,rfl,by decide +kernel,by decide +kernel⟩
abbrev oE:Stmt:=top 38
theorem xu:bC ["_law_found","_law_todo","_law_part"] ["_law_found"] (av oE):=⟨rfl,rfl,rfl,by decide +kernel,rfl,by decide +kernel,by decide +kernel⟩
abbrev oF:Stmt:=top 39
theorem ud:bC ["_law_found","_law_last","_law_pair"] ["_law_found"] (av oF):=⟨rfl,rfl,rfl,by decide +kernel,rfl,by decide +kernel,by decide +kernel⟩
abbrev mI:Stmt:=top 40
theorem xx:bC ["_law_reason","_law_number","_law_k","_law_many"] ["_law_reason","_law_number"] (av mI):=⟨rfl,rfl,rfl,by decide +kernel,rfl,by decide +kernel,by decide +kernel⟩
abbrev oG:Stmt:=top 41
theorem KM:bC ["_law_one","_law_other"] ["_law_one","_law_other"] (av oG):=⟨rfl,rfl,rfl,by decide +kernel,rfl,by decide +kernel,by decide +kernel⟩
abbrev oH:Stmt:=top 42
theorem xz:bC ["_law_lines","_law_reason","_law_one","_law_other","_law_above","_law_further"] ["_law_lines","_law_reason","_law_one","_law_other"] (av oH):=⟨rfl,rfl,rfl,by decide +kernel,rfl,by decide +kernel,by decide +kernel⟩
abbrev oJ:Stmt:=top 43
theorem qz:bC ["_law_lines","_law_one","_law_other","_law_known","_law_k","_law_line","_law_due"] ["_law_lines","_law_one","_law_other"] (av oJ):=⟨rfl,rfl,rfl,by decide +kernel,rfl,by decide +kernel,by decide +kernel⟩
abbrev oK:Stmt:=top 44
theorem oM:bC ["_law_lines","_law_numbers","_law_things","_law_k","_law_line","_law_further"] ["_law_lines","_law_numbers"] (av oK):=⟨rfl,rfl,rfl,by decide +kernel,rfl,by decide +kernel,by decide +kernel⟩
abbrev oN:Stmt:=top 45
theorem qB:bC ["_law_found","_law_one","_law_other","_law_known","_law_numbers","_law_number"] ["_law_found","_law_one","_law_other"] (av oN):=⟨rfl,rfl,rfl,by decide +kernel,rfl,by decide +kernel,by decide +kernel⟩
abbrev mJ:Stmt:=top 46
theorem qD:bC ["_law_filling","_law_one","_law_other","_law_known","_law_gone","_law_pair","_law_word"] ["_law_filling","_law_one","_law_other"] (av mJ):=⟨rfl,rfl,rfl,by decide +kernel,rfl,by decide +kernel,by decide +kernel⟩
abbrev oO:Stmt:=top 47
theorem jz:bC ["_law_cells","_law_last","_law_ones","_law_others","_law_k","_law_start","_law_term"] ["_law_cells","_law_last"] (av oO):=⟨rfl,rfl,rfl,by decide +kernel,rfl,by decide +kernel,by decide +kernel⟩
abbrev oP:Stmt:=top 48
theorem lm:bC ["_law_script","_law_cells","_law_way","_law_many","_law_two","_law_other","_law_spot","_law_changed"] ["_law_script","_law_cells"] (av oP):=⟨rfl,rfl,rfl,by decide +kernel,rfl,by decide +kernel,by decide +kernel⟩
abbrev oQ:Stmt:=top 49
theorem lq:bC ["_law_found","_law_one","_law_other","_law_filling","_law_numbers","_law_known","_law_k","_law_spot","_law_pair","_law_line"] ["_law_found","_law_one","_law_other"] (av oQ):=⟨rfl,rfl,rfl,by decide +kernel,rfl,by decide +kernel,by decide +kernel⟩
abbrev oR:Stmt:=top 50
theorem KN:bC ["_law_script","_law_most","_law_bound"] ["_law_script","_law_most","_law_bound"] (av oR):=⟨rfl,rfl,rfl,by decide +kernel,rfl,by decide +kernel,by decide +kernel⟩
abbrev oS:Stmt:=top 51
theorem qE:bC ["_law_found","_law_due","_law_todo","_law_one","_law_other","_law_k"] ["_law_found","_law_due"] (av oS):=⟨rfl,rfl,rfl,by decide +kernel,rfl,by decide +kernel,by decide +kernel⟩
abbrev kg:Stmt:=top 52
theorem oT:bC ["_law_script","_law_two","_law_found","_law_made","_law_again","_law_due"] ["_law_script"] (av kg):=⟨rfl,rfl,rfl,by decide +kernel,rfl,by decide +kernel,by decide +kernel⟩
structure Bi(mg:ac->Option aa):Prop where
 b_len:mg "len"=none
 b_abs:mg "abs"=none
 b_isinstance:mg "isinstance"=none
 b_int:mg "int"=none
 b_bool:mg "bool"=none
 b_str:mg "str"=none
 b_tuple:mg "tuple"=none
 b_list:mg "list"=none
 b_reversed:mg "reversed"=none
 b_range:mg "range"=none
section
variable{P:aP}{w:aH}{K:aB}{mg:ac->Option aa}{base:aA}
inductive D8(vs:List V)(H:Hp)(Q:VK):Prop
 |mk:∀i:Int,(vs=[.int i])->(∀x:ac,WR (w9 i) "" x->Wd x->x.cps.toList.length<=30->Q (.str x) H)->D8 vs H Q
def ue:Sp:=fun vs H Q _=>D8 vs H Q
theorem KO{f:Addr}{fd:bd}(F:bw K "_law_any_word" "_law_any_word" om f fd)(T:Bi mg):be P w K mg base bh 1 f fd ["_law_cell"] ue:=by
 refine F.ok qy (fun vs H Q E h=>?_) (fun cdv A outer s H vs Q E hr h=>?_)
 ·obtain⟨i,rfl,_⟩:=h
  rfl
 obtain⟨i,rfl,q⟩:=h
 refine⟨_,(aj (az (i:=1) qy.nd (aZ dG (bc GL T.b_abs IE (ad (pv 0) af)) (aZ v9 ax ax)))
  (aj (az (i:=2) qy.nd aO)
  (aj (iu cr (aF pP (pv 1) ax (aC _)) (aj (az (i:=2) qy.nd (aZ lP (bG lW aO (aZ dG (pv 1) ax) (fun _ _=>rfl)) (pv 2)))
        (al (az (i:=1) qy.nd (aZ nu (aZ fI (pv 1) ax) ax)))))
  (al (ay (pv 2)))))),?_⟩
 refine⟨_,rfl,_,rfl,_,_,rfl,rfl,⟨by decide,by decide,by decide⟩,_,_,rfl,rfl,(show (0:Int)<_ by decide +kernel),?_⟩
 refine⟨fun m σ H1=>H1=H/\∃(l:Int)(x:ac),σ=[some (.int i),some (.int l),some (.str x)]/\m=(l+1).toNat/\WI l x/\∀y,WR l x y->WR (w9 i) "" y,⟨_,rfl,_,_,rfl,rfl,WI.start i,fun _ h=>h⟩,?_⟩
 rintro m σ H1 ⟨rfl,l,x,rfl,rfl,hw,hwr⟩
 refine⟨_,rfl,_,_,rfl,rfl,_,rfl,?_⟩
 refine bO (fun c=>⟨_,fun _ _ h=>h,?_⟩) (fun c=>?_)
 ·have c':0<=l:=of_decide_eq_true c
  have hs:=hw.short c'
  have hb:0<=l % 26:=na _ (by decide)
  have hb':l % 26<26:=ng _ (by decide)
  obtain⟨j,hj,hj'⟩:∃j:Nat,l % 26=(j:Int)/\j<26:=⟨(l % 26).toNat,by omega,by omega⟩
  have hat:dn md.cps.toList (l % 26)=some (97+j):=by
   rw[hj]
   exact dH (Cq j hj')
  refine⟨_,rfl,_,_,rfl,rfl,(show (0:Int)<_ by decide),_,_,_,rfl,rfl,(by decide +kernel),hat,_,rfl,_,_,rfl,rfl,?_,?_⟩
  ·rw[gK,gK]
   show 1+_<=sizeLine
   exact eP (by omega)
  refine⟨_,rfl,_,_,rfl,rfl,⟨by decide,by decide⟩,_,_,rfl,rfl,?_⟩
  refine⟨(l / 26 - 1+1).toNat,by omega,rfl,_,_,rfl,rfl,hw.turn c' (by omega),fun y hy=>hwr y (.step c' ?_)⟩
  have ej:(l % 26).toNat=j:=by omega
  rw[ej]
  exact hy
 ·have c':¬0<=l:=of_decide_eq_false (fH.mpr c)
  refine⟨_,rfl,?_⟩
  obtain⟨h1,h2⟩:=hw.wd c'
  exact q x (hwr x (.done c')) h1 h2
inductive D9(vs:List V)(H:Hp)(Q:VK):Prop
 |mk:∀i:Int,(vs=[.int i])->(∀(v:V)(t:Tm)(H':Hp),aq H H'->aw H' v t->t.Ok->t.nodes=1->qk t->Q v H')->D9 vs H Q
def uf:Sp:=fun vs H Q _=>D9 vs H Q
theorem KP{f:Addr}{fd:bd}(F:bw K "_law_leaf" "_law_leaf" oo f fd)(T:Bi mg)(c__law_any_word:aG P w K mg base 1 "_law_any_word" ["_law_cell"] ue):
 be P w K mg base bh 2 f fd ["_law_cell"] uf:=by
 refine F.ok xr (fun vs H Q E h=>?_) (fun cdv A outer s H vs Q E hr h=>?_)
 ·obtain⟨i,rfl,_⟩:=h
  rfl
 obtain⟨i,rfl,q⟩:=h
 have qn:∀(n:Int)(p:Addr),H p=none-> -(10 ^ 61)<=n->n<=10 ^ 61->Q (.ref p) (ae H p (.tup [.str "number",.int n])):=fun n p hp h1 h2=>
  q _ (.num n) _ (bz hp _) (fm.mpr ⟨p,rfl,au⟩) (by simp only[Tm.Ok];exact⟨h1,h2⟩) rfl trivial
 have qa:∀(x:ac)(H1:Hp)(p:Addr),aq H H1->H1 p=none->Wd x->Q (.ref p) (ae H1 p (.tup [.str "name",.str x])):=fun x H1 p hs hp hx=>
  q _ (.name x) _ (hs.trans (bz hp _)) (eD.mpr ⟨p,rfl,au⟩) (by simp only[Tm.Ok];exact hx) rfl trivial
 have qb:∀(x:ac)(p:Addr),H p=none->Wd x->iZ x->Q (.ref p) (ae H p (.tup [.str "blank",.str x])):=fun x p hp hx fx=>
  q _ (.blank x) _ (bz hp _) (dU.mpr ⟨p,rfl,au⟩) (by simp only[Tm.Ok];exact hx) rfl fx
 obtain⟨w1,w2,_,_,_,_,w3,w4,w5⟩:=Wd.lits
 refine⟨_,(aj (az (i:=1) xr.nd (aZ dG (pv 0) ax))
  (aj (az (i:=2) xr.nd (iQ bM (aZ dG (aZ fI (pv 0) ax) ax) ax (aC _)))
  (aj (aK (aF bM (pv 1) ax (aC _)) (aj (aK (cf (pv 2)) (al (ay (bN (ad aO (ad (aZ nu (aZ dG (pv 0) (aZ v9 ax ax)) (aZ v9 ax ax)) af))))) aU)
        (al (ay (bN (ad aO (ad (aZ nu (aZ dG (aZ fI (pv 0) ax) ax) ax) af)))))) aU)
  (aj (aK (aF bM (pv 1) ax (aC _)) (aj (aK (cf (pv 2)) (al (ay (bN (ad aO (ad (aY c__law_any_word (hr.mono (by decide)) (ad (aZ fI (pv 0) ax) af)) af))))) aU)
        (al (ay (bN (ad aO (ad (bG bV (ca (ad aO (ad aO af))) (aZ dG (aZ fI (pv 0) ax) ax) (fun _ _=>rfl)) af)))))) aU)
  (aj (aK (cf (pv 2)) (al (ay (bN (ad aO (ad (aZ lP aO (aY c__law_any_word (hr.mono (by decide)) (ad (aZ fI (pv 0) ax) af))) af))))) aU)
  (al (ay (bN (ad aO (ad (bG lW aO (aZ dG (aZ fI (pv 0) ax) ax) (fun _ _=>rfl)) af)))))))))),?_⟩
 refine⟨_,rfl,_,_,rfl,rfl,(show (0:Int)<_ by decide),?_⟩
 refine⟨_,rfl,_,_,rfl,rfl,⟨by decide,by decide⟩,_,_,rfl,rfl,(show (0:Int)<_ by decide),rfl,?_⟩
 refine⟨_,rfl,rfl,_,rfl,bO (fun c1=>?_) (fun c1=>?_)⟩
 ·refine⟨_,rfl,_,rfl,bO (fun c2=>?_) (fun c2=>?_)⟩
  ·refine⟨_,rfl,_,_,rfl,rfl,⟨by decide,by decide,by decide⟩,_,_,rfl,rfl,(show (0:Int)<_ by decide +kernel),_,_,rfl,rfl,⟨by decide,by decide,by decide⟩,_,_,rfl,rfl,cq,fun p hp=>?_⟩
   have g1:0<=i % (10 ^ (60:Int).toNat):=na _ (by decide +kernel)
   have g2:i % (10 ^ (60:Int).toNat)<10 ^ (60:Int).toNat:=ng _ (by decide +kernel)
   have g3:(10:Int) ^ (60:Int).toNat<=10 ^ 61:=by decide +kernel
   have g4:(10:Int) ^ (20:Int).toNat<=10 ^ 61:=by decide +kernel
   have g5:(0:Int)<=10 ^ (20:Int).toNat:=by decide +kernel
   exact qn _ p hp (by omega) (by omega)
  ·refine⟨_,rfl,_,_,rfl,rfl,⟨by decide,by decide⟩,_,_,rfl,rfl,(show (0:Int)<_ by decide),_,_,rfl,rfl,cq,fun p hp=>?_⟩
   have g3:(3:Int)<=10 ^ 61:=by decide +kernel
   exact qn _ p hp (by omega) (by omega)
 refine⟨_,rfl,rfl,_,rfl,bO (fun c2=>?_) (fun c2=>?_)⟩
 ·refine⟨_,rfl,_,rfl,bO (fun c3=>?_) (fun c3=>?_)⟩
  ·refine⟨_,rfl,_,_,rfl,rfl,⟨by decide,by decide⟩,_,rfl,fun x _ hx _=>⟨cq,fun p hp=>?_⟩⟩
   exact qa x H p (aq.refl _) hp hx
  ·refine⟨cq,fun p hp=>⟨_,rfl,_,_,rfl,rfl,⟨by decide,by decide⟩,_,_,rfl,rfl,(show (0:Int)<_ by decide),?_⟩⟩
   have hz:i / 4 % 2=0\/i / 4 % 2=1:=by omega
   rcases hz with z|z
   ·refine⟨p,_,_,.str "oak",rfl,rfl,ak.of au,by rw[z];rfl,cq,fun r hr'=>?_⟩
    exact qa _ _ r (bz hp _) hr' w1
   ·refine⟨p,_,_,.str "oik",rfl,rfl,ak.of au,by rw[z];rfl,cq,fun r hr'=>?_⟩
    exact qa _ _ r (bz hp _) hr' w2
 refine⟨_,rfl,_,rfl,bO (fun c3=>?_) (fun c3=>?_)⟩
 ·refine⟨_,rfl,_,_,rfl,rfl,⟨by decide,by decide⟩,_,rfl,fun x _ hx hl=>⟨_,_,rfl,rfl,?_,cq,fun p hp=>?_⟩⟩
  ·have e:(bT "zz").length=2:=by decide +kernel
   rw[e,gK]
   exact eP (by omega)
  ·exact qb _ p hp (hx.zz hl) (JZ x hl)
 ·have hz:i / 4 % 3=0\/i / 4 % 3=1\/i / 4 % 3=2:=by omega
  refine⟨_,rfl,_,_,rfl,rfl,⟨by decide,by decide⟩,_,_,rfl,rfl,(show (0:Int)<_ by decide),?_⟩
  rcases hz with z|z|z
  ·refine⟨_,_,120,rfl,rfl,(by decide +kernel),by rw[z];decide +kernel,cq,fun p hp=>?_⟩
   have e:(⟨#[120]⟩:ac)="x":=by decide +kernel
   exact qb _ p hp (by rw[e];exact w3) (by rw[e];exact wZ.1)
  ·refine⟨_,_,121,rfl,rfl,(by decide +kernel),by rw[z];decide +kernel,cq,fun p hp=>?_⟩
   have e:(⟨#[121]⟩:ac)="y":=by decide +kernel
   exact qb _ p hp (by rw[e];exact w4) (by rw[e];exact wZ.2.1)
  ·refine⟨_,_,122,rfl,rfl,(by decide +kernel),by rw[z];decide +kernel,cq,fun p hp=>?_⟩
   have e:(⟨#[122]⟩:ac)="z":=by decide +kernel
   exact qb _ p hp (by rw[e];exact w5) (by rw[e];exact wZ.2.2)
inductive Ea(vs:List V)(H:Hp)(Q:VK):Prop
 |mk:∀i:Int,(vs=[.int i])->(∀(x:ac)(H':Hp),aq H H'->Wd x->HW i x->Q (.str x) H')->Ea vs H Q
def xA:Sp:=fun vs H Q _=>Ea vs H Q
theorem KQ{f:Addr}{fd:bd}(F:bw K "_law_head" "_law_head" oq f fd)(T:Bi mg)(c__law_any_word:aG P w K mg base 1 "_law_any_word" ["_law_cell"] ue):
 be P w K mg base bh 2 f fd ["_law_cell"] xA:=by
 refine F.ok KJ (fun vs H Q E h=>?_) (fun cdv A outer s H vs Q E hr h=>?_)
 ·obtain⟨i,rfl,_⟩:=h
  rfl
 obtain⟨i,rfl,q⟩:=h
 obtain⟨_,_,w1,w2,_,_,_,_,_⟩:=Wd.lits
 refine⟨_,(aj (aK (aF bM (aZ dG (pv 0) ax) ax (aC _)) (al (ay (aY c__law_any_word (hr.mono (by decide)) (ad (aZ fI (pv 0) ax) af)))) aU)
  (al (ay (bG bV (ca (ad aO (ad aO af))) (aZ dG (pv 0) ax) (fun _ _=>rfl))))),?_⟩
 refine⟨_,rfl,_,_,rfl,rfl,(show (0:Int)<_ by decide),rfl,_,rfl,bO (fun c1=>?_) (fun c1=>?_)⟩
 ·exact⟨_,rfl,_,_,rfl,rfl,⟨by decide,by decide⟩,_,rfl,fun x hr' hx _=>q x H (aq.refl _) hx (by
   have c1':i % 7=5:=V.int.inj (of_decide_eq_true c1)
   unfold HW;rw[if_pos c1'];exact hr')⟩
 ·refine⟨cq,fun p hp=>⟨_,rfl,_,_,rfl,rfl,(show (0:Int)<_ by decide),?_⟩⟩
  have hz:i % 2=0\/i % 2=1:=by omega
  have c1':¬i % 7=5:=fun z=>c1 (decide_eq_true (congrArg V.int z))
  rcases hz with z|z
  ·exact⟨p,_,_,.str "f",rfl,rfl,ak.of au,by rw[z];rfl,q _ _ (bz hp _) w1 (by unfold HW;rw[if_neg c1',if_pos z])⟩
  ·exact⟨p,_,_,.str "pair",rfl,rfl,ak.of au,by rw[z];rfl,q _ _ (bz hp _) w2 (by unfold HW;rw[if_neg c1',if_neg (by omega)])⟩
inductive Eb(vs:List V)(H:Hp)(Q:VK):Prop
 |mk:∀i n:Int,(vs=[.int i,.int n])->(∀(k:Int)(H':Hp),aq H H'->(0<=k/\k<=3)\/k=n->Q (.int k) H')->Eb vs H Q
def xG:Sp:=fun vs H Q _=>Eb vs H Q
theorem KR{f:Addr}{fd:bd}(F:bw K "_law_many_parts" "_law_many_parts" ou f fd)(T:Bi mg):
 be P w K mg base bh 1 f fd ["_law_cell","_law_count"] xG:=by
 refine F.ok KK (fun vs H Q E h=>?_) (fun cdv A outer s H vs Q E hr h=>?_)
 ·obtain⟨i,n,rfl,_⟩:=h
  rfl
 obtain⟨i,n,rfl,q⟩:=h
 have last:∀D:dE,D.rt=Q->AI (lM (we K) (A5 (lR (tC (.int 0)) (lR (tC (.int 0)) (lR (tC (.int 1)) (lR (tC (.int 2)) (lR (tC (.int 2)) (lR (tC (.int 3)) sH))))))) (lM (rI (fun _ j=>0<j) fun i j=>.int (i % j)) (vY 0) (tC (.int 6)))) D [some (.int i),some (.int n)] H:=fun D hD=>by
  refine⟨(by show 6<=sizeLine;decide),fun p hp=>⟨_,rfl,_,_,rfl,rfl,(show (0:Int)<_ by decide),?_⟩⟩
  rw[hD]
  have hz:i % 6=0\/i % 6=1\/i % 6=2\/i % 6=3\/i % 6=4\/i % 6=5:=by omega
  rcases hz with z|z|z|z|z|z
  ·exact⟨p,_,_,.int 0,rfl,rfl,ak.of au,by rw[z];rfl,q _ _ (bz hp _) (.inl ⟨by decide,by decide⟩)⟩
  ·exact⟨p,_,_,.int 0,rfl,rfl,ak.of au,by rw[z];rfl,q _ _ (bz hp _) (.inl ⟨by decide,by decide⟩)⟩
  ·exact⟨p,_,_,.int 1,rfl,rfl,ak.of au,by rw[z];rfl,q _ _ (bz hp _) (.inl ⟨by decide,by decide⟩)⟩
  ·exact⟨p,_,_,.int 2,rfl,rfl,ak.of au,by rw[z];rfl,q _ _ (bz hp _) (.inl ⟨by decide,by decide⟩)⟩
  ·exact⟨p,_,_,.int 2,rfl,rfl,ak.of au,by rw[z];rfl,q _ _ (bz hp _) (.inl ⟨by decide,by decide⟩)⟩
  ·exact⟨p,_,_,.int 3,rfl,rfl,ak.of au,by rw[z];rfl,q _ _ (bz hp _) (.inl ⟨by decide,by decide⟩)⟩
 refine⟨_,(aj (aK (jq (aF bM (aZ dG (pv 0) ax) ax (aC _)) (jp (aF bM (aZ dG (aZ fI (pv 0) ax) ax) ax (aC _)))).pt (al (ay (pv 1))) aU)
  (al (ay (bG bV (ca (ad ax (ad ax (ad ax (ad ax (ad ax (ad ax af))))))) (aZ dG (pv 0) ax) (fun _ _=>rfl))))),?_⟩
 refine⟨_,rfl,_,_,rfl,rfl,(show (0:Int)<_ by decide),rfl,_,rfl,bO (fun c1=>?_) (fun c1=>?_)⟩
 ·refine⟨_,rfl,_,_,rfl,rfl,⟨by decide,by decide⟩,_,_,rfl,rfl,(show (0:Int)<_ by decide),rfl,_,rfl,bO (fun c2=>?_) (fun c2=>?_)⟩
  ·exact⟨_,rfl,q _ _ (aq.refl _) (.inr rfl)⟩
  ·exact last _ rfl
 ·exact bf (last _ rfl)
theorem qF(vs:List V)(k:Int)(h0:0<=k)(h:k<=vs.length):eu vs (some k) none=vs.drop k.toNat:=by
 obtain⟨j,rfl⟩:=rT h0
 unfold eu
 rw[HT.sIx_none,HT.sIx_nat]
 have e:min j vs.length=j:=by have:(j:Int)<=vs.length:=h;omega
 rw[e]
 show (vs.drop j).take (vs.length - j)=vs.drop j
 exact dL (by rw[dD];omega)
theorem ug(vs:List V)(k:Int)(h0:0<=k)(h:k<=vs.length):eu vs none (some k)=vs.take k.toNat:=by
 obtain⟨j,rfl⟩:=rT h0
 unfold eu
 rw[HT.sIx_none,HT.sIx_nat]
 have e:min j vs.length=j:=by have:(j:Int)<=vs.length:=h;omega
 rw[e]
 rfl
end
end K07
namespace BF
open PySem PySem.Spec PyProof.Rows L2
open Sem (wp)
section
variable{prog:aP}{w:aH}{A:bx}{E:aa->ah->Prop}{s:ah}
theorem KS{a:Addr}{Q:Option aI->ah->Prop}(h:Q (s.heap.get? a) s):wpAny (model prog w) A (loadIfAlive a) Q E s:=fun Γ p hΓ=>by
 show wp _ _ (Sem.loadIfAlive a .pure) _ _ _ _
 rw[Sem.wp_loadIfAlive]
 exact(aR h:wpAny (model prog w) A (pure (s.heap.get? a)) Q E s) Γ p hΓ
theorem uh{it t:Addr}{i:Nat}{items:Array aa}{x:aa}{Q:aa->ah->Prop}(q:IsTupIter s.heap it t i)(ht:cz s.heap t items)(hx:items[i]?=some x)
 (k:∀h',IsTupIter h' it t (i+1)->gT it s.heap h'->Q x { s with heap:=h'}):wpAny (model prog w) A (gI (.ref it)) Q E s:=by
 obtain⟨oi,gi,ci,di⟩:=id q
 obtain⟨ot,gt,_,nt,dt⟩:=ht
 unfold gI
 refine ai (ij (name:=bT "__next__") q.typeIs rR (fF rR q.typeIs Aa ?_ (Ab _)))
 show wpAny _ _ (field (aa.ref it) 0 >>= _) _ _ s
 refine ai (da gi di (x:=aa.ref t) rfl ?_)
 show wpAny _ _ (if (aa.ref t==aa.none)=true then _ else _) _ _ (s:ah)
 rw[if_neg (show ¬(aa.ref t==aa.none)=true from fun z=>nomatch z)]
 show wpAny _ _ (field (aa.ref it) 1 >>= _) _ _ s
 refine ai (da gi di (x:=aa.int i 0) rfl ?_)
 show wpAny _ _ (seqItems? (aa.ref t) >>= _) _ _ s
 refine ai (jh gt dt ?_)
 simp only[gH,hx]
 refine ai (pe gi di (by simp) (aR ⟨x,rfl,aR (k _ ⟨_,jD _ gi (vG (pG di _)),(aI.cls_mapFields ..).trans ci,?_⟩ (pK ..))⟩))
 rw[pG di]
 simp[rawInt]
theorem Ec{it t:Addr}{i:Nat}{items:Array aa}{Q:aa->ah->Prop}(hh:A.handled=none)(q:IsTupIter s.heap it t i)(ht:cz s.heap t items)(hx:items[i]?=none)
 (k:∀h' e,aA.ExtBut it s.heap h'->(∃o,h'.get? e=some o/\o.cls= .type "StopIteration")->E (.ref e) { s with heap:=h'}):wpAny (model prog w) A (gI (.ref it)) Q E s:=by
 obtain⟨oi,gi,ci,di⟩:=id q
 obtain⟨ot,gt,_,nt,dt⟩:=ht
 unfold gI
 refine ai (ij (name:=bT "__next__") q.typeIs rR (fF rR q.typeIs Aa ?_ (Ab _)))
 show wpAny _ _ (field (aa.ref it) 0 >>= _) _ _ s
 refine ai (da gi di (x:=aa.ref t) rfl ?_)
 show wpAny _ _ (if (aa.ref t==aa.none)=true then _ else _) _ _ (s:ah)
 rw[if_neg (show ¬(aa.ref t==aa.none)=true from fun z=>nomatch z)]
 show wpAny _ _ (field (aa.ref it) 1 >>= _) _ _ s
 refine ai (da gi di (x:=aa.int i 0) rfl ?_)
 show wpAny _ _ (seqItems? (aa.ref t) >>= _) _ _ s
 refine ai (jh gt dt ?_)
 simp only[gH,hx]
 refine ai (jf (ai (pe gi di (by simp) ?_)))
 show wpAny _ _ (newExc (aa.type "StopIteration") [] >>= _) _ _ _
 refine ai ?_
 simp only[newExc,newTuple]
 refine ai (jd ?_ (by size_fits))
 refine ai (m:=firstArgMember _ _) (io (a:=aa.none) (by first|rfl|(simp only[firstArgMember];rfl)) ?_)
 refine jd ?_ (by size_fits)
 simp only[raiseNew]
 refine ai (wpAny_handled ?_)
 first|rw[show A.in1.handled=none from hh]|rw[hh]
 exact ai (aR (wpAny_throw (k _ _ (((pK ..).extBut.push _).push _) ⟨_,bY _ rfl,rfl⟩)))
abbrev zObj(f0 f1:aa)(TI TO:Addr):aI:={ cls:= .type "zip",dict:=none,data:= .fields #[f0,f1,.bool false,.ref TI,.ref TO],slots:=#[]}
def Zf(f0 f1:aa):Prop:=(f0= .none\/∃n:Int,f0=rawInt n)/\∃b,f1= .bool b
theorem z_free{z TI TO:Addr}{f0 f1:aa}{Q:Bool->ah->Prop}(hz:s.heap.get? z=some (zObj f0 f1 TI TO))(hf:Zf f0 f1)(ht:Q true s)
 (hn:∀h' f1',h'.get? z=some (zObj f0 f1' TI TO)->gT z s.heap h'->Zf f0 f1'->Q false { s with heap:=h'}):wpAny (model prog w) A (nh (.ref z)) Q E s:=by
 obtain⟨h0,b,rfl⟩:=id hf
 unfold nh
 rcases h0 with rfl|⟨n,rfl⟩
 ·exact ai (da hz rfl (x:=aa.none) rfl (aR ht))
 ·refine ai (da hz rfl (x:=rawInt n) rfl ?_)
  show wpAny _ _ (loadIfAlive n.toNat >>= _) _ _ _
  refine ai (KS ?_)
  cases s.heap.get? n.toNat with
  |none=>exact aR ht
  |some o=>
   show wpAny _ _ (field (aa.ref z) 1 >>= _) _ _ _
   refine ai (da hz rfl (x:=aa.bool b) rfl ?_)
   cases b with
   |true=>exact aR (hn _ _ hz (gT.refl ..) hf)
   |false=>exact ai (iL hz (by simp) fun h1 g1 s1=>aR (hn _ _ g1 s1 ⟨hf.1,true,rfl⟩))
theorem z_item{z TI TO i1 i2 a b:Addr}{k:Nat}{xs ys:Array aa}{x y f0 f1:aa}{Q:aa->ah->Prop}(D:ZipApart z TI TO i1 i2 a b)(hf:Zf f0 f1)
 (hz:s.heap.get? z=some (zObj f0 f1 TI TO)) (hTI:IsPair s.heap TI (.ref i1) (.ref i2)) (hTO:∃u v,IsPair s.heap TO u v)
 (h1:IsTupIter s.heap i1 a k) (h2:IsTupIter s.heap i2 b k) (t1:cz s.heap a xs) (t2:cz s.heap b ys) (hx:xs[k]?=some x) (hy:ys[k]?=some y)
 (hQ:∀h' f0' f1',Zf f0' f1'->h'.get? z=some (zObj f0' f1' TI TO)->(∃u v,IsPair h' TO u v)->IsTupIter h' i1 a (k+1)->IsTupIter h' i2 b (k+1)->IsPair h' s.heap.objs.size x y->h'.objs.size=s.heap.objs.size+1->
  (∀c o,c≠z->c≠TO->c≠i1->c≠i2->s.heap.get? c=some o->h'.get? c=some o)->Q (.ref s.heap.objs.size) { s with heap:=h'}):
 wpAny (model prog w) A (dA.«zip.__next__» ⟨[.ref z],[]⟩) (fun fin s'=>∃v,fin= .done (.ret v)/\Q v s') E s:=by
 obtain⟨u,v,hTO⟩:=hTO
 show wpAny _ _ (field (aa.ref z) 2 >>= _) _ _ s
 refine ai (da hz rfl (x:=aa.bool false) rfl ?_)
 show wpAny _ _ (field (aa.ref z) 3 >>= _) _ _ s
 refine ai (da hz rfl (x:=aa.ref TI) rfl ?_)
 refine ai (jh hTI rfl ?_)
 show wpAny _ _ (nh (aa.ref z) >>= _) _ _ s
 refine ai (z_free hz hf ?_ fun g1 f1' gz1 gs1 gf1=>?_)
 ·simp only[if_true]
  refine ai (jf (ai (da hz rfl (x:=aa.ref TO) rfl ?_)))
  refine ai (iL hz (by simp) fun g1 gz1 gs1=>?_)
  replace gz1:g1.get? z=some (zObj .ellipsis f1 TI TO):=gz1
  refine ai ?_
  simp only[zu,zv,px,rH]
  refine ai (ai (uR ?_))
  show wpAny _ _ (gI (aa.ref i1) >>= _) _ _ _
  refine ai (uh (h1.extBut gs1.extBut D.i1z) (t1.extBut gs1.extBut D.l1z) hx fun g2 e2 gs2=>aR ?_)
  have o2:IsPair g2 TO u v:=gs2.extBut _ _ D.TOi1 (gs1.extBut _ _ D.TOz hTO)
  refine ai (jh o2 rfl (ai (yP o2 fun g3 o3 gs3=>?_)))
  replace o3:IsPair g3 TO x v:=o3
  refine ai (pf (aR (ai (ai (uR ?_)))))
  show wpAny _ _ (gI (aa.ref i2) >>= _) _ _ _
  refine ai (uh (((h2.extBut gs1.extBut D.i2z).extBut gs2.extBut D.i12.symm).extBut gs3.extBut D.TOi2.symm) (((t2.extBut gs1.extBut D.l2z).extBut gs2.extBut D.l2i1).extBut gs3.extBut D.l2TO) hy fun g4 e4 gs4=>aR ?_)
  have o4:IsPair g4 TO x v:=gs4.extBut _ _ D.TOi2 o3
  refine ai (jh o4 rfl (ai (yP o4 fun g5 o5 gs5=>?_)))
  replace o5:IsPair g5 TO x y:=o5
  refine ai (pf (aR (aR (ai (jh o5 rfl (ai (uS ?_)))))))
  have hsz:g5.objs.size=s.heap.objs.size:=by rw[gs5.1,gs4.1,gs3.1,gs2.1,gs1.1]
  have gz5:g5.get? z=some (zObj .ellipsis f1 TI TO):=gs5.extBut _ _ D.TOz.symm (gs4.extBut _ _ D.i2z.symm (gs3.extBut _ _ D.TOz.symm (gs2.extBut _ _ D.i1z.symm gz1)))
  have hk:∀c o,c≠z->c≠TO->c≠i1->c≠i2->s.heap.get? c=some o->g5.get? c=some o:=fun c o c1 c2 c3 c4 e=>
   gs5.extBut _ _ c2 (gs4.extBut _ _ c4 (gs3.extBut _ _ c2 (gs2.extBut _ _ c3 (gs1.extBut _ _ c1 e))))
  have w1:IsTupIter g5 i1 a (k+1):=((e2.extBut gs3.extBut D.TOi1.symm).extBut gs4.extBut D.i12).extBut gs5.extBut D.TOi1.symm
  have w2:IsTupIter g5 i2 b (k+1):=e4.extBut gs5.extBut D.TOi2.symm
  have zlt:z<g5.objs.size:=bm gz5
  show wpAny _ _ (rU (aa.ref z) (aa.ref g5.objs.size) >>= _) _ _ _
  refine ai ?_
  unfold rU
  have gz6:(g5.push { cls:= .type "tuple",data:= .seq #[x,y]}).get? z=some (zObj .ellipsis f1 TI TO):=br _ gz5
  refine ai (iL gz6 (by simp) fun g7 gz7 gs7=>?_)
  replace gz7:g7.get? z=some (zObj (rawInt g5.objs.size) f1 TI TO):=gz7
  refine iL gz7 (by simp) fun g8 gz8 gs8=>?_
  replace gz8:g8.get? z=some (zObj (rawInt g5.objs.size) (.bool false) TI TO):=gz8
  have up:∀c o,c≠z->g5.get? c=some o->g8.get? c=some o:=fun c o c1 e=>gs8.extBut _ _ c1 (gs7.extBut _ _ c1 (br _ e))
  have hT:IsPair g8 g5.objs.size x y:=gs8.extBut _ _ (ji zlt) (gs7.extBut _ _ (ji zlt) (bY _ rfl))
  have hz8:g8.objs.size=g5.objs.size+1:=by rw[gs8.1,gs7.1,ip]
  rw[hsz]at hT hz8
  refine aR ⟨_,rfl,?_⟩
  show Q (.ref g5.objs.size) _
  rw[hsz]
  refine hQ g8 _ _ ⟨.inr ⟨_,rfl⟩,false,rfl⟩ gz8 ⟨x,y,up _ _ D.TOz o5⟩ ?_ ?_ hT hz8 fun c o c1 c2 c3 c4 e=>up c o c1 (hk c o c1 c2 c3 c4 e)
  ·obtain⟨o,ho,r⟩:=w1
   exact⟨o,up _ _ D.i1z ho,r⟩
  ·obtain⟨o,ho,r⟩:=w2
   exact⟨o,up _ _ D.i2z ho,r⟩
 ·simp only[iP,if_false]
  refine ai ?_
  simp only[<-An,px,rH]
  refine ai (ai (gR ?_))
  show wpAny _ _ (gI (aa.ref i1) >>= _) _ _ _
  refine ai (uh (h1.extBut gs1.extBut D.i1z) (t1.extBut gs1.extBut D.l1z) hx fun g2 e2 gs2=>aR (aR ?_))
  refine ai (ai (gR ?_))
  show wpAny _ _ (gI (aa.ref i2) >>= _) _ _ _
  refine ai (uh ((h2.extBut gs1.extBut D.i2z).extBut gs2.extBut D.i12.symm) ((t2.extBut gs1.extBut D.l2z).extBut gs2.extBut D.l2i1) hy fun g4 e4 gs4=>aR (aR (aR ?_)))
  refine ai (uS (aR ⟨_,rfl,?_⟩) (by show 2<=sizeLine;decide))
  have hsz:g4.objs.size=s.heap.objs.size:=by rw[gs4.1,gs2.1,gs1.1]
  have w1:=e2.extBut gs4.extBut D.i12
  show Q (.ref g4.objs.size) _
  rw[hsz]
  refine hQ _ _ _ gf1 (br _ (gs4.extBut _ _ D.i2z.symm (gs2.extBut _ _ D.i1z.symm gz1))) ⟨u,v,br _ (gs4.extBut _ _ D.TOi2 (gs2.extBut _ _ D.TOi1 (gs1.extBut _ _ D.TOz hTO)))⟩ ?_ ?_ ?_ (by rw[ip,hsz]) fun c o c1 c2 c3 c4 e=>br _ (gs4.extBut _ _ c4 (gs2.extBut _ _ c3 (gs1.extBut _ _ c1 e)))
  ·obtain⟨o,ho,r⟩:=w1
   exact⟨o,br _ ho,r⟩
  ·obtain⟨o,ho,r⟩:=e4
   exact⟨o,br _ ho,r⟩
  ·rw[<-hsz]
   exact bY _ rfl
theorem z_end{z TI TO i1 i2 a b:Addr}{k:Nat}{xs:Array aa}{f0 f1:aa}{Q:Fin->ah->Prop}(hh:A.handled=none)(D:ZipApart z TI TO i1 i2 a b)(hf:Zf f0 f1)
 (hz:s.heap.get? z=some (zObj f0 f1 TI TO)) (hTI:IsPair s.heap TI (.ref i1) (.ref i2))
 (h1:IsTupIter s.heap i1 a k) (t1:cz s.heap a xs) (hx:xs[k]?=none)
 (hE:∀h' e,(∀c o,c≠z->c≠i1->s.heap.get? c=some o->h'.get? c=some o)->(∃o,h'.get? e=some o/\o.cls= .type "StopIteration")->E (.ref e) { s with heap:=h'}):
 wpAny (model prog w) A (dA.«zip.__next__» ⟨[.ref z],[]⟩) Q E s:=by
 show wpAny _ _ (field (aa.ref z) 2 >>= _) _ _ s
 refine ai (da hz rfl (x:=aa.bool false) rfl ?_)
 show wpAny _ _ (field (aa.ref z) 3 >>= _) _ _ s
 refine ai (da hz rfl (x:=aa.ref TI) rfl ?_)
 refine ai (jh hTI rfl ?_)
 show wpAny _ _ (nh (aa.ref z) >>= _) _ _ s
 refine ai (z_free hz hf ?_ fun g1 f1' gz1 gs1 gf1=>?_)
 ·simp only[if_true]
  refine ai (jf (ai (da hz rfl (x:=aa.ref TO) rfl ?_)))
  refine ai (iL hz (by simp) fun g1 gz1 gs1=>?_)
  replace gz1:g1.get? z=some (zObj .ellipsis f1 TI TO):=gz1
  refine ai ?_
  simp only[zu,zv,px,rH]
  refine ai (ai (uR ?_))
  show wpAny _ _ (gI (aa.ref i1) >>= _) _ _ _
  refine ai (Ec hh (h1.extBut gs1.extBut D.i1z) (t1.extBut gs1.extBut D.l1z) hx fun g2 e gs2 he=>?_)
  obtain⟨oe,hoe,hce⟩:=he
  have gz2:g2.get? z=some (zObj .ellipsis f1 TI TO):=gs2 _ _ D.i1z.symm gz1
  have hez:e≠z:=fun y=>by subst y;rw[gz2]at hoe;cases hoe;simp at hce
  exact iL gz2 (by simp) fun g3 _ gs3=>hE g3 e (fun c o c1 c3 y=>gs3.extBut _ _ c1 (gs2 _ _ c3 (gs1.extBut _ _ c1 y))) ⟨oe,gs3.extBut _ _ hez hoe,hce⟩
 ·simp only[iP,if_false]
  refine ai ?_
  simp only[<-An,px,rH]
  refine ai (ai (gR ?_))
  show wpAny _ _ (gI (aa.ref i1) >>= _) _ _ _
  exact ai (Ec hh (h1.extBut gs1.extBut D.i1z) (t1.extBut gs1.extBut D.l1z) hx fun g2 e gs2 he=>hE g2 e (fun c o c1 c3 y=>gs2 _ _ c3 (gs1.extBut _ _ c1 y)) he)
end
structure dI(h:aA)(z TI TO i1 i2 a b:Addr)(k:Nat):Prop where
 z:∃f0 f1,Zf f0 f1/\h.get? z=some (zObj f0 f1 TI TO)
 ti:IsPair h TI (.ref i1) (.ref i2)
 to:∃u v,IsPair h TO u v
 i1:IsTupIter h i1 a k
 i2:IsTupIter h i2 b k
theorem dI.keep{h h':aA}{z TI TO i1 i2 a b:Addr}{k:Nat}(x:dI h z TI TO i1 i2 a b k)(q:∀c∈[z,TI,TO,i1,i2],∀o,h.get? c=some o->h'.get? c=some o):dI h' z TI TO i1 i2 a b k where
 z:=let ⟨f0,f1,hf,e⟩:=x.z;⟨f0,f1,hf,q z (by simp) _ e⟩
 ti:=q TI (by simp) _ x.ti
 to:=let ⟨u,v,e⟩:=x.to;⟨u,v,q TO (by simp) _ e⟩
 i1:=let ⟨o,e,r⟩:=x.i1;⟨o,q i1 (by simp) _ e,r⟩
 i2:=let ⟨o,e,r⟩:=x.i2;⟨o,q i2 (by simp) _ e,r⟩
section
variable{prog:aP}{w:aH}{A:bx}{E:aa->ah->Prop}{s:ah}{z TI TO i1 i2 a b:Addr}{k:Nat}{xs ys:Array aa}{x y:aa}
abbrev ui(s:ah)(z TI TO i1 i2 a b:Addr)(k:Nat)(x y:aa)(h':aA):Prop:=
 dI h' z TI TO i1 i2 a b (k+1)/\IsPair h' s.heap.objs.size x y/\h'.objs.size=s.heap.objs.size+1/\∀c o,c≠z->c≠TO->c≠i1->c≠i2->s.heap.get? c=some o->h'.get? c=some o
theorem z_next{Q:aa->ah->Prop}(D:ZipApart z TI TO i1 i2 a b)(hz:dI s.heap z TI TO i1 i2 a b k)(t1:cz s.heap a xs)(t2:cz s.heap b ys)(hx:xs[k]?=some x)(hy:ys[k]?=some y)
 (hQ:∀h',ui s z TI TO i1 i2 a b k x y h'->Q (.ref s.heap.objs.size) { s with heap:=h'}):wpAny (model prog w) A (dA.«zip.__next__» ⟨[.ref z],[]⟩) (fun fin s'=>∃v,fin= .done (.ret v)/\Q v s') E s:=by
 obtain⟨f0,f1,hf,e⟩:=hz.z
 exact z_item D hf e hz.ti hz.to hz.i1 hz.i2 t1 t2 hx hy fun h' g0 g1 q1 q2 q3 q4 q5 q6 q7 q8=>hQ h' ⟨⟨⟨g0,g1,q1,q2⟩,q8 _ _ D.TIz D.TITO D.TIi1 D.TIi2 hz.ti,q3,q4,q5⟩,q6,q7,q8⟩
theorem z_draw{Q:aa->ah->Prop}(D:ZipApart z TI TO i1 i2 a b)(hz:dI s.heap z TI TO i1 i2 a b k)(t1:cz s.heap a xs)(t2:cz s.heap b ys)(hx:xs[k]?=some x)(hy:ys[k]?=some y)
 (hQ:∀h',ui s z TI TO i1 i2 a b k x y h'->Q (.ref s.heap.objs.size) { s with heap:=h'}):wpAny (model prog w) A (gI (.ref z)) Q E s:=by
 have hT:s.TypeIs (.ref z) "zip":=let ⟨_,_,_,e⟩:=hz.z;⟨_,e,rfl⟩
 unfold gI
 exact ai (ij (name:=bT "__next__") hT jI (fF jI hT rO (z_next D hz t1 t2 hx hy fun h' q=>aR (hQ h' q)) (rP _)))
theorem z_pn{Q:Option aa->ah->Prop}(D:ZipApart z TI TO i1 i2 a b)(hz:dI s.heap z TI TO i1 i2 a b k)(t1:cz s.heap a xs)(t2:cz s.heap b ys)(hx:xs[k]?=some x)(hy:ys[k]?=some y)
 (hQ:∀h',ui s z TI TO i1 i2 a b k x y h'->Q (some (.ref s.heap.objs.size)) { s with heap:=h'}):wpAny (model prog w) A (pyNext (.ref z)) Q E s:=by
 have hT:s.TypeIs (.ref z) "zip":=let ⟨_,_,_,e⟩:=hz.z;⟨_,e,rfl⟩
 unfold pyNext
 exact ai (kq (ij (name:=bT "__next__") hT jI (fF jI hT rO (z_next D hz t1 t2 hx hy fun h' q=>aR (hQ h' q)) (rP _))))
theorem z_drawn{Q:aa->ah->Prop}(hh:A.handled=none)(D:ZipApart z TI TO i1 i2 a b)(hz:dI s.heap z TI TO i1 i2 a b k)(t1:cz s.heap a xs)(hx:xs[k]?=none)
 (hE:∀h' e,(∀c o,c≠z->c≠i1->s.heap.get? c=some o->h'.get? c=some o)->(∃o,h'.get? e=some o/\o.cls= .type "StopIteration")->E (.ref e) { s with heap:=h'}):wpAny (model prog w) A (gI (.ref z)) Q E s:=by
 have hT:s.TypeIs (.ref z) "zip":=let ⟨_,_,_,e⟩:=hz.z;⟨_,e,rfl⟩
 obtain⟨f0,f1,hf,e⟩:=hz.z
 unfold gI
 exact ai (ij (name:=bT "__next__") hT jI (fF jI hT rO (z_end hh D hf e hz.ti hz.i1 t1 hx hE) (rP _)))
theorem z_pnone{Q:Option aa->ah->Prop}(hh:A.handled=none)(D:ZipApart z TI TO i1 i2 a b)(hz:dI s.heap z TI TO i1 i2 a b k)(t1:cz s.heap a xs)(hx:xs[k]?=none)
 (hQ:∀h',(∀c o,c≠z->c≠i1->s.heap.get? c=some o->h'.get? c=some o)->Q none { s with heap:=h'}):wpAny (model prog w) A (pyNext (.ref z)) Q E s:=by
 have hT:s.TypeIs (.ref z) "zip":=let ⟨_,_,_,e⟩:=hz.z;⟨_,e,rfl⟩
 obtain⟨f0,f1,hf,e⟩:=hz.z
 unfold pyNext
 refine ai (kq (ij (name:=bT "__next__") hT jI (fF jI hT rO (z_end hh D hf e hz.ti hz.i1 t1 hx fun h' e hk he=>?_) (rP _))))
 obtain⟨o,ho,hc⟩:=he
 exact ai (mO (T:="StopIteration") (b:=true) ⟨o,ho,hc⟩ uN (aR (hQ _ hk)))
theorem z_self{Q:aa->ah->Prop}(hz:dI s.heap z TI TO i1 i2 a b k)(h:Q (.ref z) s):wpAny (model prog w) A (pyIter (.ref z)) Q E s:=by
 obtain⟨f0,f1,hf,e⟩:=hz.z
 have hT:s.TypeIs (.ref z) "zip":=⟨_,e,rfl⟩
 refine uO hT zN (fF zN hT F.entry_zip_iter ?_ (F.args_zip_iter_1 _))
 show wpAny _ _ (ret (aa.ref z)) _ _ s
 exact aR ⟨_,rfl,"zip",_,hT,jI.lookup,h⟩
end
abbrev zt1(h:aA)(l1:Addr):aA:=h.push { cls:= .type "tuple_iterator",data:= .fields #[.ref l1,.int 0 0]}
abbrev zt2(h:aA)(l1 l2:Addr):aA:=(zt1 h l1).push { cls:= .type "tuple_iterator",data:= .fields #[.ref l2,.int 0 0]}
abbrev zt3(h:aA)(l1 l2:Addr):aA:=(zt2 h l1 l2).push { cls:= .type "tuple",data:= .seq #[.ref h.objs.size,.ref (zt1 h l1).objs.size]}
abbrev zt4(h:aA)(l1 l2:Addr):aA:=(zt3 h l1 l2).push { cls:= .type "tuple",data:= .seq #[.none,.none]}
abbrev zt5(h:aA)(l1 l2:Addr):aA:=(zt4 h l1 l2).push (zObj .none (.bool false) (zt2 h l1 l2).objs.size (zt3 h l1 l2).objs.size)
theorem KU(l1 l2:Addr)(xs ys:Array aa):
 Meets (dA.«zip.__new__» ⟨[.type "zip",.ref l1,.ref l2],[]⟩) (fun _ R s=>cz s.heap l1 xs/\cz s.heap l2 ys/\R (.ok (.ret (.ref (zt4 s.heap l1 l2).objs.size))) { s with heap:=zt5 s.heap l1 l2}):=
 .of_wp fun prog w A R s h=>by
  obtain⟨hp,g,d,tk,os⟩:=s;obtain⟨hl1,hl2,h⟩:=h
  have hsub:=sub_zip
  have hL1:cz (vV ⟨hp,g,d,tk,os⟩) l1 xs:=hl1
  have hL2:cz (vV ⟨hp.push { cls:= .type "tuple_iterator",data:= .fields #[.ref l1,.int 0 0]},g,d,tk,os⟩) l2 ys:=let ⟨o,e,r⟩:=hl2;⟨o,br _ e,r⟩
  wp_walk using iter_tuple hL1,iter_tuple hL2
  exact⟨_,rfl,h⟩
theorem zt_all(h:aA)(l1 l2:Addr):(zt5 h l1 l2).objs.size=h.objs.size+5/\(zt4 h l1 l2).objs.size=h.objs.size+4/\dI (zt5 h l1 l2) (h.objs.size+4) (h.objs.size+2) (h.objs.size+3) h.objs.size (h.objs.size+1) l1 l2 0/\
 (∀c o,h.get? c=some o->(zt5 h l1 l2).get? c=some o):=by
 have z1:(zt1 h l1).objs.size=h.objs.size+1:=ip ..
 have z2:(zt2 h l1 l2).objs.size=h.objs.size+2:=by rw[ip,z1]
 have z3:(zt3 h l1 l2).objs.size=h.objs.size+3:=by rw[ip,z2]
 have z4:(zt4 h l1 l2).objs.size=h.objs.size+4:=by rw[ip,z3]
 have z5:(zt5 h l1 l2).objs.size=h.objs.size+5:=by rw[ip,z4]
 have g5:(zt5 h l1 l2).get? (zt4 h l1 l2).objs.size=some _:=bY _ rfl
 have g4:(zt5 h l1 l2).get? (zt3 h l1 l2).objs.size=some _:=br _ (bY _ rfl)
 have g3:(zt5 h l1 l2).get? (zt2 h l1 l2).objs.size=some _:=br _ (br _ (bY _ rfl))
 have g2:(zt5 h l1 l2).get? (zt1 h l1).objs.size=some _:=br _ (br _ (br _ (bY _ rfl)))
 have g1:(zt5 h l1 l2).get? h.objs.size=some _:=br _ (br _ (br _ (br _ (bY _ rfl))))
 rw[z2,z3,z4]at g5
 rw[z1,z2]at g3
 rw[z3]at g4
 rw[z1]at g2
 exact⟨z5,z4,⟨⟨_,_,⟨.inl rfl,false,rfl⟩,g5⟩,g3,⟨_,_,g4⟩,⟨_,g1,rfl,rfl⟩,⟨_,g2,rfl,rfl⟩⟩,fun c o e=>br _ (br _ (br _ (br _ (br _ e))))⟩
theorem Ed{prog:aP}{w:aH}{A:bx}{E:aa->ah->Prop}{s:ah}{l1 l2:Addr}{xs ys:Array aa}{Q:aa->ah->Prop}(h1:cz s.heap l1 xs)(h2:cz s.heap l2 ys)
 (h:Q (.ref (s.heap.objs.size+4)) { s with heap:=zt5 s.heap l1 l2}):wpAny (model prog w) A (call (.type "zip") [.ref l1,.ref l2]) Q E s:=by
 refine uP F.called_zip (by decide) (F.typeCall_zip_2 _ _) (F.newCall_zip_2 _ _) (fun obj=>F.args_object_init_3 obj _ _) F.entry_zip_new (KU l1 l2 xs ys) ⟨h1,h2,?_⟩
 obtain⟨z5,z4,zz,_⟩:=zt_all s.heap l1 l2
 show _/\_
 rw[z4]
 obtain⟨_,_,_,e⟩:=zz.z
 exact⟨⟨_,e,rfl⟩,h⟩
theorem zt_apart{n a b:Nat}(h1:a<n)(h2:b<n):ZipApart (n+4) (n+2) (n+3) n (n+1) a b:=by
 constructor<;>(show (_:Nat)≠(_:Nat);omega)
def ZL(H:Hp)(ls xs ys:List V):Prop:=ls.length=xs.length/\∀(i:Nat)(x y:V),xs[i]?=some x->ys[i]?=some y->∃p,ls[i]?=some (.ref p)/\H p=some (.tup [x,y])
theorem ZL.snoc{H H':Hp}{ls xs ys:List V}{x y:V}{p:Addr}(h:ZL H ls xs ys)(hl:xs.length=ys.length)(k:∀q us,H q=some (.tup us)->H' q=some (.tup us))(hp:H' p=some (.tup [x,y])):ZL H' (ls++[.ref p]) (xs++[x]) (ys++[y]):=by
 refine⟨by simp[h.1],fun i u v hu hv=>?_⟩
 by_cases c:i<xs.length
 ·rw[kF c]at hu
  rw[kF (by omega)]at hv
  obtain⟨q,e1,e2⟩:=h.2 i u v hu hv
  exact⟨q,by rw[kF (by have:=h.1;omega)];exact e1,k _ _ e2⟩
 ·have hi:i=xs.length:=by
   have:=(bI.mp hu).1
   simp at this
   omega
  subst hi
  rw[mT (aJ _)]at hu
  rw[hl,mT (aJ _)]at hv
  simp at hu hv
  subst hu hv
  refine⟨p,?_,hp⟩
  rw[<-h.1,mT (aJ _)]
  simp
section
variable{X:Cx}{pins:List (Addr×aI)}{σ:L2.St}
theorem z_inv{s:ah}{H:Hp}{z TI TO i1 i2 a b:Addr}{k:Nat}{x y:V}{u v:aa}{h':aA}(I:Inv X pins σ H s)(hf:∀c∈[z,TI,TO,i1,i2],d4 X pins H c)(hz:dI s.heap z TI TO i1 i2 a b k)(ru:aW x u)(rv:aW y v)(q:ui s z TI TO i1 i2 a b k u v h'):
 Inv X pins σ (ae H s.heap.objs.size (.tup [x,y])) { s with heap:=h'}/\(∀c∈[z,TI,TO,i1,i2],d4 X pins (ae H s.heap.objs.size (.tup [x,y])) c)/\H s.heap.objs.size=none:=by
 obtain⟨hz',hp,hsz,hk⟩:=q
 have J:Inv X pins σ (ae H s.heap.objs.size (.tup [x,y])) { s with heap:=s.heap.push { cls:= .type "tuple",data:= .seq #[u,v]}}:=
  I.laid (t':=s.toks) (fun b u e=>br _ e) (aJ _) ⟨by show 2<=sizeLine;decide,[u,v],.cons ru (.cons rv .nil),⟨_,bY _ rfl,rfl,_,rfl⟩⟩
 have lt:∀c∈[z,TI,TO,i1,i2],c<s.heap.objs.size:=fun c hc=>by
  simp only[bF,fG,or_false]at hc
  rcases hc with rfl|rfl|rfl|rfl|rfl
  ·exact let ⟨_,_,_,e⟩:=hz.z;bm e
  ·exact bm hz.ti
  ·exact let ⟨_,_,e⟩:=hz.to;bm e
  ·exact let ⟨_,e,_⟩:=hz.i1;bm e
  ·exact let ⟨_,e,_⟩:=hz.i2;bm e
 have hf':∀c∈[z,TI,TO,i1,i2],d4 X pins (ae H s.heap.objs.size (.tup [x,y])) c:=fun c hc=>⟨by rw[am (cJ (lt c hc))];exact(hf c hc).1,(hf c hc).2⟩
 refine⟨?_,hf',I.fresh⟩
 refine L2.Inv.turnedL (s:={ s with heap:=s.heap.push { cls:= .type "tuple",data:= .seq #[u,v]}}) (t':=s.toks) (ch:=[z,TI,TO,i1,i2]) J (fun c o hc e=>?_) hf'
 simp only[bF,fG,or_false,not_or]at hc
 by_cases ec:c=s.heap.objs.size
 ·subst ec
  rw[bY _ rfl]at e
  cases e
  exact hp
 ·rw[rq _ _ _ ec]at e
  exact hk c o hc.1 hc.2.2.1 hc.2.2.2.1 hc.2.2.2.2 e
theorem KW{z TI TO i1 i2 a b S:Addr}{xs ys:List V}{A:bx}{R:Result->ah->Prop}{res:aa}(D:ZipApart z TI TO i1 i2 a b)(hh:A.handled=none)(hl:xs.length=ys.length)(hsz:xs.length<=sizeLine)(hS:S∉[z,TI,TO,i1,i2]):
 ∀(k i:Nat)(s:ah)(H:Hp)(ls:List V),xs.length - i=k->i<=xs.length->Inv X pins σ H s->dI s.heap z TI TO i1 i2 a b i->H a=some (.tup xs)->H b=some (.tup ys)->H S=some (.lst ls)->ZL H ls (xs.take i) (ys.take i)->(∀c∈[z,TI,TO,i1,i2],d4 X pins H c)->
  (∀s' H' ls',Inv X pins σ H' s'->(∀c o,c≠S->H c=some o->H' c=some o)->H' S=some (.lst ls')->ZL H' ls' xs ys->R (.ok (.ret res)) s')->
  codeAny (model X.prog X.w) A (.builtin "list.extend.loop" ⟨[.ref S,.ref z,res],[]⟩) R s:=by
 intro k
 induction k with
 |zero=>
  intro i s H ls hk hi I hz ha hb hSl hZ hf hR
  have hin:i=xs.length:=by omega
  subst hin
  obtain⟨its1,rv1,p1,_⟩:=I.tuple (ag.of ha)
  have l1:=rv1.length
  refine qZ zO ?_
  rw[sd vA _]
  show wpAny _ A.in1 (pyNext (aa.ref z) >>= _) _ _ s
  refine ai (z_pnone hh D hz p1 (by simp;omega) fun h' hk'=>aR ?_)
  rw[rJ,hl,rJ]at hZ
  refine hR _ H ls ?_ (fun _ _ _ e=>e) hSl hZ
  refine L2.Inv.turnedL (t':=s.toks) (ch:=[z,TI,TO,i1,i2]) I (fun c o hc e=>?_) hf
  simp only[bF,fG,or_false,not_or]at hc
  exact hk' c o hc.1 hc.2.2.2.1 e
 |succ k ih=>
  intro i s H ls hk hi I hz ha hb hSl hZ hf hR
  have hlt:i<xs.length:=by omega
  obtain⟨its1,rv1,p1,_⟩:=I.tuple (ag.of ha)
  obtain⟨its2,rv2,p2,_⟩:=I.tuple (ag.of hb)
  have hx:xs[i]?=some xs[i]:=zGE hlt
  have hy:ys[i]?=some (ys[i]'(by omega)):=zGE (by omega)
  obtain⟨u,hu,ru⟩:=rv1.get hx
  obtain⟨v,hv,rv⟩:=rv2.get hy
  refine qZ zO ?_
  rw[sd vA _]
  show wpAny _ A.in1 (pyNext (aa.ref z) >>= _) _ _ s
  refine ai (z_pn D hz p1 p2 (x:=u) (y:=v) (by simpa using hu) (by simpa using hv) fun h' q=>?_)
  obtain⟨J,hf',hfr⟩:=z_inv I hf hz ru rv q
  generalize hT:s.heap.objs.size=T at J hf' hfr q
  have nST:S≠T:=aN hSl hfr
  have gS:ae H T (.tup [xs[i],ys[i]'(by omega)]) S=some (.lst ls):=by rw[am nST];exact hSl
  obtain⟨zS,its,n,rS,hlS,eS⟩:=J.lstM gS
  have hls:=hZ.1
  rw[zLT]at hls
  show wpAny _ A.in1 (updateSeq S (·.push (aa.ref T)) >>= _) _ _ _
  refine ai ?_
  have J3:=J.lset (its':=its++[aa.ref T]) (ys:=ls++[.ref T]) (f:=(·.push (aa.ref T))) (t':=s.toks) gS eS (by simp) (rS.append (.cons (show aW (V.ref T) (aa.ref T)from rfl) .nil)) (by rw[zLA,zm];omega)
  refine lz eS rfl (aR ⟨mP vA _,ih (i+1) _ _ (ls++[.ref T]) (by omega) hlt J3 ?_ ?_ ?_ au ?_ (fun c hc=>?_) fun s' H' ls' I' hk' g1 g2=>?_⟩) (by rw[bW];omega) (by show (its.toArray.push (aa.ref T)).size<=sizeLine+1;rw[Array.size_push,bW];omega)
  ·exact q.1.keep fun c hc o e=>(jE _ _ (fun y:S=c=>hS (y▸hc))).trans e
  ·rw[am (by rintro rfl;rw[ha]at hSl;cases hSl),am (aN ha hfr)]
   exact ha
  ·rw[am (by rintro rfl;rw[hb]at hSl;cases hSl),am (aN hb hfr)]
   exact hb
  ·rw[zTS hlt,zTS (by omega:i<ys.length)]
   refine hZ.snoc (by rw[zLT,zLT];omega) (fun r us e=>?_) ?_
   ·rw[am (by rintro rfl;rw[e]at hSl;cases hSl),am (aN e hfr)]
    exact e
   ·rw[am nST.symm,au]
  ·have nc:c≠S:=fun y=>hS (y▸hc)
   exact⟨by rw[am nc];exact(hf' c hc).1,(hf' c hc).2⟩
  ·refine hR s' H' ls' I' (fun c o hc e=>hk' c o hc ?_) g1 g2
   rw[am hc,am (aN e hfr)]
   exact e
theorem zip_nolen:typeLookup (.type "zip") "__len__"=pure none:=by rw[ik,im];kernel_rfl
theorem zip_nohint:typeLookup (.type "zip") "__length_hint__"=pure none:=by rw[ik,im];kernel_rfl
theorem z_hint{prog:aP}{w:aH}{A:bx}{E:aa->ah->Prop}{s:ah}{z:Addr}{Q:Bool->ah->Prop}(hT:s.TypeIs (.ref z) "zip")(h:Q true s):wpAny (model prog w) A (pI (.ref z)) Q E s:=by
 unfold pI
 refine ai (je hT zip_nolen ?_)
 show wpAny _ _ (specialOf (aa.ref z) (bT "__length_hint__") >>= _) _ _ _
 exact ai (je hT zip_nohint (aR h))
def KY(K:aB)(ta:TA):TE:=fun σ H Q=>ta σ H fun vs H1=>∃a b xs ys,vs=[.ref a,.ref b]/\H1 a=some (.tup xs)/\H1 b=some (.tup ys)/\xs.length=ys.length/\∀l ls H2,aq H1 H2->H1 l=none->H2 l=some (.lst ls)->ZL H2 ls xs ys->Q (.ref l) H2
theorem KZ{s:ah}{H:Hp}{z TI TO i1 i2 a b:Addr}{xs ys:List V}{Q:VK}(hc:X.calm=true)(D:ZipApart z TI TO i1 i2 a b)(I:Inv X pins σ H s)(hz:dI s.heap z TI TO i1 i2 a b 0)(hf:∀c∈[z,TI,TO,i1,i2],d4 X pins H c)(ha:H a=some (.tup xs))(hb:H b=some (.tup ys))(hl:xs.length=ys.length)
 (q:∀l ls H2,aq H H2->H l=none->H2 l=some (.lst ls)->ZL H2 ls xs ys->Q (.ref l) H2):wpAny (model X.prog X.w) X.A (call (.type "list") [.ref z]) (EP X pins σ Q) X.xe s:=by
 have hsz:xs.length<=sizeLine:=(I.tuple (ag.of ha)).choose_spec.2.2
 have lt:∀c∈[z,TI,TO,i1,i2],c<s.heap.objs.size:=fun c hc=>by
  simp only[bF,fG,or_false]at hc
  rcases hc with rfl|rfl|rfl|rfl|rfl
  ·exact let ⟨_,_,_,e⟩:=hz.z;bm e
  ·exact bm hz.ti
  ·exact let ⟨_,_,e⟩:=hz.to;bm e
  ·exact let ⟨_,e,_⟩:=hz.i1;bm e
  ·exact let ⟨_,e,_⟩:=hz.i2;bm e
 refine uQ (Q₁:=fun obj s₁=>obj= .ref s.heap.objs.size/\s₁={ s with heap:=s.heap.push { cls:= .type "list",data:= .seq #[]}}) zI (zK _) zL (code_list_new _ ⟨rfl,rfl⟩) fun obj s₁ g=>?_
 obtain⟨rfl,rfl⟩:=g
 have J:Inv X pins σ (ae H s.heap.objs.size (.lst [])) { s with heap:=s.heap.push { cls:= .type "list",data:= .seq #[]}}:=I.lnew (ys:=[]) (its:=[]) (t':=s.toks) .nil (cP _)
 have hfr:=I.fresh
 have zJ:dI (s.heap.push { cls:= .type "list",data:= .seq #[]}) z TI TO i1 i2 a b 0:=hz.keep fun c _ o e=>br _ e
 have fJ:∀c∈[z,TI,TO,i1,i2],d4 X pins (ae H s.heap.objs.size (.lst [])) c:=fun c hc=>⟨by rw[am (cJ (lt c hc))];exact(hf c hc).1,(hf c hc).2⟩
 have gS:(s.heap.push { cls:= .type "list",data:= .seq #[]}).get? s.heap.objs.size=some { cls:= .type "list",data:= .seq #[]}:=bY _ rfl
 refine⟨⟨_,gS,rfl⟩,zM _ _,?_⟩
 have nS:s.heap.objs.size∉[z,TI,TO,i1,i2]:=fun y=>ku _ (lt _ y)
 generalize hS:s.heap.objs.size=S at J fJ gS hfr nS
 generalize hh1:s.heap.push { cls:= .type "list",data:= .seq #[]}=h1 at J zJ gS
 show wpAny _ _ (do let old <-rX (.ref S);Ak (.ref S) (fun _=>#[]);letGo old.toList.reverse;lI (.ref S) (.ref z) .none) _ _ _
 refine ai ?_
 unfold rX
 refine ai (jh gS rfl (aR ?_))
 show wpAny _ _ (updateSeq S (fun _=>#[]) >>= fun _=>letGo (#[]:Array aa).toList.reverse >>= fun _=>lI (.ref S) (.ref z) .none) _ _ _
 refine ai (lz gS rfl ?_)
 have J2:=J.lset (its:=[]) (its':=[]) (ys:=[]) (n:=0) (f:=fun _=>(#[]:Array aa)) (t':=s.toks) au gS rfl .nil (cP _)
 rw[pL]at J2
 have g2:=jD (eM (fun _=>(#[]:Array aa))) gS rfl
 have z2:dI (h1.update S (eM (fun _=>(#[]:Array aa)))) z TI TO i1 i2 a b 0:=zJ.keep fun c hc o e=>(jE _ _ (fun y:S=c=>nS (y▸hc))).trans e
 generalize h1.update S (eM (fun _=>(#[]:Array aa)))=h2 at J2 g2 z2
 refine ai (pf ?_)
 unfold lI
 have hT:ah.TypeIs { s with heap:=h2} (.ref z) "zip":=let ⟨_,_,_,e⟩:=z2.z;⟨_,e,rfl⟩
 refine ai (ly (T:="zip") hT ?_)
 have nz:S≠z:=fun y=>nS (y▸by simp)
 have e1:rW (.ref S) (.ref z)=false:=by simp[rW,nz]
 have e2:(aa.type "zip"==aa.type "list")=false:=by decide
 have e3:(aa.type "zip"==aa.type "tuple")=false:=by decide
 simp only[e1,e2,e3,vD,iP,if_false]
 refine ai (z_self z2 ?_)
 refine ai (gR (z_hint hT ?_))
 simp only[Bool.true_or,if_true]
 refine ai (jf (ai ?_))
 show wpAny _ _ (updateSeq S (·.push .none) >>= fun _=>updateSeq S (·.pop)) _ _ _
 refine ai (lz g2 rfl ?_)
 have J3:=J2.lset (its:=[]) (its':=[.none]) (ys:=[.non]) (n:=_) (f:=(·.push aa.none)) (t':=s.toks) au g2 rfl (.cons rfl .nil) (by show 1<=sizeLine;decide)
 rw[pL]at J3
 have g3:=jD (eM (·.push aa.none)) g2 rfl
 have z3:dI (h2.update S (eM (·.push aa.none))) z TI TO i1 i2 a b 0:=z2.keep fun c hc o e=>(jE _ _ (fun y:S=c=>nS (y▸hc))).trans e
 generalize h2.update S (eM (·.push aa.none))=h3 at J3 g3 z3
 refine lz (hz:=by seq_fits) g3 rfl ?_
 have J4:=J3.lset (its:=[.none]) (its':=[]) (ys:=[]) (n:=_) (f:=(·.pop)) (t':=s.toks) au g3 rfl .nil (cP _)
 rw[pL]at J4
 have z4:dI (h3.update S (eM (·.pop))) z TI TO i1 i2 a b 0:=z3.keep fun c hc o e=>(jE _ _ (fun y:S=c=>nS (y▸hc))).trans e
 generalize h3.update S (eM (·.pop))=h4 at J4 z4
 refine aR ⟨mP vy _,KW (A:=X.A.in1) (S:=S) (xs:=xs) (ys:=ys) D (show X.A.in1.handled=none from I.ok.hd hc) hl hsz nS xs.length 0 _ _ [] (by omega) (cP _) J4 z4 ?_ ?_ au ⟨rfl,fun i x y e=>by simp at e⟩ fJ fun s' H' ls' I' hk g1 g2=>?_⟩
 ·rw[am (aN ha hfr)];exact ha
 ·rw[am (aN hb hfr)];exact hb
 ·refine⟨rfl,.ref S,H',I',rfl,q S ls' H' (fun c o e=>hk c o (aN e hfr) ?_) hfr g1 g2⟩
  rw[am (aN e hfr)]
  exact e
theorem K0{a b:Expr}{ta:TA}{p p' pos pos':Pos}(hm:X.mg "list"=none)(hm':X.mg "zip"=none)(h:PA X [a,b] ta)(hc:X.calm=true:=by rfl)(hg:Gl X "list":=by rfl)(hg':Gl X "zip":=by rfl)
 (h1:starEach [.Call (.Name "zip" p') [a,b] [] pos'] X.env=[(false,eval (.Call (.Name "zip" p') [a,b] [] pos') X.env)]:=by rfl) (hs:starEach [a,b] X.env=[(false,eval a X.env),(false,eval b X.env)]:=by rfl) (hs2:starEach [b] X.env=[(false,eval b X.env)]:=by rfl):
 PE X (.Call (.Name "list" p) [.Call (.Name "zip" p') [a,b] [] pos'] [] pos) (KY X.K ta):=by
 intro pins s σ H Q I hw
 refine Call_ (gg I hg hm gm (gW ?_ h1 rfl))
 rw[h1]
 refine jm ?_
 refine Call_ (gg I hg' hm' C7 (gW (aL (h pos' pins s σ H _ I hw) fun us s1 ⟨vs,H1,I1,r1,q1⟩=>?_) (by rw[hs,hs2]) (by rw[hs2];rfl)))
 obtain⟨l1,l2,xs,ys,e,ha,hb,hl,q⟩:=q1
 subst e
 obtain⟨u,u',rfl,ru,ru'⟩:=sv r1
 cases ru
 cases ru'
 obtain⟨its1,rv1,p1,_⟩:=I1.tuple (ag.of ha)
 obtain⟨its2,rv2,p2,_⟩:=I1.tuple (ag.of hb)
 have lt1:@LT.lt Nat _ l1 s1.heap.objs.size:=let ⟨o,ho,_⟩:=p1;bm ho
 have lt2:@LT.lt Nat _ l2 s1.heap.objs.size:=let ⟨o,ho,_⟩:=p2;bm ho
 refine Ed p1 p2 (jJ ?_)
 obtain⟨z5,z4,zz,zk⟩:=zt_all s1.heap l1 l2
 have I2:Inv X pins σ H1 { s1 with heap:=zt5 s1.heap l1 l2}:=I1.kept (t':=s1.toks) zk
 refine KZ (z:=s1.heap.objs.size+4) (s:={ s1 with heap:=zt5 s1.heap l1 l2}) hc (zt_apart lt1 lt2) I2 zz (fun c hc=>?_) ha hb hl q
 have hc':s1.heap.objs.size<=c:=by
  simp only[bF,fG,or_false]at hc
  rcases hc with rfl|rfl|rfl|rfl|rfl<;>first|exact aJ _|exact zd _ _
 exact I1.fpOk hc' (I1.hok.fresh hc')
end
end BF
namespace K07
open PySem L2 BF
theorem bD{x:V}{xs:List V}:dn (x::xs) (0:Int)=some x:=dH (j:=0) rfl
theorem cx{x y:V}{xs:List V}:dn (x::y::xs) (1:Int)=some y:=dH (j:=1) rfl
section
variable{P:aP}{w:aH}{K:aB}{mg:ac->Option aa}{base:aA}
def d7:Tm->List Dt
 |.num n=>[.str "number",.int n]
 |.name w=>[.str "name",.str w]
 |.blank w=>[.str "blank",.str w]
 |.thing w ps=>[.str "thing",.str w,.int ps.length]
def uj(t u:Tm):Prop:=cX t=false/\cX u=false/\d7 t≠d7 u
theorem xH{t u:Tm}(h:cc t=false\/cc u=false):d7 t≠d7 u↔t≠u:=by
 cases t<;>cases u<;>simp[d7,cc,BY,wy,BZ,wz,B0,B1,B2,B3,Iv,B4,Iw,B5]at h |-
theorem qG{w v:ac}{ps qs:List Tm}:d7 (.thing w ps)≠d7 (.thing v qs)↔(w≠v\/ps.length≠qs.length):=by
 simp only[d7,ne_eq,jK,Dt.str.injEq,Dt.int.injEq,true_and,and_true,Int.natCast_inj]
 exact Classical.not_and_iff_not_or_not
inductive Ee(vs:List V)(H:Hp)(Q:VK):Prop
 |mk:∀(v v':V)(t u:Tm),(vs=[v,v'])->(aw H v t)->(aw H v' u)->(t.nodes<=90)->(∀b:Bool,(b=true↔uj t u)->Q (.bl b) H)->Ee vs H Q
def uk:Sp:=fun vs H Q _=>Ee vs H Q
theorem K1{f:Addr}{fd:bd}(F:bw K "_law_clash" "_law_clash" oG f fd)(T:Bi mg):be P w K mg base bh 1 f fd ["_law_one","_law_other"] uk:=by
 refine F.ok KM (fun vs H Q E h=>?_) (fun cdv A outer s H vs Q E hr h=>?_)
 ·obtain⟨_,_,_,_,rfl,_⟩:=h
  rfl
 obtain⟨v,v',t,u,rfl,ht,hu,hn,q⟩:=h
 have hun:=hr.un
 have no:(cX t=true\/cX u=true)->Q (.bl false) H:=fun z=>q false ⟨fun y=>(by cases y),fun⟨y1,y2,_⟩=>by rw[y1,y2]at z;simp at z⟩
 have rest:cX t=false->cX u=false->(cc t=false\/cc u=false)->∀b:Bool,(b=true↔¬t=u)->Q (.bl b) H:=fun y1 y2 z b hb=>q b (hb.trans ⟨fun k=>⟨y1,y2,(xH z).mpr k⟩,fun k=>(xH z).mp k.2.2⟩)
 refine⟨_,(aj (aK (cv (aF bM (ao (pv 0)) aO (aC _)) (dF (aF bM (ao (pv 1)) aO (aC _)))).pt (al (ay bU)) aU)
  (aj (aK (jq (aF bM (ao (pv 0)) aO (aC _)) (jp (aF bM (ao (pv 1)) aO (aC _)))).pt (al (ay (AG (iQ eN (ao (pv 0)) (ao (pv 1)) (aC _)) (nq (iQ eN (bc cm T.b_len cj (ad (ao (pv 0)) af)) (bc cm T.b_len cj (ad (ao (pv 1)) af)) (aC _)))))) aU)
  (al (ay (iQ wF (pv 0) (pv 1) (aC _)))))),?_⟩
 cases t with
 |num n=>
  obtain⟨a1,rfl,e1⟩:=fm.mp ht
  refine⟨_,rfl,_,_,_,_,rfl,rfl,ag.of e1,rfl,rfl,_,rfl,bj ?_⟩
  cases u with
  |num m=>
   obtain⟨a2,rfl,e2⟩:=fm.mp hu
   refine⟨_,rfl,_,_,_,_,rfl,rfl,ag.of e2,rfl,rfl,_,rfl,bj ?_⟩
   exact⟨_,rfl,_,_,_,_,rfl,rfl,ag.of e1,rfl,rfl,_,rfl,bj (bf ⟨_,rfl,_,rfl,_,_,ht,hu,(by show (A.deeper _).units+_<cLine;omega),rest rfl rfl (.inl rfl)⟩)⟩
  |name m=>
   obtain⟨a2,rfl,e2⟩:=eD.mp hu
   refine⟨_,rfl,_,_,_,_,rfl,rfl,ag.of e2,rfl,rfl,_,rfl,bj ?_⟩
   exact⟨_,rfl,_,_,_,_,rfl,rfl,ag.of e1,rfl,rfl,_,rfl,bj (bf ⟨_,rfl,_,rfl,_,_,ht,hu,(by show (A.deeper _).units+_<cLine;omega),rest rfl rfl (.inl rfl)⟩)⟩
  |blank m=>
   obtain⟨a2,rfl,e2⟩:=dU.mp hu
   exact⟨_,rfl,_,_,_,_,rfl,rfl,ag.of e2,rfl,rfl,_,rfl,cZ (no (.inr rfl))⟩
  |thing m qs=>
   obtain⟨a2,b2,us2,rfl,e2,g2,k2⟩:=dr.mp hu
   refine⟨_,rfl,_,_,_,_,rfl,rfl,ag.of e2,rfl,rfl,_,rfl,bj ?_⟩
   exact⟨_,rfl,_,_,_,_,rfl,rfl,ag.of e1,rfl,rfl,_,rfl,bj (bf ⟨_,rfl,_,rfl,_,_,ht,hu,(by show (A.deeper _).units+_<cLine;omega),rest rfl rfl (.inl rfl)⟩)⟩
 |name n=>
  obtain⟨a1,rfl,e1⟩:=eD.mp ht
  refine⟨_,rfl,_,_,_,_,rfl,rfl,ag.of e1,rfl,rfl,_,rfl,bj ?_⟩
  cases u with
  |num m=>
   obtain⟨a2,rfl,e2⟩:=fm.mp hu
   refine⟨_,rfl,_,_,_,_,rfl,rfl,ag.of e2,rfl,rfl,_,rfl,bj ?_⟩
   exact⟨_,rfl,_,_,_,_,rfl,rfl,ag.of e1,rfl,rfl,_,rfl,bj (bf ⟨_,rfl,_,rfl,_,_,ht,hu,(by show (A.deeper _).units+_<cLine;omega),rest rfl rfl (.inl rfl)⟩)⟩
  |name m=>
   obtain⟨a2,rfl,e2⟩:=eD.mp hu
   refine⟨_,rfl,_,_,_,_,rfl,rfl,ag.of e2,rfl,rfl,_,rfl,bj ?_⟩
   exact⟨_,rfl,_,_,_,_,rfl,rfl,ag.of e1,rfl,rfl,_,rfl,bj (bf ⟨_,rfl,_,rfl,_,_,ht,hu,(by show (A.deeper _).units+_<cLine;omega),rest rfl rfl (.inl rfl)⟩)⟩
  |blank m=>
   obtain⟨a2,rfl,e2⟩:=dU.mp hu
   exact⟨_,rfl,_,_,_,_,rfl,rfl,ag.of e2,rfl,rfl,_,rfl,cZ (no (.inr rfl))⟩
  |thing m qs=>
   obtain⟨a2,b2,us2,rfl,e2,g2,k2⟩:=dr.mp hu
   refine⟨_,rfl,_,_,_,_,rfl,rfl,ag.of e2,rfl,rfl,_,rfl,bj ?_⟩
   exact⟨_,rfl,_,_,_,_,rfl,rfl,ag.of e1,rfl,rfl,_,rfl,bj (bf ⟨_,rfl,_,rfl,_,_,ht,hu,(by show (A.deeper _).units+_<cLine;omega),rest rfl rfl (.inl rfl)⟩)⟩
 |blank n=>
  obtain⟨a1,rfl,e1⟩:=dU.mp ht
  exact⟨_,rfl,_,_,_,_,rfl,rfl,ag.of e1,rfl,rfl,_,rfl,cZ (g9 (no (.inl rfl)))⟩
 |thing n ps=>
  obtain⟨a1,b1,us1,rfl,e1,g1,k1⟩:=dr.mp ht
  refine⟨_,rfl,_,_,_,_,rfl,rfl,ag.of e1,rfl,rfl,_,rfl,bj ?_⟩
  cases u with
  |num m=>
   obtain⟨a2,rfl,e2⟩:=fm.mp hu
   refine⟨_,rfl,_,_,_,_,rfl,rfl,ag.of e2,rfl,rfl,_,rfl,bj ?_⟩
   exact⟨_,rfl,_,_,_,_,rfl,rfl,ag.of e1,rfl,rfl,_,rfl,cZ ⟨_,rfl,_,_,_,_,rfl,rfl,ag.of e2,rfl,rfl,_,rfl,bj ⟨_,rfl,_,rfl,_,_,ht,hu,(by show (A.deeper _).units+_<cLine;omega),rest rfl rfl (.inr rfl)⟩⟩⟩
  |name m=>
   obtain⟨a2,rfl,e2⟩:=eD.mp hu
   refine⟨_,rfl,_,_,_,_,rfl,rfl,ag.of e2,rfl,rfl,_,rfl,bj ?_⟩
   exact⟨_,rfl,_,_,_,_,rfl,rfl,ag.of e1,rfl,rfl,_,rfl,cZ ⟨_,rfl,_,_,_,_,rfl,rfl,ag.of e2,rfl,rfl,_,rfl,bj ⟨_,rfl,_,rfl,_,_,ht,hu,(by show (A.deeper _).units+_<cLine;omega),rest rfl rfl (.inr rfl)⟩⟩⟩
  |blank m=>
   obtain⟨a2,rfl,e2⟩:=dU.mp hu
   exact⟨_,rfl,_,_,_,_,rfl,rfl,ag.of e2,rfl,rfl,_,rfl,cZ (no (.inr rfl))⟩
  |thing m qs=>
   obtain⟨a2,b2,us2,rfl,e2,g2,k2⟩:=dr.mp hu
   refine⟨_,rfl,_,_,_,_,rfl,rfl,ag.of e2,rfl,rfl,_,rfl,bj ?_⟩
   refine⟨_,rfl,_,_,_,_,rfl,rfl,ag.of e1,rfl,rfl,_,rfl,cZ ⟨_,rfl,_,_,_,_,rfl,rfl,ag.of e2,rfl,rfl,_,rfl,cZ ?_⟩⟩
   have l1:=k1.len
   have l2:=k2.len
   refine⟨_,rfl,_,_,_,_,rfl,rfl,ag.of e1,rfl,_,rfl,_,_,_,_,rfl,rfl,ag.of e2,rfl,rfl,_,rfl,bO (fun c=>q _ ?_) (fun c=>⟨_,rfl,_,_,_,_,rfl,rfl,ag.of e1,rfl,b1,us1,rfl,.inr (ag.of g1),_,rfl,_,_,_,_,rfl,rfl,ag.of e2,rfl,b2,us2,rfl,.inr (ag.of g2),rfl,q _ ?_⟩)⟩
   ·have c':n≠m:=by simpa using c
    exact⟨fun _=>⟨rfl,rfl,qG.mpr (.inl c')⟩,fun _=>rfl⟩
   ·have c':n=m:=by simpa using c
    rw[vE,decide_eq_false_iff_not,V.int.injEq,l1,l2]
    constructor
    ·intro z
     exact⟨rfl,rfl,qG.mpr (.inr fun y=>z (by rw[y]))⟩
    ·rintro⟨_,_,z⟩
     rcases qG.mp z with y|y
     ·exact absurd c' y
     ·intro z;omega
inductive Eg(vs:List V)(H:Hp)(Q:VK):Prop
 |mk:∀(v:V)(t:Tm),(vs=[v])->(aw H v t)->(∀x H',aq H H'->aQ H' x (.tup (d7 t))->Q x H')->Eg vs H Q
def ul:Sp:=fun vs H Q _=>Eg vs H Q
theorem K2{f:Addr}{fd:bd}(F:bw K "head" "head" nN f fd)(T:Bi mg):be P w K mg base bh 1 f fd ["term"] ul:=by
 refine F.ok Kw (fun vs H Q E h=>?_) (fun cdv A outer s H vs Q E hr h=>?_)
 ·obtain⟨_,_,rfl,_⟩:=h
  rfl
 obtain⟨v,t,rfl,ht,q⟩:=h
 refine⟨_,(aj (aK (aF bM (ao (pv 0)) aO (aC _)) (al (ay (bN (ad aO (ad (ao (pv 0)) (ad (bc cm T.b_len cj (ad (ao (pv 0)) af)) af)))))) aU)
  (al (ay (pv 0)))),?_⟩
 cases t with
 |num n=>
  obtain⟨a1,e0,e1⟩:=fm.mp ht
  subst e0
  exact⟨_,rfl,_,_,_,_,rfl,rfl,ag.of e1,rfl,rfl,_,rfl,bj ⟨_,rfl,q _ H (aq.refl _) ht⟩⟩
 |name n=>
  obtain⟨a1,e0,e1⟩:=eD.mp ht
  subst e0
  exact⟨_,rfl,_,_,_,_,rfl,rfl,ag.of e1,rfl,rfl,_,rfl,bj ⟨_,rfl,q _ H (aq.refl _) ht⟩⟩
 |blank n=>
  obtain⟨a1,e0,e1⟩:=dU.mp ht
  subst e0
  exact⟨_,rfl,_,_,_,_,rfl,rfl,ag.of e1,rfl,rfl,_,rfl,bj ⟨_,rfl,q _ H (aq.refl _) ht⟩⟩
 |thing n ps=>
  obtain⟨a1,b1,us1,e0,e1,g1,k1⟩:=dr.mp ht
  subst e0
  have l1:=k1.len
  refine⟨_,rfl,_,_,_,_,rfl,rfl,ag.of e1,rfl,rfl,_,rfl,cZ ⟨_,rfl,_,_,_,_,rfl,rfl,ag.of e1,rfl,_,rfl,_,_,_,_,rfl,rfl,ag.of e1,rfl,b1,us1,rfl,.inr (ag.of g1),gv,fun g fg=>?_⟩⟩
  refine q _ _ (bz fg _) ?_
  simp only[d7,aQ,bX]
  exact⟨g,_,rfl,au,_,_,rfl,rfl,_,_,rfl,rfl,_,_,rfl,by rw[l1],rfl⟩
theorem Eh(t:Tm):(Dt.tup (d7 t)).dep<=4:=by
 cases t<;>simp[d7,Dt.dep,eC]
def gx(H:Hp)(us:List V)(ps:List Ln):Prop:=Paired (fun x p=>∃g a b,x= .ref g/\H g=some (.tup [a,b])/\aw H a p.1/\aw H b p.2) us ps
theorem gx.mono{H H':Hp}{us:List V}{ps:List Ln}(k:aV H H')(h:gx H us ps):gx H' us ps:=
 jZ (fun _ _ hI=>by obtain⟨g,a,b,e,h1,h2,h3⟩:=hI;exact⟨g,a,b,e,k _ _ h1,h2.mono k,h3.mono k⟩) h
theorem gx.snoc{H:Hp}:∀{us:List V}{u:V}{ds:List Ln}{d:Ln},gx H (us++[u]) (ds++[d])->gx H us ds/\∃g a b,u= .ref g/\H g=some (.tup [a,b])/\aw H a d.1/\aw H b d.2
 |[],_,[],_,.cons h .nil=>⟨.nil,h⟩
 |[],_,_::[],_,.cons _ r=>nomatch r
 |[],_,_::_::_,_,.cons _ r=>nomatch r
 |_::[],_,[],_,.cons _ r=>nomatch r
 |_::_::_,_,[],_,.cons _ r=>nomatch r
 |_::_,_,_::_,_,.cons h r=>let ⟨a,b⟩:=gx.snoc r;⟨.cons h a,b⟩
theorem gx.app{H:Hp}{us vs:List V}{ps qs:List Ln}(h:gx H us ps)(h':gx H vs qs):gx H (us++vs) (ps++qs):=by
 unfold gx at h h' |-
 induction h with
 |nil=>exact h'
 |cons a _ ih=>exact .cons a ih
theorem xI{t u:Tm}(h:d7 t=d7 u):t=u\/∃w ps qs,t= .thing w ps/\u= .thing w qs/\ps.length=qs.length:=by
 by_cases c:cc t=false\/cc u=false
 ·exact .inl (jn fun z=>(xH c).mpr z h)
 ·cases t<;>cases u<;>simp[cc]at c
  rename_i w ps v qs
  have:¬(w≠v\/ps.length≠qs.length):=fun z=>qG.mpr z h
  have hw:w=v:=jn fun z=>this (.inl z)
  have hl:ps.length=qs.length:=jn fun z=>this (.inr z)
  subst hw
  exact .inr ⟨w,ps,qs,rfl,rfl,hl⟩
theorem Ei{ps qs:List Tm}(hl:ps.length=qs.length):ps=qs↔∀z∈ps.zip qs,z.1=z.2:=by
 induction ps generalizing qs with
 |nil=>cases qs<;>simp at hl |-
 |cons p r ih=>
  cases qs with
  |nil=>simp at hl
  |cons q s=>
   simp only[zLC,zb]at hl
   simp only[jK,zt,bF,forall_eq_or_imp,ih hl]
theorem Ej{α β:Type}{F:α->β->Prop}:∀{l:List α}{m:List β},l.length=m.length->(∀(i:Nat)(h1:i<l.length)(h2:i<m.length),F l[i] m[i])->Paired F l m
 |[],[],_,_=>.nil
 |_::_,_::_,hl,h=>.cons (h 0 (by simp) (by simp)) (Ej (by simpa using hl) fun i h1 h2=>h (i+1) (by simpa using h1) (by simpa using h2))
 |[],_::_,hl,_=>by simp at hl
 |_::_,[],hl,_=>by simp at hl
theorem ZL.prs{H:Hp}{ls xs ys:List V}{ts us:List Tm}(h:ZL H ls xs ys)(h1:aT H xs ts)(h2:aT H ys us)(hl:ts.length=us.length):gx H ls (ts.zip us):=by
 have l1:=h1.len
 have l2:=h2.len
 refine Ej (by rw[pB,h.1,l1];omega) fun i h3 h4=>?_
 have hi:i<xs.length:=by have:=h.1;omega
 obtain⟨p,e1,e2⟩:=h.2 i _ _ (zGE hi) (zGE (by omega))
 rw[zGE h3]at e1
 refine⟨p,_,_,cQ e1,e2,?_,?_⟩
 ·rw[vm]
  exact h1.at i hi (by omega)
 ·rw[vm]
  exact h2.at i (by omega) (by omega)
inductive Ek(vs:List V)(H:Hp)(Q:VK):Prop
 |mk:∀(v v':V)(t u:Tm),(vs=[v,v'])->(aw H v t)->(aw H v' u)->(t.nodes<=30000)->(∀(b:Bool) H',aq H H'->(b=true↔t=u)->Q (.bl b) H')->Ek vs H Q
def xJ:Sp:=fun vs H Q _=>Ek vs H Q
theorem K3{f:Addr}{fd:bd}(F:bw K "same" "same" nO f fd)(T:Bi mg)(TZ:mg "zip"=none)(c_head:aG P w K mg base 1 "head" ["term"] ul):be P w K mg base bh 2 f fd ["one","other"] xJ:=by
 refine F.ok xp (fun vs H Q E h=>?_) (fun cdv A outer s H vs Q E hr h=>?_)
 ·obtain⟨_,_,_,_,rfl,_⟩:=h
  rfl
 obtain⟨v,v',t,u,rfl,ht,hu,hn,q⟩:=h
 have hun:=hr.un
 refine⟨_,(aj (az (i:=2) xp.nd (ca (ad (bN (ad (pv 0) (ad (pv 1) af))) af)))
  (aj (iu cr (nw (pv 2) (fun _=>rfl)) (aj (az (i:=3) xp.nd (kQ ce kK kL kR (pv 2)))
        (aj (aK (aF sT (aY c_head (hr.mono (by decide)) (ad (ao (pv 3)) af)) (aY c_head (hr.mono (by decide)) (ad (ao (pv 3)) af)) (aC _)) (al (ay bU)) aU)
        (al (aK (aF bM (ao (ao (pv 3))) aO (aC _)) (al (cp (cE ce pD pE pT (pv 2) (ad (K0 T.b_list TZ (ad (ao (ao (pv 3))) (ad (ao (ao (pv 3))) af))) af)))) aU)))))
  (al (ay bU)))),?_⟩
 refine⟨_,rfl,_,rfl,cq,fun g0 hg0=>?_⟩
 generalize e_:ae H g0 (HO.tup [v,v'])=H1
 obtain⟨s1,x1⟩:=aM hg0 e_
 refine⟨gQ,fun p hp1=>?_⟩
 have hp:H p=none:=s1.free hp1
 have s2:=bz hp1 (HO.lst [.ref g0])
 refine⟨fun m σ H3=>∃(o:Option V)(us:List V)(ps:List Ln),σ=[some v,some v',some (.ref p),o]/\aq H H3/\H3 p=some (.lst us)/\gx H3 us ps/\aX (ps.map (·.1))=m/\m<=t.nodes/\((∀z∈ps,z.1=z.2)↔t=u),
  ⟨_,none,[.ref g0],[(t,u)],rfl,s1.trans s2,au,.cons ⟨g0,v,v',rfl,s2 _ _ x1,ht.mono (.of (s1.trans s2)),hu.mono (.of (s1.trans s2))⟩ .nil,rfl,by simp[aX],by simp⟩,?_⟩
 rintro m σ H3 ⟨o,us,ps,rfl,s3,g2,hps,hm,hmt,hiff⟩
 refine⟨_,rfl,_,.inl ⟨us,ak.of g2,rfl⟩,bO (fun c=>⟨_,fun _ _ h=>h,?_⟩) (fun c=>?_)⟩
 ·have hne:us≠[]:=by intro z;rw[z]at c;exact absurd c (by decide)
  have hlen:=Paired.length hps
  obtain⟨us0,x,rfl⟩:=iE hne
  obtain⟨ps0,⟨t1,u1⟩,rfl⟩:=iE (l:=ps) (by intro z;rw[z]at hlen;simp at hlen)
  obtain⟨h0,g,a,b,rfl,hg,ha,hb⟩:=hps.snoc
  rw[zMA,iT]at hm
  simp only[bP,jk,aX]at hm
  have hn1:=t1.nodes_pos
  refine⟨_,rfl,.inl ⟨rfl,_,ak.of g2⟩,p,_,.ref g,rfl,rfl,g2,by simp,?_⟩
  rw[lH]
  have k4:aV H3 (ae H3 p (HO.lst us0)):= .lst g2
  have x4:ae H3 p (HO.lst us0) p=some _:=au
  have s4:aq H (ae H3 p (HO.lst us0)):=fun b ob z=>by rw[am (aN z hp)];exact s3 _ _ z
  generalize ae H3 p (HO.lst us0)=H4 at k4 x4 s4 |-
  have hg4:=k4 _ _ hg
  have ha4:=ha.mono k4
  have hb4:=hb.mono k4
  have h04:=h0.mono k4
  refine⟨_,rfl,_,_,_,_,rfl,rfl,ag.of hg4,bD,_,t1,rfl,ha4,fun y1 H5 s5 d1=>?_⟩
  refine⟨_,rfl,_,_,_,_,rfl,rfl,ag.of (s5 _ _ hg4),cx,_,u1,rfl,hb4.mono (.of s5),fun y2 H6 s6 d2=>?_⟩
  have hdd:=Eh t1
  refine⟨d7 t1,d7 u1,d1.same s6,d2,(by show (A.deeper _).units+_<cLine;omega),fun b hb'=>⟨_,rfl,bO (fun c2=>?_) (fun c2=>?_)⟩⟩
  ·refine q false H6 (s4.trans (s5.trans s6)) ⟨fun z=>(by cases z),fun z=>?_⟩
   have:=hiff.mpr z (t1,u1) (by simp)
   exact absurd (congrArg d7 this) (hb'.mp c2)
  ·have s46:=s5.trans s6
   have heq:d7 t1=d7 u1:=jn fun z=>c2 (hb'.mpr z)
   have ha6:=ha4.mono (.of s46)
   have hb6:=hb4.mono (.of s46)
   have x6:=s46 _ _ x4
   have hg6:=s46 _ _ hg4
   have h06:=h04.mono (.of s46)
   have s6':=s4.trans s46
   obtain⟨a1,xs1,kk,rfl,f1,_,hT1⟩:=ha6.kind
   refine⟨_,rfl,_,_,_,_,rfl,rfl,ag.of hg6,bD,_,_,_,_,rfl,rfl,ag.of f1,bD,rfl,_,rfl,bO (fun c3=>?_) (fun c3=>?_)⟩
   ·have c1:cc t1=true:=hT1.mp (by simpa using c3)
    obtain⟨w1,ps1,qs1,e1,e2,hl⟩:∃w ps qs,t1= .thing w ps/\u1= .thing w qs/\ps.length=qs.length:=by
     rcases xI heq with z|z
     ·subst z
      cases t1 with
      |num _=>cases c1
      |name _=>cases c1
      |blank _=>cases c1
      |thing w ps=>exact⟨w,ps,ps,rfl,rfl,rfl⟩
     ·exact z
    subst e1 e2
    obtain⟨b1,d1',us1,e1,j1,g1,m1⟩:=dr.mp ha6
    obtain⟨b2,d2',us2,e2,j2,g2',m2⟩:=dr.mp hb6
    cases e1
    subst e2
    have l1:=m1.len
    have l2:=m2.len
    have hpn:=iD ps1
    simp only[Tm.nodes]at hm
    have hlen0:us0.length<=aX (ps0.map (·.1)):=by
     have:=Paired.length h06
     have:=iD (ps0.map (·.1))
     rw[zLM]at this
     omega
    refine⟨_,rfl,.inl ⟨rfl,_,ak.of x6⟩,_,rfl,_,_,_,_,rfl,rfl,ag.of hg6,bD,_,_,_,_,rfl,rfl,ag.of j1,rfl,_,rfl,_,_,_,_,rfl,rfl,ag.of hg6,cx,_,_,_,_,rfl,rfl,ag.of j2,rfl,d1',d2',us1,us2,rfl,g1,g2',by omega,fun l ls H7 s7 fl x7 hzl=>?_⟩
    refine⟨p,l,us0,ls,rfl,rfl,s7 _ _ x6,x7,eP (by have:=hzl.1;omega),?_⟩
    have k8:aV H7 (ae H7 p (HO.lst (us0++ls))):= .lst (s7 _ _ x6)
    refine⟨aX ((ps0++ps1.zip qs1).map (·.1)),?_,_,us0++ls,ps0++ps1.zip qs1,rfl,fun b' ob z=>by rw[am (aN z hp)];exact s7 _ _ (s6' _ _ z),au,(gx.app (h06.mono (.of s7)) (ZL.prs hzl (m1.mono (.of s7)) (m2.mono (.of s7)) hl)).mono k8,rfl,?_,?_⟩
    ·rw[zMA,iT,zw (by omega)]
     omega
    ·rw[zMA,iT,zw (by omega)]
     omega
    ·rw[<-hiff]
     constructor
     ·intro hz z hz'
      rcases bR.mp hz' with y|y
      ·exact hz z (eJ _ y)
      ·cases bZ.mp y
       show Tm.thing w1 ps1= .thing w1 qs1
       rw[(Ei hl).mpr fun z hz'=>hz z (eK _ hz')]
     ·intro hz z hz'
      rcases bR.mp hz' with y|y
      ·exact hz z (eJ _ y)
      ·have:=hz (.thing w1 ps1,.thing w1 qs1) (by simp)
       exact(Ei hl).mp (Tm.thing.inj this).2 z y
   ·have c1:cc t1=false:=fH.mpr fun z=>c3 (by simpa using hT1.mpr z)
    have e0:t1=u1:=by
     rcases xI heq with z|⟨_,_,_,z,_⟩
     ·exact z
     ·rw[z]at c1;cases c1
    refine⟨aX (ps0.map (·.1)),by omega,_,us0,ps0,rfl,s6',x6,h06,rfl,by omega,?_⟩
    rw[<-hiff]
    constructor
    ·intro hz z hz'
     rcases bR.mp hz' with y|y
     ·exact hz z y
     ·cases bZ.mp y
      exact e0
    ·intro hz z hz'
     exact hz z (eJ _ hz')
 ·have e:us=[]:=by
   cases us with
   |nil=>rfl
   |cons a b=>exact absurd rfl c
  subst e
  have hlen:=Paired.length hps
  have e:ps=[]:=kJ.mp hlen.symm
  subst e
  exact q true H3 s3 ⟨fun _=>hiff.mp fun z hz=>(by cases hz),fun _=>rfl⟩
end
section
variable{P:aP}{w:aH}{K:aB}{mg:ac->Option aa}{base:aA}
inductive El(vs:List V)(H:Hp)(Q:VK):Prop
 |mk:∀(v:V)(t:Tm),(vs=[v])->(aw H v t)->(t.Ok)->((∀x ps,t≠ .thing x ps))->(∀x:ac,x.cps.toList=t.line->Q (.str x) H)->El vs H Q
def xK:Sp:=fun vs H Q _=>El vs H Q
theorem K4{f:Addr}{fd:bd}(F:bw K "shown_leaf" "shown_leaf" nU f fd)(T:Bi mg):be P w K mg base bh 1 f fd ["term"] xK:=by
 refine F.ok Kz (fun vs H Q E h=>?_) (fun cdv A outer s H vs Q E hr h=>?_)
 ·obtain⟨v,t,rfl,_⟩:=h
  rfl
 obtain⟨v,t,rfl,ht,hok,hno,q⟩:=h
 refine⟨_,(aj (aK (aF bM (ao (pv 0)) aO (aC _)) (al (ay (gM GN T.b_str jY (ad (ao (pv 0)) af)))) aU)
  (aj (aK (aF bM (ao (pv 0)) aO (aC _)) (al (ay (aZ lP aO (ao (pv 0))))) aU)
  (al (ay (ao (pv 0)))))),?_⟩
 cases t with
 |thing x ps=>exact absurd rfl (hno x ps)
 |num n=>
  obtain⟨a,rfl,h1⟩:=fm.mp ht
  refine⟨_,rfl,_,_,_,_,rfl,rfl,ag.of h1,rfl,rfl,_,rfl,cZ ?_⟩
  refine⟨_,rfl,_,_,_,_,rfl,rfl,ag.of h1,rfl,n,rfl,I0 hok,?_⟩
  exact q _ rfl
 |name x=>
  obtain⟨a,rfl,h1⟩:=eD.mp ht
  refine⟨_,rfl,_,_,_,_,rfl,rfl,ag.of h1,rfl,rfl,_,rfl,bj ?_⟩
  refine⟨_,rfl,_,_,_,_,rfl,rfl,ag.of h1,rfl,rfl,_,rfl,bj ?_⟩
  refine⟨_,rfl,_,_,_,_,rfl,rfl,ag.of h1,rfl,?_⟩
  exact q _ rfl
 |blank x=>
  obtain⟨a,rfl,h1⟩:=dU.mp ht
  refine⟨_,rfl,_,_,_,_,rfl,rfl,ag.of h1,rfl,rfl,_,rfl,bj ?_⟩
  refine⟨_,rfl,_,_,_,_,rfl,rfl,ag.of h1,rfl,rfl,_,rfl,cZ ?_⟩
  simp only[Tm.Ok]at hok
  refine⟨_,rfl,_,_,_,_,rfl,rfl,ag.of h1,rfl,_,_,rfl,rfl,?_,?_⟩
  ·rw[gK,gK,Cb]
   have:=hok.2.1
   exact eP (by simp only[zLC,zLN];omega)
  ·exact q _ (by rw[gn,Cb];simp only[Tm.line,eL,iq])
inductive Em(vs:List V)(H:Hp)(Q:VK):Prop
 |mk:∀(p b:Addr)(us pv:List V)(t:Tm)(ts:List Tm),(vs=[.ref p,.ref b])->(H p=some (.lst us))->(H b=some (.tup pv))->(aT H pv (t::ts))->(us.length+2 * pv.length<=5000)->(∀(ws:List V)(H':Hp),(∀c o,H c=some o->c≠p->H' c=some o)->H' p=some (.lst (us++ws))->dN H' ws (jW t ts)->Q .non H')->Em vs H Q
def xL(K:aB):Sp:=fun vs H Q _=>Em vs H Q
theorem K5{f:Addr}{fd:bd}(F:bw K "push_parts" "push_parts" nT f fd)(T:Bi mg):be P w K mg base bh 1 f fd ["coming","parts"] (xL K):=by
 refine F.ok D4 (fun vs H Q E h=>?_) (fun cdv A outer s H vs Q E hr h=>?_)
 ·obtain⟨p,b,us,pv,t,ts,rfl,_⟩:=h
  rfl
 obtain⟨p,b,us,pv,t,ts,rfl,hp,hb,ht,hlen,q⟩:=h
 have hpl:=ht.len
 obtain⟨v0,rv,rfl⟩:∃v0 rv,pv=v0::rv:=by
  cases pv with
  |nil=>simp at hpl
  |cons a r=>exact⟨a,r,rfl⟩
 simp only[zLC]at hpl hlen
 have npb:b≠p:=cy hb hp (by intro z;cases z)
 have htt:aw H v0 t/\aT H rv ts:=by
  have h:=ht
  simp only[aT,dq,bX]at h
  obtain⟨v,us',e,h1,h2⟩:=h
  cases e
  exact⟨h1,h2⟩
 refine⟨_,(aj (cp (cE ce dk dl dg (pv 0) (ad aO af)))
  (aj (dM cr rfl (IT rfl T.b_reversed (ad (fS Bl (pv 1) (fK ax) gj) af)) (cn (i:=2) D4.nd rfl (Or.inl rfl)) (aj (cp (cE ce dk dl dg (pv 0) (ad (pv 2) af)))
        (al (cp (cE ce dk dl dg (pv 0) (ad aO af))))))
  (al (cp (cE ce dk dl dg (pv 0) (ad (ao (pv 1)) af)))))),?_⟩
 refine⟨_,rfl,.inl ⟨rfl,_,ak.of hp⟩,p,us,_,rfl,rfl,hp,big (by omega),?_⟩
 have k1:aV H (ae H p (HO.lst (us++[.str ")"]))):= .lst hp
 have x1:ae H p (HO.lst (us++[.str ")"])) p=some _:=au
 have y1:∀c o,H c=some o->c≠p->ae H p (HO.lst (us++[.str ")"])) c=some o:=fun c o e n=>by rw[am n];exact e
 have z1:∀c,c≠p->ae H p (HO.lst (us++[.str ")"])) c=H c:=fun c n=>am n
 generalize ae H p (HO.lst (us++[.str ")"]))=H1 at k1 x1 y1 z1 |-
 refine⟨_,rfl,_,rfl,b,_,rfl,ag.of (y1 _ _ hb npb),?_,fun sl hsl=>?_⟩
 ·rintro⟨z,_⟩
  have es:HT.sIx (v0::rv).length 0 (some 1)=min 1 (v0::rv).length:=HT.sIx_nat _ _ 1
  rw[es]at z
  simp only[zLC]at z
  omega
 have ecut:eu (v0::rv) (some 1) none=rv:=by
  rw[qF _ _ (by decide) (by simp only[zLC];omega)]
  rfl
 rw[ecut]
 generalize e_:ae H1 sl (HO.tup rv)=H2
 obtain⟨s2,x2⟩:=aM hsl e_
 refine⟨sl,rv,rfl,ag.of x2,IU (K:=K) (a:=sl) (xs:=rv) (fun i σ H3=>∃(ws:List V)(o:Option V),σ=[some (.ref p),some (.ref b),o]/\(∀c o,H2 c=some o->c≠p->H3 c=some o)/\H3 p=some (.lst (us++ws))/\
  dN H3 ws ([Pc.sg ")"]++(ts.reverse.take i).flatMap fun u=>[Pc.tm u,Pc.sg ","]))
  ⟨[.str ")"],none,rfl,fun c o e _=>e,s2 _ _ x1,.cons rfl .nil⟩ (fun i σ H3 _ hI=>by obtain⟨_,_,_,kp,_,_⟩:=hI;exact ag.of (kp _ _ x2 (cy x2 (s2 _ _ x1) (by intro z;cases z)))) ?_ ?_⟩
 ·rintro i x σ H3 hi ⟨ws,o,rfl,kp,hp3,hw⟩
  have hit:i<rv.reverse.length:=(bI.mp hi).1
  rw[d3]at hit
  have hwl:=hw.len
  have hfl:∀l:List Tm,(l.flatMap fun u=>[Pc.tm u,Pc.sg ","]).length=2 * l.length:=fun l=>by
   induction l with
   |nil=>rfl
   |cons a r ih=>simp only[rD,zLA,zLC,zLN,ih];omega
  rw[zLA,hfl,zLT,d3]at hwl
  simp only[zLC,zLN]at hwl
  have k3:aV H H3:=fun c xs e=>kp _ _ (s2 _ _ (k1 _ _ e)) (cy e hp (by intro z;cases z))
  have tl:ts.length=rv.length:=by omega
  have tlr:i<ts.reverse.length:=by rw[d3];omega
  have hx:aw H3 x ts.reverse[i]:=by
   rw[rC hit]at hi
   have h1:rv.length - 1 - i<rv.length:=by omega
   rw[zGE h1]at hi
   cases hi
   rw[zx]
   have:=htt.2.at (rv.length - 1 - i) h1 (by omega)
   have e:ts.length - 1 - i=rv.length - 1 - i:=by omega
   simp only[e]
   exact this.mono k3
  refine⟨_,rfl,.inl ⟨rfl,_,ak.of hp3⟩,_,rfl,p,_,_,rfl,rfl,hp3,big (by rw[zLA];omega),?_⟩
  refine⟨_,rfl,.inl ⟨rfl,_,ak.of au⟩,p,_,_,rfl,rfl,au,big (by rw[zLA,zLA];simp only[zLC,zLN];omega),?_⟩
  rw[pL]
  have k4:aV H3 (ae H3 p (HO.lst (us++ws++[x]++[.str ","]))):= .lst hp3
  refine⟨ws++[x]++[.str ","],_,rfl,fun c o e n=>by rw[am n];exact kp c o e n,by rw[au];simp only[d8],?_⟩
  have e:(ts.reverse.take (i+1)).flatMap (fun u=>[Pc.tm u,Pc.sg ","])=(ts.reverse.take i).flatMap (fun u=>[Pc.tm u,Pc.sg ","])++[Pc.tm ts.reverse[i]]++[Pc.sg ","]:=by
   rw[zTS (by rw[d3];omega),mV]
   simp
  rw[e,<-d8,<-d8]
  exact dN.app (dN.app (dN.mono k4 hw) (.cons (aw.mono k4 hx) .nil)) (.cons rfl .nil)
 ·rintro σ H3 ⟨ws,o,rfl,kp,hp3,hw⟩
  have hwl:=hw.len
  have hfl:∀l:List Tm,(l.flatMap fun u=>[Pc.tm u,Pc.sg ","]).length=2 * l.length:=fun l=>by
   induction l with
   |nil=>rfl
   |cons a r ih=>simp only[rD,zLA,zLC,zLN,ih];omega
  rw[zLA,hfl,zLT,d3]at hwl
  simp only[zLC,zLN]at hwl
  have k3:aV H H3:=fun c xs e=>kp _ _ (s2 _ _ (k1 _ _ e)) (cy e hp (by intro z;cases z))
  have hb3:H3 b=some (.tup (v0::rv)):=k3 _ _ hb
  refine⟨_,rfl,.inl ⟨rfl,_,ak.of hp3⟩,_,rfl,_,_,_,_,rfl,rfl,ag.of hb3,dH (j:=0) rfl,p,_,_,rfl,rfl,hp3,big (by rw[zLA];omega),?_⟩
  have k4:aV H3 (ae H3 p (HO.lst (us++ws++[v0]))):= .lst hp3
  refine q (ws++[v0]) _ (fun c o e n=>by rw[am n];exact kp c o (s2 _ _ (y1 c o e n)) n) (by rw[au,d8]) ?_
  have e:ts.reverse.take rv.length=ts.reverse:=dL (by rw[d3];omega)
  rw[e]at hw
  exact dN.app (dN.mono k4 hw) (.cons (aw.mono k4 (htt.1.mono k3)) .nil)
inductive En(vs:List V)(H:Hp)(Q:VK):Prop
 |mk:∀(v:V)(t:Tm),(vs=[v])->(aw H v t)->(t.Ok)->(t.nodes<=300)->(∀(x:ac)(H':Hp),aq H H'->x.cps.toList=t.line->Q (.str x) H')->En vs H Q
def um:Sp:=fun vs H Q _=>En vs H Q
theorem K6{f:Addr}{fd:bd}(F:bw K "shown" "shown" nR f fd)(T:Bi mg)(c_shown_leaf:aG P w K mg base 1 "shown_leaf" ["term"] xK)(c_push_parts:aG P w K mg base 1 "push_parts" ["coming","parts"] (xL K)):
 be P w K mg base bh 2 f fd ["term"] um:=by
 refine F.ok tX (fun vs H Q E h=>?_) (fun cdv A outer s H vs Q E hr h=>?_)
 ·obtain⟨v,t,rfl,_⟩:=h
  rfl
 obtain⟨v,t,rfl,ht,hok,hn,q⟩:=h
 have hll:=Tm.line_len t hok
 refine⟨_,(aj (az (i:=1) tX.nd (ca af))
  (aj (az (i:=2) tX.nd (ca (ad (pv 0) af)))
  (aj (iu cr (nw (pv 2) (fun _=>rfl)) (aj (az (i:=3) tX.nd (kQ ce kK kL kR (pv 2)))
        (al (aK (cf (bc cW T.b_isinstance cT (ad (pv 3) (ad (cO T.b_str jY) af)))) (al (cp (cE ce dk dl dg (pv 1) (ad (pv 3) af)))) (al (aK (aF bM (ao (pv 3)) aO (aC _)) (aj (cp (cE ce dk dl dg (pv 1) (ad (aZ lP (ao (pv 3)) aO) af)))
         (al (cp (aY c_push_parts (hr.mono (by decide)) (ad (pv 2) (ad (ao (pv 3)) af)))))) (al (cp (cE ce dk dl dg (pv 1) (ad (aY c_shown_leaf (hr.mono (by decide)) (ad (pv 3) af)) af))))))))))
  (al (ay (cE PySem.F.plainAttrs_str PySem.F.slot_str_join PySem.F.type_str_join ID aO (ad (pv 1) af))))))),?_⟩
 refine⟨dz,fun p1 hp1=>?_⟩
 generalize e_:ae H p1 (HO.lst [])=H1
 obtain⟨s1,x1⟩:=aM hp1 e_
 refine⟨_,rfl,gQ,fun p2 hp2=>?_⟩
 have s2:=bz hp2 (HO.lst [v])
 have x2:ae H1 p2 (HO.lst [v]) p2=some _:=au
 have n12:p1≠p2:=aN x1 hp2
 have f2:H p2=none:=s1.free hp2
 have k2:aV H1 (ae H1 p2 (HO.lst [v])):= .new hp2
 generalize ae H1 p2 (HO.lst [v])=H2 at s2 x2 k2 |-
 refine⟨fun m σ H3=>∃(o:Option V)(xs:List ac)(us:List V)(l:List Pc),σ=[some v,some (.ref p1),some (.ref p2),o]/\aq H H3/\H3 p1=some (.lst (xs.map V.str))/\H3 p2=some (.lst us)/\dN H3 us l/\(∀c∈l,jx c)/\
  eO l=m/\hG xs++gk l=t.line/\xs.length+m<=3 * t.nodes,
  ⟨_,none,[],[v],[Pc.tm t],rfl,s1.trans s2,s2 _ _ x1,x2,.cons (ht.mono (.of (s1.trans s2))) .nil,by simpa[jx]using hok,rfl,by simp[hG,gk,Pc.out],by simp[eO,Pc.wt]⟩,?_⟩
 rintro m σ H3 ⟨o,xs,us,l,rfl,s3,g1,g2,hus,hpo,hm,hout,hsz⟩
 refine⟨_,rfl,_,.inl ⟨us,ak.of g2,rfl⟩,bO (fun c=>⟨_,fun _ _ h=>h,?_⟩) (fun c=>?_)⟩
 ·
  have hne:us≠[]:=by intro z;rw[z]at c;exact absurd c (by decide)
  have hlen:=hus.len
  obtain⟨us0,u,rfl⟩:=iE hne
  obtain⟨l0,pc,rfl⟩:=iE (l:=l) (by intro z;rw[z]at hlen;simp at hlen)
  obtain⟨h0,hu⟩:=hus.snoc
  have hpo0:∀c∈l0,jx c:=fun c hc=>hpo c (by simp[hc])
  have hpc:jx pc:=hpo pc (by simp)
  rw[sR]at hm
  rw[wB]at hout
  have hl0:=B7 l0
  have hu0:=h0.len
  refine⟨_,rfl,.inl ⟨rfl,_,ak.of g2⟩,p2,_,u,rfl,rfl,g2,by simp,?_⟩
  rw[lH]
  have k4:aV H3 (ae H3 p2 (HO.lst us0)):= .lst g2
  have x4:ae H3 p2 (HO.lst us0) p2=some _:=au
  have y4:ae H3 p2 (HO.lst us0) p1=some (.lst (xs.map V.str)):=by rw[am n12];exact g1
  have s4:aq H (ae H3 p2 (HO.lst us0)):=fun b ob z=>by rw[am (aN z f2)];exact s3 _ _ z
  generalize ae H3 p2 (HO.lst us0)=H4 at k4 x4 y4 s4 |-
  have h4:=h0.mono k4
  have hxl:(xs.map V.str).length=xs.length:=zLM _
  have put:∀(D:dE)(z:ac)(l':List Pc)(us':List V)(H5:Hp),aq H H5->H5 p1=some (.lst (xs.map V.str))->H5 p2=some (.lst us')->dN H5 us' l'->(∀c∈l',jx c)->eO l'<m->hG xs++z.cps.toList++gk l'=t.line->
        D.nx=(fun σ' H'=>∃m',m'<m/\∃(o:Option V)(xs:List ac)(us:List V)(l:List Pc),σ'=[some v,some (.ref p1),some (.ref p2),o]/\aq H H'/\H' p1=some (.lst (xs.map V.str))/\H' p2=some (.lst us)/\dN H' us l/\(∀c∈l,jx c)/\
         eO l=m'/\hG xs++gk l=t.line/\xs.length+m'<=3 * t.nodes)->
        BB (.ref p1) [.str z] H5 (fun _ H1=>D.nx [some v,some (.ref p1),some (.ref p2),some u] H1):=fun D z l' us' H5 s5 e1 e2 hp' ho' hw' hf' hD=>by
   refine⟨p1,_,_,rfl,rfl,e1,big (by rw[hxl];omega),?_⟩
   rw[hD]
   have k6:aV H5 (ae H5 p1 (HO.lst (xs.map V.str++[.str z]))):= .lst e1
   refine⟨eO l',hw',some u,xs++[z],us',l',rfl,fun b ob q'=>by rw[am (aN q' hp1)];exact s5 _ _ q',by rw[au,zMA];rfl,by rw[am n12.symm];exact e2,hp'.mono k6,ho',rfl,?_,?_⟩
   ·rw[CF];exact hf'
   ·rw[zLA];simp only[zLC,zLN];omega
  cases pc with
  |sg x=>
   cases (show u=V.str x from hu)
   refine⟨_,rfl,_,_,_,_,rfl,.str _,.ss,_,rfl,g9 ?_⟩
   refine⟨_,rfl,.inl ⟨rfl,_,ak.of y4⟩,_,rfl,?_⟩
   exact put _ x l0 us0 H4 s4 y4 x4 h4 hpo0 (by simp only[Pc.wt]at hm;omega) (by simpa[Pc.out,d8]using hout) rfl
  |tm t1=>
   have ht1:aw H4 u t1:=aw.mono k4 hu
   have n1:=t1.nodes_pos
   have hwt:(Pc.tm t1).wt=3 * t1.nodes - 1:=rfl
   have leafc:∀a vs,u= .ref a->H4 a=some (.tup vs)->(∀x ps,t1≠ .thing x ps)->vs[0]?≠none->True:=fun _ _ _ _ _ _=>trivial
   cases t1 with
   |thing x ps=>
    obtain⟨a,b,pv,rfl,e1,e2,e3⟩:=dr.mp ht1
    simp only[jx,Tm.Ok]at hpc
    obtain⟨hx,hps,hop⟩:=hpc
    have hpl:=e3.len
    have hpn:=iD ps
    simp only[Tm.nodes]at hwt
    rw[hwt]at hm
    obtain⟨t0,ts,rfl⟩:∃t0 ts,ps=t0::ts:=by
     cases ps with
     |nil=>exact absurd rfl hps
     |cons t0 ts=>exact⟨t0,ts,rfl⟩
    refine⟨_,rfl,_,_,_,_,rfl,.tup e1,.ts,_,rfl,bf ?_⟩
    refine⟨_,rfl,_,_,_,_,rfl,rfl,ag.of e1,rfl,rfl,_,rfl,cZ ?_⟩
    have hxb:x.length+(bT "(").length<=sizeLine:=by
     rw[gK,gK,Ca];have:=hx.2.1;exact eP (by simp only[zLC,zLN];omega)
    refine⟨_,rfl,.inl ⟨rfl,_,ak.of y4⟩,_,rfl,_,_,_,_,rfl,rfl,ag.of e1,rfl,_,_,rfl,rfl,hxb,p1,_,_,rfl,rfl,y4,big (by rw[hxl];omega),?_⟩
    have k6:aV H4 (ae H4 p1 (HO.lst (xs.map V.str++[.str (x++"(")]))):= .lst y4
    have x6:ae H4 p1 (HO.lst (xs.map V.str++[.str (x++"(")])) p1=some _:=au
    have y6:ae H4 p1 (HO.lst (xs.map V.str++[.str (x++"(")])) p2=some (.lst us0):=by rw[am n12.symm];exact x4
    have s6:aq H (ae H4 p1 (HO.lst (xs.map V.str++[.str (x++"(")]))):=fun b ob z=>by rw[am (aN z hp1)];exact s4 _ _ z
    generalize ae H4 p1 (HO.lst (xs.map V.str++[.str (x++"(")]))=H6 at k6 x6 y6 s6 |-
    refine⟨_,rfl,_,rfl,_,_,_,_,rfl,rfl,ag.of (k6 _ _ e1),rfl,p2,b,us0,pv,t0,ts,rfl,y6,k6 _ _ e2,e3.mono k6,by omega,fun ws H7 kp x7 hw=>?_⟩
    have k7:aV H6 H7:=fun c zs e=>kp _ _ e (cy e y6 (by intro z;cases z))
    have w7:=IA t0 ts
    refine⟨eO (l0++jW t0 ts),?_,_,xs++[x++"("],us0++ws,l0++jW t0 ts,rfl,fun c ob z=>kp _ _ (s6 _ _ z) (aN z f2),?_,x7,dN.app ((h4.mono k6).mono k7) hw,?_,rfl,?_,?_⟩
    ·rw[wC,w7];omega
    ·rw[zMA];exact kp _ _ x6 n12
    ·intro c hc
     rcases bR.mp hc with hc|hc
     ·exact hpo0 c hc
     ·exact Jb hop c hc
    ·rw[CF,wD,Iy,gn,Ca]
     have e:(Pc.tm (Tm.thing x (t0::ts))).out=x.cps.toList++40::(nD (t0::ts)++[41]):=by simp only[Pc.out,Tm.line]
     rw[e]at hout
     simpa[d8]using hout
    ·rw[zLA,wC,w7];simp only[zLC,zLN];omega
   |num n=>
    obtain⟨a,rfl,e1⟩:=fm.mp ht1
    refine⟨_,rfl,_,_,_,_,rfl,.tup e1,.ts,_,rfl,bf ?_⟩
    refine⟨_,rfl,_,_,_,_,rfl,rfl,ag.of e1,rfl,rfl,_,rfl,bj ?_⟩
    refine⟨_,rfl,.inl ⟨rfl,_,ak.of y4⟩,_,rfl,_,_,rfl,ht1,hpc,(fun _ _ z=>nomatch z),fun z hz=>?_⟩
    exact put _ z l0 us0 H4 s4 y4 x4 h4 hpo0 (by rw[hwt]at hm;simp only[Tm.nodes]at hm;omega) (by rw[hz];simpa[Pc.out,d8]using hout) rfl
   |name n=>
    obtain⟨a,rfl,e1⟩:=eD.mp ht1
    refine⟨_,rfl,_,_,_,_,rfl,.tup e1,.ts,_,rfl,bf ?_⟩
    refine⟨_,rfl,_,_,_,_,rfl,rfl,ag.of e1,rfl,rfl,_,rfl,bj ?_⟩
    refine⟨_,rfl,.inl ⟨rfl,_,ak.of y4⟩,_,rfl,_,_,rfl,ht1,hpc,(fun _ _ z=>nomatch z),fun z hz=>?_⟩
    exact put _ z l0 us0 H4 s4 y4 x4 h4 hpo0 (by rw[hwt]at hm;simp only[Tm.nodes]at hm;omega) (by rw[hz];simpa[Pc.out,d8]using hout) rfl
   |blank n=>
    obtain⟨a,rfl,e1⟩:=dU.mp ht1
    refine⟨_,rfl,_,_,_,_,rfl,.tup e1,.ts,_,rfl,bf ?_⟩
    refine⟨_,rfl,_,_,_,_,rfl,rfl,ag.of e1,rfl,rfl,_,rfl,bj ?_⟩
    refine⟨_,rfl,.inl ⟨rfl,_,ak.of y4⟩,_,rfl,_,_,rfl,ht1,hpc,(fun _ _ z=>nomatch z),fun z hz=>?_⟩
    exact put _ z l0 us0 H4 s4 y4 x4 h4 hpo0 (by rw[hwt]at hm;simp only[Tm.nodes]at hm;omega) (by rw[hz];simpa[Pc.out,d8]using hout) rfl
 ·have hnil:us=[]:=by
   cases us with
   |nil=>rfl
   |cons a r=>exact absurd rfl c
  subst hnil
  have hl0:l=[]:=by
   have:=hus.len
   exact kJ.mp this.symm
  subst hl0
  have hfl:hG xs=t.line:=by simpa[gk]using hout
  refine⟨rfl,_,rfl,p1,xs,rfl,rfl,g1,?_,?_⟩
  ·rw[<-IY,hfl];omega
  ·exact q _ _ s3 (by rw[IZ,hfl])
end
end K07
namespace BF
open PySem PySem.Spec PyProof.Rows L2
open Sem (wp)
section
variable{prog:aP}{w:aH}{A:bx}{E:aa->ah->Prop}{s:ah}{z TI TO i1 i2 a b e:Addr}{k:Nat}{xs ys:Array aa}{x y old:aa}
structure Eo(s:ah)(e z TI TO i1 i2 a b:Addr)(k:Nat)(x y:aa)(h':aA):Prop where
 en:IsEnumOut h' e z ((k:Int)+1) (.ref s.heap.objs.size) (s.heap.objs.size+1)
 zz:dI h' z TI TO i1 i2 a b (k+1)
 pr:IsPair h' s.heap.objs.size x y
 tp:h'.get? (s.heap.objs.size+1)=some { cls:= .type "tuple",data:= .seq #[.int k s.toks,.ref s.heap.objs.size]}
 kp:∀c o,c∉[e,z,TI,TO,i1,i2]->s.heap.get? c=some o->h'.get? c=some o
theorem K7{Q:aa->ah->Prop}(D:ZipApart z TI TO i1 i2 a b)(he:IsEnum s.heap e z k old)(hne:e∉[z,TI,TO,i1,i2])(hz:dI s.heap z TI TO i1 i2 a b k)(t1:cz s.heap a xs)(t2:cz s.heap b ys)(hx:xs[k]?=some x)(hy:ys[k]?=some y)
 (hQ:∀h',Eo s e z TI TO i1 i2 a b k x y h'->Q (.ref (s.heap.objs.size+1)) { s with heap:=h',toks:=s.toks+1}):
 wpAny (model prog w) A (dA.«enumerate.__next__» ⟨[.ref e],[]⟩) (fun fin s'=>∃v,fin= .done (.ret v)/\Q v s') E s:=by
 obtain⟨hp,g,d,tk,os⟩:=s
 simp only[bF,fG,or_false,not_or]at hne
 obtain⟨n1,n2,n3,n4,n5⟩:=hne
 have hel:e<hp.objs.size:=bm he
 show wpAny _ _ (field (aa.ref e) 2 >>= _) _ _ _
 refine ai (da he rfl (x:=aa.ref z) rfl (ai (z_draw D hz t1 t2 hx hy fun g1 q1=>?_)))
 obtain⟨zz1,pr1,sz1,kp1⟩:=q1
 have pr1:IsPair g1 hp.objs.size x y:=pr1
 have sz1:g1.objs.size=hp.objs.size+1:=sz1
 have kp1:∀c o,c≠z->c≠TO->c≠i1->c≠i2->hp.get? c=some o->g1.get? c=some o:=kp1
 have e1:IsEnum g1 e z k old:=kp1 _ _ n1 n3 n4 n5 he
 have base:∀c∈[z,TI,TO,i1,i2],c≠e:=fun c hc y=>by
  subst y
  simp only[bF,fG,or_false]at hc
  rcases hc with y|y|y|y|y<;>contradiction
 show wpAny _ _ (field (aa.ref e) 3 >>= _) _ _ ⟨g1,g,d,tk,os⟩
 refine ai (da e1 rfl (x:=rawInt k) rfl ?_)
 show wpAny _ _ (field (aa.ref e) 4 >>= _) _ _ ⟨g1,g,d,tk,os⟩
 refine ai (da e1 rfl (x:=aa.none) rfl ?_)
 show wpAny _ _ (mkInt k >>= _) _ _ ⟨g1,g,d,tk,os⟩
 refine ai (uM ?_)
 show wpAny _ _ (setField (aa.ref e) 3 (rawInt ((k:Int)+1)) >>= _) _ _ ⟨g1,g,d,tk+1,os⟩
 refine ai (iL e1 (by simp) fun g2 e2 s2=>?_)
 replace s2:gT e g1 g2:=s2
 replace e2:IsEnum g2 e z ((k:Int)+1) old:=e2
 show wpAny _ _ (setField (aa.ref e) 4 aa.none >>= _) _ _ ⟨g2,g,d,tk+1,os⟩
 refine ai (iL e2 (by simp) fun g3 e3 s3=>?_)
 replace s3:gT e g2 g3:=s3
 replace e3:IsEnum g3 e z ((k:Int)+1) old:=e3
 show wpAny _ _ (newTuple [aa.int k tk,aa.ref hp.objs.size] >>= _) _ _ ⟨g3,g,d,tk+1,os⟩
 refine ai (uS ?_)
 have sz3:g3.objs.size=hp.objs.size+1:=by rw[s3.1,s2.1,sz1]
 have up3:∀c o,c≠e->g1.get? c=some o->g3.get? c=some o:=fun c o hc q=>s3.extBut _ _ hc (s2.extBut _ _ hc q)
 have e4:IsEnum (g3.push { cls:= .type "tuple",data:= .seq #[.int k tk,.ref hp.objs.size]}) e z ((k:Int)+1) old:=br _ e3
 have t4:(g3.push { cls:= .type "tuple",data:= .seq #[.int k tk,.ref hp.objs.size]}).get? (hp.objs.size+1)=some { cls:= .type "tuple",data:= .seq #[.int k tk,.ref hp.objs.size]}:=by rw[<-sz3];exact bY _ rfl
 have up4:∀c o,c≠e->g1.get? c=some o->(g3.push { cls:= .type "tuple",data:= .seq #[.int k tk,.ref hp.objs.size]}).get? c=some o:=fun c o hc q=>br _ (up3 c o hc q)
 show wpAny _ _ (nh (aa.ref e) >>= _) _ _ ⟨g3.push { cls:= .type "tuple",data:= .seq #[.int k tk,.ref hp.objs.size]},g,d,tk+1,os⟩
 rw[sz3]
 generalize g3.push { cls:= .type "tuple",data:= .seq #[.int k tk,.ref hp.objs.size]}=g4 at e4 t4 up4
 refine ai ?_
 unfold nh
 refine ai (da e4 rfl (x:=aa.none) rfl (aR ?_))
 simp only[if_true]
 refine ai (jf (ai (da e4 rfl (x:=old) rfl ?_)))
 refine ai (iL e4 (by simp) fun g5 e5 s5=>?_)
 replace s5:gT e g4 g5:=s5
 replace e5:IsEnum g5 e z ((k:Int)+1) (.ref hp.objs.size):=e5
 show wpAny _ _ (rU (aa.ref e) (aa.ref (hp.objs.size+1)) >>= _) _ _ ⟨g5,g,d,tk+1,os⟩
 refine ai ?_
 unfold rU
 refine ai (iL e5 (by simp) fun g6 e6 s6=>?_)
 replace s6:gT e g5 g6:=s6
 replace e6:IsEnumOut g6 e z ((k:Int)+1) (.ref hp.objs.size) (hp.objs.size+1):=e6
 refine iL e6 (by simp) fun g7 e7 s7=>?_
 replace s7:gT e g6 g7:=s7
 replace e7:IsEnumOut g7 e z ((k:Int)+1) (.ref hp.objs.size) (hp.objs.size+1):=e7
 have up7:∀c o,c≠e->g4.get? c=some o->g7.get? c=some o:=fun c o hc q=>s7.extBut _ _ hc (s6.extBut _ _ hc (s5.extBut _ _ hc q))
 refine ai (pf (aR ⟨_,rfl,hQ g7 ⟨e7,?_,?_,?_,?_⟩⟩))
 ·exact zz1.keep fun c hc o q=>up7 c o (base c hc) (up4 c o (base c hc) q)
 ·exact up7 _ _ (ji hel) (up4 _ _ (ji hel) pr1)
 ·exact up7 _ _ (by have:e<hp.objs.size+1:=u6 hel;exact ji this) t4
 ·intro c o hc q
  simp only[bF,fG,or_false,not_or]at hc
  exact up7 c o hc.1 (up4 c o hc.1 (kp1 c o hc.2.1 hc.2.2.2.1 hc.2.2.2.2.1 hc.2.2.2.2.2 q))
theorem K8{Q:Option aa->ah->Prop}(D:ZipApart z TI TO i1 i2 a b)(he:IsEnum s.heap e z k old)(hne:e∉[z,TI,TO,i1,i2])(hz:dI s.heap z TI TO i1 i2 a b k)(t1:cz s.heap a xs)(t2:cz s.heap b ys)(hx:xs[k]?=some x)(hy:ys[k]?=some y)
 (hQ:∀h',Eo s e z TI TO i1 i2 a b k x y h'->Q (some (.ref (s.heap.objs.size+1))) { s with heap:=h',toks:=s.toks+1}):wpAny (model prog w) A (pyNext (.ref e)) Q E s:=by
 have hT:s.TypeIs (.ref e) "enumerate":=⟨_,he,rfl⟩
 unfold pyNext
 exact ai (kq (ij (name:=bT "__next__") hT rQ (fF rQ hT zP (K7 D he hne hz t1 t2 hx hy fun h' q=>aR (hQ h' q)) (zQ _))))
theorem K9{Q:Option aa->ah->Prop}(hh:A.handled=none)(D:ZipApart z TI TO i1 i2 a b)(he:IsEnum s.heap e z k old)(hz:dI s.heap z TI TO i1 i2 a b k)(t1:cz s.heap a xs)(hx:xs[k]?=none)
 (hQ:∀h',(∀c o,c≠z->c≠i1->s.heap.get? c=some o->h'.get? c=some o)->Q none { s with heap:=h'}):wpAny (model prog w) A (pyNext (.ref e)) Q E s:=by
 have hT:s.TypeIs (.ref e) "enumerate":=⟨_,he,rfl⟩
 unfold pyNext
 refine ai (kq (ij (name:=bT "__next__") hT rQ (fF rQ hT zP ?_ (zQ _))))
 show wpAny _ _ (field (aa.ref e) 2 >>= _) _ _ _
 refine ai (da he rfl (x:=aa.ref z) rfl (ai (z_drawn hh D hz t1 hx fun h' x hk hx'=>?_)))
 obtain⟨o,ho,hc⟩:=hx'
 exact ai (mO (T:="StopIteration") (b:=true) ⟨o,ho,hc⟩ uN (aR (hQ _ hk)))
end
abbrev oU(z:Addr):aI:={ cls:= .type "enumerate",data:= .fields #[.none,.bool false,.ref z,rawInt 0,.none,.none]}
theorem La(z TI TO i1 i2 a b:Addr):
 Meets (dA.«enumerate.__new__» ⟨[.type "enumerate",.ref z],[]⟩) (fun _ R s=>dI s.heap z TI TO i1 i2 a b 0/\R (.ok (.ret (.ref s.heap.objs.size))) { s with heap:=s.heap.push (oU z)}):=
 .of_wp fun prog w A R s h=>by
  obtain⟨hp,g,d,tk,os⟩:=s;obtain⟨hz,h⟩:=h
  have hsub:=sub_enumerate
  have hZ:dI (vV ⟨hp,g,d,tk,os⟩) z TI TO i1 i2 a b 0:=hz
  wp_walk
  refine wpAny_stack_any fun st=>aR ?_
  split
  ·rename_i c _ _ _ _ _
   cases (c==aa.type "enumerate")
   ·wp_walk using z_self hZ
    exact⟨_,rfl,h⟩
   ·wp_walk using z_self hZ
    exact⟨_,rfl,h⟩
  ·wp_walk using z_self hZ
   exact⟨_,rfl,h⟩
theorem Lb{prog:aP}{w:aH}{A:bx}{E:aa->ah->Prop}{s:ah}{z TI TO i1 i2 a b:Addr}{Q:aa->ah->Prop}(hz:dI s.heap z TI TO i1 i2 a b 0)(h:Q (.ref s.heap.objs.size) { s with heap:=s.heap.push (oU z)}):
 wpAny (model prog w) A (call (.type "enumerate") [.ref z]) Q E s:=by
 refine uP F.called_enumerate (by decide) (F.typeCall_enumerate_1 _) (F.newCall_enumerate_1 _) (fun obj=>F.args_object_init_2 obj _) F.entry_enumerate_new (La z TI TO i1 i2 a b) ⟨hz,?_⟩
 exact⟨⟨_,bY _ rfl,rfl⟩,h⟩
theorem Lc:bootBuiltins "enumerate"=some (.type "enumerate"):=by decide +kernel
def qH(a b:Addr)(xs ys:List V):It:=
 ⟨fun i H=>H a=some (.tup xs)/\H b=some (.tup ys)/\i<xs.length/\i<ys.length,
    fun i H x H'=>∃p q u v,H p=none/\ae H p (.tup [u,v]) q=none/\x= .ref q/\xs[i]?=some u/\ys[i]?=some v/\H'=ae (ae H p (.tup [u,v])) q (.tup [.int (i:Nat),.ref p]),
    fun i H=>H a=some (.tup xs)/\xs.length<=i⟩
theorem Ld{P:aP}{w:aH}{K:aB}{elts:List Expr}{ek}{epos:Pos}(e z TI TO i1 i2 a b:Addr)(xs ys:List V)(D:ZipApart z TI TO i1 i2 a b)(hne:e∉[z,TI,TO,i1,i2]):
 jr P w K (.Tuple elts ek epos) (qH a b xs ys) [e,z,TI,TO,i1,i2] e (fun i h=>(∃old,IsEnum h e z i old)/\dI h z TI TO i1 i2 a b i) where
 mem:=by simp
 obj:=fun i h st c hc=>by
  obtain⟨⟨old,he⟩,hz⟩:=st
  simp only[bF,fG,or_false]at hc
  rcases hc with rfl|rfl|rfl|rfl|rfl|rfl
  ·exact⟨_,he,fun v e=>by cases e⟩
  ·obtain⟨_,_,_,g⟩:=hz.z
   exact⟨_,g,fun v e=>by cases e⟩
  ·exact⟨_,hz.ti,fun v e=>by cases e⟩
  ·obtain⟨_,_,g⟩:=hz.to
   exact⟨_,g,fun v e=>by cases e⟩
  ·obtain⟨_,g,_,d⟩:=hz.i1
   exact⟨_,g,fun v e=>by rw[d]at e;cases e⟩
  ·obtain⟨_,g,_,d⟩:=hz.i2
   exact⟨_,g,fun v e=>by rw[d]at e;cases e⟩
 keep:=fun i h h' st k=>by
  obtain⟨⟨old,he⟩,hz⟩:=st
  exact⟨⟨old,k e (by simp) _ he⟩,hz.keep fun c hc o q=>k c (by simp only[bF]at hc |-;exact .inr hc) o q⟩
 item:=by
  intro X hP hw hK hc i pins s σ H E I hf st hg
  subst hP hw hK
  obtain⟨ha,hb,hi1,hi2⟩:=hg
  obtain⟨⟨old,he⟩,hz⟩:=st
  obtain⟨its1,rv1,p1,_⟩:=I.tuple (ag.of ha)
  obtain⟨its2,rv2,p2,_⟩:=I.tuple (ag.of hb)
  have hx:xs[i]?=some xs[i]:=zGE hi1
  have hy:ys[i]?=some ys[i]:=zGE hi2
  obtain⟨u,hu,ru⟩:=rv1.get hx
  obtain⟨v,hv,rv⟩:=rv2.get hy
  refine K8 D he hne hz p1 p2 (x:=u) (y:=v) (by simpa using hu) (by simpa using hv) fun h' q=>?_
  have lt:∀c∈[e,z,TI,TO,i1,i2],c<s.heap.objs.size:=fun c hc=>by
   simp only[bF,fG,or_false]at hc
   rcases hc with rfl|rfl|rfl|rfl|rfl|rfl
   ·exact bm he
   ·exact let ⟨_,_,_,g⟩:=hz.z;bm g
   ·exact bm hz.ti
   ·exact let ⟨_,_,g⟩:=hz.to;bm g
   ·exact let ⟨_,g,_⟩:=hz.i1;bm g
   ·exact let ⟨_,g,_⟩:=hz.i2;bm g
  have hfr:H s.heap.objs.size=none:=I.fresh
  have J:Inv X pins σ (ae H s.heap.objs.size (.tup [xs[i],ys[i]])) { s with heap:=s.heap.push { cls:= .type "tuple",data:= .seq #[u,v]},toks:=s.toks+1}:=
   I.laid (t':=s.toks+1) (fun b u e=>br _ e) (aJ _) ⟨by show 2<=sizeLine;decide,[u,v],.cons ru (.cons rv .nil),⟨_,bY _ rfl,rfl,_,rfl⟩⟩
  have sz1:(s.heap.push { cls:= .type "tuple",data:= .seq #[u,v]}).objs.size=s.heap.objs.size+1:=ip ..
  have hfr2:ae H s.heap.objs.size (.tup [xs[i],ys[i]]) (s.heap.objs.size+1)=none:=by
   have:=J.fresh
   simp only[sz1]at this
   exact this
  have J2:Inv X pins σ (ae (ae H s.heap.objs.size (.tup [xs[i],ys[i]])) (s.heap.objs.size+1) (.tup [.int (i:Nat),.ref s.heap.objs.size])) { s with heap:=(s.heap.push { cls:= .type "tuple",data:= .seq #[u,v]}).push { cls:= .type "tuple",data:= .seq #[.int i s.toks,.ref s.heap.objs.size]},toks:=s.toks+1}:=
   J.laid (t':=s.toks+1) (fun b u e=>br _ e) (u3 sz1) ⟨by show 2<=sizeLine;decide,[.int i s.toks,.ref s.heap.objs.size],.cons ⟨_,rfl⟩ (.cons rfl .nil),⟨_,by rw[<-sz1];exact bY _ rfl,rfl,_,rfl⟩⟩
  have hf':∀c∈[e,z,TI,TO,i1,i2],d4 X pins (ae (ae H s.heap.objs.size (.tup [xs[i],ys[i]])) (s.heap.objs.size+1) (.tup [.int (i:Nat),.ref s.heap.objs.size])) c:=fun c hc=>by
   have:=lt c hc
   refine⟨?_,(hf c hc).2⟩
   rw[am (cJ (u6 this)),am (cJ this)]
   exact(hf c hc).1
  refine⟨_,rfl,wpAny_letOwnedTupleGo_enum q.en fun h'' he'' hs''=>?_⟩
  have nin:∀c,s.heap.objs.size<=c->c≠e:=fun c hc y=>by have:=lt e (by simp);subst y;exact absurd this (Nat.not_lt.mpr hc)
  have J3:Inv X pins σ (ae (ae H s.heap.objs.size (.tup [xs[i],ys[i]])) (s.heap.objs.size+1) (.tup [.int (i:Nat),.ref s.heap.objs.size])) { s with heap:=h'',toks:=s.toks+1}:=by
   refine L2.Inv.turnedL (s:={ s with heap:=(s.heap.push { cls:= .type "tuple",data:= .seq #[u,v]}).push { cls:= .type "tuple",data:= .seq #[.int i s.toks,.ref s.heap.objs.size]},toks:=s.toks+1}) (t':=s.toks+1) (ch:=[e,z,TI,TO,i1,i2]) J2 (fun c o hc g=>?_) hf'
   have hce:c≠e:=fun y=>hc (by simp[y])
   refine(hs''.2 c hce).trans ?_
   by_cases e2:c=s.heap.objs.size+1
   ·subst e2
    have g':((s.heap.push { cls:= .type "tuple",data:= .seq #[u,v]}).push { cls:= .type "tuple",data:= .seq #[.int i s.toks,.ref s.heap.objs.size]}).get? (s.heap.push { cls:= .type "tuple",data:= .seq #[u,v]}).objs.size=some o:=by rw[sz1];exact g
    rw[bY _ rfl]at g'
    cases g'
    exact q.tp
   ·have g1:(s.heap.push { cls:= .type "tuple",data:= .seq #[u,v]}).get? c=some o:=by
       rw[rq _ _ _ (by rw[sz1];exact e2)]at g
       exact g
    by_cases e1:c=s.heap.objs.size
    ·subst e1
     rw[bY _ rfl]at g1
     cases g1
     exact q.pr
    ·rw[rq _ _ _ e1]at g1
     exact q.kp c o hc g1
  refine⟨.ref (s.heap.objs.size+1),_,J3,rfl,⟨s.heap.objs.size,s.heap.objs.size+1,xs[i],ys[i],hfr,hfr2,rfl,hx,hy,rfl⟩,⟨⟨_,he''⟩,?_⟩,fun c hc=>(hf' c hc).1⟩
  exact q.zz.keep fun c hc o g=>(hs''.2 c (fun y=>hne (y▸hc))).trans g
 done:=by
  intro X hP hw hK hc i pins s σ H E I hf st hg
  subst hP hw hK
  obtain⟨ha,hi⟩:=hg
  obtain⟨⟨old,he⟩,hz⟩:=st
  obtain⟨its1,rv1,p1,_⟩:=I.tuple (ag.of ha)
  have l1:=rv1.length
  refine K9 (I.ok.hd hc) D he hz p1 (by simp;omega) fun h' k=>⟨rfl,L2.Inv.turnedL (t':=s.toks) (ch:=[e,z,TI,TO,i1,i2]) I (fun c o hc g=>?_) hf⟩
  simp only[bF,fG,or_false,not_or]at hc
  exact k c o hc.2.1 hc.2.2.2.2.1 g
 self:=fun _ _ _ _ _ st h=>let ⟨_,he⟩:=st.1;yQ he h
section
variable{X:Cx}{elts:List Expr}{epos:Pos}
def Lg(ta:TA):TI:=fun σ H R=>ta σ H fun vs H1=>∃a b xs ys,vs=[.ref a,.ref b]/\H1 a=some (.tup xs)/\H1 b=some (.tup ys)/\R (qH a b xs ys) H1
theorem Lh{a b:Expr}{ek}{ta:TA}{p p' pos pos':Pos}(hg:Gl X "enumerate")(hm:X.mg "enumerate"=none)(hg':Gl X "zip")(hm':X.mg "zip"=none)(ha:PA X [a,b] ta)
 (h1:starEach [.Call (.Name "zip" p') [a,b] [] pos'] X.env=[(false,eval (.Call (.Name "zip" p') [a,b] [] pos') X.env)]:=by rfl) (hs:starEach [a,b] X.env=[(false,eval a X.env),(false,eval b X.env)]:=by rfl) (hs2:starEach [b] X.env=[(false,eval b X.env)]:=by rfl):
 PI X (.Tuple elts ek epos) (.Call (.Name "enumerate" p) [.Call (.Name "zip" p') [a,b] [] pos'] [] pos) (Lg ta):=by
 intro pins s σ H R I h
 refine Call_ (gg I hg hm Lc (gW ?_ h1 rfl))
 rw[h1]
 refine jm ?_
 refine Call_ (gg I hg' hm' C7 (gW (aL (ha pos' pins s σ H _ I h) fun us s1 ⟨vs,H1,I1,r1,q1⟩=>?_) (by rw[hs,hs2]) (by rw[hs2];rfl)))
 obtain⟨l1,l2,xs,ys,e,ha,hb,q⟩:=q1
 subst e
 obtain⟨u,u',rfl,ru,ru'⟩:=sv r1
 cases ru
 cases ru'
 obtain⟨its1,rv1,p1,_⟩:=I1.tuple (ag.of ha)
 obtain⟨its2,rv2,p2,_⟩:=I1.tuple (ag.of hb)
 have lt1:@LT.lt Nat _ l1 s1.heap.objs.size:=let ⟨o,ho,_⟩:=p1;bm ho
 have lt2:@LT.lt Nat _ l2 s1.heap.objs.size:=let ⟨o,ho,_⟩:=p2;bm ho
 refine Ed p1 p2 (jJ ?_)
 obtain⟨z5,z4,zz,zk⟩:=zt_all s1.heap l1 l2
 have I2:Inv X pins σ H1 { s1 with heap:=zt5 s1.heap l1 l2}:=I1.kept (t':=s1.toks) zk
 refine Lb (s:={ s1 with heap:=zt5 s1.heap l1 l2}) zz ?_
 have I3:Inv X pins σ H1 { s1 with heap:=(zt5 s1.heap l1 l2).push (oU (s1.heap.objs.size+4))}:=I2.kept (t':=s1.toks) fun c o g=>br _ g
 have gE:((zt5 s1.heap l1 l2).push (oU (s1.heap.objs.size+4))).get? (s1.heap.objs.size+5)=some (oU (s1.heap.objs.size+4)):=by rw[<-z5];exact bY _ rfl
 show wpAny _ _ (pyIter (aa.ref (zt5 s1.heap l1 l2).objs.size)) _ _ _
 rw[z5]
 refine yQ (s:={ s1 with heap:=(zt5 s1.heap l1 l2).push (oU (s1.heap.objs.size+4))}) gE ?_
 refine⟨s1.heap.objs.size+5,[s1.heap.objs.size+5,s1.heap.objs.size+4,s1.heap.objs.size+2,s1.heap.objs.size+3,s1.heap.objs.size,s1.heap.objs.size+1],_,_,H1,rfl,I3,Ld (s1.heap.objs.size+5) (s1.heap.objs.size+4) (s1.heap.objs.size+2) (s1.heap.objs.size+3) s1.heap.objs.size (s1.heap.objs.size+1) l1 l2 xs ys (zt_apart lt1 lt2) ?_,⟨⟨_,gE⟩,zz.keep fun c _ o g=>br _ g⟩,fun c hc=>?_,q⟩
 ·generalize s1.heap.objs.size=n
  intro y
  simp only[bF,fG,or_false]at y
  rcases y with y|y|y|y|y<;>(have y':(n:Nat)+5=_:=y;omega)
 ·have hc':s1.heap.objs.size<=c:=by
   simp only[bF,fG,or_false]at hc
   rcases hc with rfl|rfl|rfl|rfl|rfl|rfl<;>first|exact aJ _|exact zd _ _
  exact I1.fpOk hc' (I1.hok.fresh hc')
end
theorem Li{a b:Addr}{xs ys:List V}{g:TG}{tb:TS}{D:dE}{σ:L2.St}{H:Hp}(n:Nat)(h1:xs.length=n)(h2:ys.length=n)(Pv:Nat->L2.St->Hp->Prop)(h0:Pv 0 σ H)(hl:∀i σ H,i<=n->Pv i σ H->H a=some (.tup xs)/\H b=some (.tup ys))
 (hs:∀i x y p q σ H,xs[i]?=some x->ys[i]?=some y->Pv i σ H->H p=none->ae H p (.tup [x,y]) q=none->g (.ref q) σ (ae (ae H p (.tup [x,y])) q (.tup [.int (i:Nat),.ref p])) fun σ2 H2=>tb { D with nx:=Pv (i+1),ct:=Pv (i+1),bk:=D.nx} σ2 H2) (hd:∀σ H,Pv n σ H->D.nx σ H):
 ∃W:Nat->Nat->L2.St->Hp->Prop,(∃m,W 0 m σ H)/\∀i m σ H,W i m σ H->
  ((qH a b xs ys).stop i H/\D.nx σ H)\/((qH a b xs ys).go i H/\∃N:L2.St->Hp->Prop,(∀σ' H',N σ' H'->∃m',m'<m/\W (i+1) m' σ' H')/\∀x H',(qH a b xs ys).yld i H x H'->g x σ H' fun σ2 H2=>tb { D with nx:=N,ct:=N,bk:=D.nx} σ2 H2):=by
 refine⟨fun i m σ H=>m=n - i/\i<=n/\Pv i σ H,⟨n,by simp,cP _,h0⟩,?_⟩
 rintro i m σ H ⟨rfl,hi,p⟩
 obtain⟨q1,q2⟩:=hl i σ H hi p
 by_cases c:i=n
 ·subst c
  exact .inl ⟨⟨q1,by omega⟩,hd σ H p⟩
 ·refine .inr ⟨⟨q1,q2,by omega,by omega⟩,Pv (i+1),fun σ' H' k=>⟨n - (i+1),by omega,rfl,by omega,k⟩,?_⟩
  rintro x H' ⟨p',q',u,v,hp',hq',rfl,hu,hv,rfl⟩
  exact hs i u v p' q' σ H hu hv p hp' hq'
end BF
namespace K07
open PySem L2 BF
structure RG(K:aB)(C:Addr):Prop where
 cl:iy K C
 nl:jP K C "lines"
 no:jP K C "onward"
 nc:jP K C "clash"
section
variable{P:aP}{w:aH}{K:aB}{mg:ac->Option aa}{base:aA}{C:Addr}
inductive Ep(C:Addr)(vs:List V)(H:Hp)(Q:VK):Prop
 |mk:∀(p dx:Addr)(v1 v2:V)(g:Ln),(vs=[.ref p,v1,v2])->(H p=some (.ins C dx []))->(aw H v1 g.1)->(aw H v2 g.2)->(g.1.Ok)->(g.2.Ok)->(g.1.nodes<=90)->(g.2.nodes<=90)->(∀(L O:Addr)(H':Hp),H L=none->H O=none->(∀b o,H b=some o->b≠p->H' b=some o)->RK C p dx L O g (bK g) H' [(g,.giv)] (fun _=>none) .non 1->Q .non H')->Ep C vs H Q
def xM(C:Addr):Sp:=fun vs H Q _=>Ep C vs H Q
theorem Lj{f:Addr}{fd:bd}(F:bw K "__init__" "Reckoning.__init__" nV f fd)(R:RG K C):be P w K mg base bh 1 f fd ["self","one","other"] (xM C):=by
 refine F.ok KA (fun vs H Q E h=>?_) (fun cdv A outer s H vs Q E hr h=>?_)
 ·obtain⟨_,_,_,_,_,rfl,_⟩:=h
  rfl
 obtain⟨p,dx,v1,v2,g,rfl,hp,h1,h2,ho1,ho2,hn1,hn2,q⟩:=h
 refine⟨_,(aj (sG (pv 0) (ca (ad (bN (ad (pv 1) (ad (pv 2) (ad (bN (ad aO af)) af)))) af)) rfl)
  (aj (sG (pv 0) pX rfl)
  (al (sG (pv 0) d9 rfl)))),?_⟩
 refine⟨_,rfl,_,rfl,gQ,fun r fr=>?_⟩
 generalize e_:ae H r (HO.tup [.str "given"])=H1
 obtain⟨t1,x1⟩:=aM fr e_
 refine⟨gv,fun t ft=>?_⟩
 generalize e_:ae H1 t (HO.tup [v1,v2,.ref r])=H2
 obtain⟨t2,x2⟩:=aM ft e_
 refine⟨gQ,fun L fL=>?_⟩
 generalize e_:ae H2 L (HO.lst [.ref t])=H3
 obtain⟨t3,x3⟩:=aM fL e_
 have s3:=t1.trans (t2.trans t3)
 have hp3:=s3 _ _ hp
 refine⟨_,rfl,p,C,dx,[],rfl,hp3,R.cl,R.nl,(by show 0<1000;decide),?_⟩
 have npL:p≠L:=aN ((t1.trans t2) _ _ hp) fL
 have k4:∀b o,H3 b=some o->b≠p->ae H3 p (HO.ins C dx (L2.cg "lines" (.ref L) [])) b=some o:=fun b o e hb=>by rw[am hb];exact e
 have x4:ae H3 p (HO.ins C dx (L2.cg "lines" (.ref L) [])) p=some _:=au
 generalize ae H3 p (HO.ins C dx (L2.cg "lines" (.ref L) []))=H4 at k4 x4 |-
 refine fun O fO=>?_
 generalize e_:ae H4 O (HO.dK [])=H5
 obtain⟨t5,x5⟩:=aM fO e_
 have npO:p≠O:=aN x4 fO
 refine⟨_,rfl,p,C,dx,_,rfl,t5 _ _ x4,R.cl,R.no,?_,?_⟩
 ·have h2:=L2.pQ (bT "lines") (V.ref L) []
  simp only[zLN]at h2
  omega
 have k6:∀b o,H5 b=some o->b≠p->ae H5 p (HO.ins C dx (L2.cg "onward" (.ref O) (L2.cg "lines" (.ref L) []))) b=some o:=fun b o e hb=>by rw[am hb];exact e
 have x6:ae H5 p (HO.ins C dx (L2.cg "onward" (.ref O) (L2.cg "lines" (.ref L) []))) p=some _:=au
 generalize ae H5 p (HO.ins C dx (L2.cg "onward" (.ref O) (L2.cg "lines" (.ref L) [])))=H6 at k6 x6 |-
 refine⟨_,rfl,p,C,dx,_,rfl,x6,R.cl,R.nc,?_,?_⟩
 ·have h1:=L2.pQ (bT "onward") (V.ref O) (L2.cg (bT "lines") (V.ref L) [])
  have h2:=L2.pQ (bT "lines") (V.ref L) []
  simp only[zLN]at h2
  omega
 have kk:∀b o,H b=some o->b≠p->ae H6 p (HO.ins C dx (L2.cg "clash" .non (L2.cg "onward" (.ref O) (L2.cg "lines" (.ref L) [])))) b=some o:=fun b o e hb=>by
  rw[am hb]
  exact k6 _ _ (t5 _ _ (k4 _ _ (s3 _ _ e) hb)) hb
 have k36:∀b o,H3 b=some o->b≠p->ae H6 p (HO.ins C dx (L2.cg "clash" .non (L2.cg "onward" (.ref O) (L2.cg "lines" (.ref L) [])))) b=some o:=fun b o e hb=>by
  rw[am hb]
  exact k6 _ _ (t5 _ _ (k4 _ _ e hb)) hb
 have kT:aV H3 (ae H6 p (HO.ins C dx (L2.cg "clash" .non (L2.cg "onward" (.ref O) (L2.cg "lines" (.ref L) []))))):=fun b xs e=>k36 _ _ e (cy e hp3 (by intro z;cases z))
 have fO0:H O=none:=by
  cases e:H O with
  |none=>rfl
  |some o=>rw[k4 _ _ (s3 _ _ e) npO.symm]at fO;cases fO
 refine q L O _ ((t1.trans t2).free fL) fO0 kk ⟨?_,⟨[.ref t],k36 _ _ x3 npL.symm,.cons ⟨t,v1,v2,r,rfl,kT _ _ (t3 _ _ x2),kT _ _ ((t2.trans t3) _ _ x1),(h1.mono (.of s3)).mono kT,(h2.mono (.of s3)).mono kT⟩ .nil⟩,⟨[],?_,fun _ _ _ _=>rfl,by simp⟩,by simp,⟨⟨⟨_,rfl,rfl⟩,trivial⟩,fun x hx=>?_,fun t n e=>by cases e⟩,fun t ht=>?_⟩
 ·rw[au,Kt]
 ·rw[am npO.symm]
  exact k6 _ _ x5 npO.symm
 ·cases bZ.mp hx
  exact⟨eJ _ (qu _),eK _ (qu _)⟩
 ·rcases bR.mp ht with z|z
  ·exact⟨tR ho1 _ z,dJ (tJ z) hn1⟩
  ·exact⟨tR ho2 _ z,dJ (tJ z) hn2⟩
inductive Er(C:Addr)(vs:List V)(H:Hp)(Q:VK):Prop
 |mk:∀(p dx L O:Addr)(g:Ln)(U:List Tm)(fs:List Lf)(on:On)(cl:V)(N:Nat)(v1 v2:V)(r:Addr)(a b:Tm)(ri:RI),(vs=[.ref p,v1,v2,.ref r])->(RK C p dx L O g U H fs on cl N)->(aw H v1 a)->(aw H v2 b)->(H r=some (.tup (mj ri)))->(j7 (fs.map (·.1)) g ri (a,b))->(a∈U)->(b∈U)->(N<=90000)->(∀H',cI p L O H H'->RK C p dx L O g U H' (fs++[((a,b),ri)]) on cl (N+1)->Q (.int (fs.length:Nat)) H')->Er C vs H Q
def qI(C:Addr):Sp:=fun vs H Q _=>Er C vs H Q
theorem Lk{f:Addr}{fd:bd}(F:bw K "added" "Reckoning.added" og f fd)(R:RG K C)(T:Bi mg):be P w K mg base bh 1 f fd ["self","one","other","reason"] (qI C):=by
 refine F.ok KE (fun vs H Q E h=>?_) (fun cdv A outer s H vs Q E hr h=>?_)
 ·obtain⟨_,_,_,_,_,_,_,_,_,_,_,_,_,_,_,_,rfl,_⟩:=h
  rfl
 obtain⟨p,dx,L,O,g,U,fs,on,cl,N,v1,v2,r,a,b,ri,rfl,hk,h1,h2,hr0,hl,ha,hb,hN,q⟩:=h
 obtain⟨ls,gL,hls⟩:=hk.ls
 have hll:ls.length=fs.length:=Paired.length hls
 obtain⟨npL,npO,nLO⟩:=hk.ne
 have hlen:=hk.len
 refine⟨_,(aj (cp (cE ce dk dl dg (ef (pv 0) rfl) (ad (bN (ad (pv 1) (ad (pv 2) (ad (pv 3) af)))) af)))
  (al (ay (aZ nu (bc cm T.b_len cj (ad (ef (pv 0) rfl) af)) ax)))),?_⟩
 refine⟨_,rfl,p,C,dx,_,_,rfl,hk.self,R.cl,R.nl,fP,.inl ⟨rfl,_,ak.of gL⟩,_,rfl,_,rfl,_,rfl,gv,fun t ft=>?_⟩
 generalize e_:ae H t (HO.tup [v1,v2,.ref r])=H1
 obtain⟨s1,x1⟩:=aM ft e_
 have gL1:=s1 _ _ gL
 refine⟨L,_,_,rfl,rfl,gL1,big (by omega),?_⟩
 have hk1:=hk.same s1
 have kT:aV H1 (ae H1 L (HO.lst (ls++[.ref t]))):= .lst gL1
 have self2:ae H1 L (HO.lst (ls++[.ref t])) p=some (.ins C dx (eV L O cl)):=by rw[am npL];exact hk1.self
 have gL2:ae H1 L (HO.lst (ls++[.ref t])) L=some _:=au
 have new:RK C p dx L O g U (ae H1 L (HO.lst (ls++[.ref t]))) (fs++[((a,b),ri)]) on cl (N+1):=by
  obtain⟨k,e1,e2,e3⟩:=hk1.dic
  exact⟨self2,⟨_,gL2,j6 (dX.mono kT (dX.mono (.of s1) hls)) ⟨t,v1,v2,r,rfl,kT _ _ x1,kT _ _ (s1 _ _ hr0),(h1.mono (.of s1)).mono kT,(h2.mono (.of s1)).mono kT⟩⟩,⟨k,by rw[am nLO.symm];exact e1,e2,by omega⟩,by rw[zLA];simp only[zLC,zLN];omega,(hk.st.add hl ha hb).1,hk.ok⟩
 have fr:cI p L O H (ae H1 L (HO.lst (ls++[.ref t]))):=fun b o e _ h2 _=>by rw[am h2];exact s1 _ _ e
 generalize ae H1 L (HO.lst (ls++[.ref t]))=H2 at self2 gL2 new fr |-
 refine⟨_,rfl,p,C,dx,_,_,rfl,self2,R.cl,R.nl,fP,L,_,rfl,.inl (ak.of gL2),_,_,rfl,rfl,?_⟩
 have e:(((ls++[V.ref t]).length:Nat):Int) - 1=((fs.length:Nat):Int):=by rw[zLA,hll];simp
 have:=q H2 fr new
 rw[<-e]at this
 exact this
inductive Es(C:Addr)(vs:List V)(H:Hp)(Q:VK):Prop
 |mk:∀(p dx L O:Addr)(g:Ln)(U:List Tm)(fs:List Lf)(on:On)(cl:V)(N n:Nat)(x:Lf),(vs=[.ref p,.int (n:Nat)])->(RK C p dx L O g U H fs on cl N)->(fs[n]?=some x)->(N<=90000)->(∀H',cI p L O H H'->RK C p dx L O g U H' (fs++[((x.1.2,x.1.1),.turn (n:Nat))]) on cl (N+1)->Q (.int (fs.length:Nat)) H')->Es C vs H Q
def uo(C:Addr):Sp:=fun vs H Q _=>Es C vs H Q
theorem Ll{f:Addr}{fd:bd}(F:bw K "turned" "Reckoning.turned" n8 f fd)(R:RG K C)(m_added:cU P w K mg base 1 C "added" ["self","one","other","reason"] (qI C)):be P w K mg base bh 2 f fd ["self","number"] (uo C):=by
 refine F.ok D6 (fun vs H Q E h=>?_) (fun cdv A outer s H vs Q E hr h=>?_)
 ·obtain⟨_,_,_,_,_,_,_,_,_,_,_,_,rfl,_⟩:=h
  rfl
 obtain⟨p,dx,L,O,g,U,fs,on,cl,N,n,x,rfl,hk,hx,hN,q⟩:=h
 obtain⟨ls,gL,hls⟩:=hk.ls
 obtain⟨a,u,v,r,hat,ha,hr',hu,hv⟩:=iI hls hx
 have hin:=hk.st.inU x (zMG hx)
 refine⟨_,(aj (az (i:=2) D6.nd (bG bV (ef (pv 0) rfl) (pv 1) (fun _ _=>rfl)))
  (al (ay (d6 m_added (hr.mono (by decide)) (pv 0) (ad (ao (pv 2)) (ad (ao (pv 2)) (ad (bN (ad aO (ad (pv 1) af))) af))))))),?_⟩
 refine⟨_,rfl,p,C,dx,_,_,rfl,hk.self,R.cl,R.nl,fP,_,rfl,L,_,_,_,rfl,rfl,ak.of gL,hat,?_⟩
 refine⟨_,rfl,p,dx,_,rfl,hk.self,dY (by decide +kernel) (by decide +kernel) (by decide +kernel),_,rfl,_,_,_,_,rfl,rfl,ag.of ha,cx,_,rfl,_,_,_,_,rfl,rfl,ag.of ha,bD,_,rfl,cq,fun c fc=>?_⟩
 generalize e_:ae H c (HO.tup [.str "turn",.int (n:Nat)])=H1
 obtain⟨s1,x1⟩:=aM fc e_
 exact⟨p,dx,L,O,g,U,fs,on,cl,N,v,u,c,x.1.2,x.1.1,.turn (n:Nat),rfl,hk.same s1,hv.mono (.of s1),hu.mono (.of s1),x1,xk hx,hin.2,hin.1,hN,fun H' f' k'=>q H' ((cI.of s1).trans f') k'⟩
inductive Et(C:Addr)(vs:List V)(H:Hp)(Q:VK):Prop
 |mk:∀(p dx L O:Addr)(g:Ln)(U:List Tm)(fs:List Lf)(on:On)(cl:V)(N n m:Nat)(x y:Lf),(vs=[.ref p,.int (n:Nat),.int (m:Nat)])->(RK C p dx L O g U H fs on cl N)->(fs[n]?=some x)->(fs[m]?=some y)->(x.1.2=y.1.1)->(N<=90000)->(∀H',cI p L O H H'->RK C p dx L O g U H' (fs++[((x.1.1,y.1.2),.chain (n:Nat) (m:Nat))]) on cl (N+1)->Q (.int (fs.length:Nat)) H')->Et C vs H Q
def uq(C:Addr):Sp:=fun vs H Q _=>Et C vs H Q
theorem Lm{f:Addr}{fd:bd}(F:bw K "chained" "Reckoning.chained" n9 f fd)(R:RG K C)(m_added:cU P w K mg base 1 C "added" ["self","one","other","reason"] (qI C)):be P w K mg base bh 2 f fd ["self","number","further"] (uq C):=by
 refine F.ok KD (fun vs H Q E h=>?_) (fun cdv A outer s H vs Q E hr h=>?_)
 ·obtain⟨_,_,_,_,_,_,_,_,_,_,_,_,_,_,rfl,_⟩:=h
  rfl
 obtain⟨p,dx,L,O,g,U,fs,on,cl,N,n,m,x,y,rfl,hk,hx,hy,hxy,hN,q⟩:=h
 obtain⟨ls,gL,hls⟩:=hk.ls
 obtain⟨a,u,v,r,hat,ha,hr',hu,hv⟩:=iI hls hx
 obtain⟨a2,u2,v2,r2,hat2,ha2,hr2,hu2,hv2⟩:=iI hls hy
 have hin:=hk.st.inU x (zMG hx)
 have hin2:=hk.st.inU y (zMG hy)
 refine⟨_,(al (ay (d6 m_added (hr.mono (by decide)) (pv 0) (ad (ao (bG bV (ef (pv 0) rfl) (pv 1) (fun _ _=>rfl))) (ad (ao (bG bV (ef (pv 0) rfl) (pv 2) (fun _ _=>rfl))) (ad (bN (ad aO (ad (pv 1) (ad (pv 2) af)))) af)))))),?_⟩
 refine⟨_,rfl,p,dx,_,rfl,hk.self,dY (by decide +kernel) (by decide +kernel) (by decide +kernel),_,rfl,p,C,dx,_,_,rfl,hk.self,R.cl,R.nl,fP,_,rfl,L,_,_,_,rfl,rfl,ak.of gL,hat,_,_,_,_,rfl,rfl,ag.of ha,bD,?_⟩
 refine⟨_,rfl,p,C,dx,_,_,rfl,hk.self,R.cl,R.nl,fP,_,rfl,L,_,_,_,rfl,rfl,ak.of gL,hat2,_,_,_,_,rfl,rfl,ag.of ha2,cx,_,rfl,_,rfl,gv,fun c fc=>?_⟩
 generalize e_:ae H c (HO.tup [.str "chain",.int (n:Nat),.int (m:Nat)])=H1
 obtain⟨s1,x1⟩:=aM fc e_
 exact⟨p,dx,L,O,g,U,fs,on,cl,N,u,v2,c,x.1.1,y.1.2,.chain (n:Nat) (m:Nat),rfl,hk.same s1,hu.mono (.of s1),hv2.mono (.of s1),x1,tO hx hy hxy,hin.1,hin2.2,hN,fun H' f' k'=>q H' ((cI.of s1).trans f') k'⟩
inductive Eu(C:Addr)(vs:List V)(H:Hp)(Q:VK):Prop
 |mk:∀(p dx L O:Addr)(g:Ln)(U:List Tm)(fs:List Lf)(on:On)(cl:V)(N n:Nat)(x:Lf),(vs=[.ref p,.int (n:Nat)])->(RK C p dx L O g U H fs on cl N)->(fs[n]?=some x)->(N<=90000)->(∀H',cI p L O H H'->RK C p dx L O g U H' fs (mn on x.1.1 n) cl (N+1)->Q .non H')->Eu C vs H Q
def ur(C:Addr):Sp:=fun vs H Q _=>Eu C vs H Q
theorem Lo{f:Addr}{fd:bd}(F:bw K "lead_on" "Reckoning.lead_on" mw f fd)(R:RG K C)(c_shown:aG P w K mg base 2 "shown" ["term"] um):be P w K mg base bh 3 f fd ["self","number"] (ur C):=by
 refine F.ok KB (fun vs H Q E h=>?_) (fun cdv A outer s H vs Q E hr h=>?_)
 ·obtain⟨_,_,_,_,_,_,_,_,_,_,_,_,rfl,_⟩:=h
  rfl
 obtain⟨p,dx,L,O,g,U,fs,on,cl,N,n,x,rfl,hk,hx,hN,q⟩:=h
 have hun:=hr.un
 have hu:(A.deeper (gG "Reckoning.lead_on" (av mw) s.heap.objs.size f cdv)).units+1<cLine:=by omega
 obtain⟨ls,gL,hls⟩:=hk.ls
 obtain⟨kvs,gO,hon,hkl⟩:=hk.dic
 obtain⟨a,u,v,r,hat,ha,hr',hu1,hv⟩:=iI hls hx
 have hin:=hk.st.inU x (zMG hx)
 have hok:=hk.ok _ hin.1
 obtain⟨npL,npO,nLO⟩:=hk.ne
 refine⟨_,(al (pW hu (ef (pv 0) rfl) (aY c_shown (hr.mono (by decide)) (ad (ao (bG bV (ef (pv 0) rfl) (pv 1) (fun _ _=>rfl))) af)) (pv 1) rfl)),?_⟩
 refine⟨_,rfl,_,rfl,p,C,dx,_,_,rfl,hk.self,R.cl,R.no,DZ,_,rfl,p,C,dx,_,_,rfl,hk.self,R.cl,R.nl,fP,_,rfl,L,_,_,_,rfl,rfl,ak.of gL,hat,_,_,_,_,rfl,rfl,ag.of ha,bD,u,x.1.1,rfl,hu1,hok.1,by omega,fun y H1 s1 hy=>?_⟩
 have gO1:=s1 _ _ gO
 refine⟨O,_,rfl,jV.k (k:=Sum.inr y) gO1 (big (by omega)),?_⟩
 have hk1:=hk.same s1
 have kT:aV H1 (ae H1 O (HO.dK (cS kvs (Sum.inr y) (.int (n:Nat))))):=fun b ys z=>by rw[am (cy z gO1 (by intro z;cases z))];exact z
 have hlp:=nB kvs (Sum.inr y) (V.int (n:Nat))
 have hlen:=hk.len
 refine q _ (fun b o e _ _ h3=>by rw[am h3];exact s1 _ _ e) ⟨by rw[am npO];exact hk1.self,⟨ls,by rw[am nLO];exact s1 _ _ gL,dX.mono kT (dX.mono (.of s1) hls)⟩,⟨_,au,hon.put hk.ok hin.1 hy,by omega⟩,by omega,(hk.st.lead hx).1,hk.ok⟩
inductive Ev(C:Addr)(vs:List V)(H:Hp)(Q:VK):Prop
 |mk:∀(p dx L O:Addr)(g:Ln)(U:List Tm)(fs:List Lf)(on:On)(cl:V)(N:Nat)(v:V)(t:Tm),(vs=[.ref p,v])->(RK C p dx L O g U H fs on cl N)->(aw H v t)->(t∈U)->(∀H',aq H H'->Q (cY (on t)) H')->Ev C vs H Q
def xN(C:Addr):Sp:=fun vs H Q _=>Ev C vs H Q
theorem Lp{f:Addr}{fd:bd}(F:bw K "line_on" "Reckoning.line_on" mx f fd)(R:RG K C)(c_shown:aG P w K mg base 2 "shown" ["term"] um):be P w K mg base bh 3 f fd ["self","term"] (xN C):=by
 refine F.ok KC (fun vs H Q E h=>?_) (fun cdv A outer s H vs Q E hr h=>?_)
 ·obtain⟨_,_,_,_,_,_,_,_,_,_,_,_,rfl,_⟩:=h
  rfl
 obtain⟨p,dx,L,O,g,U,fs,on,cl,N,v,t,rfl,hk,hv,ht,q⟩:=h
 have hun:=hr.un
 have hu:(A.deeper (gG "Reckoning.line_on" (av mx) s.heap.objs.size f cdv)).units+1<cLine:=by omega
 obtain⟨kvs,gO,hon,hkl⟩:=hk.dic
 have hok:=hk.ok t ht
 refine⟨_,(al (ay (Il hu (ef (pv 0) rfl) (aY c_shown (hr.mono (by decide)) (ad (pv 1) af)) ⟨rfl,rfl,rfl,rfl⟩))),?_⟩
 refine⟨_,rfl,p,C,dx,_,_,rfl,hk.self,R.cl,R.no,DZ,O,rfl,.inl ⟨kvs,.inl gO⟩,_,rfl,v,t,rfl,hv,hok.1,by omega,fun y H1 s1 hy=>⟨_,db.k (k:=Sum.inr y) (s1 _ _ gO),?_⟩⟩
 have:=q H1 s1
 rw[hon t ht y hy]
 cases e:on t with
 |none=>rw[e]at this;exact this
 |some n=>rw[e]at this;exact this
end
section
variable{P:aP}{w:aH}{K:aB}{mg:ac->Option aa}{base:aA}{C:Addr}
def dR(fs fs':List Lf):Prop:=∃gs,fs'=fs++gs
theorem dR.refl{fs:List Lf}:dR fs fs:=⟨[],by simp⟩
theorem dR.trans{a b c:List Lf}(h:dR a b)(k:dR b c):dR a c:=by
 obtain⟨x,rfl⟩:=h
 obtain⟨y,rfl⟩:=k
 exact⟨x++y,by rw[d8]⟩
theorem dR.one{fs:List Lf}{x:Lf}:dR fs (fs++[x]):=⟨[x],rfl⟩
theorem dR.get{fs fs':List Lf}(h:dR fs fs'){n:Nat}{x:Lf}(e:fs[n]?=some x):fs'[n]?=some x:=by
 obtain⟨y,rfl⟩:=h
 exact nL e
theorem dR.nums{fs fs':List Lf}(h:dR fs fs'){ns:List Nat}{pd:List Ln}(e:ic fs ns pd):ic fs' ns pd:=by
 obtain⟨y,rfl⟩:=h
 exact e.app
theorem lu(fs:List Lf)(x:Lf):(fs++[x])[fs.length]?=some x:=by simp
inductive Ew(C:Addr)(vs:List V)(H:Hp)(Q:VK):Prop
 |mk:∀(p dx L O:Addr)(g:Ln)(U:List Tm)(fs:List Lf)(on:On)(cl:V)(N:Nat)(v:V)(t e:Tm)(k:Nat),(vs=[.ref p,v])->(RK C p dx L O g U H fs on cl N)->(aw H v t)->(t∈U)->(a0 (bg fs on) k t e)->(N+2 * U.length<=90000)->(∀(mo:Option Nat) H' fs' on',cI p L O H H'->RK C p dx L O g U H' fs' on' cl (N+2 * U.length)->dR fs fs'->fN g (bg fs on) (bg fs' on')->(mo=none->t=e)->(∀m,mo=some m->∃x,fs'[m]?=some x/\x.1=(t,e))->(bg fs on t=none->mo=none)->Q (cY mo) H')->Ew C vs H Q
def qJ(C:Addr):Sp:=fun vs H Q _=>Ew C vs H Q
theorem Lq{f:Addr}{fd:bd}(F:bw K "line_to_end" "Reckoning.line_to_end" nY f fd)(R:RG K C)(T:Bi mg)(m_line_on:cU P w K mg base 3 C "line_on" ["self","term"] (xN C))(m_chained:cU P w K mg base 2 C "chained" ["self","number","further"] (uq C))(m_lead_on:cU P w K mg base 3 C "lead_on" ["self","number"] (ur C)):
 be P w K mg base bh 4 f fd ["self","term"] (qJ C):=by
 refine F.ok my (fun vs H Q E h=>?_) (fun cdv A outer s H vs Q E hr h=>?_)
 ·obtain⟨_,_,_,_,_,_,_,_,_,_,_,_,_,_,rfl,_⟩:=h
  rfl
 obtain⟨p,dx,L,O,g,U,fs,on,cl,N,v,t,e,k,rfl,hk,hv,ht,hrc,hN,q⟩:=h
 have hkU:=Kq hk.st hrc
 refine⟨_,(aj (az (i:=2) my.nd (ca af))
  (aj (az (i:=3) my.nd (d6 m_line_on (hr.mono (by decide)) (pv 0) (ad (pv 1) af)))
  (aj (iu cr (aF nv (pv 3) d9 (aC _)) (aj (cp (cE ce dk dl dg (pv 2) (ad (pv 3) af)))
        (al (az (i:=3) my.nd (d6 m_line_on (hr.mono (by decide)) (pv 0) (ad (ao (bG bV (ef (pv 0) rfl) (pv 3) (fun _ _=>rfl))) af))))))
  (aj (az (i:=4) my.nd d9)
  (aj (dM cr rfl (C0 rfl T.b_reversed (ad (pv 2) af)) (cn (i:=5) my.nd rfl (Or.inl rfl)) (aj (az (i:=4) my.nd (AH (aF lO (pv 4) d9 (aC _)) (pv 5) (d6 m_chained (hr.mono (by decide)) (pv 0) (ad (pv 5) (ad (pv 4) af)))))
        (al (cp (d6 m_lead_on (hr.mono (by decide)) (pv 0) (ad (pv 4) af))))))
  (al (ay (pv 4)))))))),?_⟩
 refine⟨dz,fun sp fsp=>?_⟩
 generalize e_:ae H sp (HO.lst [])=H1
 obtain⟨s1,x1⟩:=aM fsp e_
 have hk1:=hk.same s1
 have nsL:sp≠L:=fun z=>by
  obtain⟨ls,e1,_⟩:=hk.ls
  rw[z,e1]at fsp
  cases fsp
 have nsp:sp≠p:=fun z=>by rw[z,hk.self]at fsp;cases fsp
 have nsO:sp≠O:=fun z=>by
  obtain⟨ls,e1,_⟩:=hk.dic
  rw[z,e1]at fsp
  cases fsp
 refine⟨_,rfl,p,dx,_,rfl,hk1.self,dY (by decide +kernel) (by decide +kernel) (by decide +kernel),_,rfl,p,dx,L,O,g,U,fs,on,cl,N,v,t,rfl,hk1,hv.mono (.of s1),ht,fun H2 s2=>?_⟩
 refine⟨fun m σ HA=>∃(ns:List Nat)(c:Tm),σ=[some (.ref p),some v,some (.ref sp),some (cY (on c)),none,none]/\aq H HA/\HA sp=some (.lst (bE ns))/\RK C p dx L O g U HA fs on cl N/\jy fs on t ns c/\a0 (bg fs on) m c e/\c∈U/\ns.length+m=k,
  ⟨k,[],t,rfl,s1.trans s2,s2 _ _ x1,hk1.same s2,.nil,hrc,ht,by simp⟩,?_⟩
 rintro m σ HA ⟨ns,c,rfl,sA,gA,kA,hway,hrm,hcU,hsum⟩
 refine⟨_,rfl,rfl,_,rfl,bO (fun c1=>⟨_,fun _ _ h=>h,?_⟩) (fun c1=>?_)⟩
 ·cases hrm with
  |root hn=>
   rw[(DW hk.st).mp hn]at c1
   simp[cY]at c1
  |@step m' _ u _ hs hrm'=>
   obtain⟨n,x,e1,e2,e3⟩:=a0.mono_app hk.st hs
   obtain⟨ls,gL,hls⟩:=kA.ls
   rw[e1]
   have hnl:bE ns=ns.map fun n=>V.int (n:Nat):=rfl
   refine⟨_,rfl,.inl ⟨rfl,_,ak.of gA⟩,_,rfl,sp,_,_,rfl,rfl,gA,big (by rw[hnl,zLM];omega),?_⟩
   have kT:aV HA (ae HA sp (HO.lst (bE ns++[cY (some n)]))):= .lst gA
   have x3:ae HA sp (HO.lst (bE ns++[cY (some n)])) sp=some _:=au
   have kk:∀b o,HA b=some o->b≠sp->ae HA sp (HO.lst (bE ns++[cY (some n)])) b=some o:=fun b o z hb=>by rw[am hb];exact z
   have s3:aq H (ae HA sp (HO.lst (bE ns++[cY (some n)]))):=fun b o z=>by rw[am (aN z fsp)];exact sA _ _ z
   have k3:RK C p dx L O g U (ae HA sp (HO.lst (bE ns++[cY (some n)]))) fs on cl N:=by
        obtain⟨kvs,gO,ho⟩:=kA.dic
        exact⟨kk _ _ kA.self nsp.symm,⟨ls,kk _ _ gL nsL.symm,dX.mono kT hls⟩,⟨kvs,kk _ _ gO nsO.symm,ho⟩,kA.len,kA.st,kA.ok⟩
   generalize ae HA sp (HO.lst (bE ns++[cY (some n)]))=HB at kT x3 s3 k3 kk |-
   obtain⟨ls',gL',hls'⟩:=k3.ls
   obtain⟨a,u1,v1,r,hat,ha,hr',hu1,hv1⟩:=iI hls' e2
   have hin:=hk.st.inU x (zMG e2)
   refine⟨_,rfl,p,dx,_,rfl,k3.self,dY (by decide +kernel) (by decide +kernel) (by decide +kernel),_,rfl,p,C,dx,_,_,rfl,k3.self,R.cl,R.nl,fP,_,rfl,L,_,_,_,rfl,rfl,ak.of gL',hat,_,_,_,_,rfl,rfl,ag.of ha,cx,p,dx,L,O,g,U,fs,on,cl,N,v1,x.1.2,rfl,k3,hv1,hin.2,fun HC sC=>?_⟩
   refine⟨m',by omega,ns++[n],x.1.2,rfl,s3.trans sC,?_,k3.same sC,.snoc hway e1 e2 (by rw[e3]),?_,hin.2,by rw[zLA];simp only[zLC,zLN];omega⟩
   ·have:=sC _ _ x3
    simp only[bE,zMA,bP,jk,cY]at this |-
    exact this
   ·rw[e3];exact hrm'
 ·have hn:on c=none:=by
   cases z:on c with
   |none=>rfl
   |some n=>rw[z]at c1;simp[cY]at c1
  have hm:=hrm.of_root ((DW hk.st).mpr hn)
  obtain⟨hm0,rfl⟩:=hm
  have hlen:(bE ns).length=ns.length:=by simp[bE]
  rw[hn]
  refine⟨_,rfl,sp,bE ns,rfl,ak.of gA,C1 (K:=K) (a:=sp) (xs:=bE ns) (fun i σ HB=>∃(o5:Option V)(mo:Option Nat)(fs':List Lf)(on':On)(d:Tm),σ=[some (.ref p),some v,some (.ref sp),some .non,some (cY mo),o5]/\cI p L O H HB/\HB sp=some (.lst (bE ns))/\RK C p dx L O g U HB fs' on' cl (N+2 * i)/\dR fs fs'/\fN g (bg fs on) (bg fs' on')/\
        jy fs on t (ns.take (ns.length - i)) d/\(i=0->mo=none/\d=e)/\(0<i->∃m x,mo=some m/\fs'[m]?=some x/\x.1=(d,e)))
   ⟨none,none,fs,on,e,rfl,.of sA,gA,kA,.refl,.refl,by rw[Nat.sub_zero,dL (aJ _)];exact hway,fun _=>⟨rfl,rfl⟩,fun z=>absurd z (ku _)⟩ (fun i σ HB _ hI=>by obtain⟨_,_,_,_,_,_,_,z,_⟩:=hI;exact ak.of z) ?_ ?_⟩
  ·rintro i y σ HB hy ⟨o5,mo,fs',on',d,rfl,fB,gB,kB,hext,hkeep,hway',hz,hp⟩
   have hi:i<ns.length:=by
        have:=(bI.mp hy).1
        rw[d3,hlen]at this
        exact this
   have hj:ns.length - 1 - i<ns.length:=by omega
   have ey:y= .int ((ns[ns.length - 1 - i]:Nat):Int):=by
        have h1:=(bI.mp hy).2
        rw[zx]at h1
        simp only[bE,jl,zLM]at h1
        exact h1.symm
   subst ey
   generalize hn':ns[ns.length - 1 - i]=n
   have etk:ns.take (ns.length - i)=ns.take (ns.length - (i+1))++[n]:=by
        have:ns.length - i=(ns.length - (i+1))+1:=by omega
        rw[this,zTS (by omega)]
        congr 2
        rw[<-hn']
        congr 1
        omega
   obtain⟨d0,x,hway0,on0,ex,ex1⟩:=hway'.unsnoc etk
   obtain⟨j0,hrj,_⟩:=hway0.rch hrc
   have hnx0:bg fs on d0=some d:=by unfold bg;rw[on0];simp[ex,ex1]
   obtain⟨j1,hrj1⟩:∃j1,a0 (bg fs on) (j1+1) d0 e:=by
        cases hrj with
        |root z=>rw[z]at hnx0;cases hnx0
        |step a b=>exact⟨_,.step a b⟩
   show gh _ _ _ _ _
   refine hJ (fun σ HC=>∃(m:Nat)(fs2:List Lf)(z:Lf),σ=[some (.ref p),some v,some (.ref sp),some .non,some (.int (m:Nat)),some (.int (n:Nat))]/\cI p L O H HC/\HC sp=some (.lst (bE ns))/\RK C p dx L O g U HC fs2 on' cl (N+2 * i+1)/\dR fs fs2/\bg fs2 on'=bg fs' on'/\fs2[m]?=some z/\z.1=(d0,e)) ?_ (fun key=>?_)
   rotate_left
   ·by_cases ci:i=0
    ·obtain⟨rfl,rfl⟩:=hz ci
     refine⟨_,rfl,rfl,_,rfl,g9 ⟨_,rfl,key _ _ ⟨n,fs',x,rfl,fB,gB,kB.more (by omega),hext,rfl,hext.get ex,ex1⟩⟩⟩
    ·obtain⟨m,y,rfl,hy',ey1⟩:=hp (by omega)
     have hx':=hext.get ex
     refine⟨_,rfl,rfl,_,rfl,ck (by simp[cY]) ⟨_,rfl,p,dx,_,rfl,kB.self,dY (by decide +kernel) (by decide +kernel) (by decide +kernel),_,rfl,_,rfl,p,dx,L,O,g,U,fs',on',cl,N+2 * i,n,m,x,y,rfl,kB,hx',hy',by rw[ex1,ey1],by omega,fun HC fC kC=>?_⟩⟩
     refine key _ _ ⟨fs'.length,_,_,rfl,fB.trans fC,kB.lst fC gB nsL,kC,hext.trans .one,?_,lu _ _,by rw[ex1,ey1]⟩
     exact(kB.st.add (tO hx' hy' (by rw[ex1,ey1])) (by have:=kB.st.inU x (zMG hx');exact this.1) (by have:=kB.st.inU y (zMG hy');exact this.2)).2
   rintro σ HC ⟨m,fs2,z,rfl,fC,gC,kC,hext2,hnx2,hz',ez⟩
   refine⟨_,rfl,p,dx,_,rfl,kC.self,dY (by decide +kernel) (by decide +kernel) (by decide +kernel),_,rfl,p,dx,L,O,g,U,fs2,on',cl,N+2 * i+1,m,z,rfl,kC,hz',by omega,fun HD fD kD=>?_⟩
   obtain⟨j2,hr2⟩:=hkeep.pos hrj1
   refine⟨_,some m,fs2,_,d0,rfl,fC.trans fD,kC.lst fD gC nsL,kD,hext2,?_,hway0,fun z=>absurd z (by omega),fun _=>⟨m,z,rfl,hz',ez⟩⟩
   rw[(kC.st.lead hz').2,hnx2,ez]
   exact hkeep.trans (.short hr2)
  ·rintro σ HB ⟨o5,mo,fs',on',d,rfl,fB,gB,kB,hext,hkeep,hway',hz,hp⟩
   rw[hlen,Nat.sub_self,List.take_zero]at hway'
   have ed:d=t:=by
        generalize hnl:([]:List Nat)=l at hway'
        cases hway' with
        |nil=>rfl
        |snoc _ _ _ _=>simp at hnl
   subst ed
   refine⟨_,rfl,q mo HB fs' on' fB (kB.more (by rw[hlen];omega)) hext hkeep (fun z=>?_) (fun m z=>?_) (fun z=>?_)⟩
   ·rw[hlen]at hz hp
    by_cases c0:ns.length=0
    ·exact(hz c0).2
    ·obtain⟨m,x,e1,_⟩:=hp (by omega)
     rw[z]at e1
     cases e1
   ·rw[hlen]at hz hp
    by_cases c0:ns.length=0
    ·rw[(hz c0).1]at z;cases z
    ·obtain⟨m',x,e1,e2,e3⟩:=hp (by omega)
     rw[z]at e1
     cases e1
     exact⟨x,e2,e3⟩
   ·have hk0:=(hrc.of_root z).1
    rw[hlen]at hz
    exact(hz (by omega)).1
inductive Ex(C:Addr)(vs:List V)(H:Hp)(Q:VK):Prop
 |mk:∀(p dx L O:Addr)(g:Ln)(U:List Tm)(fs:List Lf)(on:On)(cl:V)(N:Nat)(v:V)(t e:Tm)(k:Nat),(vs=[.ref p,v])->(RK C p dx L O g U H fs on cl N)->(aw H v t)->(t∈U)->(a0 (bg fs on) k t e)->(N+2 * U.length<=90000)->(∀(v':V) H' fs' on',cI p L O H H'->RK C p dx L O g U H' fs' on' cl (N+2 * U.length)->dR fs fs'->fN g (bg fs on) (bg fs' on')->aw H' v' e->Q v' H')->Ex C vs H Q
def xO(C:Addr):Sp:=fun vs H Q _=>Ex C vs H Q
theorem Lr{f:Addr}{fd:bd}(F:bw K "end_of" "Reckoning.end_of" nZ f fd)(R:RG K C)(m_line_to_end:cU P w K mg base 4 C "line_to_end" ["self","term"] (qJ C)):be P w K mg base bh 5 f fd ["self","term"] (xO C):=by
 refine F.ok D5 (fun vs H Q E h=>?_) (fun cdv A outer s H vs Q E hr h=>?_)
 ·obtain⟨_,_,_,_,_,_,_,_,_,_,_,_,_,_,rfl,_⟩:=h
  rfl
 obtain⟨p,dx,L,O,g,U,fs,on,cl,N,v,t,e,k,rfl,hk,hv,ht,hrc,hN,q⟩:=h
 refine⟨_,(aj (az (i:=2) D5.nd (d6 m_line_to_end (hr.mono (by decide)) (pv 0) (ad (pv 1) af)))
  (al (ay (AH (aF lO (pv 2) d9 (aC _)) (pv 1) (ao (bG bV (ef (pv 0) rfl) (pv 2) (fun _ _=>rfl))))))),?_⟩
 refine⟨_,rfl,p,dx,_,rfl,hk.self,dY (by decide +kernel) (by decide +kernel) (by decide +kernel),_,rfl,p,dx,L,O,g,U,fs,on,cl,N,v,t,e,k,rfl,hk,hv,ht,hrc,hN,fun mo H1 fs' on' f1 k1 hext hkeep h0 h1 _=>?_⟩
 cases mo with
 |none=>
  have:=h0 rfl
  subst this
  exact⟨_,rfl,rfl,_,rfl,g9 ⟨_,rfl,q v H1 fs' on' f1 k1 hext hkeep (hv.mono (hk.ts f1))⟩⟩
 |some m=>
  obtain⟨x,hx,ex⟩:=h1 m rfl
  obtain⟨ls,gL,hls⟩:=k1.ls
  obtain⟨a,u1,v1,r,hat,ha,hr',hu1,hv1⟩:=iI hls hx
  rw[ex]at hv1
  exact⟨_,rfl,rfl,_,rfl,ck (by simp[cY]) ⟨_,rfl,p,C,dx,_,_,rfl,k1.self,R.cl,R.nl,fP,_,rfl,L,_,_,_,rfl,rfl,ak.of gL,hat,_,_,_,_,rfl,rfl,ag.of ha,cx,q v1 H1 fs' on' f1 k1 hext hkeep hv1⟩⟩
inductive Ey(C:Addr)(vs:List V)(H:Hp)(Q:VK):Prop
 |mk:∀(p dx L O:Addr)(g:Ln)(U:List Tm)(fs:List Lf)(on:On)(cl:V)(N n:Nat)(x:Lf)(a b:Tm)(k j:Nat),(vs=[.ref p,.int (n:Nat)])->(RK C p dx L O g U H fs on cl N)->(fs[n]?=some x)->(a0 (bg fs on) k x.1.1 a)->(a0 (bg fs on) j x.1.2 b)->(N+4 * U.length+3<=90000)->(∀(m:Nat)(z:Lf) H' fs' on',cI p L O H H'->RK C p dx L O g U H' fs' on' cl (N+4 * U.length+3)->dR fs fs'->fN g (bg fs on) (bg fs' on')->fs'[m]?=some z->z.1=(a,b)->Q (.int (m:Nat)) H')->Ey C vs H Q
def xP(C:Addr):Sp:=fun vs H Q _=>Ey C vs H Q
theorem Ls{f:Addr}{fd:bd}(F:bw K "between_ends" "Reckoning.between_ends" n0 f fd)(R:RG K C)(m_line_to_end:cU P w K mg base 4 C "line_to_end" ["self","term"] (qJ C))(m_turned:cU P w K mg base 2 C "turned" ["self","number"] (uo C))(m_chained:cU P w K mg base 2 C "chained" ["self","number","further"] (uq C)):
 be P w K mg base bh 5 f fd ["self","number"] (xP C):=by
 refine F.ok mz (fun vs H Q E h=>?_) (fun cdv A outer s H vs Q E hr h=>?_)
 ·obtain⟨_,_,_,_,_,_,_,_,_,_,_,_,_,_,_,_,rfl,_⟩:=h
  rfl
 obtain⟨p,dx,L,O,g,U,fs,on,cl,N,n,x,a,b,k,j,rfl,hk,hx,hra,hrb,hN,q⟩:=h
 obtain⟨ls,gL,hls⟩:=hk.ls
 obtain⟨la,u1,v1,r,hat,hla,hr',hu1,hv1⟩:=iI hls hx
 have hin:=hk.st.inU x (zMG hx)
 refine⟨_,(aj (az (i:=2) mz.nd (bG bV (ef (pv 0) rfl) (pv 1) (fun _ _=>rfl)))
  (aj (az (i:=3) mz.nd (d6 m_line_to_end (hr.mono (by decide)) (pv 0) (ad (ao (pv 2)) af)))
  (aj (az (i:=4) mz.nd (d6 m_line_to_end (hr.mono (by decide)) (pv 0) (ad (ao (pv 2)) af)))
  (aj (az (i:=5) mz.nd (pv 1))
  (aj (aK (aF nv (pv 3) d9 (aC _)) (al (az (i:=5) mz.nd (d6 m_chained (hr.mono (by decide)) (pv 0) (ad (d6 m_turned (hr.mono (by decide)) (pv 0) (ad (pv 3) af)) (ad (pv 5) af))))) aU)
  (aj (aK (aF nv (pv 4) d9 (aC _)) (al (az (i:=5) mz.nd (d6 m_chained (hr.mono (by decide)) (pv 0) (ad (pv 5) (ad (pv 4) af))))) aU)
  (al (ay (pv 5))))))))),?_⟩
 refine⟨_,rfl,p,C,dx,_,_,rfl,hk.self,R.cl,R.nl,fP,_,rfl,L,_,_,_,rfl,rfl,ak.of gL,hat,?_⟩
 refine⟨_,rfl,p,dx,_,rfl,hk.self,dY (by decide +kernel) (by decide +kernel) (by decide +kernel),_,rfl,_,_,_,_,rfl,rfl,ag.of hla,bD,p,dx,L,O,g,U,fs,on,cl,N,u1,x.1.1,a,k,rfl,hk,hu1,hin.1,hra,by omega,fun mo1 H1 fs1 on1 f1 k1 hext1 hkeep1 h10 h11 _=>?_⟩
 have t1:=hk.ts f1
 obtain⟨j',hrb'⟩:=hkeep1.rch _ _ _ hrb
 refine⟨_,rfl,p,dx,_,rfl,k1.self,dY (by decide +kernel) (by decide +kernel) (by decide +kernel),_,rfl,_,_,_,_,rfl,rfl,ag.of (t1 _ _ hla),cx,p,dx,L,O,g,U,fs1,on1,cl,_,v1,x.1.2,b,j',rfl,k1,hv1.mono t1,hin.2,hrb',by omega,fun mo2 H2 fs2 on2 f2 k2 hext2 hkeep2 h20 h21 _=>?_⟩
 have hext:=hext1.trans hext2
 have hkeep:=hkeep1.trans hkeep2
 have hx2:=hext.get hx
 refine⟨_,rfl,?_⟩
 show dE.nx _ _ _
 with_reducible show gh _ _ _ _ _
 refine hJ (fun σ H3=>∃(m:Nat)(z:Lf)(fs3:List Lf),σ=[some (.ref p),some (.int (n:Nat)),some (.ref la),some (cY mo1),some (cY mo2),some (.int (m:Nat))]/\cI p L O H H3/\RK C p dx L O g U H3 fs3 on2 cl (N+4 * U.length+2)/\dR fs2 fs3/\bg fs3 on2=bg fs2 on2/\fs3[m]?=some z/\z.1=(a,x.1.2)) ?_ (fun key=>?_)
 rotate_left
 ·cases mo1 with
  |none=>
   have:=h10 rfl
   exact⟨_,rfl,rfl,_,rfl,ck (by simp[cY]) (key _ _ ⟨n,x,fs2,rfl,f1.trans f2,k2.more (by omega),.refl,rfl,hx2,by rw[<-this]⟩)⟩
  |some m1=>
   obtain⟨y,hy,ey⟩:=h11 m1 rfl
   have hy2:=hext2.get hy
   refine⟨_,rfl,rfl,_,rfl,iV (by simp[cY]) ⟨_,rfl,p,dx,_,rfl,k2.self,dY (by decide +kernel) (by decide +kernel) (by decide +kernel),_,rfl,p,dx,_,rfl,k2.self,dY (by decide +kernel) (by decide +kernel) (by decide +kernel),_,rfl,p,dx,L,O,g,U,fs2,on2,cl,_,m1,y,rfl,k2,hy2,by omega,fun H3 f3 k3=>?_⟩⟩
   have e3:=(k2.st.add (xk (g:=g) hy2) (k2.st.inU y (zMG hy2)).2 (k2.st.inU y (zMG hy2)).1).2
   refine⟨_,rfl,p,dx,L,O,g,U,_,on2,cl,_,fs2.length,n,_,x,rfl,k3,lu _ _,nL hx2,by rw[ey],by omega,fun H4 f4 k4=>?_⟩
   refine key _ _ ⟨_,_,_,rfl,(f1.trans f2).trans (f3.trans f4),k4.more (by omega),dR.one.trans .one,?_,lu _ _,by rw[ey]⟩
   rw[<-e3]
   exact(k3.st.add (tO (g:=g) (lu _ _) (nL hx2) (by rw[ey])) (by show _∈U;exact(k2.st.inU y (zMG hy2)).2) hin.2).2
 rintro σ H3 ⟨m,z,fs3,rfl,f3,k3,hext3,hnx3,hz,ez⟩
 with_reducible show gh _ _ _ _ _
 refine hJ (fun σ H4=>∃(m:Nat)(z:Lf)(fs4:List Lf),σ=[some (.ref p),some (.int (n:Nat)),some (.ref la),some (cY mo1),some (cY mo2),some (.int (m:Nat))]/\cI p L O H H4/\RK C p dx L O g U H4 fs4 on2 cl (N+4 * U.length+3)/\dR fs3 fs4/\bg fs4 on2=bg fs2 on2/\fs4[m]?=some z/\z.1=(a,b)) ?_ (fun key=>?_)
 rotate_left
 ·cases mo2 with
  |none=>
   have:=h20 rfl
   exact⟨_,rfl,rfl,_,rfl,ck (by simp[cY]) (key _ _ ⟨m,z,fs3,rfl,f3,k3.more (by omega),.refl,hnx3,hz,by rw[ez,this]⟩)⟩
  |some m2=>
   obtain⟨y,hy,ey⟩:=h21 m2 rfl
   have hy3:=hext3.get hy
   refine⟨_,rfl,rfl,_,rfl,iV (by simp[cY]) ⟨_,rfl,p,dx,_,rfl,k3.self,dY (by decide +kernel) (by decide +kernel) (by decide +kernel),_,rfl,_,rfl,p,dx,L,O,g,U,fs3,on2,cl,_,m,m2,z,y,rfl,k3,hz,hy3,by rw[ez,ey],by omega,fun H4 f4 k4=>?_⟩⟩
   refine key _ _ ⟨_,_,_,rfl,f3.trans f4,k4,.one,?_,lu _ _,by rw[ez,ey]⟩
   rw[<-hnx3]
   exact(k3.st.add (tO (g:=g) hz hy3 (by rw[ez,ey])) (k3.st.inU z (zMG hz)).1 (k3.st.inU y (zMG hy3)).2).2
 rintro σ H4 ⟨m4,z4,fs4,rfl,f4,k4,hext4,hnx4,hz4,ez4⟩
 exact⟨_,rfl,q m4 z4 H4 fs4 on2 f4 k4 (hext.trans (hext3.trans hext4)) (hnx4▸hkeep) hz4 ez4⟩
end
section
variable{P:aP}{w:aH}{K:aB}{mg:ac->Option aa}{base:aA}{C:Addr}
theorem kh{x y z:V}{xs:List V}:dn (x::y::z::xs) (2:Int)=some z:=dH (j:=2) rfl
inductive Ez(C:Addr)(vs:List V)(H:Hp)(Q:VK):Prop
 |mk:∀(p dx L O:Addr)(g:Ln)(U:List Tm)(fs:List Lf)(on:On)(cl:V)(N n:Nat)(w:ac)(ps qs:List Tm)(r:RI),(vs=[.ref p,.int (n:Nat)])->(RK C p dx L O g U H fs on cl N)->(fs[n]?=some ((.thing w ps,.thing w qs),r))->(ps.length=qs.length)->(N+ps.length<=90000)->((∀x∈ps,x∈U))->((∀x∈qs,x∈U))->(∀(l:Addr)(ns:List Nat) H' fs',cI p L O H H'->RK C p dx L O g U H' fs' on cl (N+ps.length)->dR fs fs'->bg fs' on=bg fs on->H l=none->H' l=some (.lst (bE ns))->ic fs' ns (ps.zip qs).reverse->Q (.ref l) H')->Ez C vs H Q
def xQ(C:Addr):Sp:=fun vs H Q _=>Ez C vs H Q
theorem Lu{f:Addr}{fd:bd}(F:bw K "part_lines" "Reckoning.part_lines" n6 f fd)(R:RG K C)(T:Bi mg)(TZ:mg "zip"=none)(TE:mg "enumerate"=none)(m_added:cU P w K mg base 1 C "added" ["self","one","other","reason"] (qI C)):
 be P w K mg base bh 2 f fd ["self","number"] (xQ C):=by
 refine F.ok qw (fun vs H Q E h=>?_) (fun cdv A outer s H vs Q E hr h=>?_)
 ·obtain⟨_,_,_,_,_,_,_,_,_,_,_,_,_,_,_,rfl,_⟩:=h
  rfl
 obtain⟨p,dx,L,O,g,U,fs,on,cl,N,n,w1,ps,qs,r,rfl,hk,hx,hl,hN,hpU,hqU,q⟩:=h
 obtain⟨ls,gL,hls⟩:=hk.ls
 obtain⟨la,u1,v1,r1,hat,hla,hr',hu1,hv1⟩:=iI hls hx
 obtain⟨a1,b1,us1,rfl,e1,g1,m1⟩:=dr.mp hu1
 obtain⟨a2,b2,us2,rfl,e2,g2,m2⟩:=dr.mp hv1
 have l1:=m1.len
 have l2:=m2.len
 apply aE;intro T1
 apply aE;intro T2
 apply aE;intro T3
 refine⟨_,(aj (az (i:=2) qw.nd (bG bV (ef (pv 0) rfl) (pv 1) (fun _ _=>rfl))) (aD T3 (aj (az (i:=3) qw.nd (ca af)) (aD T2 (aj (dM cr rfl (Lh rfl TE rfl TZ (ad (ao (ao (pv 2))) (ad (ao (ao (pv 2))) af))) (v4 rfl (nr (cn (i:=4) qw.nd rfl (Or.inl rfl)) (nr (cn (i:=5) qw.nd rfl (Or.inl rfl)) v3))) (aD T1 (al (cp (cE ce dk dl dg (pv 3) (ad (d6 m_added (hr.mono (by decide)) (pv 0) (ad (ao (pv 5)) (ad (ao (pv 5)) (ad (bN (ad aO (ad (pv 1) (ad (pv 4) af)))) af)))) af)))))) (al (ay (CK T.b_list T.b_reversed (pv 3))))))))),?_⟩
 refine⟨_,rfl,p,C,dx,_,_,rfl,hk.self,R.cl,R.nl,fP,_,rfl,L,_,_,_,rfl,rfl,ak.of gL,hat,?_⟩
 refine⟨dz,fun lp flp=>?_⟩
 generalize e_:ae H lp (HO.lst [])=H1
 obtain⟨s1,x1⟩:=aM flp e_
 have hk1:=hk.same s1
 have npL:lp≠L:=fun z=>by rw[z,gL]at flp;cases flp
 refine⟨_,rfl,_,_,_,_,rfl,rfl,ag.of (s1 _ _ hla),bD,_,_,_,_,rfl,rfl,ag.of (s1 _ _ e1),kh,_,rfl,_,_,_,_,rfl,rfl,ag.of (s1 _ _ hla),cx,_,_,_,_,rfl,rfl,ag.of (s1 _ _ e2),kh,b1,b2,us1,us2,rfl,s1 _ _ g1,s1 _ _ g2,?_⟩
 refine Li ps.length l1 (by omega) (fun i σ HX=>∃(o4 o5:Option V)(ns:List Nat)(fs':List Lf),σ=[some (.ref p),some (.int (n:Nat)),some (.ref la),some (.ref lp),o4,o5]/\cI p L O H HX/\HX lp=some (.lst (bE ns))/\RK C p dx L O g U HX fs' on cl (N+i)/\dR fs fs'/\bg fs' on=bg fs on/\ic fs' ns ((ps.zip qs).take i))
  ⟨none,none,[],fs,rfl,.of s1,x1,hk1,.refl,rfl,.nil⟩ (fun i σ HX _ hI=>by obtain⟨_,_,_,_,_,fX,_⟩:=hI;exact⟨hk.ts fX _ _ g1,hk.ts fX _ _ g2⟩) ?_ ?_
 ·rintro i x y p0 q0 σ HX hxi hyi ⟨o4,o5,ns,fs',rfl,fX,glp,kX,hext,hnx,hns⟩ fp0 fq0
  have t1:=bz fp0 (HO.tup [x,y])
  have z1:ae HX p0 (HO.tup [x,y]) p0=some _:=au
  generalize ae HX p0 (HO.tup [x,y])=J1 at t1 z1 fq0 |-
  generalize e_:ae J1 q0 (HO.tup [.int (i:Nat),.ref p0])=J2
  obtain⟨t2,z2⟩:=aM fq0 e_
  have hi:i<us1.length:=(bI.mp hxi).1
  have hi1:i<ps.length:=by omega
  have hi2:i<qs.length:=by omega
  have s2:=t1.trans t2
  have k2:=kX.same s2
  have hts:=(hk.ts fX).trans (.of s2)
  refine⟨q0,_,rfl,ag.of z2,rfl,_,_,rfl,_,_,rfl,rfl,?_⟩
  have glp2:=s2 _ _ glp
  refine⟨_,rfl,.inl ⟨rfl,_,ak.of glp2⟩,_,rfl,p,dx,_,rfl,k2.self,dY (by decide +kernel) (by decide +kernel) (by decide +kernel),_,rfl,_,_,_,_,rfl,rfl,ag.of (t2 _ _ z1),bD,_,rfl,_,_,_,_,rfl,rfl,ag.of (t2 _ _ z1),cx,_,rfl,_,rfl,gv,fun c fc=>?_⟩
  generalize e_:ae J2 c (HO.tup [.str "part",.int (n:Nat),.int (i:Nat)])=J3
  obtain⟨t3,z3⟩:=aM fc e_
  have s3:=s2.trans t3
  have k3:=k2.same t3
  have hxt:aw J3 x ps[i]:=by
   have h1:=m1.at i hi hi1
   rw[(bI.mp hxi).2]at h1
   exact h1.mono (hts.trans (.of t3))
  have hyt:aw J3 y qs[i]:=by
   have h1:=m2.at i (by omega) hi2
   rw[(bI.mp hyi).2]at h1
   exact h1.mono (hts.trans (.of t3))
  have hlead:j7 (fs'.map (·.1)) g (.part (n:Nat) (i:Nat)) (ps[i],qs[i]):=Kp (hext.get hx) hl (zGE hi1) (zGE hi2)
  refine⟨p,dx,L,O,g,U,fs',on,cl,N+i,x,y,c,ps[i],qs[i],.part (n:Nat) (i:Nat),rfl,k3,hxt,hyt,z3,hlead,hpU _ (zGM hi1),hqU _ (zGM hi2),by omega,fun J4 f4 k4=>?_⟩
  have glp4:=k3.lst f4 (t3 _ _ glp2) npL
  have hnl:(bE ns).length<=i:=by
   have:=Paired.length hns
   rw[zLT]at this
   simp only[bE,zLM]
   omega
  refine⟨lp,_,_,rfl,rfl,glp4,big (by omega),?_⟩
  have hzi:i<(ps.zip qs).length:=by rw[pB];omega
  refine⟨_,_,ns++[fs'.length],fs'++[((ps[i],qs[i]),.part (n:Nat) (i:Nat))],rfl,?_,by rw[au];simp[bE],(k4.put glp4 npL),hext.trans .one,?_,?_⟩
  ·intro b o e h1 h2 h3
   rw[am (aN e flp)]
   exact f4 _ _ (s3 _ _ (fX b o e h1 h2 h3)) h1 h2 h3
  ·rw[(k3.st.add hlead (hpU _ (zGM hi1)) (hqU _ (zGM hi2))).2,hnx]
  ·rw[zTS hzi]
   exact j6 hns.app ⟨_,lu _ _,by rw[vm]⟩
 ·rintro σ HX ⟨o4,o5,ns,fs',rfl,fX,glp,kX,hext,hnx,hns⟩
  rw[dL (by rw[pB];omega)]at hns
  refine⟨_,rfl,lp,bE ns,rfl,ak.of glp,fun l fl=>?_⟩
  have t1:=bz fl (HO.lst (bE ns).reverse)
  exact q l ns.reverse _ fs' (fX.trans (.of t1)) (kX.same t1) hext hnx (kX.free fX fl) (by rw[au];simp[bE,List.map_reverse]) (Ku hns)
def xR(fs:List Lf)(cl:V):Prop:=∃(m:Nat)(z:Lf),cl= .int (m:Nat)/\fs[m]?=some z/\uj z.1.1 z.1.2
inductive EA(C:Addr)(vs:List V)(H:Hp)(Q:VK):Prop
 |mk:∀(p dx L O:Addr)(g:Ln)(U:List Tm)(fs:List Lf)(on:On)(N n:Nat)(x:Lf)(pd:List Ln),(vs=[.ref p,.int (n:Nat)])->(RK C p dx L O g U H fs on .non N)->(fs[n]?=some x)->(dP g (bg fs on) (pd++[x.1]))->((∀w ps,Tm.thing w ps∈U->∀q∈ps,q∈U))->(N+8 * U.length+100<=90000)->(∀(l:Addr)(ns:List Nat)(pdn:List Ln) H' fs' on' cl',cI p L O H H'->RK C p dx L O g U H' fs' on' cl' (N+8 * U.length+100)->dR fs fs'->H l=none->H' l=some (.lst (bE ns))->ic fs' ns pdn->ns.length<=90->((cl'= .non/\dP g (bg fs' on') (pd++pdn)/\jc U (bg fs' on')+pdn.length<=jc U (bg fs on))\/xR fs' cl')->Q (.ref l) H')->EA C vs H Q
def xS(C:Addr):Sp:=fun vs H Q _=>EA C vs H Q
theorem Lv{f:Addr}{fd:bd}(F:bw K "led_together" "Reckoning.led_together" nX f fd)(R:RG K C)(c_same:aG P w K mg base 2 "same" ["one","other"] xJ)(c_head:aG P w K mg base 1 "head" ["term"] ul)(m_end_of:cU P w K mg base 5 C "end_of" ["self","term"] (xO C))(m_between_ends:cU P w K mg base 5 C "between_ends" ["self","number"] (xP C))
 (m_lead_on:cU P w K mg base 3 C "lead_on" ["self","number"] (ur C)) (m_turned:cU P w K mg base 2 C "turned" ["self","number"] (uo C)) (m_part_lines:cU P w K mg base 2 C "part_lines" ["self","number"] (xQ C)):
 be P w K mg base bh 6 f fd ["self","number"] (xS C):=by
 refine F.ok qv (fun vs H Q E h=>?_) (fun cdv A outer s H vs Q E hr h=>?_)
 ·obtain⟨_,_,_,_,_,_,_,_,_,_,_,_,rfl,_⟩:=h
  rfl
 obtain⟨p,dx,L,O,g,U,fs,on,N,n,x,pd,rfl,hk,hx,hinv,hcl,hN,q⟩:=h
 have hun:=hr.un
 obtain⟨ls,gL,hls⟩:=hk.ls
 obtain⟨la,u1,v1,r1,hat,hla,hr',hu1,hv1⟩:=iI hls hx
 have hin:=hk.st.inU x (zMG hx)
 obtain⟨k,a,hra⟩:=hinv.tot x.1.1
 obtain⟨j,b,hrb⟩:=hinv.tot x.1.2
 have haU:=DX hk.st hra hin.1
 have hbU:=DX hk.st hrb hin.2
 apply aE;intro T1
 apply aE;intro T2
 apply aE;intro T3
 apply aE;intro T4
 apply aE;intro T5
 apply aE;intro T6
 apply aE;intro T7
 apply aE;intro T8
 apply aE;intro T9
 apply aE;intro T10
 refine⟨_,(aj (az (i:=2) qv.nd (bG bV (ef (pv 0) rfl) (pv 1) (fun _ _=>rfl))) (aD T10 (aj (aK (cf (aY c_same (hr.mono (by decide)) (ad (d6 m_end_of (hr.mono (by decide)) (pv 0) (ad (ao (pv 2)) af)) (ad (d6 m_end_of (hr.mono (by decide)) (pv 0) (ad (ao (pv 2)) af)) af)))) (al (ay (ca af))) aU) (aD T9 (aj (az (i:=3) qv.nd (d6 m_between_ends (hr.mono (by decide)) (pv 0) (ad (pv 1) af))) (aD T8 (aj (az (i:=4) qv.nd (ao (bG bV (ef (pv 0) rfl) (pv 3) (fun _ _=>rfl)))) (aD T7 (aj (az (i:=5) qv.nd (ao (bG bV (ef (pv 0) rfl) (pv 3) (fun _ _=>rfl)))) (aD T6 (aj (aK (aF bM (ao (pv 4)) aO (aC _)) (aD T1 (aj (cp (d6 m_lead_on (hr.mono (by decide)) (pv 0) (ad (pv 3) af))) (al (ay (ca af))))) aU) (aD T5 (aj (aK (aF bM (ao (pv 5)) aO (aC _)) (aD T2 (aj (cp (d6 m_lead_on (hr.mono (by decide)) (pv 0) (ad (d6 m_turned (hr.mono (by decide)) (pv 0) (ad (pv 3) af)) af))) (al (ay (ca af))))) aU) (aD T4 (aj (aK (aF sT (aY c_head (hr.mono (by decide)) (ad (pv 4) af)) (aY c_head (hr.mono (by decide)) (ad (pv 5) af)) (aC _)) (aj (sG (pv 0) (pv 3) rfl) (al (ay (ca af)))) aU) (aD T3 (aj (cp (d6 m_lead_on (hr.mono (by decide)) (pv 0) (ad (pv 3) af))) (al (ay (d6 m_part_lines (hr.mono (by decide)) (pv 0) (ad (pv 3) af))))))))))))))))))))),?_⟩
 refine⟨_,rfl,p,C,dx,_,_,rfl,hk.self,R.cl,R.nl,fP,_,rfl,L,_,_,_,rfl,rfl,ak.of gL,hat,?_⟩
 refine⟨_,rfl,p,dx,_,rfl,hk.self,dY (by decide +kernel) (by decide +kernel) (by decide +kernel),_,rfl,_,_,_,_,rfl,rfl,ag.of hla,bD,p,dx,L,O,g,U,fs,on,.non,N,u1,x.1.1,a,k,rfl,hk,hu1,hin.1,hra,by omega,fun va H1 fs1 on1 f1 k1 hext1 hkeep1 hva=>?_⟩
 have t1:=hk.ts f1
 obtain⟨j1,hrb1⟩:=hkeep1.rch _ _ _ hrb
 refine⟨_,rfl,p,dx,_,rfl,k1.self,dY (by decide +kernel) (by decide +kernel) (by decide +kernel),_,rfl,_,_,_,_,rfl,rfl,ag.of (t1 _ _ hla),cx,p,dx,L,O,g,U,fs1,on1,.non,_,v1,x.1.2,b,j1,rfl,k1,hv1.mono t1,hin.2,hrb1,by omega,fun vb H2 fs2 on2 f2 k2 hext2 hkeep2 hvb=>?_⟩
 have hext:=hext1.trans hext2
 have hkeep:=hkeep1.trans hkeep2
 have f12:=f1.trans f2
 have hinv2:=hkeep.inv _ hinv
 obtain⟨k2',hra2⟩:=hkeep.rch _ _ _ hra
 obtain⟨j2',hrb2⟩:=hkeep.rch _ _ _ hrb
 have hna:=(hk.ok a haU).2
 refine⟨va,vb,a,b,rfl,hva.mono (k1.ts f2),hvb,by omega,fun bb H3 s3 hbb=>⟨_,rfl,bO (fun c=>?_) (fun c=>?_)⟩⟩
 ·have hab:a=b:=hbb.mp c
  subst hab
  refine⟨dz,fun l fl=>?_⟩
  have t4:=bz fl (HO.lst [])
  have f4:=f12.trans (.of (s3.trans t4))
  refine q l [] [] _ fs2 on2 .non f4 ((k2.same (s3.trans t4)).more (by omega)) hext ((k2.same s3).free (f12.trans (.of s3)) fl) au .nil (by simp) (.inl ⟨rfl,?_,?_⟩)
  ·rw[jG];exact hinv2.done hra2 hrb2
  ·rw[tP hkeep];simp
 have hab:a≠b:=fun z=>c (hbb.mpr z)
 have k3:=k2.same s3
 have f3:=f12.trans (.of s3)
 refine⟨_,rfl,p,dx,_,rfl,k3.self,dY (by decide +kernel) (by decide +kernel) (by decide +kernel),_,rfl,p,dx,L,O,g,U,fs2,on2,.non,_,n,x,a,b,k2',j2',rfl,k3,hext.get hx,hra2,hrb2,by omega,fun m z H4 fs4 on4 f4 k4 hext4 hkeep4 hz ez=>?_⟩
 have hextA:=hext.trans hext4
 have hkeepA:=hkeep.trans hkeep4
 have fA:=f3.trans f4
 have hinv4:=hkeepA.inv _ hinv
 obtain⟨k4',hra4⟩:=hkeepA.rch _ _ _ hra
 obtain⟨j4',hrb4⟩:=hkeepA.rch _ _ _ hrb
 obtain⟨ls4,gL4,hls4⟩:=k4.ls
 obtain⟨lb,y1,y2,r4,hat4,hlb,hr4,hy1,hy2⟩:=iI hls4 hz
 rw[ez]at hy1 hy2
 refine⟨_,rfl,p,C,dx,_,_,rfl,k4.self,R.cl,R.nl,fP,_,rfl,L,_,_,_,rfl,rfl,ak.of gL4,hat4,_,_,_,_,rfl,rfl,ag.of hlb,bD,?_⟩
 refine⟨_,rfl,p,C,dx,_,_,rfl,k4.self,R.cl,R.nl,fP,_,rfl,L,_,_,_,rfl,rfl,ak.of gL4,hat4,_,_,_,_,rfl,rfl,ag.of hlb,cx,?_⟩
 obtain⟨c1,xs1,kk1,rfl,e1,hB1,hT1⟩:=hy1.kind
 obtain⟨c2,xs2,kk2,rfl,e2,hB2,hT2⟩:=hy2.kind
 have ez1:z.1.1=a:=by rw[ez]
 have ez2:z.1.2=b:=by rw[ez]
 refine⟨_,rfl,_,_,_,_,rfl,rfl,ag.of e1,bD,rfl,_,rfl,bO (fun cB=>?_) (fun cB=>?_)⟩
 ·have nb:cX a=true:=hB1.mp (by simpa using cB)
  refine⟨_,rfl,p,dx,_,rfl,k4.self,dY (by decide +kernel) (by decide +kernel) (by decide +kernel),_,rfl,p,dx,L,O,g,U,fs4,on4,.non,_,m,z,rfl,k4,hz,by omega,fun H5 f5 k5=>?_⟩
  refine⟨dz,fun l fl=>?_⟩
  have t6:=bz fl (HO.lst [])
  refine q l [] [] _ fs4 _ .non ((fA.trans f5).trans (.of t6)) ((k5.same t6).more (by omega)) hextA (k5.free (fA.trans f5) fl) au .nil (by simp) (.inl ⟨rfl,?_,?_⟩)
  ·rw[jG,(k4.st.lead hz).2,ez1,ez2]
   exact hinv4.join hra4 hrb4 hab (.inl ⟨rfl,rfl⟩) (fun _ h=>h) (.inl nb)
  ·rw[(k4.st.lead hz).2,ez1,ez2,<-tP (U:=U) hkeepA]
   have:=xm (U:=U) (d:=b) hra4.end' haU
   simp only[zLN]
   omega
 have nba:cX a=false:=fH.mpr fun y=>cB (by simpa using hB1.mpr y)
 refine⟨_,rfl,_,_,_,_,rfl,rfl,ag.of e2,bD,rfl,_,rfl,bO (fun cC=>?_) (fun cC=>?_)⟩
 ·have nb:cX b=true:=hB2.mp (by simpa using cC)
  have hzU:=k4.st.inU z (zMG hz)
  refine⟨_,rfl,p,dx,_,rfl,k4.self,dY (by decide +kernel) (by decide +kernel) (by decide +kernel),_,rfl,p,dx,_,rfl,k4.self,dY (by decide +kernel) (by decide +kernel) (by decide +kernel),_,rfl,p,dx,L,O,g,U,fs4,on4,.non,_,m,z,rfl,k4,hz,by omega,fun H5 f5 k5=>?_⟩
  refine⟨p,dx,L,O,g,U,_,on4,.non,_,fs4.length,_,rfl,k5,lu _ _,by omega,fun H6 f6 k6=>?_⟩
  refine⟨dz,fun l fl=>?_⟩
  have t6:=bz fl (HO.lst [])
  have f46:=fA.trans (f5.trans f6)
  have e5:=(k4.st.add (xk (g:=g) hz) hzU.2 hzU.1).2
  have e6:=(k5.st.lead (lu _ _)).2
  refine q l [] [] _ _ _ .non (f46.trans (.of t6)) ((k6.same t6).more (by omega)) (hextA.trans .one) (k6.free f46 fl) au .nil (by simp) (.inl ⟨rfl,?_,?_⟩)
  ·rw[jG,e6,e5]
   simp only[ez1,ez2]
   exact hinv4.join hra4 hrb4 hab (.inr ⟨rfl,rfl⟩) (fun _ h=>h) (.inl nb)
  ·rw[e6,e5,<-tP (U:=U) hkeepA]
   simp only[ez1,ez2]
   have:=xm (U:=U) (d:=a) hrb4.end' hbU
   simp only[zLN]
   omega
 have nbb:cX b=false:=fH.mpr fun y=>cC (by simpa using hB2.mpr y)
 have hdd:=Eh a
 refine⟨_,rfl,_,a,rfl,hy1,fun w1 H5 s5 d1=>⟨_,rfl,_,b,rfl,hy2.mono (.of s5),fun w2 H6 s6 d2=>⟨d7 a,d7 b,d1.same s6,d2,(by show (A.deeper _).units+_<cLine;omega),fun b3 hb3=>⟨_,rfl,bO (fun cD=>?_) (fun cD=>?_)⟩⟩⟩⟩
 ·have hne:=hb3.mp cD
  have s56:=s5.trans s6
  have k6:=k4.same s56
  obtain⟨npL,npO,nLO⟩:=k6.ne
  refine⟨_,rfl,_,rfl,p,C,dx,_,rfl,k6.self,R.cl,R.nc,(by show 3<1000;decide),?_⟩
  rw[Ks]
  have k7:RK C p dx L O g U (ae H6 p (HO.ins C dx (eV L O (.int (m:Nat))))) fs4 on4 (.int (m:Nat)) (N+8 * U.length+100):=by
   have kk:=k6.more (M:=N+8 * U.length+100) (by omega)
   obtain⟨l6,g6,h6⟩:=kk.ls
   obtain⟨kv,g7,h7⟩:=kk.dic
   have kt:aV H6 (ae H6 p (HO.ins C dx (eV L O (.int (m:Nat))))):=fun bq ys y=>by rw[am (cy y kk.self (by intro z;cases z))];exact y
   exact⟨au,⟨l6,by rw[am npL.symm];exact g6,dX.mono kt h6⟩,⟨kv,by rw[am npO.symm];exact g7,h7⟩,kk.len,kk.st,kk.ok⟩
  have f7:cI p L O H (ae H6 p (HO.ins C dx (eV L O (.int (m:Nat))))):=fun bq o y h1 h2 h3=>by rw[am h1];exact s56 _ _ (fA _ _ y h1 h2 h3)
  generalize ae H6 p (HO.ins C dx (eV L O (.int (m:Nat))))=H7 at k7 f7 |-
  refine⟨dz,fun l fl=>?_⟩
  have t8:=bz fl (HO.lst [])
  exact q l [] [] _ fs4 on4 (.int (m:Nat)) (f7.trans (.of t8)) (k7.same t8) hextA (k7.free f7 fl) au .nil (by simp) (.inr ⟨m,z,rfl,hz,by rw[ez1,ez2];exact⟨nba,nbb,hne⟩⟩)
 ·have heq:d7 a=d7 b:=jn fun y=>cD (hb3.mpr y)
  obtain⟨w3,ps,qs,ea,eb,hlp⟩:∃w ps qs,a= .thing w ps/\b= .thing w qs/\ps.length=qs.length:=by
   rcases xI heq with y|y
   ·exact absurd y hab
   ·exact y
  have s56:=s5.trans s6
  have k6:=k4.same s56
  have f6:=fA.trans (.of s56)
  refine⟨_,rfl,p,dx,_,rfl,k6.self,dY (by decide +kernel) (by decide +kernel) (by decide +kernel),_,rfl,p,dx,L,O,g,U,fs4,on4,.non,_,m,z,rfl,k6,hz,by omega,fun H7 f7 k7=>?_⟩
  have hpn:ps.length<=90:=by
   have:=(hk.ok a haU).2
   have:=iD ps
   rw[ea]at *
   simp only[Tm.nodes]at *
   omega
  have f67:=f6.trans f7
  refine⟨_,rfl,p,dx,_,rfl,k7.self,dY (by decide +kernel) (by decide +kernel) (by decide +kernel),_,rfl,p,dx,L,O,g,U,fs4,_,.non,_,m,w3,ps,qs,z.2,rfl,k7,?_,hlp,by omega,fun y hy=>hcl w3 ps (ea▸haU) y hy,fun y hy=>hcl w3 qs (eb▸hbU) y hy,fun l ns H8 fs8 f8 k8 hext8 hnx8 fl gl hns=>?_⟩
  ·rw[hz,<-ea,<-eb,<-ez]
  ·refine q l ns (ps.zip qs).reverse H8 fs8 _ .non (f67.trans f8) (k8.more (by omega)) (hextA.trans hext8) (k7.free f67 fl) gl hns (by have:=Paired.length hns;rw[d3,pB]at this;omega) (.inl ⟨rfl,?_,?_⟩)
   ·rw[hnx8,(k4.st.lead hz).2,ez1,ez2]
    refine hinv4.join hra4 hrb4 hab (.inl ⟨rfl,rfl⟩) (fun _ h=>eJ _ h) (.inr ⟨w3,ps,qs,ea,eb,hlp,fun y hy=>.inl (eK _ (mU.mpr hy))⟩)
   ·rw[hnx8,(k4.st.lead hz).2,ez1,ez2,<-tP (U:=U) hkeepA]
    have:=xm (U:=U) (d:=b) hra4.end' haU
    rw[d3,pB]
    have ear:ar a=ps.length:=by rw[ea];rfl
    omega
inductive EB(C:Addr)(vs:List V)(H:Hp)(Q:VK):Prop
 |mk:∀(p dx L O:Addr)(g:Ln),(vs=[.ref p])->(RK C p dx L O g (bK g) H [(g,.giv)] (fun _=>none) .non 1)->(g.1.nodes+g.2.nodes<=80)->(∀H' fs' on' cl',cI p L O H H'->RK C p dx L O g (bK g) H' fs' on' cl' 60000->((cl'= .non/\dP g (bg fs' on') [])\/xR fs' cl')->Q .non H')->EB C vs H Q
def xT(C:Addr):Sp:=fun vs H Q _=>EB C vs H Q
theorem Lx{f:Addr}{fd:bd}(F:bw K "work_out" "Reckoning.work_out" nW f fd)(R:RG K C)(m_led_together:cU P w K mg base 6 C "led_together" ["self","number"] (xS C)):be P w K mg base bh 7 f fd ["self"] (xT C):=by
 refine F.ok xq (fun vs H Q E h=>?_) (fun cdv A outer s H vs Q E hr h=>?_)
 ·obtain⟨_,_,_,_,_,rfl,_⟩:=h
  rfl
 obtain⟨p,dx,L,O,g,rfl,hk,hsz,q⟩:=h
 have hUl:(bK g).length<=80:=by unfold bK;rw[zLA,hV,hV];exact hsz
 have hms:=Kr g
 apply aE;intro T1
 apply aE;intro T2
 apply aE;intro T3
 refine⟨_,(aj (az (i:=1) xq.nd (ca (ad ax af))) (aD T3 (al (iu cr (jq (nw (pv 1) (fun _=>rfl)) (jp (aF lO (ef (pv 0) rfl) d9 (aC _)))).pt (aD T2 (aj (az (i:=2) xq.nd (kQ ce kK kL kR (pv 1))) (aD T1 (al (cp (cE ce pD pE pT (pv 1) (ad (d6 m_led_together (hr.mono (by decide)) (pv 0) (ad (pv 2) af)) af))))))))))),?_⟩
 refine⟨gQ,fun lc flc=>?_⟩
 generalize e_:ae H lc (HO.lst [.int 0])=H1
 obtain⟨s1,x1⟩:=aM flc e_
 obtain⟨ls,gL,_⟩:=hk.ls
 have nlL:lc≠L:=fun z=>by rw[z,gL]at flc;cases flc
 have nx0:bg [(g,RI.giv)] (fun _=>none)=fun _=>none:=rfl
 refine⟨fun m σ HA=>∃(o2:Option V)(ns:List Nat)(pd:List Ln)(fs:List Lf)(on:On)(cl:V),σ=[some (.ref p),some (.ref lc),o2]/\m<=80/\cI p L O H HA/\HA lc=some (.lst (bE ns))/\ns.length<=1+(80 - m) * 90/\RK C p dx L O g (bK g) HA fs on cl (1+(80 - m) * 740)/\ic fs ns pd/\((cl= .non/\dP g (bg fs on) pd/\jc (bK g) (bg fs on)+pd.length<=m)\/xR fs cl),
  ⟨80,none,[0],[g],[(g,.giv)],fun _=>none,.non,rfl,aJ _,.of s1,x1,by simp,(hk.same s1).more (by omega),.cons ⟨_,rfl,rfl⟩ .nil,.inl ⟨rfl,by rw[nx0];exact dP.start g,by rw[nx0];simp;omega⟩⟩,?_⟩
 rintro m σ HA ⟨o2,ns,pd,fs,on,cl,rfl,hm80,fA,gA,hnl,kA,hns,hst⟩
 refine⟨_,rfl,_,.inl ⟨_,ak.of gA,rfl⟩,bO (fun c=>?_) (fun c=>bf ?_)⟩
 ·refine⟨_,rfl,p,C,dx,_,_,rfl,kA.self,R.cl,R.nc,tT,rfl,_,rfl,bO (fun c2=>⟨_,fun _ _ h=>h,?_⟩) (fun c2=>?_)⟩
  ·rcases hst with⟨rfl,hinv,hmeas⟩|⟨m0,z,rfl,_⟩
   ·have hne:ns≠[]:=by intro z;rw[z]at c;simp[bE]at c
    have hlen:=Paired.length hns
    obtain⟨ns0,n,rfl⟩:=iE hne
    obtain⟨pd0,p0,rfl⟩:=iE (l:=pd) (by intro z;rw[z]at hlen;simp at hlen)
    obtain⟨hns0,x,hx,ex⟩:=D0 hns
    have hm1:1<=m:=by rw[zLA]at hmeas;simp at hmeas;omega
    have enat:bE (ns0++[n])=bE ns0++[.int (n:Nat)]:=by simp[bE]
    rw[enat]at gA
    refine⟨_,rfl,.inl ⟨rfl,_,ak.of gA⟩,lc,_,.int (n:Nat),rfl,rfl,gA,by simp,?_⟩
    rw[lH]
    have kB:=kA.put (ys:=bE ns0) gA nlL
    have gB:ae HA lc (HO.lst (bE ns0)) lc=some _:=au
    have fB:cI p L O H (ae HA lc (HO.lst (bE ns0))):=fun b o y h1 h2 h3=>by rw[am (aN y flc)];exact fA _ _ y h1 h2 h3
    generalize ae HA lc (HO.lst (bE ns0))=HB at kB gB fB |-
    rw[<-ex]at hinv
    refine⟨_,rfl,.inl ⟨rfl,_,ak.of gB⟩,_,rfl,p,dx,_,rfl,kB.self,dY (by decide +kernel) (by decide +kernel) (by decide +kernel),_,rfl,p,dx,L,O,g,bK g,fs,on,_,n,x,pd0,rfl,kB,hx,hinv,fun w ps h q hq=>xn h hq,?_,fun l ns1 pdn HC fs' on' cl' fC kC hextC fl gl hns1 hnew hst'=>?_⟩
    ·have:(80 - m) * 740<=80 * 740:=jj _ (by omega)
     omega
    ·have gC:=kB.lst fC gB nlL
     have hpl:pdn.length<=90\/True:= .inr trivial
     have hn1:=Paired.length hns1
     have hlen1:=hnew
     have hlc:l≠lc:=fun z=>by rw[z,gB]at fl;cases fl
     refine⟨lc,l,bE ns0,bE ns1,rfl,rfl,gC,gl,eP (by simp only[bE,zLM];rw[zLA]at hnl;have:(80 - m) * 90<=80 * 90:=jj _ (by omega);omega),?_⟩
     have e1:(80 - (m - 1))=(80 - m)+1:=by omega
     refine⟨m - 1,by omega,_,ns0++ns1,pd0++pdn,fs',on',cl',rfl,by omega,fun b o y h1 h2 h3=>by rw[am (aN y flc)];exact fC _ _ (fB _ _ y h1 h2 h3) h1 h2 h3,by rw[au];simp[bE],?_,(kC.put gC nlL).more ?_,Kv (hextC.nums hns0) hns1,?_⟩
     ·rw[e1,jB,zLA]
      rw[zLA]at hnl
      simp only[zLC,zLN]at hnl
      omega
     ·rw[e1,jB]
      omega
     ·refine hst'.imp (fun⟨h1,h2,h3⟩=>⟨h1,h2,?_⟩) id
      rw[zLA]at hmeas |-
      simp only[zLC,zLN]at hmeas
      omega
   ·simp at c2
  ·refine q HA fs on cl fA (kA.more ?_) (.inr ?_)
   ·have:(80 - m) * 740<=80 * 740:=jj _ (by omega)
    omega
   ·rcases hst with⟨rfl,_⟩|z
    ·simp at c2
    ·exact z
 ·refine q HA fs on cl fA (kA.more ?_) (hst.imp (fun⟨h1,h2,_⟩=>⟨h1,?_⟩) id)
  ·have:(80 - m) * 740<=80 * 740:=jj _ (by omega)
   omega
  ·have e0:ns=[]:=by
        cases ns with
        |nil=>rfl
        |cons a b=>exact absurd (by simp[bE]) c
   subst e0
   have hlen:=Paired.length hns
   have e1:pd=[]:=kJ.mp hlen.symm
   subst e1
   exact h2
end
end K07
namespace BF
open PySem PySem.Spec PyProof.Rows L2
section
variable{X:Cx}{e e1 e2:Expr}{es:List Expr}{t:TA}{te te1 te2:TE}{pos:Pos}
end
end BF
namespace K07
open PySem L2 BF
section
variable{P:aP}{w:aH}{K:aB}{mg:ac->Option aa}{base:aA}
theorem ut{H:Hp}{vs:List V}{ts:List Tm}(h:aT H vs ts):aT H vs.reverse ts.reverse:=by
 induction ts generalizing vs with
 |nil=>have:=h.len;rw[kJ.mp this];exact .nil
 |cons t r ih=>
  simp only[aT,dq,bX]at h
  obtain⟨v,us,rfl,h1,h2⟩:=h
  rw[gU,gU]
  exact(ih h2).app (.cons h1 .nil)
inductive EC(vs:List V)(H:Hp)(Q:VK):Prop
 |mk:∀(v:V)(t:Tm),(vs=[v])->(aw H v t)->(t.nodes<=5000000)->(∀l us H',aq H H'->H l=none->H' l=some (.lst us)->aT H' us t.lp->Q (.ref l) H')->EC vs H Q
def uu:Sp:=fun vs H Q _=>EC vs H Q
theorem Ly{f:Addr}{fd:bd}(F:bw K "all_parts" "all_parts" nM f fd)(T:Bi mg):be P w K mg base bh 1 f fd ["term"] uu:=by
 refine F.ok tV (fun vs H Q E h=>?_) (fun cdv A outer s H vs Q E hr h=>?_)
 ·obtain⟨_,_,rfl,_⟩:=h
  rfl
 obtain⟨v,t,rfl,ht,hn,q⟩:=h
 apply aE;intro T1
 apply aE;intro T2
 apply aE;intro T3
 apply aE;intro T4
 apply aE;intro T5
 apply aE;intro T6
 refine⟨_,(aj (az (i:=1) tV.nd (ca af)) (aD T6 (aj (az (i:=2) tV.nd (ca (ad (pv 0) af))) (aD T5 (aj (iu cr (nw (pv 2) (fun _=>rfl)) (aD T4 (aj (az (i:=3) tV.nd (kQ ce kK kL kR (pv 2))) (aD T3 (aj (cp (cE ce dk dl dg (pv 1) (ad (pv 3) af))) (aD T2 (al (aK (aF bM (ao (pv 3)) aO (aC _)) (aD T1 (al (cp (cE ce pD pE pT (pv 2) (ad (Jh T.b_list T.b_reversed (ao (pv 3))) af))))) aU)))))))) (al (ay (pv 1)))))))),?_⟩
 refine⟨dz,fun p1 hp1=>?_⟩
 generalize e_:ae H p1 (HO.lst [])=H1
 obtain⟨s1,x1⟩:=aM hp1 e_
 refine⟨_,rfl,gQ,fun p2 hp2=>?_⟩
 have s2:=bz hp2 (HO.lst [v])
 have x2:ae H1 p2 (HO.lst [v]) p2=some _:=au
 have n12:p1≠p2:=aN x1 hp2
 have f2:H p2=none:=s1.free hp2
 generalize ae H1 p2 (HO.lst [v])=H2 at s2 x2 |-
 refine⟨fun m σ H3=>∃(o:Option V)(rs us:List V)(done ts:List Tm),σ=[some v,some (.ref p1),some (.ref p2),o]/\aq H H3/\H3 p1=some (.lst rs)/\aT H3 rs done/\H3 p2=some (.lst us)/\aT H3 us ts/\
  aX ts=m/\done++eE ts.reverse=t.lp/\done.length+m<=t.nodes,
  ⟨_,none,[],[v],[],[t],rfl,s1.trans s2,s2 _ _ x1,.nil,x2,.cons (ht.mono (.of (s1.trans s2))) .nil,rfl,by simp[eE],by simp[aX]⟩,?_⟩
 rintro m σ H3 ⟨o,rs,us,done,ts,rfl,s3,g1,hrs,g2,hus,hm,hout,hsz⟩
 refine⟨_,rfl,_,.inl ⟨us,ak.of g2,rfl⟩,bO (fun c=>⟨_,fun _ _ h=>h,?_⟩) (fun c=>?_)⟩
 ·
  have hne:us≠[]:=by intro z;rw[z]at c;exact absurd c (by decide)
  have hlen:=hus.len
  obtain⟨us0,u,rfl⟩:=iE hne
  obtain⟨ts0,t1,rfl⟩:=iE (l:=ts) (by intro z;rw[z]at hlen;simp at hlen)
  obtain⟨h0,hu1⟩:=hus.snoc
  rw[iT]at hm
  simp only[aX]at hm
  rw[lF]at hout
  simp only[gU,List.reverse_nil,iq,vh,eE]at hout
  have hl0:=iD ts0
  have hu0:=h0.len
  have hr0:=hrs.len
  have hn1:=t1.nodes_pos
  refine⟨_,rfl,.inl ⟨rfl,_,ak.of g2⟩,p2,_,u,rfl,rfl,g2,by simp,?_⟩
  rw[lH]
  have k4:aV H3 (ae H3 p2 (HO.lst us0)):= .lst g2
  have x4:ae H3 p2 (HO.lst us0) p2=some _:=au
  have y4:ae H3 p2 (HO.lst us0) p1=some (.lst rs):=by rw[am n12];exact g1
  have s4:aq H (ae H3 p2 (HO.lst us0)):=fun b ob z=>by rw[am (aN z f2)];exact s3 _ _ z
  generalize ae H3 p2 (HO.lst us0)=H4 at k4 x4 y4 s4 |-
  refine⟨_,rfl,.inl ⟨rfl,_,ak.of y4⟩,_,rfl,p1,_,_,rfl,rfl,y4,big (by omega),?_⟩
  have k5:aV H4 (ae H4 p1 (HO.lst (rs++[u]))):= .lst y4
  have x5:ae H4 p1 (HO.lst (rs++[u])) p1=some _:=au
  have y5:ae H4 p1 (HO.lst (rs++[u])) p2=some (.lst us0):=by rw[am n12.symm];exact x4
  have s5:aq H (ae H4 p1 (HO.lst (rs++[u]))):=fun b ob z=>by rw[am (aN z hp1)];exact s4 _ _ z
  generalize ae H4 p1 (HO.lst (rs++[u]))=H5 at k5 x5 y5 s5 |-
  have h5:=(h0.mono k4).mono k5
  have ht1:=(hu1.mono k4).mono k5
  have hd5:aT H5 (rs++[u]) (done++[t1]):=((hrs.mono k4).mono k5).app (.cons ht1 .nil)
  cases t1 with
  |num n=>
   obtain⟨a,rfl,e1⟩:=fm.mp ht1
   refine⟨_,rfl,_,_,_,_,rfl,rfl,ag.of e1,rfl,rfl,_,rfl,bj ?_⟩
   exact⟨aX ts0,by omega,_,_,us0,_,ts0,rfl,s5,x5,hd5,y5,h5,rfl,by simpa[Tm.lp]using hout,by rw[zLA];simp only[zLC,zLN];omega⟩
  |name n=>
   obtain⟨a,rfl,e1⟩:=eD.mp ht1
   refine⟨_,rfl,_,_,_,_,rfl,rfl,ag.of e1,rfl,rfl,_,rfl,bj ?_⟩
   exact⟨aX ts0,by omega,_,_,us0,_,ts0,rfl,s5,x5,hd5,y5,h5,rfl,by simpa[Tm.lp]using hout,by rw[zLA];simp only[zLC,zLN];omega⟩
  |blank n=>
   obtain⟨a,rfl,e1⟩:=dU.mp ht1
   refine⟨_,rfl,_,_,_,_,rfl,rfl,ag.of e1,rfl,rfl,_,rfl,bj ?_⟩
   exact⟨aX ts0,by omega,_,_,us0,_,ts0,rfl,s5,x5,hd5,y5,h5,rfl,by simpa[Tm.lp]using hout,by rw[zLA];simp only[zLC,zLN];omega⟩
  |thing n qs=>
   obtain⟨a,b,pv,rfl,e1,e2,e3⟩:=dr.mp ht1
   have hpl:=e3.len
   have hpn:=iD qs
   simp only[Tm.nodes]at hm
   refine⟨_,rfl,_,_,_,_,rfl,rfl,ag.of e1,rfl,rfl,_,rfl,cZ ?_⟩
   refine⟨_,rfl,.inl ⟨rfl,_,ak.of y5⟩,_,rfl,_,_,_,_,rfl,rfl,ag.of e1,rfl,b,pv,rfl,ag.of e2,fun l hl=>?_⟩
   generalize e_:ae H5 l (HO.lst pv.reverse)=H6
   obtain⟨s6,x6⟩:=aM hl e_
   refine⟨p2,l,us0,pv.reverse,rfl,rfl,s6 _ _ y5,x6,eP (by rw[d3];omega),?_⟩
   have k7:aV H6 (ae H6 p2 (HO.lst (us0++pv.reverse))):= .lst (s6 _ _ y5)
   refine⟨aX ts0+aX qs,by omega,_,_,us0++pv.reverse,_,ts0++qs.reverse,rfl,fun b' ob z=>by rw[am (aN z f2)];exact s6 _ _ (s5 _ _ z),by rw[am n12];exact s6 _ _ x5,aT.mono k7 (hd5.mono (.of s6)),au,
        aT.mono k7 ((h5.mono (.of s6)).app (ut (e3.mono (.of s6)))),by rw[iT,Iu],?_,by rw[zLA];simp only[zLC,zLN];omega⟩
   rw[lF,List.reverse_reverse,JB,<-hout]
   simp[Tm.lp]
 ·have e:us=[]:=by
   cases us with
   |nil=>rfl
   |cons a b=>exact absurd rfl c
  subst e
  have hlen:=hus.len
  have e:ts=[]:=kJ.mp hlen.symm
  subst e
  have e2:done=t.lp:=by simpa[eE]using hout
  refine⟨_,rfl,?_⟩
  exact q p1 rs H3 s3 hp1 g1 (by rw[<-e2];exact hrs)
inductive ED(vs:List V)(H:Hp)(Q:VK):Prop
 |mk:∀(p:Addr)(us:List V)(n:Nat),(vs=[.ref p,.int n])->(H p=some (.lst us))->(n<=us.length)->(us.length<=1000)->(∀l H',wT p H H'->H l=none->H' p=some (.lst (us.take (us.length - n)))->H' l=some (.lst (us.drop (us.length - n)).reverse)->Q (.ref l) H')->ED vs H Q
def xU:Sp:=fun vs H Q _=>ED vs H Q
theorem Lz{f:Addr}{fd:bd}(F:bw K "taken" "taken" nQ f fd)(T:Bi mg):be P w K mg base bh 1 f fd ["made","count"] xU:=by
 refine F.ok D3 (fun vs H Q E h=>?_) (fun cdv A outer s H vs Q E hr h=>?_)
 ·obtain⟨_,_,_,rfl,_⟩:=h
  rfl
 obtain⟨p,us,n,rfl,hp,hn,hsz,q⟩:=h
 apply aE;intro T1
 apply aE;intro T2
 refine⟨_,(aj (az (i:=2) D3.nd (ca af)) (aD T2 (aj (iu cr (aF lN (bc cm T.b_len cj (ad (pv 2) af)) (pv 1) (aC _)) (aD T1 (al (cp (cE ce dk dl dg (pv 2) (ad (kQ ce kK kL kR (pv 0)) af)))))) (al (ay (pv 2)))))),?_⟩
 refine⟨dz,fun l hl=>?_⟩
 have npl:p≠l:=aN hp hl
 refine⟨fun m σ H3=>∃j:Nat,j<=n/\m=n - j/\σ=[some (.ref p),some (.int n),some (.ref l)]/\wT p H H3/\H3 p=some (.lst (us.take (us.length - j)))/\H3 l=some (.lst (us.drop (us.length - j)).reverse),
  ⟨_,0,cP _,rfl,rfl,fun b o _ z=>bz hl _ _ _ z,by rw[am npl];simpa using hp,by rw[au];simp⟩,?_⟩
 rintro m σ H3 ⟨j,hj,rfl,rfl,sx,g1,g2⟩
 have hjl:((us.drop (us.length - j)).reverse).length=j:=by rw[d3,dD];omega
 refine⟨_,rfl,l,_,rfl,.inl (ak.of g2),_,rfl,_,_,rfl,rfl,_,rfl,bO (fun c=>⟨_,fun _ _ h=>h,?_⟩) (fun c=>?_)⟩
 ·have c':j<n:=by
   have:=of_decide_eq_true c
   rw[hjl]at this
   omega
  obtain⟨y,hy⟩:∃y,us[us.length - j - 1]?=some y:=⟨_,zGE (by omega)⟩
  have hlast:(us.take (us.length - j))[(us.take (us.length - j)).length - 1]?=some y:=by
   have e:(us.take (us.length - j)).length - 1=us.length - j - 1:=by rw[zLT];omega
   rw[e,zl (by omega)]
   exact hy
  have hdl:(us.take (us.length - j)).dropLast=us.take (us.length - (j+1)):=by
   rw[List.dropLast_eq_take,List.take_take,zLT]
   congr 1
   omega
  refine⟨_,rfl,.inl ⟨rfl,_,ak.of g2⟩,_,rfl,.inl ⟨rfl,_,ak.of g1⟩,p,_,y,rfl,rfl,g1,hlast,?_⟩
  rw[hdl]
  have x4:ae H3 p (HO.lst (us.take (us.length - (j+1)))) p=some _:=au
  have y4:ae H3 p (HO.lst (us.take (us.length - (j+1)))) l=some (.lst (us.drop (us.length - j)).reverse):=by rw[am npl.symm];exact g2
  have s4:wT p H (ae H3 p (HO.lst (us.take (us.length - (j+1))))):=fun b o hb z=>by rw[am hb];exact sx b o hb z
  generalize ae H3 p (HO.lst (us.take (us.length - (j+1))))=H4 at x4 y4 s4 |-
  refine⟨l,_,y,rfl,rfl,y4,big (by rw[hjl];omega),n - (j+1),by omega,j+1,by omega,rfl,rfl,fun b o hb z=>?_,by rw[am npl];exact x4,?_⟩
  ·rw[am (aN z hl)]
   exact s4 b o hb z
  ·rw[au]
   have e:us.drop (us.length - (j+1))=y::us.drop (us.length - j):=by
        have h1:us.length - (j+1)<us.length:=by omega
        rw[rE h1]
        have h2:us.length - (j+1)+1=us.length - j:=by omega
        rw[h2]
        congr 1
        have h3:us.length - j - 1=us.length - (j+1):=by omega
        rw[h3,zGE h1]at hy
        exact cQ hy
   rw[e,gU]
 ·have c':¬j<n:=by
   intro z
   refine c (decide_eq_true ?_)
   rw[hjl]
   omega
  have e:j=n:=by omega
  subst e
  exact⟨_,rfl,q l H3 sx hl g1 g2⟩
inductive EE(vs:List V)(H:Hp)(Q:VK):Prop
 |mk:∀(v:V)(t:Tm)(d:Addr)(kvs:List (Key×V))(f:Fl),(vs=[v,.ref d])->(aw H v t)->(t.nodes<=200)->(H d=some (.dK kvs))->(mi H kvs f)->(∀v' H',aq H H'->aw H' v' (t.fill f)->Q v' H')->EE vs H Q
def uv:Sp:=fun vs H Q _=>EE vs H Q
theorem LA{f0:Addr}{fd:bd}(F:bw K "replaced" "replaced" mr f0 fd)(T:Bi mg)(c_all_parts:aG P w K mg base 1 "all_parts" ["term"] uu)(c_taken:aG P w K mg base 1 "taken" ["made","count"] xU):
 be P w K mg base bh 2 f0 fd ["term","terms"] uv:=by
 refine F.ok tW (fun vs H Q E h=>?_) (fun cdv A outer s H vs Q E hr h=>?_)
 ·obtain⟨_,_,_,_,_,rfl,_⟩:=h
  rfl
 obtain⟨v,t,d,kvs,f,rfl,ht,hn,hd,hD,q⟩:=h
 have hu:(A.deeper (gG "replaced" (av mr) s.heap.objs.size f0 cdv)).units+1<cLine:=by have:=hr.un;omega
 apply aE;intro T1
 apply aE;intro T2
 apply aE;intro T3
 apply aE;intro T4
 apply aE;intro T5
 apply aE;intro T6
 apply aE;intro T7
 refine⟨_,(aj (az (i:=2) tW.nd (ca af)) (aD T7 (aj (dM cr rfl (C0 rfl T.b_reversed (ad (aY c_all_parts (hr.mono (by decide)) (ad (pv 0) af)) af)) (cn (i:=3) tW.nd rfl (Or.inl rfl)) (aD T6 (al (aK (aF bM (ao (pv 3)) aO (aC _)) (aD T4 (aj (az (i:=4) tW.nd (aY c_taken (hr.mono (by decide)) (ad (pv 2) (ad (bc cm T.b_len cj (ad (ao (pv 3)) af)) af)))) (aD T1 (al (cp (cE ce dk dl dg (pv 2) (ad (bN (ad aO (ad (ao (pv 3)) (ad (gM nA T.b_tuple fM (ad (pv 4) af)) af)))) af))))))) (aD T5 (al (aK (aF bM (ao (pv 3)) aO (aC _)) (aD T2 (al (cp (cE ce dk dl dg (pv 2) (ad (BU hu (pv 1) (ao (pv 3)) (pv 3) ⟨rfl,rfl,rfl,rfl⟩) af))))) (aD T3 (al (cp (cE ce dk dl dg (pv 2) (ad (pv 3) af)))))))))))) (al (ay (bG bV (pv 2) ax (fun _ _=>rfl))))))),?_⟩
 refine⟨dz,fun p hp=>?_⟩
 generalize e_:ae H p (HO.lst [])=H1
 obtain⟨s1,x1⟩:=aM hp e_
 refine⟨_,rfl,v,t,rfl,ht.mono (.of s1),by omega,fun l us H2 s2 fl hl hus=>?_⟩
 have npl:p≠l:=aN x1 fl
 have hfl:H l=none:=s1.free fl
 have hul:=hus.len
 have hll:=Dg t
 have hlen:us.length=t.nodes:=by omega
 refine⟨l,us,rfl,ak.of hl,let I1:Nat->L2.St->Hp->Prop:=(fun i σ H3=>∃(o3 o4:Option V)(ms:List V)(made:List Tm),σ=[some v,some (.ref d),some (.ref p),o3,o4]/\aq H H3/\H3 l=some (.lst us)/\aT H3 us t.lp/\H3 p=some (.lst ms)/\aT H3 ms made/\
  made=iG f [] (t.lp.reverse.take i)/\cF made.length (t.lp.reverse.drop i)/\made.length<=i);C1 (K:=K) (a:=l) (xs:=us) I1
  ⟨none,none,[],[],rfl,s1.trans s2,hl,hus,s2 _ _ x1,.nil,by simp[iG],by simpa using JH t,aJ _⟩ (fun i σ H3 _ hI=>by obtain⟨_,_,_,_,_,_,g,_⟩:=hI;exact ak.of g) ?_ ?_⟩
 ·rintro i x σ H3 hx ⟨o3,o4,ms,made,rfl,s3,gl,gus,gp,gms,hmade,hfit,hml⟩
  have hi:i<us.length:=by have:=(bI.mp hx).1;simpa using this
  have hir:i<t.lp.reverse.length:=by rw[d3];omega
  have hxt:aw H3 x (t.lp.reverse[i]):=by
   have h1:=(ut gus).at i (by rw[d3];exact hi) hir
   have h2:us.reverse[i]'(by rw[d3];exact hi)=x:=(bI.mp hx).2
   rw[h2]at h1
   exact h1
  have hrun:iG f [] (t.lp.reverse.take (i+1))=wP f made (t.lp.reverse[i]):=by
   rw[zTS hir,tz,<-hmade]
   rfl
  rw[rE hir]at hfit
  have gd:H3 d=some (.dK kvs):=s3 _ _ hd
  have gD:mi H3 kvs f:=hD.mono (.of s3)
  have gml:=gms.len
  generalize hpt:t.lp.reverse[i]=pt at hxt hrun hfit
  cases pt with
  |num n=>
   obtain⟨a,rfl,e1⟩:=fm.mp hxt
   refine⟨_,rfl,_,_,_,_,rfl,rfl,ag.of e1,rfl,rfl,_,rfl,bj ?_⟩
   refine⟨_,rfl,_,_,_,_,rfl,rfl,ag.of e1,rfl,rfl,_,rfl,bj ?_⟩
   refine⟨_,rfl,.inl ⟨rfl,_,ak.of gp⟩,_,rfl,p,_,_,rfl,rfl,gp,big (by omega),?_⟩
   have k4:aV H3 (ae H3 p (HO.lst (ms++[.ref a]))):= .lst gp
   refine⟨_,_,_,made++[.num n],rfl,fun b ob z=>by rw[am (aN z hp)];exact s3 _ _ z,by rw[am npl.symm];exact gl,gus.mono k4,au,aT.mono k4 (gms.app (.cons hxt .nil)),by rw[hrun];rfl,by simpa[cF]using hfit,by simp;omega⟩
  |name n=>
   obtain⟨a,rfl,e1⟩:=eD.mp hxt
   refine⟨_,rfl,_,_,_,_,rfl,rfl,ag.of e1,rfl,rfl,_,rfl,bj ?_⟩
   refine⟨_,rfl,_,_,_,_,rfl,rfl,ag.of e1,rfl,rfl,_,rfl,bj ?_⟩
   refine⟨_,rfl,.inl ⟨rfl,_,ak.of gp⟩,_,rfl,p,_,_,rfl,rfl,gp,big (by omega),?_⟩
   have k4:aV H3 (ae H3 p (HO.lst (ms++[.ref a]))):= .lst gp
   refine⟨_,_,_,made++[.name n],rfl,fun b ob z=>by rw[am (aN z hp)];exact s3 _ _ z,by rw[am npl.symm];exact gl,gus.mono k4,au,aT.mono k4 (gms.app (.cons hxt .nil)),by rw[hrun];rfl,by simpa[cF]using hfit,by simp;omega⟩
  |blank n=>
   obtain⟨a,rfl,e1⟩:=dU.mp hxt
   refine⟨_,rfl,_,_,_,_,rfl,rfl,ag.of e1,rfl,rfl,_,rfl,bj ?_⟩
   refine⟨_,rfl,_,_,_,_,rfl,rfl,ag.of e1,rfl,rfl,_,rfl,cZ ?_⟩
   obtain⟨u,hu',htu⟩:∃u,(bQ kvs (Sum.inr n)).getD (.ref a)=u/\aw H3 u ((look f n).getD (.blank n)):=by
        refine⟨_,rfl,?_⟩
        cases e:look f n with
        |none=>rw[(gD n).1 e];exact hxt
        |some t'=>
         obtain⟨v',h1,h2⟩:=(gD n).2 t' e
         rw[h1]
         exact h2
   refine⟨_,rfl,.inl ⟨rfl,_,ak.of gp⟩,_,rfl,d,rfl,.inl ⟨kvs,.inl gd⟩,_,rfl,_,_,_,_,rfl,rfl,ag.of e1,rfl,_,rfl,_,db.k (k:=Sum.inr n) gd,?_⟩
   rw[hu']
   refine⟨p,_,_,rfl,rfl,gp,big (by omega),?_⟩
   have k4:aV H3 (ae H3 p (HO.lst (ms++[u]))):= .lst gp
   refine⟨_,_,_,made++[(look f n).getD (.blank n)],rfl,fun b ob z=>by rw[am (aN z hp)];exact s3 _ _ z,by rw[am npl.symm];exact gl,gus.mono k4,au,aT.mono k4 (gms.app (.cons htu .nil)),by rw[hrun];rfl,by simpa[cF]using hfit,by simp;omega⟩
  |thing n qs=>
   obtain⟨a,b,pv,rfl,e1,e2,e3⟩:=dr.mp hxt
   have hpl:=e3.len
   simp only[cF]at hfit
   obtain⟨hf1,hf2⟩:=hfit
   refine⟨_,rfl,_,_,_,_,rfl,rfl,ag.of e1,rfl,rfl,_,rfl,cZ ?_⟩
   refine⟨_,rfl,_,rfl,_,_,_,_,rfl,rfl,ag.of e1,rfl,b,pv,rfl,.inr (ag.of e2),p,ms,pv.length,rfl,gp,by omega,by omega,fun l2 H4 sx fl2 h4p h4l=>?_⟩
   have e4:ms.length - pv.length=made.length - qs.length:=by omega
   rw[e4]at h4p h4l
   have k4:aV H3 H4:=fun b' ys z=>sx b' _ (cy z gp (by intro z;cases z)) z
   have s4:aq H H4:=fun b' ob z=>sx b' ob (aN z hp) (s3 _ _ z)
   have g4l:H4 l=some (.lst us):=sx _ _ npl.symm gl
   have t4:aT H4 ms made:=gms.mono k4
   have tk4:=t4.takeN (made.length - qs.length)
   have dr4:=ut (t4.dropN (made.length - qs.length))
   refine⟨_,rfl,.inl ⟨rfl,_,ak.of h4p⟩,_,rfl,_,_,_,_,rfl,rfl,ag.of (k4 _ _ e1),rfl,_,rfl,l2,_,rfl,.inl ⟨ak.of h4l,fun b2 hb2=>?_⟩⟩
   generalize e_:ae H4 b2 (HO.tup (ms.drop (made.length - qs.length)).reverse)=H5
   obtain⟨s5,x5⟩:=aM hb2 e_
   refine⟨gv,fun g hg=>?_⟩
   generalize e_:ae H5 g (HO.tup [.str "thing",.str n,.ref b2])=H6
   obtain⟨s6,x6⟩:=aM hg e_
   have up:=s5.trans s6
   have g6p:=up _ _ h4p
   refine⟨p,_,_,rfl,rfl,g6p,big (by rw[zLT];omega),?_⟩
   have k7:aV H6 (ae H6 p (HO.lst (ms.take (made.length - qs.length)++[.ref g]))):= .lst g6p
   refine⟨_,_,_,made.take (made.length - qs.length)++[.thing n (made.drop (made.length - qs.length)).reverse],rfl,fun b' ob z=>by rw[am (aN z hp)];exact up _ _ (s4 _ _ z),by rw[am npl.symm];exact up _ _ g4l,((gus.mono k4).mono (.of up)).mono k7,au,
        aT.mono k7 ((tk4.mono (.of up)).app (.cons (dr.mpr ⟨g,b2,_,rfl,x6,s6 _ _ x5,dr4.mono (.of up)⟩) .nil)),by rw[hrun];rfl,?_,by simp only[zLA,zLT,zLC,zLN];omega⟩
   have e5:(made.take (made.length - qs.length)++[Tm.thing n (made.drop (made.length - qs.length)).reverse]).length=made.length - qs.length+1:=by
        simp only[zLA,zLT,zLC,zLN];omega
   rw[e5]
   exact hf2
 ·rintro σ H3 ⟨o3,o4,ms,made,rfl,s3,gl,gus,gp,gms,hmade,hfit,hml⟩
  have e:made=[t.fill f]:=by
   rw[hmade,dL (by rw[d3];omega),JE]
   rfl
  subst e
  have gml:=gms.len
  match ms,gml,gms,gp with
  |[u],_,gms,gp=>
   refine⟨_,rfl,p,_,_,u,rfl,rfl,ak.of gp,rfl,?_⟩
   exact q u H3 s3 (gms.at 0 (by simp) (by simp))
inductive EF(vs:List V)(H:Hp)(Q:VK):Prop
 |mk:∀(v:V)(t:Tm),(vs=[v])->(aw H v t)->(t.nodes<=5000000)->(∀l H',aq H H'->H' l=some (.lst (t.firsts.map V.str))->Q (.ref l) H')->EF vs H Q
def mK:Sp:=fun vs H Q _=>EF vs H Q
def wd(acc:List ac):List (Key×V):=acc.map fun x=>(Sum.inr x,V.bl true)
theorem EG(acc:List ac)(x:ac):((wd acc).any fun kv=>decide (kv.1=Sum.inr x))=true↔x∈acc:=by
 simp only[wd,List.any_map,ve,vW,decide_eq_true_eq,Sum.inr.injEq]
 constructor
 ·rintro⟨y,h1,rfl⟩;exact h1
 ·intro h;exact⟨x,h,rfl⟩
theorem LB(acc:List ac)(x:ac):cS (wd acc) (Sum.inr x) (V.bl true)=wd (if x∈acc then acc else acc++[x]):=by
 unfold cS
 by_cases h:x∈acc
 ·rw[if_pos ((EG acc x).mpr h),if_pos h]
  unfold wd
  rw[lG]
  refine mW fun y _=>?_
  simp only[vW]
  split<;>rfl
 ·rw[if_neg (fun z=>h ((EG acc x).mp z)),if_neg h]
  simp[wd]
theorem LC{f:Addr}{fd:bd}(F:bw K "blanks_of" "blanks_of" mq f fd)(T:Bi mg)(c_all_parts:aG P w K mg base 1 "all_parts" ["term"] uu):be P w K mg base bh 2 f fd ["term"] mK:=by
 refine F.ok xo (fun vs H Q E h=>?_) (fun cdv A outer s H vs Q E hr h=>?_)
 ·obtain⟨_,_,rfl,_⟩:=h
  rfl
 obtain⟨v,t,rfl,ht,hn,q⟩:=h
 have hu:(A.deeper (gG "blanks_of" (av mq) s.heap.objs.size f cdv)).units+1<cLine:=by have:=hr.un;omega
 apply aE;intro T1
 apply aE;intro T2
 refine⟨_,(aj (az (i:=1) xo.nd pX) (aD T2 (aj (dM cr rfl (fi (aY c_all_parts (hr.mono (by decide)) (ad (pv 0) af))) (cn (i:=2) xo.nd rfl (Or.inl rfl)) (aD T1 (al (aK (aF bM (ao (pv 2)) aO (aC _)) (al (pW hu (pv 1) (ao (pv 2)) bU rfl)) aU)))) (al (ay (Jg T.b_list (ad (pv 1) af))))))),?_⟩
 refine fun p1 hp1=>?_
 generalize e_:ae H p1 (HO.dK [])=H1
 obtain⟨s1,x1⟩:=aM hp1 e_
 refine⟨_,rfl,v,t,rfl,ht.mono (.of s1),hn,fun l us H2 s2 fl hl hus=>?_⟩
 have n1l:p1≠l:=aN x1 fl
 have hul:=hus.len
 have hll:=Dg t
 refine⟨l,rfl,⟨_,ak.of hl⟩,let I1:Nat->L2.St->Hp->Prop:=(fun i σ H3=>∃(o:Option V)(acc:List ac),σ=[some v,some (.ref p1),o]/\aq H H3/\aV H2 H3/\H3 l=some (.lst us)/\H3 p1=some (.dK (wd acc))/\acc=eT [] ((t.lp.take i).flatMap Tm.b1)/\acc.length<=i);iw (K:=K) (a:=l) (xs:=us) I1
  ⟨none,[],rfl,s1.trans s2,.refl _,hl,s2 _ _ x1,rfl,aJ _⟩ (fun i σ H3 _ hI=>by obtain⟨_,_,_,_,_,g,_⟩:=hI;exact ak.of g) ?_ ?_⟩
 ·rintro i x σ H3 hx ⟨o,acc,rfl,s3,k3,gl,g1,hacc,hal⟩
  have hi:i<us.length:=(bI.mp hx).1
  have hi':i<t.lp.length:=by omega
  have hxt:aw H3 x (t.lp[i]):=by
   have h1:=(hus.mono k3).at i hi hi'
   rw[(bI.mp hx).2]at h1
   exact h1
  have hstep:eT [] ((t.lp.take (i+1)).flatMap Tm.b1)=eT acc (t.lp[i]).b1:=by
   rw[zTS hi',mV,Db,<-hacc]
   simp
  generalize t.lp[i]=pt at hxt hstep
  cases pt with
  |num n=>
   obtain⟨a,rfl,e1⟩:=fm.mp hxt
   refine⟨_,rfl,_,_,_,_,rfl,rfl,ag.of e1,rfl,rfl,_,rfl,bj ?_⟩
   exact⟨_,acc,rfl,s3,k3,gl,g1,by rw[hstep];rfl,by omega⟩
  |name n=>
   obtain⟨a,rfl,e1⟩:=eD.mp hxt
   refine⟨_,rfl,_,_,_,_,rfl,rfl,ag.of e1,rfl,rfl,_,rfl,bj ?_⟩
   exact⟨_,acc,rfl,s3,k3,gl,g1,by rw[hstep];rfl,by omega⟩
  |thing n qs=>
   obtain⟨a,b,pv,rfl,e1,e2,e3⟩:=dr.mp hxt
   refine⟨_,rfl,_,_,_,_,rfl,rfl,ag.of e1,rfl,rfl,_,rfl,bj ?_⟩
   exact⟨_,acc,rfl,s3,k3,gl,g1,by rw[hstep];rfl,by omega⟩
  |blank n=>
   obtain⟨a,rfl,e1⟩:=dU.mp hxt
   refine⟨_,rfl,_,_,_,_,rfl,rfl,ag.of e1,rfl,rfl,_,rfl,cZ ?_⟩
   refine⟨_,rfl,_,rfl,_,_,_,_,rfl,rfl,ag.of e1,rfl,p1,_,rfl,jV.k (k:=Sum.inr n) g1 ?_,?_⟩
   ·simp only[wd,zLM];exact eX (show acc.length<6000000 by omega) (by decide)
   rw[LB]
   have k5:aV H3 (ae H3 p1 (HO.dK (wd (if n∈acc then acc else acc++[n])))):=fun b ys z=>by rw[am (cy z g1 (by intro z;cases z))];exact z
   refine⟨_,if n∈acc then acc else acc++[n],rfl,fun b ob z=>by rw[am (aN z hp1)];exact s3 _ _ z,k3.trans k5,by rw[am n1l.symm];exact gl,au,?_,?_⟩
   ·rw[hstep]
    simp only[Tm.b1,eT]
   ·split
    ·omega
    ·rw[zLA];simp only[zLC,zLN];omega
 ·rintro σ H3 ⟨o,acc,rfl,s3,k3,gl,g1,hacc,hal⟩
  have e2:acc=t.firsts:=by
   rw[hacc,dL (by omega),JV]
   rfl
  refine⟨_,rfl,p1,_,rfl,g1,fun l hl=>?_⟩
  refine q l _ (s3.trans (bz hl _)) ?_
  rw[au,<-e2]
  simp only[wd,lG]
  rfl
inductive EH(vs:List V)(H:Hp)(Q:VK):Prop
 |mk:∀(v:V)(t:Tm),(vs=[v])->(aw H v t)->(t.nodes<=5000000)->(∀l us H',aq H H'->H l=none->H' l=some (.lst us)->aT H' us t.rp.reverse->Q (.ref l) H')->EH vs H Q
def qK:Sp:=fun vs H Q _=>EH vs H Q
theorem LD{f:Addr}{fd:bd}(F:bw K "_law_steps" "_law_steps" ox f fd)(T:Bi mg):be P w K mg base bh 1 f fd ["_law_term"] qK:=by
 refine F.ok uc (fun vs H Q E h=>?_) (fun cdv A outer s H vs Q E hr h=>?_)
 ·obtain⟨_,_,rfl,_⟩:=h
  rfl
 obtain⟨v,t,rfl,ht,hn,q⟩:=h
 apply aE;intro T1
 apply aE;intro T2
 apply aE;intro T3
 apply aE;intro T4
 apply aE;intro T5
 apply aE;intro T6
 refine⟨_,(aj (az (i:=1) uc.nd (ca af)) (aD T6 (aj (az (i:=2) uc.nd (ca (ad (pv 0) af))) (aD T5 (aj (iu cr (aF (sU hr.units0) (pv 2) (ca af) (aC _)) (aD T4 (aj (az (i:=3) uc.nd (kQ ce kK kL kR (pv 2))) (aD T3 (aj (cp (cE ce dk dl dg (pv 1) (ad (pv 3) af))) (aD T2 (al (aK (aF bM (ao (pv 3)) aO (aC _)) (aD T1 (al (cp (cE ce pD pE pT (pv 2) (ad (gM sL T.b_list gm (ad (ao (pv 3)) af)) af))))) aU)))))))) (al (ay (CK T.b_list T.b_reversed (pv 1))))))))),?_⟩
 refine⟨dz,fun p1 hp1=>?_⟩
 generalize e_:ae H p1 (HO.lst [])=H1
 obtain⟨s1,x1⟩:=aM hp1 e_
 refine⟨_,rfl,gQ,fun p2 hp2=>?_⟩
 have s2:=bz hp2 (HO.lst [v])
 have x2:ae H1 p2 (HO.lst [v]) p2=some _:=au
 have n12:p1≠p2:=aN x1 hp2
 have f2:H p2=none:=s1.free hp2
 generalize ae H1 p2 (HO.lst [v])=H2 at s2 x2 |-
 refine⟨fun m σ H3=>∃(o:Option V)(rs us:List V)(done ts:List Tm),σ=[some v,some (.ref p1),some (.ref p2),o]/\aq H H3/\H3 p1=some (.lst rs)/\aT H3 rs done/\H3 p2=some (.lst us)/\aT H3 us ts/\
  aX ts=m/\done++cb ts=t.rp/\done.length+m<=t.nodes,
  ⟨_,none,[],[v],[],[t],rfl,s1.trans s2,s2 _ _ x1,.nil,x2,.cons (ht.mono (.of (s1.trans s2))) .nil,rfl,by simp[cb],by simp[aX]⟩,?_⟩
 rintro m σ H3 ⟨o,rs,us,done,ts,rfl,s3,g1,hrs,g2,hus,hm,hout,hsz⟩
 refine⟨_,rfl,dz,fun e he=>?_⟩
 generalize e_:ae H3 e (HO.lst [])=HE
 obtain⟨sE,xE⟩:=aM he e_
 have g1:=sE _ _ g1
 have g2:=sE _ _ g2
 have s3:=s3.trans sE
 have hus:=hus.mono (.of sE)
 have hrs:=hrs.mono (.of sE)
 refine⟨p2,e,us,rfl,rfl,g2,xE,_,rfl,bO (fun c=>⟨_,fun _ _ h=>h,?_⟩) (fun c=>?_)⟩
 ·
  have hne:us≠[]:=by intro z;rw[z]at c;exact absurd c (by decide)
  have hlen:=hus.len
  obtain⟨us0,u,rfl⟩:=iE hne
  obtain⟨ts0,t1,rfl⟩:=iE (l:=ts) (by intro z;rw[z]at hlen;simp at hlen)
  obtain⟨h0,hu1⟩:=hus.snoc
  rw[iT]at hm
  simp only[aX]at hm
  rw[wO]at hout
  simp only[cb,iq]at hout
  have hl0:=iD ts0
  have hu0:=h0.len
  have hr0:=hrs.len
  have hn1:=t1.nodes_pos
  refine⟨_,rfl,.inl ⟨rfl,_,ak.of g2⟩,p2,_,u,rfl,rfl,g2,by simp,?_⟩
  rw[lH]
  have k4:aV HE (ae HE p2 (HO.lst us0)):= .lst g2
  have x4:ae HE p2 (HO.lst us0) p2=some _:=au
  have y4:ae HE p2 (HO.lst us0) p1=some (.lst rs):=by rw[am n12];exact g1
  have s4:aq H (ae HE p2 (HO.lst us0)):=fun b ob z=>by rw[am (aN z f2)];exact s3 _ _ z
  generalize ae HE p2 (HO.lst us0)=H4 at k4 x4 y4 s4 |-
  refine⟨_,rfl,.inl ⟨rfl,_,ak.of y4⟩,_,rfl,p1,_,_,rfl,rfl,y4,big (by omega),?_⟩
  have k5:aV H4 (ae H4 p1 (HO.lst (rs++[u]))):= .lst y4
  have x5:ae H4 p1 (HO.lst (rs++[u])) p1=some _:=au
  have y5:ae H4 p1 (HO.lst (rs++[u])) p2=some (.lst us0):=by rw[am n12.symm];exact x4
  have s5:aq H (ae H4 p1 (HO.lst (rs++[u]))):=fun b ob z=>by rw[am (aN z hp1)];exact s4 _ _ z
  generalize ae H4 p1 (HO.lst (rs++[u]))=H5 at k5 x5 y5 s5 |-
  have h5:=(h0.mono k4).mono k5
  have ht1:=(hu1.mono k4).mono k5
  have hd5:aT H5 (rs++[u]) (done++[t1]):=((hrs.mono k4).mono k5).app (.cons ht1 .nil)
  cases t1 with
  |num n=>
   obtain⟨a,rfl,e1⟩:=fm.mp ht1
   refine⟨_,rfl,_,_,_,_,rfl,rfl,ag.of e1,rfl,rfl,_,rfl,bj ?_⟩
   exact⟨aX ts0,by omega,_,_,us0,_,ts0,rfl,s5,x5,hd5,y5,h5,rfl,by simpa[Tm.rp]using hout,by rw[zLA];simp only[zLC,zLN];omega⟩
  |name n=>
   obtain⟨a,rfl,e1⟩:=eD.mp ht1
   refine⟨_,rfl,_,_,_,_,rfl,rfl,ag.of e1,rfl,rfl,_,rfl,bj ?_⟩
   exact⟨aX ts0,by omega,_,_,us0,_,ts0,rfl,s5,x5,hd5,y5,h5,rfl,by simpa[Tm.rp]using hout,by rw[zLA];simp only[zLC,zLN];omega⟩
  |blank n=>
   obtain⟨a,rfl,e1⟩:=dU.mp ht1
   refine⟨_,rfl,_,_,_,_,rfl,rfl,ag.of e1,rfl,rfl,_,rfl,bj ?_⟩
   exact⟨aX ts0,by omega,_,_,us0,_,ts0,rfl,s5,x5,hd5,y5,h5,rfl,by simpa[Tm.rp]using hout,by rw[zLA];simp only[zLC,zLN];omega⟩
  |thing n qs=>
   obtain⟨a,b,pv,rfl,e1,e2,e3⟩:=dr.mp ht1
   have hpl:=e3.len
   have hpn:=iD qs
   simp only[Tm.nodes]at hm
   refine⟨_,rfl,_,_,_,_,rfl,rfl,ag.of e1,rfl,rfl,_,rfl,cZ ?_⟩
   refine⟨_,rfl,.inl ⟨rfl,_,ak.of y5⟩,_,rfl,_,_,_,_,rfl,rfl,ag.of e1,rfl,b,pv,rfl,.inr (ag.of e2),fun l hl=>?_⟩
   generalize e_:ae H5 l (HO.lst pv)=H6
   obtain⟨s6,x6⟩:=aM hl e_
   refine⟨p2,l,us0,pv,rfl,rfl,s6 _ _ y5,x6,eP (by omega),?_⟩
   have k7:aV H6 (ae H6 p2 (HO.lst (us0++pv))):= .lst (s6 _ _ y5)
   refine⟨aX ts0+aX qs,by omega,_,_,us0++pv,_,ts0++qs,rfl,fun b' ob z=>by rw[am (aN z f2)];exact s6 _ _ (s5 _ _ z),by rw[am n12];exact s6 _ _ x5,aT.mono k7 (hd5.mono (.of s6)),au,
        aT.mono k7 ((h5.mono (.of s6)).app (e3.mono (.of s6))),by rw[iT],?_,by rw[zLA];simp only[zLC,zLN];omega⟩
   rw[wO,<-hout]
   simp[Tm.rp]
 ·have e:us=[]:=by
   cases us with
   |nil=>rfl
   |cons a b=>exact absurd rfl c
  subst e
  have hlen:=hus.len
  have e:ts=[]:=kJ.mp hlen.symm
  subst e
  have e2:done=t.rp:=by simpa[cb]using hout
  refine⟨_,rfl,p1,rs,rfl,ak.of g1,fun l hl=>?_⟩
  refine q l _ _ (s3.trans (bz hl _)) (s3.free hl) au ?_
  rw[<-e2]
  exact(ut hrs).mono (.new hl)
theorem EI(x:ac)(acc:List ac):pS (.str x) (acc.map V.str)=decide (x∈acc):=by
 induction acc with
 |nil=>rfl
 |cons y r ih=>
  have e:pS (.str x) ((y::r).map V.str)=(iS (.str y) (.str x)||pS (.str x) (r.map V.str)):=rfl
  rw[e,ih]
  by_cases z:y=x
  ·subst z;simp[iS]
  ·have z':¬x=y:=fun q=>z q.symm
   simp[iS,z,z']
theorem LE(acc:List ac):(acc.map V.str).all jt=true:=by
 simp[List.all_map,lD,jt]
theorem LF{f:Addr}{fd:bd}(F:bw K "_law_blanks" "_law_blanks" oz f fd)(T:Bi mg)(c__law_steps:aG P w K mg base 1 "_law_steps" ["_law_term"] qK):be P w K mg base bh 2 f fd ["_law_term"] mK:=by
 refine F.ok xt (fun vs H Q E h=>?_) (fun cdv A outer s H vs Q E hr h=>?_)
 ·obtain⟨_,_,rfl,_⟩:=h
  rfl
 obtain⟨v,t,rfl,ht,hn,q⟩:=h
 apply aE;intro T1
 apply aE;intro T2
 apply aE;intro T3
 refine⟨_,(aj (az (i:=1) xt.nd (ca af)) (aD T3 (aj (dM cr rfl (fi (aY c__law_steps (hr.mono (by decide)) (ad (pv 0) af))) (cn (i:=2) xt.nd rfl (Or.inl rfl)) (aD T2 (al (aK (jq (aF bM (ao (pv 2)) aO (aC _)) (jp (aF Hu (ao (pv 2)) (pv 1) (by with_unfolding_all rfl)))).pt (aD T1 (al (cp (cE ce dk dl dg (pv 1) (ad (ao (pv 2)) af))))) aU)))) (al (ay (pv 1)))))),?_⟩
 refine⟨dz,fun p hp=>?_⟩
 generalize e_:ae H p (HO.lst [])=H1
 obtain⟨s1,x1⟩:=aM hp e_
 refine⟨_,rfl,v,t,rfl,ht.mono (.of s1),hn,fun l us H2 s2 _ g2 hus=>⟨l,rfl,⟨_,ak.of g2⟩,?_⟩⟩
 have npl:p≠l:=by
  rintro rfl
  have z:=s2 _ _ x1
  rw[g2]at z
  cases z
  have:=hus.len
  rw[d3,hV]at this
  have:=t.nodes_pos
  simp at *
  omega
 have hlu:=hus.len
 rw[d3,hV]at hlu
 refine let I1:Nat->L2.St->Hp->Prop:=(fun i σ H3=>∃(o:Option V)(acc:List ac),σ=[some v,some (.ref p),o]/\aq H H3/\H3 l=some (.lst us)/\aT H3 us t.rp.reverse/\H3 p=some (.lst (acc.map V.str))/\
  acc.length<=i/\eT [] ((t.rp.reverse.take i).flatMap Tm.b1)=acc);iw (K:=K) (a:=l) (xs:=us) I1
  ⟨none,[],rfl,s1.trans s2,g2,hus,s2 _ _ x1,cP _,rfl⟩ (fun i σ H3 _ hI=>by obtain⟨_,_,_,_,g,_⟩:=hI;exact ak.of g) ?_ ?_
 ·rintro i y σ H3 hi ⟨o,acc,rfl,s3,g3,h3,gp,hal,hacc⟩
  obtain⟨hi1,hi2⟩:=bI.mp hi
  have hti:i<t.rp.reverse.length:=by rw[d3,hV];omega
  have hy:=h3.at i hi1 hti
  rw[hi2]at hy
  have etk:(t.rp.reverse.take (i+1)).flatMap Tm.b1=(t.rp.reverse.take i).flatMap Tm.b1++(t.rp.reverse[i]).b1:=by
   rw[zTS hti,mV]
   simp
  generalize t.rp.reverse[i]=u at hy etk
  cases u with
  |num n=>
   obtain⟨a,rfl,e1⟩:=fm.mp hy
   refine⟨_,rfl,_,_,_,_,rfl,rfl,ag.of e1,rfl,rfl,_,rfl,bj ?_⟩
   exact⟨_,acc,rfl,s3,g3,h3,gp,by omega,by rw[etk,<-hacc];simp[Tm.b1]⟩
  |name n=>
   obtain⟨a,rfl,e1⟩:=eD.mp hy
   refine⟨_,rfl,_,_,_,_,rfl,rfl,ag.of e1,rfl,rfl,_,rfl,bj ?_⟩
   exact⟨_,acc,rfl,s3,g3,h3,gp,by omega,by rw[etk,<-hacc];simp[Tm.b1]⟩
  |thing n qs=>
   obtain⟨a,b,pv,rfl,e1,e2,e3⟩:=dr.mp hy
   refine⟨_,rfl,_,_,_,_,rfl,rfl,ag.of e1,rfl,rfl,_,rfl,bj ?_⟩
   exact⟨_,acc,rfl,s3,g3,h3,gp,by omega,by rw[etk,<-hacc];simp[Tm.b1]⟩
  |blank n=>
   obtain⟨a,rfl,e1⟩:=dU.mp hy
   have en:eT [] ((t.rp.reverse.take (i+1)).flatMap Tm.b1)=if n∈acc then acc else acc++[n]:=by
        rw[etk,Db,hacc]
        simp only[Tm.b1,eT]
   refine⟨_,rfl,_,_,_,_,rfl,rfl,ag.of e1,rfl,rfl,_,rfl,cZ ?_⟩
   refine⟨_,rfl,_,_,_,_,rfl,rfl,ag.of e1,rfl,_,rfl,p,_,rfl,.inl (ak.of gp),rfl,LE acc,_,rfl,bO (fun c=>?_) (fun c=>?_)⟩
   ·have c':n∉acc:=by
     intro z
     rw[EI]at c
     simp[z]at c
    refine⟨_,rfl,.inl ⟨rfl,_,ak.of gp⟩,_,rfl,_,_,_,_,rfl,rfl,ag.of e1,rfl,p,_,_,rfl,rfl,gp,big (by rw[zLM];omega),?_⟩
    have k4:aV H3 (ae H3 p (HO.lst (acc.map V.str++[.str n]))):= .lst gp
    refine⟨_,acc++[n],rfl,fun b ob z=>by rw[am (aN z hp)];exact s3 _ _ z,by rw[am npl.symm];exact g3,h3.mono k4,by rw[au,zMA];rfl,by rw[zLA];simp only[zLC,zLN];omega,by rw[en,if_neg c']⟩
   ·have c':n∈acc:=by
     rw[EI]at c
     simpa using c
    exact⟨_,acc,rfl,s3,g3,h3,gp,by omega,by rw[en,if_pos c']⟩
 ·rintro σ H3 ⟨o,acc,rfl,s3,g3,h3,gp,hal,hacc⟩
  rw[hlu,<-hV,<-d3,rJ,Dc]at hacc
  refine⟨_,rfl,q p H3 s3 ?_⟩
  rw[gp,<-hacc]
  rfl
inductive EJ(vs:List V)(H:Hp)(Q:VK):Prop
 |mk:∀(v:V)(t:Tm)(l:Addr)(ps:List V)(f:Fl),(vs=[v,.ref l])->(aw H v t)->(t.nodes<=5000000)->(H l=some (.lst ps))->(dW H ps f)->((f.map (·.1)).Nodup)->(∀v' H',aq H H'->aw H' v' (t.fill f)->Q v' H')->EJ vs H Q
def qL:Sp:=fun vs H Q _=>EJ vs H Q
theorem LG{f0:Addr}{fd:bd}(F:bw K "_law_fill" "_law_fill" oy f0 fd)(T:Bi mg)(c__law_steps:aG P w K mg base 1 "_law_steps" ["_law_term"] qK):be P w K mg base bh 2 f0 fd ["_law_term","_law_pairs"] qL:=by
 refine F.ok kc (fun vs H Q E h=>?_) (fun cdv A outer s H vs Q E hr h=>?_)
 ·obtain⟨_,_,_,_,_,rfl,_⟩:=h
  rfl
 obtain⟨v,t,l,ps,f,rfl,ht,hn,hl,hf,hnd,q⟩:=h
 have hfl:=hf.len
 apply aE;intro T1
 apply aE;intro T2
 apply aE;intro T3
 apply aE;intro T4
 apply aE;intro T5
 apply aE;intro T6
 apply aE;intro T7
 apply aE;intro T8
 apply aE;intro T9
 refine⟨_,(aj (az (i:=2) kc.nd (ca af)) (aD T9 (aj (dM cr rfl (fi (aY c__law_steps (hr.mono (by decide)) (ad (pv 0) af))) (cn (i:=3) kc.nd rfl (Or.inl rfl)) (aD T8 (aj (az (i:=4) kc.nd (pv 3)) (aD T7 (aj (aK (aF bM (ao (pv 3)) aO (aC _)) (aD T4 (aj (az (i:=5) kc.nd (aZ nu (bc cm T.b_len cj (ad (pv 2) af)) (bc cm T.b_len cj (ad (ao (pv 3)) af)))) (aD T1 (aj (az (i:=4) kc.nd (bN (ad aO (ad (ao (pv 3)) (ad (gM nA T.b_tuple fM (ad (fS gZ (pv 2) (fK (pv 5)) gj) af)) af))))) (al (az (i:=2) kc.nd (fS gZ (pv 2) gj (fK (pv 5))))))))) (aD T5 (al (aK (aF bM (ao (pv 3)) aO (aC _)) (aD T3 (al (dM cr rfl (fi (pv 1)) (cn (i:=6) kc.nd rfl (Or.inl rfl)) (aD T2 (al (aK (aF bM (ao (pv 6)) (ao (pv 3)) (aC _)) (al (az (i:=4) kc.nd (ao (pv 6)))) aU)))))) aU)))) (aD T6 (al (cp (cE ce dk dl dg (pv 2) (ad (pv 4) af)))))))))) (al (ay (bG bV (pv 2) ax (fun _ _=>rfl))))))),?_⟩
 refine⟨dz,fun p0 hp0=>?_⟩
 generalize e_:ae H p0 (HO.lst [])=H1
 obtain⟨s1,x1⟩:=aM hp0 e_
 refine⟨_,rfl,v,t,rfl,ht.mono (.of s1),hn,fun ls us H2 s2 fls hls hus=>?_⟩
 have s02:=s1.trans s2
 have hul:=hus.len
 rw[d3,hV]at hul
 refine⟨ls,rfl,⟨_,ak.of hls⟩,let I1:Nat->L2.St->Hp->Prop:=(fun i σ H3=>∃(o3 o4 o5 o6:Option V)(p:Addr)(ms:List V)(made:List Tm),σ=[some v,some (.ref l),some (.ref p),o3,o4,o5,o6]/\aq H H3/\H3 ls=some (.lst us)/\aV H2 H3/\p≠ls/\H p=none/\H3 p=some (.lst ms)/\aT H3 ms made/\
  made=hX f [] (t.rp.reverse.take i)/\cF made.length (t.rp.reverse.drop i)/\made.length<=i);iw (K:=K) (a:=ls) (xs:=us) I1
  ⟨none,none,none,none,p0,[],[],rfl,s02,hls,.refl _,aN x1 fls,hp0,s2 _ _ x1,.nil,by simp[hX],by simpa using JP t,aJ _⟩ (fun i σ H3 _ hI=>by obtain⟨_,_,_,_,_,_,_,_,_,g,_⟩:=hI;exact ak.of g) ?_ ?_⟩
 ·rintro i x σ H3 hx ⟨o3,o4,o5,o6,p,ms,made,rfl,s3,gl,k3,npl,fp,gp,gms,hmade,hfit,hml⟩
  have hi:i<us.length:=(bI.mp hx).1
  have hir:i<t.rp.reverse.length:=by rw[d3,hV];omega
  have hxt:aw H3 x (t.rp.reverse[i]):=by
   have h1:=(hus.mono k3).at i hi hir
   rw[(bI.mp hx).2]at h1
   exact h1
  have hrun:hX f [] (t.rp.reverse.take (i+1))=tE f made (t.rp.reverse[i]):=by
   rw[zTS hir,tF,<-hmade]
   rfl
  rw[rE hir]at hfit
  have gml:=gms.len
  generalize hpt:t.rp.reverse[i]=pt at hxt hrun hfit
  refine⟨_,rfl,?_⟩
  show dE.nx _ _ _
  with_reducible show gh _ _ _ _ _
  refine let I2:L2.St->Hp->Prop:=(fun σ H4=>∃(o5 o6:Option V)(p:Addr)(ms:List V)(made:List Tm)(mv:V)(tm:Tm),σ=[some v,some (.ref l),some (.ref p),some x,some mv,o5,o6]/\aq H H4/\H4 ls=some (.lst us)/\aV H2 H4/\p≠ls/\H p=none/\H4 p=some (.lst ms)/\aT H4 ms made/\aw H4 mv tm/\
   tE f (hX f [] (t.rp.reverse.take i)) pt=made++[tm]/\cF (made.length+1) (t.rp.reverse.drop (i+1))/\made.length<=i);hJ I2 ?_ (fun key=>?_)
  rotate_left
  ·rw[hmade]at hrun
   cases pt with
   |num n=>
    obtain⟨a,rfl,e1⟩:=fm.mp hxt
    refine⟨_,rfl,_,_,_,_,rfl,rfl,ag.of e1,rfl,rfl,_,rfl,bj ?_⟩
    refine⟨_,rfl,_,_,_,_,rfl,rfl,ag.of e1,rfl,rfl,_,rfl,bj ?_⟩
    exact key _ _ ⟨_,_,p,ms,made,_,.num n,rfl,s3,gl,k3,npl,fp,gp,gms,hxt,by rw[<-hmade];rfl,by simpa[cF]using hfit,hml⟩
   |name n=>
    obtain⟨a,rfl,e1⟩:=eD.mp hxt
    refine⟨_,rfl,_,_,_,_,rfl,rfl,ag.of e1,rfl,rfl,_,rfl,bj ?_⟩
    refine⟨_,rfl,_,_,_,_,rfl,rfl,ag.of e1,rfl,rfl,_,rfl,bj ?_⟩
    exact key _ _ ⟨_,_,p,ms,made,_,.name n,rfl,s3,gl,k3,npl,fp,gp,gms,hxt,by rw[<-hmade];rfl,by simpa[cF]using hfit,hml⟩
   |blank n=>
    obtain⟨a,rfl,e1⟩:=dU.mp hxt
    refine⟨_,rfl,_,_,_,_,rfl,rfl,ag.of e1,rfl,rfl,_,rfl,bj ?_⟩
    refine⟨_,rfl,_,_,_,_,rfl,rfl,ag.of e1,rfl,rfl,_,rfl,cZ ?_⟩
    refine⟨_,rfl,l,rfl,⟨_,ak.of (s3 _ _ hl)⟩,let I3:Nat->L2.St->Hp->Prop:=(fun j σ H4=>H3=H4/\∃(o6:Option V)(mv:V),σ=[some v,some (.ref l),some (.ref p),some (.ref a),some mv,o5,o6]/\aw H3 mv ((look (f.take j) n).getD (.blank n)));iw (K:=K) (a:=l) (xs:=ps) I3
     ⟨rfl,_,_,rfl,by simpa[look]using hxt⟩ (fun j σ H4 _ hI=>by obtain⟨e,_⟩:=hI;exact by rw[<-e];exact ak.of (s3 _ _ hl)) ?_ ?_⟩
    ·rintro j y σ H4 hy ⟨rfl,o6,mv,rfl,hmv⟩
     have hj:j<ps.length:=(bI.mp hy).1
     have hj':j<f.length:=by omega
     obtain⟨a2,v2,ea,ha0,hv0⟩:=hf.get j hj hj'
     have ey:y= .ref a2:=by rw[<-ea];exact((bI.mp hy).2).symm
     subst ey
     have ha:=s3 _ _ ha0
     refine⟨_,rfl,_,_,_,_,rfl,rfl,ag.of ha,rfl,_,rfl,_,_,_,_,rfl,rfl,ag.of e1,rfl,rfl,_,rfl,bO (fun c=>?_) (fun c=>?_)⟩
     ·have c':f[j].1=n:=V.str.inj (of_decide_eq_true c)
      refine⟨_,rfl,_,_,_,_,rfl,rfl,ag.of ha,rfl,rfl,_,_,rfl,?_⟩
      have e2:look (f.take (j+1)) n=some f[j].2:=by
          rw[zTS hj',qj]
          have:look (f.take j) n=none:=kW fun z=>by
           obtain⟨q,hq,eq⟩:=bL.mp z
           obtain⟨k,hk,ek⟩:=pz hq
           rw[zLT]at hk
           rw[pq]at ek
           have:=mY.mp hnd k j (by rw[zLM];omega) (by rw[zLM];omega) (by omega)
           rw[jl,jl,ek,eq,c']at this
           exact this rfl
          rw[this,rZ,qi,if_pos c']
      rw[e2]
      exact hv0.mono (.of s3)
     ·have c':¬f[j].1=n:=fun z=>c (decide_eq_true (congrArg V.str z))
      refine⟨rfl,_,mv,rfl,?_⟩
      rw[zTS hj',qj,qi,if_neg c']
      have:look ([]:Fl) n=none:=rfl
      rw[this,vN]
      exact hmv
    ·rintro σ H4 ⟨rfl,o6,mv,rfl,hmv⟩
     rw[dL (by omega)]at hmv
     exact key _ _ ⟨_,_,p,ms,made,mv,_,rfl,s3,gl,k3,npl,fp,gp,gms,hmv,by rw[<-hmade];rfl,by simpa[cF]using hfit,hml⟩
   |thing n qs=>
    obtain⟨a,b,pv,rfl,e1,e2,e3⟩:=dr.mp hxt
    have hpl:=e3.len
    simp only[cF]at hfit
    obtain⟨hf1,hf2⟩:=hfit
    have j0:0<=(ms.length:Int) - (pv.length:Int):=by omega
    have j1:(ms.length:Int) - (pv.length:Int)<=ms.length:=by omega
    have ej:((ms.length:Int) - (pv.length:Int)).toNat=made.length - qs.length:=by omega
    refine⟨_,rfl,_,_,_,_,rfl,rfl,ag.of e1,rfl,rfl,_,rfl,cZ ?_⟩
    refine⟨_,rfl,p,ms,rfl,.inl (ak.of gp),_,rfl,_,_,_,_,rfl,rfl,ag.of e1,rfl,b,pv,rfl,.inr (ag.of e2),_,_,rfl,rfl,?_⟩
    refine⟨_,rfl,_,_,_,_,rfl,rfl,ag.of e1,rfl,_,rfl,_,rfl,_,rfl,p,ms,rfl,ak.of gp,fun l2 hl2=>?_⟩
    rw[qF ms _ j0 j1,ej]
    generalize e_:ae H3 l2 (HO.lst (ms.drop (made.length - qs.length)))=H4
    obtain⟨s4,x4⟩:=aM hl2 e_
    refine⟨l2,_,rfl,.inl ⟨ak.of x4,fun b2 hb2=>?_⟩⟩
    generalize e_:ae H4 b2 (HO.tup (ms.drop (made.length - qs.length)))=H5
    obtain⟨s5,x5⟩:=aM hb2 e_
    refine⟨gv,fun g hg=>?_⟩
    generalize e_:ae H5 g (HO.tup [.str "thing",.str n,.ref b2])=H6
    obtain⟨s6,x6⟩:=aM hg e_
    have s36:=s4.trans (s5.trans s6)
    refine⟨_,rfl,_,rfl,_,rfl,p,ms,rfl,ak.of (s36 _ _ gp),fun p7 hp7=>?_⟩
    rw[ug ms _ j0 j1,ej]
    have s7:=bz hp7 (HO.lst (ms.take (made.length - qs.length)))
    have x7:ae H6 p7 (HO.lst (ms.take (made.length - qs.length))) p7=some _:=au
    have np7:p7≠ls:=gc (aN (s36 _ _ gl) hp7)
    have fp7:H p7=none:=(s3.trans s36).free hp7
    generalize ae H6 p7 (HO.lst (ms.take (made.length - qs.length)))=H7 at s7 x7 |-
    have s37:=s36.trans s7
    refine key _ _ ⟨_,_,p7,_,made.take (made.length - qs.length),_,.thing n (made.drop (made.length - qs.length)),rfl,s3.trans s37,s37 _ _ gl,k3.trans (.of s37),np7,fp7,x7,(gms.mono (.of s37)).takeN _,?_,by rw[<-hmade];rfl,?_,?_⟩
    ·exact dr.mpr ⟨g,b2,_,rfl,s7 _ _ x6,s7 _ _ (s6 _ _ x5),(gms.mono (.of s37)).dropN _⟩
    ·have e5:(made.take (made.length - qs.length)).length=made.length - qs.length:=by rw[zLT];omega
     rw[e5]
     exact hf2
    ·rw[zLT];omega
  rintro σ H4 ⟨o5,o6,p,ms,made2,mv,tm,rfl,s4,gl4,k4,npl4,fp4,gp4,gms4,hmv,hgt,hfit4,hml4⟩
  have hl4:=gms4.len
  refine⟨_,rfl,.inl ⟨rfl,_,ak.of gp4⟩,_,rfl,p,_,_,rfl,rfl,gp4,big (by omega),?_⟩
  have k5:aV H4 (ae H4 p (HO.lst (ms++[mv]))):= .lst gp4
  refine⟨_,_,_,_,p,_,made2++[tm],rfl,fun b ob z=>by rw[am (aN z fp4)];exact s4 _ _ z,by rw[am (gc npl4)];exact gl4,k4.trans k5,npl4,fp4,au,aT.mono k5 (gms4.app (.cons hmv .nil)),?_,by simpa using hfit4,by simp;omega⟩
  rw[hrun,<-hgt,hmade]
 ·rintro σ H3 ⟨o3,o4,o5,o6,p,ms,made,rfl,s3,gl,k3,npl,fp,gp,gms,hmade,hfit,hml⟩
  have e:made=[t.fill f]:=by
   rw[hmade,dL (by rw[d3,hV];omega),JM]
   rfl
  subst e
  have gml:=gms.len
  match ms,gml,gms,gp with
  |[u],_,gms,gp=>
   refine⟨_,rfl,p,_,_,u,rfl,rfl,ak.of gp,rfl,?_⟩
   exact q u H3 s3 (gms.at 0 (by simp) (by simp))
end
section
variable{P:aP}{w:aH}{K:aB}{mg:ac->Option aa}{base:aA}
inductive EK(vs:List V)(H:Hp)(Q:VK):Prop
 |mk:∀x:ac,(vs=[.str x])->(Wd x)->(Q (.bl true) H)->EK vs H Q
def qM:Sp:=fun vs H Q _=>EK vs H Q
theorem LH{f:Addr}{fd:bd}(F:bw K "_law_letters" "_law_letters" oB f fd)(T:Bi mg):be P w K mg base bh 1 f fd ["_law_found"] qM:=by
 refine F.ok D7 (fun vs H Q E h=>?_) (fun cdv A outer s H vs Q E hr h=>?_)
 ·obtain⟨i,rfl,_⟩:=h
  rfl
 obtain⟨x,rfl,hx,q⟩:=h
 apply aE;intro T1
 refine⟨_,(aj (aK (cv (cK (cf (bc cW T.b_isinstance cT (ad (pv 0) (ad (cO T.b_str jY) af))))) (dF (aF bM (pv 0) aO (aC _)))).pt (al (ay bU)) aU) (aD T1 (aj (dM cr rfl (IJ (pv 0)) (cn (i:=1) D7.nd rfl (Or.inl rfl)) (al (aK (aF GH (pv 1) aO (by with_unfolding_all rfl)) (al (ay bU)) aU))) (al (ay bU))))),?_⟩
 refine⟨_,rfl,_,_,_,_,rfl,.str _,.ss,_,rfl,bf ⟨_,rfl,rfl,_,rfl,ck (decide_eq_false fun z=>hx.ne (V.str.inj z)) ?_⟩⟩
 refine⟨_,rfl,x,rfl,let I1:Nat->L2.St->Hp->Prop:=(fun i σ H2=>H2=H/\∃o,σ=[some (.str x),o]);IK I1 ⟨rfl,_,rfl⟩ ?_ ?_⟩
 ·rintro i c σ H2 hi ⟨rfl,o,rfl⟩
  have hc:=hx.2.2 c (zMG hi)
  refine⟨_,rfl,_,_,rfl,rfl,_,rfl,ck (IH hc.1 hc.2) ?_⟩
  exact⟨rfl,_,rfl⟩
 ·rintro σ H2 ⟨rfl,o,rfl⟩
  exact q
inductive EL(vs:List V)(H:Hp)(Q:VK):Prop
 |mk:∀n:Int,(vs=[.int n])->(Q (.bl true) H)->EL vs H Q
def oV:Sp:=fun vs H Q _=>EL vs H Q
theorem LI{f:Addr}{fd:bd}(F:bw K "_law_whole" "_law_whole" oj f fd)(T:Bi mg):be P w K mg base bh 1 f fd ["_law_found"] oV:=by
 refine F.ok KH (fun vs H Q E h=>?_) (fun cdv A outer s H vs Q E hr h=>?_)
 ·obtain⟨i,rfl,_⟩:=h
  rfl
 obtain⟨n,rfl,q⟩:=h
 refine⟨_,(al (ay (sh (bc cW T.b_isinstance cT (ad (pv 0) (ad (cO T.b_int wH) af))) (nq (Gg (bc cW T.b_isinstance cT (ad (pv 0) (ad (cO T.b_bool sV) af)))))))),?_⟩
 refine⟨_,rfl,_,_,_,_,rfl,.int _,.ii,_,rfl,g9 ⟨_,rfl,_,_,_,_,rfl,.int _,.ib,_,rfl,?_⟩⟩
 exact q
inductive EM(vs:List V)(H:Hp)(Q:VK):Prop
 |mk:∀(v:V)(t:Tm),(vs=[v])->(aw H v t)->(t.Ok)->((∀x ps,t≠ .thing x ps))->(Q (.bl true) H)->EM vs H Q
def xV:Sp:=fun vs H Q _=>EM vs H Q
theorem LJ{f:Addr}{fd:bd}(F:bw K "_law_small" "_law_small" oC f fd)(T:Bi mg)(c__law_whole:aG P w K mg base 1 "_law_whole" ["_law_found"] oV)
 (c__law_letters:aG P w K mg base 1 "_law_letters" ["_law_found"] qM):be P w K mg base bh 2 f fd ["_law_part"] xV:=by
 refine F.ok KL (fun vs H Q E h=>?_) (fun cdv A outer s H vs Q E hr h=>?_)
 ·obtain⟨v,t,rfl,_⟩:=h
  rfl
 obtain⟨v,t,rfl,ht,hok,hno,q⟩:=h
 apply aE;intro T1
 apply aE;intro T2
 apply aE;intro T3
 refine⟨_,(aj (aK (cv (aF eN (bc cm T.b_len cj (ad (pv 0) af)) ax (aC _)) (dF (cK (cf (bc cW T.b_isinstance cT (ad (ao (pv 0)) (ad (cO T.b_str jY) af))))))).pt (al (ay bU)) aU) (aD T3 (aj (aK (aF bM (ao (pv 0)) aO (aC _)) (aD T1 (al (ay (aY c__law_whole (hr.mono (by decide)) (ad (ao (pv 0)) af))))) aU) (aD T2 (al (ay (sh (AG (iQ bM (ao (pv 0)) aO (aC _)) (nq (iQ bM (ao (pv 0)) aO (aC _)))) (nq (aY c__law_letters (hr.mono (by decide)) (ad (ao (pv 0)) af)))))))))),?_⟩
 cases t with
 |thing x ps=>exact absurd rfl (hno x ps)
 |num n=>
  obtain⟨a,rfl,h1⟩:=fm.mp ht
  refine⟨_,rfl,a,_,rfl,.inr (ag.of h1),rfl,_,rfl,bf ⟨_,rfl,_,_,_,_,rfl,rfl,ag.of h1,rfl,_,_,_,_,rfl,.str _,.ss,_,rfl,bf ?_⟩⟩
  refine⟨_,rfl,_,_,_,_,rfl,rfl,ag.of h1,rfl,rfl,_,rfl,cZ ?_⟩
  exact⟨_,rfl,_,_,_,_,rfl,rfl,ag.of h1,rfl,n,rfl,q⟩
 |name x=>
  obtain⟨a,rfl,h1⟩:=eD.mp ht
  refine⟨_,rfl,a,_,rfl,.inr (ag.of h1),rfl,_,rfl,bf ⟨_,rfl,_,_,_,_,rfl,rfl,ag.of h1,rfl,_,_,_,_,rfl,.str _,.ss,_,rfl,bf ?_⟩⟩
  refine⟨_,rfl,_,_,_,_,rfl,rfl,ag.of h1,rfl,rfl,_,rfl,bj ?_⟩
  refine⟨_,rfl,_,_,_,_,rfl,rfl,ag.of h1,rfl,rfl,_,rfl,cZ ⟨_,rfl,g9 ?_⟩⟩
  exact⟨_,rfl,_,_,_,_,rfl,rfl,ag.of h1,rfl,x,rfl,hok,q⟩
 |blank x=>
  obtain⟨a,rfl,h1⟩:=dU.mp ht
  refine⟨_,rfl,a,_,rfl,.inr (ag.of h1),rfl,_,rfl,bf ⟨_,rfl,_,_,_,_,rfl,rfl,ag.of h1,rfl,_,_,_,_,rfl,.str _,.ss,_,rfl,bf ?_⟩⟩
  refine⟨_,rfl,_,_,_,_,rfl,rfl,ag.of h1,rfl,rfl,_,rfl,bj ?_⟩
  refine⟨_,rfl,_,_,_,_,rfl,rfl,ag.of h1,rfl,rfl,_,rfl,bj ⟨_,rfl,_,_,_,_,rfl,rfl,ag.of h1,rfl,rfl,_,rfl,cZ ?_⟩⟩
  exact⟨_,rfl,_,_,_,_,rfl,rfl,ag.of h1,rfl,x,rfl,hok,q⟩
inductive EN(vs:List V)(H:Hp)(Q:VK):Prop
 |mk:∀(v:V)(t:Tm),(vs=[v])->(aw H v t)->(t.Ok)->(t.nodes<=5000000)->(∀H',aq H H'->Q (.bl true) H')->EN vs H Q
def xW:Sp:=fun vs H Q _=>EN vs H Q
theorem LK{f:Addr}{fd:bd}(F:bw K "_law_is_term" "_law_is_term" oE f fd)(T:Bi mg)(c__law_small:aG P w K mg base 2 "_law_small" ["_law_part"] xV)
 (c__law_letters:aG P w K mg base 1 "_law_letters" ["_law_found"] qM):be P w K mg base bh 3 f fd ["_law_found"] xW:=by
 refine F.ok xu (fun vs H Q E h=>?_) (fun cdv A outer s H vs Q E hr h=>?_)
 ·obtain⟨v,t,rfl,_⟩:=h
  rfl
 obtain⟨v,t,rfl,ht,hok,hn,q⟩:=h
 apply aE;intro T1
 apply aE;intro T2
 apply aE;intro T3
 apply aE;intro T4
 apply aE;intro T5
 apply aE;intro T6
 apply aE;intro T7
 apply aE;intro T8
 refine⟨_,(aj (az (i:=1) xu.nd (ca (ad (pv 0) af))) (aD T8 (aj (iu cr (aF (sU hr.units0) (pv 1) (ca af) (aC _)) (aD T7 (aj (az (i:=2) xu.nd (kQ ce kK kL kR (pv 1))) (aD T6 (aj (aK (cK (cf (bc cW T.b_isinstance cT (ad (pv 2) (ad (cO T.b_tuple fM) af))))) (al (ay bU)) aU) (aD T5 (al (aK (aF bM (bc cm T.b_len cj (ad (pv 2) af)) ax (aC _)) (aD T3 (aj (aK (cv (cK (cf (bc cW T.b_isinstance cT (ad (ao (pv 2)) (ad (cO T.b_str jY) af))))) (cv (aF eN (ao (pv 2)) aO (aC _)) (dF (cK (cf (aY c__law_letters (hr.mono (by decide)) (ad (ao (pv 2)) af))))))).pt (al (ay bU)) aU) (aD T2 (aj (aK (cv (cK (cf (bc cW T.b_isinstance cT (ad (ao (pv 2)) (ad (cO T.b_tuple fM) af))))) (dF (aF (Cm hr.units0) (ao (pv 2)) (bN af) (aC _)))).pt (al (ay bU)) aU) (aD T1 (al (cp (cE ce pD pE pT (pv 1) (ad (gM sL T.b_list gm (ad (ao (pv 2)) af)) af))))))))) (aD T4 (al (aK (cK (cf (aY c__law_small (hr.mono (by decide)) (ad (pv 2) af)))) (al (ay bU)) aU))))))))))) (al (ay bU))))),?_⟩
 refine⟨_,rfl,gQ,fun p hp=>?_⟩
 refine⟨fun m σ H1=>aq H H1/\H p=none/\∃(o:Option V)(us:List V)(ts:List Tm),σ=[some v,some (.ref p),o]/\H1 p=some (.lst us)/\aT H1 us ts/\eA ts/\aX ts=m/\m<=5000000,
  ⟨t.nodes,bz hp _,hp,_,_,[t],rfl,au,.cons (ht.mono (.new hp)) .nil,⟨hok,trivial⟩,by simp[aX],hn⟩,?_⟩
 rintro m σ H1 ⟨s1,fp,o,us,ts,rfl,hu,hts,hoks,hnd,hm⟩
 have hlen:=hts.len
 have hln:=iD ts
 refine⟨_,rfl,dz,fun e he=>?_⟩
 generalize e_:ae H1 e (HO.lst [])=H2
 obtain⟨s2,x2⟩:=aM he e_
 refine⟨p,e,us,rfl,rfl,s2 _ _ hu,x2,_,rfl,bO (fun c=>⟨_,fun _ _ h=>h,?_⟩) (fun c=>?_)⟩
 ·
  have hne:us≠[]:=by intro z;rw[z]at c;exact absurd c (by decide)
  have hs2:aT H2 us ts:=hts.mono (.of s2)
  obtain⟨us0,u,rfl⟩:∃us0 u,us=us0++[u]:=⟨us.dropLast,us.getLast hne,(vd hne).symm⟩
  obtain⟨ts0,t1,rfl⟩:∃ts0 t1,ts=ts0++[t1]:=by
   have:ts≠[]:=by intro z;rw[z]at hlen;simp at hlen
   exact⟨ts.dropLast,ts.getLast this,(vd this).symm⟩
  obtain⟨hs0,ht1⟩:=hs2.snoc
  rw[ww]at hoks
  obtain⟨ho0,ho1,_⟩:=hoks
  rw[iT]at hnd
  simp only[aX]at hnd
  refine⟨_,rfl,.inl ⟨rfl,_,ak.of (s2 _ _ hu)⟩,p,_,u,rfl,rfl,s2 _ _ hu,by simp,?_⟩
  rw[lH]
  have k3:aV H2 (ae H2 p (HO.lst us0)):= .lst (s2 _ _ hu)
  have x3:ae H2 p (HO.lst us0) p=some _:=au
  have y3:aq H (ae H2 p (HO.lst us0)):=fun b ob z=>by rw[am (aN z fp)];exact s2 _ _ (s1 _ _ z)
  generalize ae H2 p (HO.lst us0)=H3 at k3 x3 y3 |-
  have hs3:=hs0.mono k3
  have ht3:=ht1.mono k3
  cases t1 with
  |thing x ps=>
   obtain⟨a,b,vs,rfl,h1,h2,h3⟩:=dr.mp ht3
   simp only[Tm.Ok]at ho1
   obtain⟨hx,hps,hop⟩:=ho1
   have hvl:=h3.len
   have hpl:=iD ps
   simp only[Tm.nodes]at hnd
   refine⟨_,rfl,_,_,_,_,rfl,.tup h1,.tt,_,rfl,bf ?_⟩
   refine⟨_,rfl,a,_,rfl,.inr (ag.of h1),rfl,_,rfl,iV rfl ?_⟩
   refine⟨_,rfl,_,_,_,_,rfl,rfl,ag.of h1,rfl,_,_,_,_,rfl,.str _,.ss,_,rfl,bf ⟨_,rfl,_,_,_,_,rfl,rfl,ag.of h1,rfl,rfl,_,rfl,bj ⟨_,rfl,_,_,_,_,rfl,rfl,ag.of h1,rfl,x,rfl,hx,_,rfl,bf ?_⟩⟩⟩
   refine⟨_,rfl,_,_,_,_,rfl,rfl,ag.of h1,rfl,_,_,_,_,rfl,.tup h2,.tt,_,rfl,bf ⟨_,rfl,_,_,_,_,rfl,rfl,ag.of h1,rfl,dz,fun g hg=>?_⟩⟩
   generalize e_:ae H3 g (HO.tup [])=H4
   obtain⟨s4,x4⟩:=aM hg e_
   refine⟨b,g,vs,rfl,rfl,s4 _ _ h2,x4,_,rfl,ck ?_ ?_⟩
   ·cases vs with
    |nil=>exact absurd (kJ.mp hvl.symm) hps
    |cons _ _=>rfl
   refine⟨_,rfl,.inl ⟨rfl,_,ak.of (s4 _ _ x3)⟩,_,rfl,_,_,_,_,rfl,rfl,ag.of (s4 _ _ h1),rfl,b,vs,rfl,.inr (ag.of (s4 _ _ h2)),fun l hl=>?_⟩
   generalize e_:ae H4 l (HO.lst vs)=H5
   obtain⟨s5,x5⟩:=aM hl e_
   have hlen0:=hs0.len
   have hln0:=iD ts0
   refine⟨p,l,us0,vs,rfl,rfl,s5 _ _ (s4 _ _ x3),x5,eP (by omega),?_⟩
   have k6:aV H5 (ae H5 p (HO.lst (us0++vs))):= .lst (s5 _ _ (s4 _ _ x3))
   refine⟨aX ts0+aX ps,by omega,fun b' ob z=>?_,fp,_,_,ts0++ps,rfl,au,aT.mono k6 ((hs3.mono (.of (s4.trans s5))).app (h3.mono (.of (s4.trans s5)))),(ww _ _).mpr ⟨ho0,hop⟩,iT _ _,by omega⟩
   rw[am (aN z fp)]
   exact s5 _ _ (s4 _ _ (y3 _ _ z))
  |num n=>
   obtain⟨a,rfl,h1⟩:=fm.mp ht3
   refine⟨_,rfl,_,_,_,_,rfl,.tup h1,.tt,_,rfl,bf ?_⟩
   refine⟨_,rfl,a,_,rfl,.inr (ag.of h1),rfl,_,rfl,ck rfl ?_⟩
   refine⟨_,rfl,_,_,rfl,ht3,ho1,(fun _ _ z=>nomatch z),_,rfl,bf ?_⟩
   simp only[Tm.nodes]at hnd
   exact⟨aX ts0,by omega,y3,fp,_,_,ts0,rfl,x3,hs3,ho0,rfl,by omega⟩
  |name x=>
   obtain⟨a,rfl,h1⟩:=eD.mp ht3
   refine⟨_,rfl,_,_,_,_,rfl,.tup h1,.tt,_,rfl,bf ?_⟩
   refine⟨_,rfl,a,_,rfl,.inr (ag.of h1),rfl,_,rfl,ck rfl ?_⟩
   refine⟨_,rfl,_,_,rfl,ht3,ho1,(fun _ _ z=>nomatch z),_,rfl,bf ?_⟩
   simp only[Tm.nodes]at hnd
   exact⟨aX ts0,by omega,y3,fp,_,_,ts0,rfl,x3,hs3,ho0,rfl,by omega⟩
  |blank x=>
   obtain⟨a,rfl,h1⟩:=dU.mp ht3
   refine⟨_,rfl,_,_,_,_,rfl,.tup h1,.tt,_,rfl,bf ?_⟩
   refine⟨_,rfl,a,_,rfl,.inr (ag.of h1),rfl,_,rfl,ck rfl ?_⟩
   refine⟨_,rfl,_,_,rfl,ht3,ho1,(fun _ _ z=>nomatch z),_,rfl,bf ?_⟩
   simp only[Tm.nodes]at hnd
   exact⟨aX ts0,by omega,y3,fp,_,_,ts0,rfl,x3,hs3,ho0,rfl,by omega⟩
 ·exact q H2 (s1.trans s2)
def oW(f:Fl):Prop:=(∀p∈f,Wd p.1/\p.2.Ok/\p.2.nodes<=5000000/\p.2.dp<=90/\p.2≠ .blank p.1)/\f.Pairwise (fun p q=>p.1.cps.toList<q.1.cps.toList)
theorem oW.nodup{f:Fl}(h:oW f):(f.map (·.1)).Nodup:=by
 rw[rK,pA]
 exact h.2.imp fun h e=>by rw[e]at h;exact absurd h (vn _)
inductive EO(vs:List V)(H:Hp)(Q:VK):Prop
 |mk:∀(l:Addr)(ps:List V)(f:Fl),(vs=[.ref l])->(H l=some (.lst ps))->(dW H ps f)->(oW f)->(∀H',aq H H'->Q (.bl true) H')->EO vs H Q
def xX:Sp:=fun vs H Q _=>EO vs H Q
theorem LL{f0:Addr}{fd:bd}(F:bw K "_law_is_filling" "_law_is_filling" oF f0 fd)(T:Bi mg)(c__law_letters:aG P w K mg base 1 "_law_letters" ["_law_found"] qM)
 (c__law_is_term:aG P w K mg base 3 "_law_is_term" ["_law_found"] xW):be P w K mg base bh 4 f0 fd ["_law_found"] xX:=by
 refine F.ok ud (fun vs H Q E h=>?_) (fun cdv A outer s H vs Q E hr h=>?_)
 ·obtain⟨_,_,_,rfl,_⟩:=h
  rfl
 obtain⟨l,ps,f,rfl,hl,hf,hok,q⟩:=h
 have hun:=hr.un
 have hlen:=hf.len
 apply aE;intro T1
 apply aE;intro T2
 apply aE;intro T3
 apply aE;intro T4
 apply aE;intro T5
 refine⟨_,(aj (aK (cK (cf (bc cW T.b_isinstance cT (ad (pv 0) (ad (cO T.b_list gm) af))))) (al (ay bU)) aU) (aD T5 (aj (az (i:=1) ud.nd aO) (aD T4 (aj (dM cr rfl (fi (pv 0)) (cn (i:=2) ud.nd rfl (Or.inl rfl)) (aD T3 (aj (aK (cv (cK (cf (bc cW T.b_isinstance cT (ad (pv 2) (ad (cO T.b_tuple fM) af))))) (dF (aF eN (bc cm T.b_len cj (ad (pv 2) af)) ax (aC _)))).pt (al (ay bU)) aU) (aD T2 (aj (aK (cv (cK (cf (aY c__law_letters (hr.mono (by decide)) (ad (ao (pv 2)) af)))) (cv (aF IC (ao (pv 2)) (pv 1) (aC _)) (dF (cK (cf (aY c__law_is_term (hr.mono (by decide)) (ad (ao (pv 2)) af))))))).pt (al (ay bU)) aU) (aD T1 (aj (aK (aF Dp (ao (pv 2)) (bN (ad aO (ad (ao (pv 2)) af))) (aC _)) (al (ay bU)) aU) (al (az (i:=1) ud.nd (ao (pv 2))))))))))) (al (ay bU))))))),?_⟩
 refine⟨_,rfl,_,_,_,_,rfl,.lst hl,.ll,_,rfl,bf ?_⟩
 refine⟨_,rfl,l,rfl,⟨_,ak.of hl⟩,let I1:Nat->L2.St->Hp->Prop:=(fun i σ H3=>∃(x:ac)(o:Option V),σ=[some (.ref l),some (.str x),o]/\aq H H3/\∀j p,i<=j->f[j]?=some p->x.cps.toList<p.1.cps.toList);iw (K:=K) (a:=l) (xs:=ps) I1
  ⟨"",none,rfl,aq.refl _,fun j p _ hp=>?_⟩ (fun i σ H3 _ hI=>by obtain⟨_,_,_,s3,_⟩:=hI;exact s3.seq (ak.of hl)) ?_ ?_⟩
 ·have hw:=(hok.1 p (zMG hp)).1
  have e:(bT "").cps.toList=[]:=by decide +kernel
  rw[e]
  cases hc:p.1.cps.toList with
  |nil=>have:=hw.1;rw[hc]at this;simp at this
  |cons a b=>exact List.nil_lt_cons a b
 ·rintro i y σ H3 hy ⟨x,o,rfl,s3,hx⟩
  have hi:i<ps.length:=(bI.mp hy).1
  obtain⟨a,v,ea,ha0,hv0⟩:=hf.get i hi (by omega)
  have ey:y= .ref a:=by rw[<-ea];exact((bI.mp hy).2).symm
  subst ey
  have ha:H3 a=some _:=s3 _ _ ha0
  have hv:aw H3 v (f[i]'(by omega)).2:=hv0.mono (.of s3)
  have hfi:f[i]?=some (f[i]'(by omega)):=zGE (by omega)
  obtain⟨hw,hto,htn,htd,htb⟩:=hok.1 _ (zGM (by omega:i<f.length))
  have hlt:=hx i _ (aJ _) hfi
  refine⟨_,rfl,_,_,_,_,rfl,.tup ha,.tt,_,rfl,bf ⟨_,rfl,a,_,rfl,.inr (ag.of ha),rfl,_,rfl,bf ?_⟩⟩
  refine⟨_,rfl,_,_,_,_,rfl,rfl,ag.of ha,rfl,_,rfl,hw,_,rfl,bf ⟨_,rfl,_,_,_,_,rfl,rfl,ag.of ha,rfl,_,rfl,_,_,rfl,rfl,_,rfl,ck (by rw[decide_eq_true hlt];rfl) ?_⟩⟩
  refine⟨_,rfl,_,_,_,_,rfl,rfl,ag.of ha,rfl,v,_,rfl,hv,hto,by omega,fun H4 s4=>⟨_,rfl,bf ?_⟩⟩
  have ha4:=s4 _ _ ha
  refine⟨_,rfl,_,_,_,_,rfl,rfl,ag.of ha4,rfl,_,rfl,_,_,_,_,rfl,rfl,ag.of ha4,rfl,cq,fun g hg=>?_⟩
  generalize e_:ae H4 g (HO.tup [.str "blank",.str (f[i]'(by omega)).1])=H5
  obtain⟨s5,x5⟩:=aM hg e_
  refine⟨_,.blank (f[i]'(by omega)).1,(hv.mono (.of s4)).mono (.of s5),dU.mpr ⟨g,rfl,x5⟩,?_,fun b hb=>⟨_,rfl,ck (fH.mpr fun z=>htb (hb.mp z)) ?_⟩⟩
  ·have hdd:=tG (f[i]'(by omega)).2
   show (A.deeper _).units+(f[i]'(by omega)).2.dt.dep<cLine
   omega
  refine⟨_,rfl,_,_,_,_,rfl,rfl,ag.of (s5 _ _ ha4),rfl,_,_,rfl,s3.trans (s4.trans s5),fun j p hj hp=>?_⟩
  obtain⟨hjl,ejp⟩:=bI.mp hp
  rw[<-ejp]
  exact mY.mp hok.2 i j (by omega) hjl (by omega)
 ·rintro σ H3 ⟨x,o,rfl,s3,hx⟩
  exact q H3 s3
end
section
variable{P:aP}{w:aH}{K:aB}{mg:ac->Option aa}{base:aA}
def gy(ds:List Ln)(ns:List Nat):List Ln:=ns.map fun n=>ds.getD n (.num 0,.num 0)
theorem EQ(ns:List Nat):(bE ns).length=ns.length:=by unfold bE;rw[zLM]
theorem xY{ns:List Nat}{i:Nat}(h:i<ns.length):dn (bE ns) ((i:Nat):Int)=some (.int (ns[i]:Nat)):=dH (by unfold bE;rw[cV,zGE h];rfl)
inductive ER(vs:List V)(H:Hp)(Q:VK):Prop
 |mk:∀(la:Addr)(ls:List V)(ds:List Ln)(ln:Addr)(ns:List Nat),(vs=[.ref la,.ref ln])->(H la=some (.lst ls))->(i0 H ls ds)->(H ln=some (.lst (bE ns)))->((∀n∈ns,n<ds.length))->((∀p∈ds,p.2.nodes<=90))->(ns.length<=1000)->(tI (gy ds ns))->(∀H',aq H H'->Q (.bl true) H')->ER vs H Q
def xZ:Sp:=fun vs H Q _=>ER vs H Q
theorem LM{f0:Addr}{fd:bd}(F:bw K "_law_ring" "_law_ring" oK f0 fd)(T:Bi mg)(c__law_steps:aG P w K mg base 1 "_law_steps" ["_law_term"] qK):be P w K mg base bh 2 f0 fd ["_law_lines","_law_numbers"] xZ:=by
 refine F.ok oM (fun vs H Q E h=>?_) (fun cdv A outer s H vs Q E hr h=>?_)
 ·obtain⟨_,_,_,_,_,rfl,_⟩:=h
  rfl
 obtain⟨la,ls,ds,ln,ns,rfl,hla,hls,hln,hin,hsz,hnl,hR,q⟩:=h
 have hun:=hr.un
 have hnn:=EQ ns
 have hRl:(gy ds ns).length=ns.length:=by unfold gy;rw[zLM]
 have hRg:∀i (h:i<ns.length)(h':ns[i]<ds.length),(gy ds ns)[i]'(by omega)=ds[ns[i]]:=fun i h h'=>by
  unfold gy
  simp[List.getD,h']
 refine⟨_,(aj (az (i:=2) oM.nd ax)
  (aj (dM cr rfl (kN rfl T.b_range (ad (bc cm T.b_len cj (ad (pv 1) af)) af)) (cn (i:=3) oM.nd rfl (Or.inl rfl)) (aj (az (i:=4) oM.nd (bG bV (pv 0) (bG bV (pv 1) (pv 3) (fun _ _=>rfl)) (fun _ _=>rfl)))
        (aj (az (i:=5) oM.nd (bG bV (pv 0) (bG bV (pv 1) (aZ dG (aZ kP (pv 3) ax) (bc cm T.b_len cj (ad (pv 1) af))) (fun _ _=>rfl)) (fun _ _=>rfl)))
        (aj (aK (cv (aF eN (ao (ao (pv 4))) aO (aC _)) (dF (aF eN (ao (ao (pv 5))) aO (aC _)))).pt (al (ay bU)) aU)
        (aj (aK (aF qg (ao (pv 5)) (aY c__law_steps (hr.mono (by decide)) (ad (ao (pv 4)) af)) (by with_unfolding_all rfl)) (al (ay bU)) aU)
        (al (az (i:=2) oM.nd (aZ kP (pv 2) (gM GM T.b_int wH (ad (iQ bM (ao (ao (pv 4))) aO (aC _)) af))))))))))
  (al (ay (iQ su (pv 2) ax (aC _)))))),?_⟩
 refine⟨_,rfl,ln,_,rfl,.inl (ak.of hln),_,rfl,by omega,by omega,jO (lo:=0) (n:=(((bE ns).length:Nat):Int).toNat) (fun i σ H3=>∃(o3 o4 o5:Option V)(c:Int),σ=[some (.ref la),some (.ref ln),some (.int c),o3,o4,o5]/\aq H H3/\0<=c/\∀j (h:j<(gy ds ns).length),j<i->cc ((gy ds ns)[j]).2=true->0<c)
  ⟨none,none,none,0,rfl,aq.refl _,by omega,fun j _ z=>absurd z (by omega)⟩ ?_ ?_⟩
 ·rintro i σ H3 hi ⟨o3,o4,o5,c,rfl,s3,hc0,hc⟩
  rw[gH,hnn]at hi
  have e0:(0:Int)+(i:Int)=((i:Nat):Int):=by omega
  rw[e0]
  have hni:=hin _ (zGM hi)
  have hmn:(i+1) % ns.length<ns.length:=eY _ (by omega)
  have hnm:=hin _ (zGM hmn)
  obtain⟨a1,u1,v1,r1,ea1,h1,h2,h3⟩:=hls.get hni
  obtain⟨a2,u2,v2,r2,ea2,g1,g2,g3⟩:=hls.get hnm
  have eR1:=hRg i hi hni
  have eR2:(gy ds ns)[(i+1) % (gy ds ns).length]'(eY _ (by omega))=ds[ns[(i+1) % ns.length]]:=by
   have:(gy ds ns)[(i+1) % (gy ds ns).length]'(eY _ (by omega))=(gy ds ns)[(i+1) % ns.length]'(by omega):=by congr 1;rw[hRl]
   rw[this]
   exact hRg _ hmn hnm
  have hiR:i<(gy ds ns).length:=by omega
  have b1:cX ds[ns[i]].1=true:=by have:=hR.1 _ (zGM hiR);rwa [eR1]at this
  obtain⟨wx,ew,hmem⟩:=hR.2.1 i hiR
  rw[eR2]at ew
  rw[eR1]at hmem
  refine⟨_,rfl,_,rfl,_,rfl,ln,_,_,_,rfl,rfl,ak.of (s3 _ _ hln),xY hi,la,_,_,.ref a1,rfl,rfl,ak.of (s3 _ _ hla),ea1,?_⟩
  have em:((i:Int)+1) % (((bE ns).length:Nat):Int)=(((i+1) % ns.length:Nat):Int):=by rw[hnn,Ag,Int.natCast_add];rfl
  have hat2:dn (bE ns) (((i:Int)+1) % (((bE ns).length:Nat):Int))=some (.int (ns[(i+1) % ns.length]:Nat)):=by rw[em];exact xY hmn
  refine⟨_,rfl,_,rfl,_,rfl,_,_,rfl,rfl,_,rfl,ln,_,rfl,.inl (ak.of (s3 _ _ hln)),_,_,rfl,rfl,(show (0:Int)<_ by omega),ln,_,_,_,rfl,rfl,ak.of (s3 _ _ hln),hat2,la,_,_,.ref a2,rfl,rfl,ak.of (s3 _ _ hla),ea2,?_⟩
  obtain⟨k1a,k1x,k1,rfl,k1e,k1b,k1t⟩:=h2.kind
  obtain⟨k2a,k2x,k2,rfl,k2e,k2b,k2t⟩:=g2.kind
  obtain⟨k3a,k3x,k3,rfl,k3e,k3b,k3t⟩:=h3.kind
  have b2:cX ds[ns[(i+1) % ns.length]].1=true:=by rw[ew];rfl
  refine⟨_,rfl,_,_,_,_,rfl,rfl,ag.of (s3 _ _ h1),bD,_,_,_,_,rfl,rfl,ag.of (s3 _ _ k1e),bD,rfl,_,rfl,ck (by rw[k1b.mpr b1];decide +kernel) ?_⟩
  refine⟨_,rfl,_,_,_,_,rfl,rfl,ag.of (s3 _ _ g1),bD,_,_,_,_,rfl,rfl,ag.of (s3 _ _ k2e),bD,rfl,_,rfl,ck (by rw[k2b.mpr b2];decide +kernel) ?_⟩
  have hb1:=hsz _ (zGM hni)
  refine⟨_,rfl,_,_,_,_,rfl,rfl,ag.of (s3 _ _ g1),bD,_,rfl,_,_,_,_,rfl,rfl,ag.of (s3 _ _ h1),cx,.ref k3a,_,rfl,h3.mono (.of s3),by omega,fun lb us H4 s4 _ hlb hus=>?_⟩
  refine⟨(Tm.blank wx).dt,lb,us,_,?_,rfl,hlb,hus,?_,fun b hb=>⟨_,rfl,ck (fH.mpr fun z=>hb.mp z ?_) ?_⟩⟩
  ·rw[<-ew]
   exact(g2.mono (.of s3)).mono (.of s4)
  ·intro d hd
   rw[fj]at hd
   obtain⟨z,hz,rfl⟩:=bL.mp hd
   have hz':=dJ (JX z) (lB 2 (tJ (mU.mp hz)))
   show (A.deeper _).units+1+_<cLine
   omega
  ·rw[fj]
   exact bL.mpr ⟨_,tH.mpr hmem,rfl⟩
  have s34:=s3.trans s4
  refine⟨_,rfl,_,rfl,_,_,_,_,rfl,rfl,ag.of (s34 _ _ h1),cx,_,_,_,_,rfl,rfl,ag.of (s34 _ _ k3e),bD,rfl,.inr ⟨_,rfl,_,_,rfl,rfl,?_⟩⟩
  have ek:decide (V.str k3=V.str "thing")=cc ds[ns[i]].2:=by
   rw[pF,decide_eq_true_eq,V.str.injEq]
   exact k3t
  rw[ek]
  refine⟨_,_,_,_,rfl,s34,by split<;>omega,fun j hj hji ht=>?_⟩
  by_cases e:j=i
  ·subst e
   rw[eR1]at ht
   rw[if_pos ht]
   omega
  ·have:=hc j hj (by omega) ht
   split<;>omega
 ·rintro σ H3 ⟨o3,o4,o5,c,rfl,s3,hc0,hc⟩
  rw[gH,hnn]at hc
  have key:∀b,b=true->Q (.bl b) H3:=fun b hb=>by subst hb;exact q H3 s3
  obtain⟨p,hp,ht⟩:=hR.2.2
  obtain⟨k,hk,rfl⟩:=pz hp
  exact⟨_,rfl,_,_,rfl,rfl,key _ (decide_eq_true (hc k hk (by omega) ht))⟩
def nums:RI->List Int
 |.giv=>[]
 |.turn i=>[i]
 |.part i k=>[i,k]
 |.chain i j=>[i,j]
def kd:RI->ac
 |.giv=>"given"
 |.turn _=>"turn"
 |.part _ _=>"part"
 |.chain _ _=>"chain"
def ya:RI->Bool
 |.chain _ _=>true
 |_=>false
theorem LN(r:RI):mj r= .str (kd r)::(nums r).map V.int:=by cases r<;>rfl
theorem LO(r:RI):kd r="chain"↔ya r=true:=by
 cases r with
 |giv=>exact⟨fun z=>absurd z (by decide +kernel),fun z=>by cases z⟩
 |turn _=>exact⟨fun z=>absurd z (by show ("turn":ac)≠"chain";decide +kernel),fun z=>by cases z⟩
 |part _ _=>exact⟨fun z=>absurd z (by show ("part":ac)≠"chain";decide +kernel),fun z=>by cases z⟩
 |chain _ _=>exact⟨fun _=>rfl,fun _=>rfl⟩
def LP(r:RI)(n:Nat)(j:Nat):Prop:=∀x,(nums r)[j]?=some x->0<=x/\¬(x>=(n:Int)/\(j=0\/ya r=true))
theorem LQ{r:RI}{n:Nat}{q:Rs}(h:r.val n=some q):∀j,LP r n j:=by
 cases r with
 |giv=>intro j x hx;simp[nums]at hx
 |turn i=>
  simp only[RI.val]at h
  intro j x hx
  split at h
  ·rename_i c
   match j,hx with
   |0,hx=>simp[nums]at hx;subst hx;exact⟨c.1,fun z=>by omega⟩
   |j+1,hx=>simp[nums]at hx
  ·cases h
 |part i k=>
  simp only[RI.val]at h
  intro j x hx
  split at h
  ·rename_i c
   match j,hx with
   |0,hx=>simp[nums]at hx;subst hx;exact⟨c.1.1,fun z=>by omega⟩
   |1,hx=>simp[nums]at hx;subst hx;exact⟨c.2,fun z=>by simp[ya]at z⟩
   |j+2,hx=>simp[nums]at hx
  ·cases h
 |chain i k=>
  simp only[RI.val]at h
  intro j x hx
  split at h
  ·rename_i c
   match j,hx with
   |0,hx=>simp[nums]at hx;subst hx;exact⟨c.1.1,fun z=>by omega⟩
   |1,hx=>simp[nums]at hx;subst hx;exact⟨c.2.1,fun z=>by omega⟩
   |j+2,hx=>simp[nums]at hx
  ·cases h
inductive ES(vs:List V)(H:Hp)(Q:VK):Prop
 |mk:∀(a:Addr)(r:RI)(n:Nat)(rs:Rs),(vs=[.ref a,.int (n:Nat)])->(H a=some (.tup (mj r)))->(r.val n=some rs)->(∀H',aq H H'->Q (.bl true) H')->ES vs H Q
def yb:Sp:=fun vs H Q _=>ES vs H Q
theorem LR{f:Addr}{fd:bd}(F:bw K "_law_reasoned" "_law_reasoned" mI f fd)(T:Bi mg)(c__law_whole:aG P w K mg base 1 "_law_whole" ["_law_found"] oV):be P w K mg base bh 2 f fd ["_law_reason","_law_number"] yb:=by
 refine F.ok xx (fun vs H Q E h=>?_) (fun cdv A outer s H vs Q E hr h=>?_)
 ·obtain⟨_,_,_,_,rfl,_⟩:=h
  rfl
 obtain⟨a,r,n,rs,rfl,ha,hval,q⟩:=h
 have hC:=LQ hval
 have hu:(A.deeper (gG "_law_reasoned" (av mI) s.heap.objs.size f cdv)).units+1<cLine:=by have:=hr.un;omega
 rw[LN]at ha
 have hlen:(V.str (kd r)::(nums r).map V.int).length=(nums r).length+1:=by simp
 have h3:(nums r).length<=2:=by cases r<;>simp[nums]
 refine⟨_,(aj (aK (cv (cK (cf (bc cW T.b_isinstance cT (ad (pv 0) (ad (cO T.b_tuple fM) af))))) (cv (aF (Cm hr.units0) (pv 0) (bN af) (aC _)) (dF (cK (cf (bc cW T.b_isinstance cT (ad (ao (pv 0)) (ad (cO T.b_str jY) af)))))))).pt (al (ay bU)) aU)
  (aj (dM cr rfl (Gy rfl T.b_range (ad ax (ad (bc cm T.b_len cj (ad (pv 0) af)) af))) (cn (i:=2) xx.nd rfl (Or.inl rfl)) (aj (aK (cv (cK (cf (aY c__law_whole (hr.mono (by decide)) (ad (bG lV (pv 0) (pv 2) (fun _ _=>rfl)) af)))) (dF (aF lN (bG lV (pv 0) (pv 2) (fun _ _=>rfl)) ax (aC _)))).pt (al (ay bU)) aU)
        (al (aK (jq (aF pP (bG lV (pv 0) (pv 2) (fun _ _=>rfl)) (pv 1) (aC _)) (jp (cv (aF bM (pv 2) ax (aC _)) (dF (aF bM (ao (pv 0)) aO (aC _)))).pt)).pt (al (ay bU)) aU))))
  (aj (az (i:=3) xx.nd (Ig (sO aO ax (sO aO ax (sO aO ax (sO aO ax Ic)))) rfl rfl (by simp) (by decide)))
  (al (ay (iQ bM (BU hu (pv 3) (ao (pv 0)) ax ⟨rfl,rfl,rfl,rfl⟩) (bc cm T.b_len cj (ad (pv 0) af)) (aC _))))))),?_⟩
 refine⟨_,rfl,_,_,_,_,rfl,.tup ha,.tt,_,rfl,bf ?_⟩
 refine⟨_,rfl,dz,fun e0 fe0=>?_⟩
 generalize e_:ae H e0 (HO.tup [])=H1
 obtain⟨s1,x1⟩:=aM fe0 e_
 have ha1:=s1 _ _ ha
 refine⟨a,e0,_,rfl,rfl,ha1,x1,_,rfl,fQ ?_⟩
 refine⟨_,rfl,_,_,_,_,rfl,rfl,ag.of ha1,bD,_,_,_,_,rfl,.str _,.ss,_,rfl,bf ?_⟩
 refine⟨_,rfl,a,_,rfl,.inr (ag.of ha1),_,_,rfl,(by rw[hlen];omega),jO (lo:=1) (n:=(((V.str (kd r)::(nums r).map V.int).length:Int) - 1).toNat) (fun i σ H2=>∃(o2:Option V),σ=[some (.ref a),some (.int (n:Nat)),o2,none]/\H1=H2) ⟨none,rfl,rfl⟩ ?_ ?_⟩
 ·rintro i σ H2 hi ⟨o2,rfl,e2⟩
  subst e2
  have hi':i<(nums r).length:=by rw[hlen]at hi;omega
  have e0:(1:Int)+(i:Int)=((i+1:Nat):Int):=by omega
  rw[e0]
  have hat:dn (V.str (kd r)::(nums r).map V.int) ((i+1:Nat):Int)=some (.int (nums r)[i]):=dH (by rw[vi,cV,zGE hi'];rfl)
  have hx:(nums r)[i]?=some (nums r)[i]:=zGE hi'
  generalize (nums r)[i]=x at hat hx
  obtain⟨c1,c2⟩:=hC i x hx
  refine⟨_,rfl,_,rfl,_,_,_,_,rfl,rfl,ag.of ha1,hat,x,rfl,_,rfl,bf ?_⟩
  refine⟨_,rfl,_,rfl,_,_,_,_,rfl,rfl,ag.of ha1,hat,_,_,rfl,rfl,_,rfl,ck (decide_eq_false (by omega)) ?_⟩
  refine⟨_,rfl,_,rfl,_,_,_,_,rfl,rfl,ag.of ha1,hat,_,rfl,_,_,rfl,rfl,_,rfl,bO (fun c=>?_) (fun c=>bf ⟨_,rfl,rfl⟩)⟩
  have c':x>=(n:Int):=of_decide_eq_true c
  refine⟨_,rfl,rfl,_,rfl,ck (decide_eq_false fun z=>c2 ⟨c',.inl ?_⟩) ?_⟩
  ·have z':(((i+1:Nat):Int))=1:=V.int.inj z
   omega
  refine⟨_,rfl,_,_,_,_,rfl,rfl,ag.of ha1,bD,rfl,_,rfl,ck (decide_eq_false fun z=>c2 ⟨c',.inr ((LO r).mp (V.str.inj z))⟩) ?_⟩
  exact⟨_,rfl,rfl⟩
 ·rintro σ H2 ⟨o2,rfl,e2⟩
  subst e2
  have e:(bQ (lY [] [(Sum.inr "given",.int 1),(Sum.inr "turn",.int 2),(Sum.inr "part",.int 3),(Sum.inr "chain",.int 3)]) (Sum.inr (kd r)))=some (.int (((nums r).length+1:Nat):Int)):=by
   cases r with
   |giv=>show bQ _ (Sum.inr ("given":ac))=some (.int 1);decide +kernel
   |turn _=>show bQ _ (Sum.inr ("turn":ac))=some (.int 2);decide +kernel
   |part _ _=>show bQ _ (Sum.inr ("part":ac))=some (.int 3);decide +kernel
   |chain _ _=>show bQ _ (Sum.inr ("chain":ac))=some (.int 3);decide +kernel
  refine fun p fp=>?_
  have s2:=bz fp (HO.dK [])
  have x2:ae H1 p (HO.dK []) p=some _:=au
  refine⟨x2,[(Sum.inr "given",.int 1),(Sum.inr "turn",.int 2),(Sum.inr "part",.int 3),(Sum.inr "chain",.int 3)],rfl,by decide,?_⟩
  rw[pL]
  generalize e_:ae H1 p (HO.dK (lY [] [(Sum.inr "given",.int 1),(Sum.inr "turn",.int 2),(Sum.inr "part",.int 3),(Sum.inr "chain",.int 3)]))=H3
  obtain⟨s3,x3⟩:=aM fp e_
  refine⟨_,rfl,p,rfl,.inl ⟨_,.inl x3⟩,_,rfl,_,_,_,_,rfl,rfl,ag.of (s3 _ _ ha1),bD,_,db.k (k:=Sum.inr (kd r)) x3,_,rfl,a,_,rfl,.inr (ag.of (s3 _ _ ha1)),(by rw[e];rfl),?_⟩
  have key:∀b,b=true->Q (.bl b) H3:=fun b hb=>by subst hb;exact q H3 (s1.trans s3)
  refine key _ ?_
  rw[e,hlen]
  simp
theorem oX{H:Hp}{ls:List V}{ds:List Ln}(h:i0 H ls ds){n:Nat}{p:Ln}(e:ds[n]?=some p):∃a u v r,dn ls ((n:Nat):Int)=some (.ref a)/\H a=some (.tup (u::v::r))/\aw H u p.1/\aw H v p.2:=by
 obtain⟨hn,rfl⟩:=bI.mp e
 exact h.get hn
inductive ET(vs:List V)(H:Hp)(Q:VK):Prop
 |mk:∀(l:Addr)(ls:List V)(ds:List Ln)(rv v1 v2:V)(r:Rs)(g p:Ln),(vs=[.ref l,rv,v1,v2])->(H l=some (.lst ls))->(i0 H ls ds)->(J7 H rv r)->(aw H v1 g.1)->(aw H v2 g.2)->((∀p∈ds,p.1.nodes<=80/\p.2.nodes<=80))->(lg ds g r p)->(∀c x y H',aq H H'->H' c=some (.tup [x,y])->aw H' x p.1->aw H' y p.2->Q (.ref c) H')->ET vs H Q
def yc:Sp:=fun vs H Q _=>ET vs H Q
theorem LS{f:Addr}{fd:bd}(F:bw K "_law_follows" "_law_follows" oH f fd)(T:Bi mg)(c__law_clash:aG P w K mg base 1 "_law_clash" ["_law_one","_law_other"] uk):be P w K mg base bh 2 f fd ["_law_lines","_law_reason","_law_one","_law_other"] yc:=by
 refine F.ok xz (fun vs H Q E h=>?_) (fun cdv A outer s H vs Q E hr h=>?_)
 ·obtain⟨_,_,_,_,_,_,_,_,_,rfl,_⟩:=h
  rfl
 obtain⟨l,ls,ds,rv,v1,v2,r,g,p,rfl,hl,hls,⟨ra,rfl,hra⟩,h1,h2,hsz,hF,q⟩:=h
 have hun:=hr.un
 refine⟨_,(aj (aK (aF bM (ao (pv 1)) aO (aC _)) (al (ay (bN (ad (pv 2) (ad (pv 3) af))))) aU)
  (aj (az (i:=4) xz.nd (bG bV (pv 0) (ao (pv 1)) (fun _ _=>rfl)))
  (aj (aK (aF bM (ao (pv 1)) aO (aC _)) (al (ay (bN (ad (ao (pv 4)) (ad (ao (pv 4)) af))))) aU)
  (aj (aK (aF bM (ao (pv 1)) aO (aC _)) (aj (az (i:=5) xz.nd (bG bV (pv 0) (ao (pv 1)) (fun _ _=>rfl)))
        (aj (aK (aF wF (ao (pv 4)) (ao (pv 5)) (aC _)) (al (ay d9)) aU)
        (al (ay (bN (ad (ao (pv 4)) (ad (ao (pv 5)) af))))))) aU)
  (aj (aK (cv (aF eN (ao (ao (pv 4))) aO (aC _)) (cv (aF eN (ao (ao (pv 4))) aO (aC _)) (dF (cf (aY c__law_clash (hr.mono (by decide)) (ad (ao (pv 4)) (ad (ao (pv 4)) af))))))).pt (al (ay d9)) aU)
  (aj (aK (aF pP (ao (pv 1)) (bc cm T.b_len cj (ad (ao (ao (pv 4))) af)) (aC _)) (al (ay d9)) aU)
  (al (ay (bN (ad (bG lV (ao (ao (pv 4))) (ao (pv 1)) (fun _ _=>rfl)) (ad (bG lV (ao (ao (pv 4))) (ao (pv 1)) (fun _ _=>rfl)) af))))))))))),?_⟩
 cases r with
 |giv=>
  have hra:H ra=some (.tup [.str "given"]):=hra
  have e:p=g:=hF
  subst e
  exact⟨_,rfl,_,_,_,_,rfl,rfl,ag.of hra,rfl,rfl,_,rfl,cZ ⟨_,rfl,_,rfl,cq,fun c fc=>q c v1 v2 _ (bz fc _) au (h1.mono (.new fc)) (h2.mono (.new fc))⟩⟩
 |turn n=>
  have hra:H ra=some (.tup [.str "turn",.int (n:Nat)]):=hra
  obtain⟨p',en,rfl⟩:=hF
  obtain⟨a,u,v,rr,hat,ha,hu,hv⟩:=oX hls en
  refine⟨_,rfl,_,_,_,_,rfl,rfl,ag.of hra,rfl,rfl,_,rfl,bj ?_⟩
  refine⟨_,rfl,_,rfl,_,_,_,_,rfl,rfl,ag.of hra,rfl,l,ls,_,_,rfl,rfl,ak.of hl,hat,?_⟩
  refine⟨_,rfl,_,_,_,_,rfl,rfl,ag.of hra,rfl,rfl,_,rfl,cZ ?_⟩
  exact⟨_,rfl,_,_,_,_,rfl,rfl,ag.of ha,cx,_,rfl,_,_,_,_,rfl,rfl,ag.of ha,bD,cq,fun c fc=>q c _ _ _ (bz fc _) au (hv.mono (.new fc)) (hu.mono (.new fc))⟩
 |chain n m=>
  have hra:H ra=some (.tup [.str "chain",.int (n:Nat),.int (m:Nat)]):=hra
  obtain⟨x,y,z,en,em,rfl⟩:=hF
  obtain⟨a,u,v,rr,hat,ha,hu,hv⟩:=oX hls en
  obtain⟨a',u',v',rr',hat',ha',hu',hv'⟩:=oX hls em
  have hz:x.nodes<=80/\y.nodes<=80:=hsz _ (zMG en)
  refine⟨_,rfl,_,_,_,_,rfl,rfl,ag.of hra,rfl,rfl,_,rfl,bj ?_⟩
  refine⟨_,rfl,_,rfl,_,_,_,_,rfl,rfl,ag.of hra,rfl,l,ls,_,_,rfl,rfl,ak.of hl,hat,?_⟩
  refine⟨_,rfl,_,_,_,_,rfl,rfl,ag.of hra,rfl,rfl,_,rfl,bj ?_⟩
  refine⟨_,rfl,_,_,_,_,rfl,rfl,ag.of hra,rfl,rfl,_,rfl,cZ ?_⟩
  refine⟨_,rfl,_,rfl,_,_,_,_,rfl,rfl,ag.of hra,rfl,l,ls,_,_,rfl,rfl,ak.of hl,hat',?_⟩
  refine⟨_,rfl,_,_,_,_,rfl,rfl,ag.of ha,cx,_,rfl,_,_,_,_,rfl,rfl,ag.of ha',bD,y,y,hv,hu',(by show (A.deeper _).units+_<cLine;omega),fun b hb=>⟨_,rfl,ck (fH.mpr fun z=>hb.mp z rfl) ?_⟩⟩
  exact⟨_,rfl,_,_,_,_,rfl,rfl,ag.of ha,bD,_,rfl,_,_,_,_,rfl,rfl,ag.of ha',cx,cq,fun c fc=>q c _ _ _ (bz fc _) au (hu.mono (.new fc)) (hv'.mono (.new fc))⟩
 |part n k=>
  have hra:H ra=some (.tup [.str "part",.int (n:Nat),.int (k:Nat)]):=hra
  obtain⟨w1,ps,qs,x,y,en,hpq,ex,ey,rfl⟩:=hF
  obtain⟨a,u,v,rr,hat,ha,hu,hv⟩:=oX hls en
  have hz:(Tm.thing w1 ps).nodes<=80/\(Tm.thing w1 qs).nodes<=80:=hsz _ (zMG en)
  refine⟨_,rfl,_,_,_,_,rfl,rfl,ag.of hra,rfl,rfl,_,rfl,bj ?_⟩
  refine⟨_,rfl,_,rfl,_,_,_,_,rfl,rfl,ag.of hra,rfl,l,ls,_,_,rfl,rfl,ak.of hl,hat,?_⟩
  refine⟨_,rfl,_,_,_,_,rfl,rfl,ag.of hra,rfl,rfl,_,rfl,bj ?_⟩
  refine⟨_,rfl,_,_,_,_,rfl,rfl,ag.of hra,rfl,rfl,_,rfl,bj ?_⟩
  obtain⟨a1,d1,us1,rfl,j1,g1,m1⟩:=dr.mp hu
  obtain⟨a2,d2,us2,rfl,j2,g2,m2⟩:=dr.mp hv
  have l1:=m1.len
  have l2:=m2.len
  obtain⟨hk1,rfl⟩:=bI.mp ex
  obtain⟨hk2,rfl⟩:=bI.mp ey
  refine⟨_,rfl,_,_,_,_,rfl,rfl,ag.of ha,bD,_,_,_,_,rfl,rfl,ag.of j1,bD,rfl,_,rfl,bj ?_⟩
  refine⟨_,rfl,_,_,_,_,rfl,rfl,ag.of ha,cx,_,_,_,_,rfl,rfl,ag.of j2,bD,rfl,_,rfl,bj ?_⟩
  refine⟨_,rfl,_,_,_,_,rfl,rfl,ag.of ha,bD,_,rfl,_,_,_,_,rfl,rfl,ag.of ha,cx,_,_,Tm.thing w1 ps,Tm.thing w1 qs,rfl,hu,hv,by omega,fun b hb=>⟨_,rfl,ck (fH.mpr fun z=>(qG.mp (hb.mp z).2.2).elim (fun y=>y rfl) (fun y=>y hpq)) ?_⟩⟩
  refine⟨_,rfl,_,_,_,_,rfl,rfl,ag.of hra,rfl,_,rfl,_,_,_,_,rfl,rfl,ag.of ha,bD,_,_,_,_,rfl,rfl,ag.of j1,rfl,d1,us1,rfl,.inr (ag.of g1),_,_,rfl,rfl,_,rfl,ck (decide_eq_false (by omega)) ?_⟩
  exact⟨_,rfl,_,_,_,_,rfl,rfl,ag.of ha,bD,_,_,_,_,rfl,rfl,ag.of j1,rfl,_,rfl,_,_,_,_,rfl,rfl,ag.of hra,rfl,_,_,_,us1[k]'(by omega),rfl,rfl,ag.of g1,dH (zGE (by omega)),
   _,rfl,_,_,_,_,rfl,rfl,ag.of ha,cx,_,_,_,_,rfl,rfl,ag.of j2,rfl,_,rfl,_,_,_,_,rfl,rfl,ag.of hra,rfl,_,_,_,us2[k]'(by omega),rfl,rfl,ag.of g2,dH (zGE (by omega)),cq,fun c fc=>q c _ _ _ (bz fc _) au ((m1.at k (by omega) hk1).mono (.new fc)) ((m2.at k (by omega) hk2).mono (.new fc))⟩
end
section
variable{P:aP}{w:aH}{K:aB}{mg:ac->Option aa}{base:aA}
theorem uw{K:aB}{p:Addr}{xs:List V}{i:Int}{v:V}{H:Hp}{Q:VK}(h:ak K H p xs\/ag K H p xs)(e:dn xs i=some v)(q:Q v H):Br K (.ref p) (.int i) H Q:=by
 rcases h with h|h
 ·exact .inl ⟨p,xs,i,v,rfl,rfl,h,e,q⟩
 ·exact .inr (.inl ⟨p,xs,i,v,rfl,rfl,h,e,q⟩)
def gz(H0 H:Hp)(us:List V)(ds:List Dt):Prop:=Paired (fun x d=>∃g a b,x= .ref g/\H g=some (.tup [a,b])/\aQ H0 a d/\aQ H0 b d) us ds
theorem gz.mono{H0 H H':Hp}{us:List V}{ds:List Dt}(k:aV H H')(h:gz H0 H us ds):gz H0 H' us ds:=
 jZ (fun _ _ hI=>by obtain⟨g,a,b,e,h1,h2,h3⟩:=hI;exact⟨g,a,b,e,k _ _ h1,h2,h3⟩) h
theorem gz.snoc{H0 H:Hp}:∀{us:List V}{u:V}{ds:List Dt}{d:Dt},gz H0 H (us++[u]) (ds++[d])->gz H0 H us ds/\∃g a b,u= .ref g/\H g=some (.tup [a,b])/\aQ H0 a d/\aQ H0 b d
 |[],_,[],_,.cons h .nil=>⟨.nil,h⟩
 |[],_,_::[],_,.cons _ r=>nomatch r
 |[],_,_::_::_,_,.cons _ r=>nomatch r
 |_::[],_,[],_,.cons _ r=>nomatch r
 |_::_::_,_,[],_,.cons _ r=>nomatch r
 |_::_,_,_::_,_,.cons h r=>let ⟨a,b⟩:=gz.snoc r;⟨.cons h a,b⟩
inductive EU(vs:List V)(H:Hp)(Q:VK):Prop
 |mk:∀(x y:V)(d:Dt),(vs=[x,y])->(aQ H x d)->(aQ H y d)->(d.size<=11000000)->(∀H',aq H H'->Q (.bl true) H')->EU vs H Q
def ux:Sp:=fun vs H Q _=>EU vs H Q
theorem LU{f0:Addr}{fd:bd}(F:bw K "_law_so" "_law_so" oS f0 fd)(T:Bi mg):be P w K mg base bh 1 f0 fd ["_law_found","_law_due"] ux:=by
 refine F.ok qE (fun vs H Q E h=>?_) (fun cdv A outer s H vs Q E hr h=>?_)
 ·obtain⟨_,_,_,rfl,_⟩:=h
  rfl
 obtain⟨x,y,d,rfl,hx,hy,hsz,q⟩:=h
 refine⟨_,(aj (az (i:=2) qE.nd (ca (ad (bN (ad (pv 0) (ad (pv 1) af))) af)))
  (aj (iu cr (aF (sU hr.units0) (pv 2) (ca af) (aC _)) (aj (v5 (kQ ce kK kL kR (pv 2)) (v4 rfl (nr (cn (i:=3) qE.nd rfl (Or.inl rfl)) (nr (cn (i:=4) qE.nd rfl (Or.inl rfl)) v3))))
        (al (aK (cf (bc Jx T.b_isinstance cT (ad (pv 4) (ad (bN (ad (cO T.b_list gm) (ad (cO T.b_tuple fM) af))) af)))) (aj (aK (aF eN (bc cW T.b_isinstance cT (ad (pv 3) (ad (cO T.b_list gm) af))) (bc cW T.b_isinstance cT (ad (pv 4) (ad (cO T.b_list gm) af))) (aC _)) (al (ay bU)) aU)
         (aj (aK (aF eN (bc cW T.b_isinstance cT (ad (pv 3) (ad (cO T.b_tuple fM) af))) (bc cW T.b_isinstance cT (ad (pv 4) (ad (cO T.b_tuple fM) af))) (aC _)) (al (ay bU)) aU)
         (aj (aK (aF eN (bc cm T.b_len cj (ad (pv 3) af)) (bc cm T.b_len cj (ad (pv 4) af)) (aC _)) (al (ay bU)) aU)
         (al (dM cr rfl (kN rfl T.b_range (ad (bc cm T.b_len cj (ad (pv 4) af)) af)) (cn (i:=5) qE.nd rfl (Or.inl rfl)) (al (cp (cE ce dk dl dg (pv 2) (ad (bN (ad (bG Bs (pv 3) (pv 5) (fun _ _=>rfl)) (ad (bG Bs (pv 4) (pv 5) (fun _ _=>rfl)) af))) af))))))))) (al (aK (cf (bc cW T.b_isinstance cT (ad (pv 4) (ad (cO T.b_str jY) af)))) (al (aK (cv (cK (cf (bc cW T.b_isinstance cT (ad (pv 3) (ad (cO T.b_str jY) af))))) (dF (aF eN (pv 3) (pv 4) (aC _)))).pt (al (ay bU)) aU)) (al (aK (cf (bc cW T.b_isinstance cT (ad (pv 4) (ad (cO T.b_bool sV) af)))) (al (aK (cv (cK (cf (bc cW T.b_isinstance cT (ad (pv 3) (ad (cO T.b_bool sV) af))))) (dF (aF eN (pv 3) (pv 4) (aC _)))).pt (al (ay bU)) aU)) (al (aK (aF lO (pv 4) d9 (aC _)) (al (aK (aF nv (pv 3) d9 (aC _)) (al (ay bU)) aU)) (al (aK (cv (cK (cf (bc cW T.b_isinstance cT (ad (pv 3) (ad (cO T.b_int wH) af))))) (cv (cf (bc cW T.b_isinstance cT (ad (pv 3) (ad (cO T.b_bool sV) af)))) (dF (aF eN (pv 3) (pv 4) (aC _))))).pt (al (ay bU)) aU))))))))))))
  (al (ay bU)))),?_⟩
 refine⟨_,rfl,_,rfl,cq,fun g0 hg0=>?_⟩
 generalize e_:ae H g0 (HO.tup [x,y])=H1
 obtain⟨s1,x1⟩:=aM hg0 e_
 refine⟨gQ,fun p hp1=>?_⟩
 have hp:H p=none:=s1.free hp1
 refine⟨fun m σ HA=>∃(o3 o4 o5:Option V)(us:List V)(ds:List Dt),σ=[some x,some y,some (.ref p),o3,o4,o5]/\aq H HA/\HA p=some (.lst us)/\gz H HA us ds/\dh ds=m/\m<=11000000,
  ⟨_,none,none,none,[.ref g0],[d],rfl,s1.trans (bz hp1 _),au,.cons ⟨g0,x,y,rfl,bz hp1 _ _ _ x1,hx,hy⟩ .nil,rfl,by simp only[dh];omega⟩,?_⟩
 rintro m σ HA ⟨o3,o4,o5,us,ds,rfl,sA,gp,htd,hnd,hm⟩
 refine⟨_,rfl,dz,fun e he=>?_⟩
 generalize e_:ae HA e (HO.lst [])=HB
 obtain⟨sB,xB⟩:=aM he e_
 have gpB:=sB _ _ gp
 refine⟨p,e,us,rfl,rfl,gpB,xB,_,rfl,bO (fun c=>⟨_,fun _ _ h=>h,?_⟩) (fun c=>q HB (sA.trans sB))⟩
 have hne:us≠[]:=by intro z;rw[z]at c;exact absurd c (by decide)
 have htdB:=htd.mono (.of sB)
 have hlen2:=Paired.length htdB
 obtain⟨us0,u,rfl⟩:=iE hne
 obtain⟨ds0,d1,rfl⟩:=iE (l:=ds) (by intro z;rw[z]at hlen2;simp at hlen2)
 obtain⟨htd0,g1,a1,b1,rfl,hg1,ha1,hb1⟩:=htdB.snoc
 rw[wQ]at hnd
 simp only[dh]at hnd
 have hl0:=wR ds0
 have hu0:=Paired.length htd0
 have hn1:=d1.size_pos
 refine⟨_,rfl,.inl ⟨rfl,_,ak.of gpB⟩,p,_,.ref g1,rfl,rfl,gpB,by simp,?_⟩
 rw[lH]
 have kC:aV HB (ae HB p (HO.lst us0)):= .lst gpB
 have xC:ae HB p (HO.lst us0) p=some _:=au
 have sC:aq H (ae HB p (HO.lst us0)):=fun b ob z=>by rw[am (aN z hp)];exact sB _ _ (sA _ _ z)
 generalize ae HB p (HO.lst us0)=HC at kC xC sC |-
 have htC:gz H HC us0 ds0:=htd0.mono kC
 refine⟨g1,_,rfl,ag.of (kC _ _ hg1),rfl,_,_,rfl,_,_,rfl,rfl,?_⟩
 refine⟨_,rfl,cq,fun g hg=>?_⟩
 have sF0:=bz hg (HO.tup (["list","tuple"].map V.ty))
 have xF:ae HC g (HO.tup (["list","tuple"].map V.ty)) g=some _:=au
 have eF:ae HC g (HO.tup [V.ty "list",V.ty "tuple"])=ae HC g (HO.tup (["list","tuple"].map V.ty)):=rfl
 rw[eF]
 generalize ae HC g (HO.tup (["list","tuple"].map V.ty))=HF at sF0 xF |-
 have sF:aq H HF:=sC.trans sF0
 have gpF:HF p=some (.lst us0):=sF0 _ _ xC
 have htF:gz H HF us0 ds0:=htC.mono (.of sF0)
 have done:∃m',m'<m/\∃(o3 o4 o5':Option V)(us:List V)(ds:List Dt),[some x,some y,some (.ref p),some a1,some b1,o5]=[some x,some y,some (.ref p),o3,o4,o5']/\aq H HF/\HF p=some (.lst us)/\gz H HF us ds/\dh ds=m'/\m'<=11000000:=
  ⟨dh ds0,by omega,_,_,_,us0,ds0,rfl,sF,gpF,htF,rfl,by omega⟩
 cases d1 with
 |int n=>
  simp only[aQ]at ha1 hb1
  subst ha1 hb1
  refine⟨_,g,["list","tuple"],_,_,rfl,xF,.int _,.i,_,rfl,bf ?_⟩
  refine⟨_,rfl,_,_,_,_,rfl,.int _,.is,_,rfl,bf ?_⟩
  refine⟨_,rfl,_,_,_,_,rfl,.int _,.ib,_,rfl,bf ?_⟩
  refine⟨_,rfl,rfl,_,rfl,fQ ?_⟩
  refine⟨_,rfl,_,_,_,_,rfl,.int _,.ii,_,rfl,bf ⟨_,rfl,_,_,_,_,rfl,.int _,.ib,_,rfl,bf ⟨_,rfl,_,rfl,rfl,_,rfl,fQ done⟩⟩⟩
 |str n=>
  simp only[aQ]at ha1 hb1
  subst ha1 hb1
  refine⟨_,g,["list","tuple"],_,_,rfl,xF,.str _,.s,_,rfl,bf ?_⟩
  refine⟨_,rfl,_,_,_,_,rfl,.str _,.ss,_,rfl,g9 ?_⟩
  exact⟨_,rfl,_,_,_,_,rfl,.str _,.ss,_,rfl,bf ⟨_,rfl,_,rfl,rfl,_,rfl,fQ done⟩⟩
 |tup l=>
  simp only[aQ]at ha1 hb1
  obtain⟨a2,vs2,rfl,h1,dv⟩:=ha1
  obtain⟨b2,us2,rfl,h3,du⟩:=hb1
  have l2:=dv.length
  have l3:=du.length
  have hll:=wR l
  simp only[Dt.size]at hnd
  have sq1:∀H',aq H H'->ak K H' a2 vs2\/ag K H' a2 vs2:=fun H' k=>.inr (ag.of (k _ _ h1))
  have sq2:∀H',aq H H'->ak K H' b2 us2\/ag K H' b2 us2:=fun H' k=>.inr (ag.of (k _ _ h3))
  refine⟨_,g,["list","tuple"],_,_,rfl,xF,.tup (sF _ _ h3),.t,_,rfl,g9 ?_⟩
  refine⟨_,rfl,_,_,_,_,rfl,.tup (sF _ _ h1),.tl,_,rfl,_,_,_,_,rfl,.tup (sF _ _ h3),.tl,rfl,_,rfl,ck (by decide) ?_⟩
  refine⟨_,rfl,_,_,_,_,rfl,.tup (sF _ _ h1),.tt,_,rfl,_,_,_,_,rfl,.tup (sF _ _ h3),.tt,rfl,_,rfl,ck (by decide) ?_⟩
  refine⟨_,rfl,a2,_,rfl,sq1 _ sF,_,rfl,b2,_,rfl,sq2 _ sF,rfl,_,rfl,ck (by rw[l2,l3];simp) ?_⟩
  refine⟨_,rfl,b2,_,rfl,sq2 _ sF,_,rfl,by omega,by omega,jO (lo:=0) (n:=((us2.length:Nat):Int).toNat) (fun i σ HD=>∃(o4:Option V)(ws:List V),σ=[some x,some y,some (.ref p),some (.ref a2),some (.ref b2),o4]/\aq H HD/\aV HF HD/\HD p=some (.lst ws)/\gz H HD ws (ds0++l.take i)/\i<=l.length)
   ⟨_,us0,rfl,sF,.refl _,gpF,by simpa using htF,cP _⟩ ?_ ?_⟩
  ·rintro i σ HD hi ⟨o4,ws,rfl,sD,kD,gpD,htD,hil⟩
   rw[gH]at hi
   have e0:(0:Int)+(i:Int)=((i:Nat):Int):=by omega
   rw[e0]
   have hwl:=Paired.length htD
   rw[zLA,zLT]at hwl
   refine⟨_,rfl,.inl ⟨rfl,_,ak.of gpD⟩,_,rfl,_,rfl,uw (sq1 _ sD) (dH (zGE (by omega:i<vs2.length))) ?_⟩
   refine⟨_,rfl,_,rfl,uw (sq2 _ sD) (dH (zGE hi)) ?_⟩
   refine⟨cq,fun g hg=>?_⟩
   generalize e_:ae HD g (HO.tup [vs2[i]'(by omega),us2[i]])=HE
   obtain⟨sE,xE⟩:=aM hg e_
   have h6:ws.length<=11000000:=by omega
   refine⟨p,_,_,rfl,rfl,sE _ _ gpD,big (by omega),?_⟩
   have kG:aV HE (ae HE p (HO.lst (ws++[.ref g]))):= .lst (sE _ _ gpD)
   refine⟨_,ws++[.ref g],rfl,fun b ob z=>by rw[am (aN z hp)];exact sE _ _ (sD _ _ z),(kD.trans (.of sE)).trans kG,au,?_,by omega⟩
   rw[zTS (by omega:i<l.length),<-d8]
   exact Paired.snoc (gz.mono ((aV.of sE).trans kG) htD) ⟨g,_,_,rfl,kG _ _ xE,dv.get i (by omega) (by omega),du.get i hi (by omega)⟩
  ·rintro σ HD ⟨o4,ws,rfl,sD,kD,gpD,htD,hil⟩
   rw[gH,dL (by omega)]at htD
   exact⟨dh ds0+dh l,by omega,_,_,_,ws,ds0++l,rfl,sD,gpD,htD,wQ _ _,by omega⟩
 |lst l=>
  simp only[aQ]at ha1 hb1
  obtain⟨a2,vs2,rfl,h1,dv⟩:=ha1
  obtain⟨b2,us2,rfl,h3,du⟩:=hb1
  have l2:=dv.length
  have l3:=du.length
  have hll:=wR l
  simp only[Dt.size]at hnd
  have sq1:∀H',aq H H'->ak K H' a2 vs2\/ag K H' a2 vs2:=fun H' k=>.inl (ak.of (k _ _ h1))
  have sq2:∀H',aq H H'->ak K H' b2 us2\/ag K H' b2 us2:=fun H' k=>.inl (ak.of (k _ _ h3))
  refine⟨_,g,["list","tuple"],_,_,rfl,xF,.lst (sF _ _ h3),.l,_,rfl,g9 ?_⟩
  refine⟨_,rfl,_,_,_,_,rfl,.lst (sF _ _ h1),.ll,_,rfl,_,_,_,_,rfl,.lst (sF _ _ h3),.ll,rfl,_,rfl,ck (by decide) ?_⟩
  refine⟨_,rfl,_,_,_,_,rfl,.lst (sF _ _ h1),.lt,_,rfl,_,_,_,_,rfl,.lst (sF _ _ h3),.lt,rfl,_,rfl,ck (by decide) ?_⟩
  refine⟨_,rfl,a2,_,rfl,sq1 _ sF,_,rfl,b2,_,rfl,sq2 _ sF,rfl,_,rfl,ck (by rw[l2,l3];simp) ?_⟩
  refine⟨_,rfl,b2,_,rfl,sq2 _ sF,_,rfl,by omega,by omega,jO (lo:=0) (n:=((us2.length:Nat):Int).toNat) (fun i σ HD=>∃(o4:Option V)(ws:List V),σ=[some x,some y,some (.ref p),some (.ref a2),some (.ref b2),o4]/\aq H HD/\aV HF HD/\HD p=some (.lst ws)/\gz H HD ws (ds0++l.take i)/\i<=l.length)
   ⟨_,us0,rfl,sF,.refl _,gpF,by simpa using htF,cP _⟩ ?_ ?_⟩
  ·rintro i σ HD hi ⟨o4,ws,rfl,sD,kD,gpD,htD,hil⟩
   rw[gH]at hi
   have e0:(0:Int)+(i:Int)=((i:Nat):Int):=by omega
   rw[e0]
   have hwl:=Paired.length htD
   rw[zLA,zLT]at hwl
   refine⟨_,rfl,.inl ⟨rfl,_,ak.of gpD⟩,_,rfl,_,rfl,uw (sq1 _ sD) (dH (zGE (by omega:i<vs2.length))) ?_⟩
   refine⟨_,rfl,_,rfl,uw (sq2 _ sD) (dH (zGE hi)) ?_⟩
   refine⟨cq,fun g hg=>?_⟩
   generalize e_:ae HD g (HO.tup [vs2[i]'(by omega),us2[i]])=HE
   obtain⟨sE,xE⟩:=aM hg e_
   have h6:ws.length<=11000000:=by omega
   refine⟨p,_,_,rfl,rfl,sE _ _ gpD,big (by omega),?_⟩
   have kG:aV HE (ae HE p (HO.lst (ws++[.ref g]))):= .lst (sE _ _ gpD)
   refine⟨_,ws++[.ref g],rfl,fun b ob z=>by rw[am (aN z hp)];exact sE _ _ (sD _ _ z),(kD.trans (.of sE)).trans kG,au,?_,by omega⟩
   rw[zTS (by omega:i<l.length),<-d8]
   exact Paired.snoc (gz.mono ((aV.of sE).trans kG) htD) ⟨g,_,_,rfl,kG _ _ xE,dv.get i (by omega) (by omega),du.get i hi (by omega)⟩
  ·rintro σ HD ⟨o4,ws,rfl,sD,kD,gpD,htD,hil⟩
   rw[gH,dL (by omega)]at htD
   exact⟨dh ds0+dh l,by omega,_,_,_,ws,ds0++l,rfl,sD,gpD,htD,wQ _ _,by omega⟩
end
end K07
namespace BF
open PySem PySem.Spec PyProof.Rows L2
open Sem (wp)
theorem LV{prog:aP}{w:aH}{A:bx}{E:aa->ah->Prop}{s:ah}{t sl:Addr}{items:Array aa}{vl vu:aa}{lo hi:Option Int}{Q:aa->ah->Prop}(ht:cz s.heap t items)(hs:s.heap.IsSliceOf sl vl vu .none)(pl:IsPart vl lo)(pu:IsPart vu hi)
 (hw:HT.sIx items.size 0 lo=0/\HT.sIx items.size items.size hi=items.size) (h:Q (.ref t) s):wpAny (model prog w) A (getItem (.ref t) (.ref sl)) Q E s:=by
 obtain⟨os,hos,hcs,hds⟩:=id hs
 have hTs:s.TypeIs (.ref sl) "slice":=⟨os,hos,hcs⟩
 unfold getItem
 try with_reducible refine gR ?_
 first|refine ai (aR ?_)|skip
 refine ai (yH ht.typeIs (by decide) ?_)
 refine ai (ij (name:=bT "__getitem__") ht.typeIs m8
  (fF m8 ht.typeIs zW ?_ (zX _ _)))
 show wpAny _ _ (At (.ref t) >>= _) _ _ s
 refine ai (tupleItemsOf_ ht ?_)
 refine ai (ly hTs ?_)
 rw[if_pos (by decide)]
 refine ai (HT.sliceApplied_gen hs pl pu ?_)
 show wpAny _ _ (if (((HT.sIx items.size 0 lo:Nat):Int)==0&&(1:Int)==1&&(HT.sIx items.size items.size hi - HT.sIx items.size 0 lo)==items.size)=true then _ else _) _ _ s
 rw[if_pos (by rw[hw.1,hw.2];simp)]
 refine ai ?_
 unfold dA.Tuple.tupleIsExact
 refine ai (ly ht.typeIs ?_)
 refine aR ?_
 rw[if_pos (by decide)]
 refine ai (jf ?_)
 exact aR ⟨_,rfl,aR h⟩
inductive EV(X:Cx)(x:V)(lo:Option Int)(hi:Option Int)(H:Hp)(Q:VK):Prop
 |mk:∀a xs,(x= .ref a)->(ag X.K H a xs)->((HT.sIx xs.length 0 lo=0/\HT.sIx xs.length xs.length hi=xs.length))->(Q (.ref a) H)->EV X x lo hi H Q
theorem LW{X:Cx}:sJ X (fun x lo hi H Q=>EV X x lo hi H Q):=by
 intro pins s σ H x v vl vu lo hi sl Q I rx hs pl pu h
 obtain⟨a,xs,rfl,hx,hw,q⟩:=h
 cases rx
 obtain⟨its,r,ht,hz⟩:=I.tuple hx
 have hlen:its.toArray.size=xs.length:=by rw[bW];exact r.length.symm
 refine⟨"tuple",_,m8.lookup,ht.typeIs,?_⟩
 exact LV ht hs pl pu (by rw[hlen];exact hw) ⟨.ref a,H,I,rfl,q⟩
end BF
namespace K07
open PySem L2 BF
section
variable{P:aP}{w:aH}{K:aB}{mg:ac->Option aa}{base:aA}
theorem LX{n:Nat}{r:RI}{q:Rs}(h:r.val n=some q):mj r=xb q:=by
 rw[<-(RI.val_in h).2,J8]
theorem two_dat{H:Hp}{a:Addr}{x y:V}{t u:Tm}(h:H a=some (.tup [x,y]))(hx:aw H x t)(hy:aw H y u):aQ H (.ref a) (.tup [t.dt,u.dt]):=by
 simp only[aQ,bX]
 exact⟨a,_,rfl,h,_,_,rfl,hx,_,_,rfl,hy,rfl⟩
theorem two_size{t u:Tm}(ht:t.nodes<=80)(hu:u.nodes<=80):(Dt.tup [t.dt,u.dt]).size<=11000000:=by
 have h1:=wS t
 have h2:=wS u
 simp only[Dt.size,dh]
 omega
inductive EW(vs:List V)(H:Hp)(Q:VK):Prop
 |mk:∀(l:Addr)(ls:List V)(fs:List (Ln×RI))(v1 v2:V)(g:Ln),(vs=[.ref l,v1,v2])->(H l=some (.lst ls))->(dX H ls fs)->(aw H v1 g.1)->(aw H v2 g.2)->(fs.length<=80000)->((∀p∈fs,p.1.1.nodes<=80/\p.1.2.nodes<=80))->(eg g [] fs)->(∀k ks H',aq H H'->H' k=some (.lst ks)->i0 H' ks (fs.map (·.1))->Q (.ref k) H')->EW vs H Q
def uy:Sp:=fun vs H Q _=>EW vs H Q
theorem LY{f:Addr}{fd:bd}(F:bw K "_law_reckoned" "_law_reckoned" oJ f fd)(T:Bi mg)(c__law_reasoned:aG P w K mg base 2 "_law_reasoned" ["_law_reason","_law_number"] yb)(c__law_follows:aG P w K mg base 2 "_law_follows" ["_law_lines","_law_reason","_law_one","_law_other"] yc)(c__law_so:aG P w K mg base 1 "_law_so" ["_law_found","_law_due"] ux):
 be P w K mg base bh 3 f fd ["_law_lines","_law_one","_law_other"] uy:=by
 refine F.ok qz (fun vs H Q E h=>?_) (fun cdv A outer s H vs Q E hr h=>?_)
 ·obtain⟨_,_,_,_,_,_,rfl,_⟩:=h
  rfl
 obtain⟨l,ls,fs,v1,v2,g,rfl,hl,hls,h1,h2,hlen,hsz,hsnd,q⟩:=h
 have hll:ls.length=fs.length:=Paired.length hls
 refine⟨_,(aj (aK (cK (cf (bc cW T.b_isinstance cT (ad (pv 0) (ad (cO T.b_list gm) af))))) (al (ay d9)) aU)
  (aj (az (i:=3) qz.nd (ca af))
  (aj (dM cr rfl (kN rfl T.b_range (ad (bc cm T.b_len cj (ad (pv 0) af)) af)) (cn (i:=4) qz.nd rfl (Or.inl rfl)) (aj (az (i:=5) qz.nd (bG bV (pv 0) (pv 4) (fun _ _=>rfl)))
        (aj (aK (cv (cK (cf (bc cW T.b_isinstance cT (ad (pv 5) (ad (cO T.b_tuple fM) af))))) (cv (aF eN (bc cm T.b_len cj (ad (pv 5) af)) ax (aC _)) (dF (cK (cf (aY c__law_reasoned (hr.mono (by decide)) (ad (ao (pv 5)) (ad (pv 4) af)))))))).pt (al (ay d9)) aU)
        (aj (az (i:=6) qz.nd (aY c__law_follows (hr.mono (by decide)) (ad (pv 3) (ad (ao (pv 5)) (ad (pv 1) (ad (pv 2) af))))))
        (aj (aK (cv (aF lO (pv 6) d9 (aC _)) (cv (cK (cf (bc cW T.b_isinstance cT (ad (ao (pv 5)) (ad (cO T.b_tuple fM) af))))) (dF (cK (cf (bc cW T.b_isinstance cT (ad (ao (pv 5)) (ad (cO T.b_tuple fM) af)))))))).pt (al (ay d9)) aU)
        (aj (aK (cK (cf (aY c__law_so (hr.mono (by decide)) (ad (fS Bl (pv 5) gj (fK ax)) (ad (fS LW (pv 6) gj (fK ax)) af))))) (al (ay d9)) aU)
        (al (cp (cE ce dk dl dg (pv 3) (ad (pv 6) af))))))))))
  (al (ay (pv 3)))))),?_⟩
 refine⟨_,rfl,_,_,_,_,rfl,.lst hl,.ll,_,rfl,bf ?_⟩
 refine⟨dz,fun p hp=>?_⟩
 generalize e_:ae H p (HO.lst [])=H1
 obtain⟨s1,x1⟩:=aM hp e_
 refine⟨_,rfl,l,ls,rfl,.inl (ak.of (s1 _ _ hl)),_,rfl,by omega,by omega,jO (lo:=0) (n:=((ls.length:Nat):Int).toNat) (fun i σ H3=>∃(o4 o5 o6:Option V)(ks:List V),σ=[some (.ref l),some v1,some v2,some (.ref p),o4,o5,o6]/\aq H H3/\H3 p=some (.lst ks)/\i0 H3 ks ((fs.take i).map (·.1)))
  ⟨none,none,none,[],rfl,s1,x1,.nil⟩ ?_ ?_⟩
 ·rintro i σ H3 hi ⟨o4,o5,o6,ks,rfl,s3,g3,hks⟩
  rw[gH]at hi
  have e0:(0:Int)+(i:Int)=((i:Nat):Int):=by omega
  rw[e0]
  have hi':i<fs.length:=by omega
  obtain⟨a,u,v,r,e1,ha,hr',hu,hv⟩:=iI (dX.mono (.of s3) hls) (zGE hi')
  have hz:=hsz _ (zGM hi')
  have hkl:ks.length=i:=by
   have:=Paired.length hks
   rw[zLM,zLT]at this
   omega
  have hdl:((fs.take i).map (·.1)).length=i:=by rw[zLM,zLT];omega
  have hsz':∀z∈(fs.take i).map (·.1),z.1.nodes<=80/\z.2.nodes<=80:=fun z hz=>by
   obtain⟨y,hy,rfl⟩:=bL.mp hz
   exact hsz y (mZ hy)
  obtain⟨rs,hrs,hF⟩:=(J9 hi' (DD i hsnd)).mp (DD (i+1) hsnd)
  rw[hdl]at hrs
  have hri:=LX hrs
  refine⟨_,rfl,_,rfl,l,ls,_,.ref a,rfl,rfl,ak.of (s3 _ _ hl),e1,?_⟩
  refine⟨_,rfl,_,_,_,_,rfl,.tup ha,.tt,_,rfl,bf ⟨_,rfl,a,_,rfl,.inr (ag.of ha),rfl,_,rfl,bf ?_⟩⟩
  refine⟨_,rfl,_,_,_,_,rfl,rfl,ag.of ha,kh,_,rfl,r,fs[i].2,i,rs,rfl,hr',hrs,fun H4 s4=>⟨_,rfl,bf ?_⟩⟩
  have s34:=s3.trans s4
  refine⟨_,rfl,_,rfl,_,_,_,_,rfl,rfl,ag.of (s4 _ _ ha),kh,_,rfl,_,rfl,p,ks,(fs.take i).map (·.1),.ref r,v1,v2,rs,g,fs[i].1,rfl,s4 _ _ g3,hks.mono (.of s4),⟨r,rfl,by rw[<-hri];exact s4 _ _ hr'⟩,h1.mono (.of s34),h2.mono (.of s34),hsz',hF,fun c y1 y2 H5 s5 hc hy1 hy2=>?_⟩
  have s45:=s4.trans s5
  have s35:=s3.trans s45
  have ha5:=s45 _ _ ha
  obtain⟨b1,xs1,k1,rfl,f1,_⟩:=hu.kind
  obtain⟨b2,xs2,k2,rfl,f2,_⟩:=hv.kind
  refine⟨_,rfl,rfl,_,rfl,fQ ?_⟩
  refine⟨_,rfl,_,_,_,_,rfl,rfl,ag.of ha5,bD,_,_,_,_,rfl,.tup (s45 _ _ f1),.tt,_,rfl,bf ?_⟩
  refine⟨_,rfl,_,_,_,_,rfl,rfl,ag.of ha5,cx,_,_,_,_,rfl,.tup (s45 _ _ f2),.tt,_,rfl,bf ?_⟩
  refine⟨_,rfl,_,rfl,a,_,rfl,ag.of ha5,(by show ¬(HT.sIx 3 0 none=0/\HT.sIx 3 3 (some 2)=3);decide),fun b fb=>?_⟩
  rw[show eu [V.ref b1,V.ref b2,V.ref r] none (some 2)=[V.ref b1,V.ref b2]from rfl]
  generalize e_:ae H5 b (HO.tup [V.ref b1,V.ref b2])=H6
  obtain⟨t6,x6⟩:=aM fb e_
  have s46:=s45.trans t6
  refine⟨_,rfl,_,rfl,c,_,rfl,ag.of (t6 _ _ hc),(by show HT.sIx 2 0 none=0/\HT.sIx 2 2 (some 2)=2;decide),_,_,_,rfl,two_dat x6 (hu.mono (.of s46)) (hv.mono (.of s46)),two_dat (t6 _ _ hc) (hy1.mono (.of t6)) (hy2.mono (.of t6)),two_size hz.1 hz.2,fun H7 s7=>⟨_,rfl,bf ?_⟩⟩
  have s57:=t6.trans s7
  have s47:=s45.trans s57
  have hp7:=s47 _ _ g3
  refine⟨_,rfl,.inl ⟨rfl,_,ak.of hp7⟩,_,rfl,p,_,_,rfl,rfl,hp7,eX (show ks.length<600000 by omega) (by decide),?_⟩
  have k8:aV H7 (ae H7 p (HO.lst (ks++[.ref c]))):= .lst hp7
  refine⟨_,_,_,ks++[.ref c],rfl,fun b' ob z=>by rw[am (aN z hp)];exact s47 _ _ (s3 _ _ z),au,?_⟩
  rw[zTS hi',zMA]
  exact i0.mono k8 (j6 (hks.mono (.of s47)) ⟨c,y1,y2,[],rfl,s57 _ _ hc,hy1.mono (.of s57),hy2.mono (.of s57)⟩)
 ·rintro σ H3 ⟨o4,o5,o6,ks,rfl,s3,g3,hks⟩
  rw[gH,hll,rJ]at hks
  exact⟨_,rfl,q p ks H3 s3 g3 hks⟩
end
end K07
namespace BF
open PySem PySem.Spec PyProof.Rows L2
open Sem (wp)
section
variable{X:Cx}{pins:List (Addr×aI)}{σ:L2.St}{H:Hp}{s:ah}{a:Addr}{kvs:List (Key×V)}
theorem EX{u u':HO}(I:Inv X pins σ H s)(ha:H a=some u)(ht:∀xs,u≠ .tup xs)(ho:∀y,u≠ .own y)(hb:∀ps,u≠ .tbl ps)(hf:∀o v,X.H₀ a≠some (.frz o v))(new:cu X.prog X.w (ae H a u') s.heap a u'):Inv X pins σ (ae H a u') s:=by
 have ne:∀b,H b=none->b≠a:=fun b e z=>by rw[z,ha]at e;cases e
 refine⟨I.ok,I.os,I.bare,⟨I.base.keep,I.base.slot,fun b o e n hx=>?_,I.base.there,fun b xs e=>?_,fun b o v e=>?_,fun b ps e=>?_⟩,I.loc,I.cell,?_,fun x c e=>?_,fun p hp=>?_,fun b o e=>?_,I.len⟩
 ·have z:=I.base.free b o e n hx
  rw[am (ne b z)];exact z
 ·have z:=I.base.tups b xs e
  rw[am (fun y=>by rw[y,ha]at z;exact ht xs (cQ z))];exact z
 ·have z:=I.base.frzs b o v e
  rw[am (fun (y:b=a)=>hf o v (by rw[<-y];exact e))];exact z
 ·obtain⟨more,z⟩:=I.base.tbls b ps e
  exact⟨more,by rw[am (fun y=>by rw[y,ha]at z;exact hb _ (cQ z))];exact z⟩
 ·rw[am (ne _ I.free)];exact I.free
 ·have z:=I.freeC x c e
  rw[am (ne _ z)];exact z
 ·obtain⟨h1,h2,h3⟩:=I.pin p hp
  exact⟨h1,by rw[am (ne _ h2)];exact h2,h3⟩
 ·by_cases c:b=a
  ·subst c
   rw[au]at e
   cases e
   exact new
  ·rw[am c]at e
   refine(I.hok b o e).stay (fun _ _ _ q=>q) (fun c' q=>?_) (fun c' xs q=>?_)
   ·rw[am (fun y=>by rw[y,ha]at q;exact ho _ (cQ q))];exact q
   ·rw[am (fun y=>by rw[y,ha]at q;exact ht _ (cQ q))];exact q
theorem yd(I:Inv X pins σ H s)(ha:H a=some (.dK kvs)):∀o v,X.H₀ a≠some (.frz o v):=fun o v e=>by
 have:=I.base.frzs a o v e
 rw[ha]at this
 cases this
theorem EY(I:Inv X pins σ H s)(ha:H a=some (.dK kvs)):∃o vs ep,s.heap.get? a=some o/\(a==sysModules)=false/\KV kvs vs/\u0 (cR X.prog X.w) o vs ep/\Inv X pins σ (ae H a (.frz o (.dK kvs))) s:=by
 obtain⟨z,lo,vs,rel,dd⟩:=pV I.hok ha
 obtain⟨ep,hat⟩:=dd.dictAt
 obtain⟨o,es,h1,h2⟩:=id hat
 refine⟨o,vs,ep,h1,lo,rel,⟨es,h2⟩,EX I ha (fun _ z=>by cases z) (fun _ z=>by cases z) (fun _ z=>by cases z) (yd I ha) ⟨h1,?_⟩⟩
 exact I.hok a _ ha
theorem EZ{o:aI}(I:Inv X pins σ H s)(ha:H a=some (.frz o (.dK kvs)))(hf:∀o v,X.H₀ a≠some (.frz o v)):Inv X pins σ (ae H a (.dK kvs)) s:=
 EX I ha (fun _ z=>by cases z) (fun _ z=>by cases z) (fun _ z=>by cases z) hf (I.hok a _ ha).2
theorem uz{o:aI}{u:HO}(I:Inv X pins σ H s)(ha:H a=some (.frz o u)):s.heap.get? a=some o:=(I.hok a _ ha).1
end
section
variable{X:Cx}
theorem E1{e:Expr}{te:TE}(h:PE X e te):PE X e (fun σ H Q=>∃a kvs,H a=some (.dK kvs)/\te σ H fun v H2=>∃o,H2 a=some (.frz o (.dK kvs))/\Q v (ae H2 a (.dK kvs))):=by
 intro pins s σ H Q I ⟨a,kvs,ha,ht⟩
 have hf:=yd I ha
 refine aL (h pins s σ H _ I ht) fun u s1 ⟨v,H2,I2,r2,o,h2,q2⟩=>⟨v,_,EZ I2 h2 hf,r2,q2⟩
theorem LZ{st:Stmt}{t:TS}(h:PS X st t):PS X st (fun D σ H=>∃a kvs,H a=some (.dK kvs)/\t { nx:=fun σ' H2=>∃o,H2 a=some (.frz o (.dK kvs))/\D.nx σ' (ae H2 a (.dK kvs)),rt:=fun _ _=>False} σ H):=by
 intro pins s σ H D I ⟨a,kvs,ha,ht⟩
 have hf:=yd I ha
 refine aL (h pins s σ H _ I ht) fun f s1 q=>?_
 cases f with
 |next=>
  obtain⟨σ',H2,I2,o,h2,q2⟩:=q
  exact⟨σ',_,EZ I2 h2 hf,q2⟩
 |brk=>obtain⟨_,_,_,q2⟩:=q;exact q2.elim
 |cont=>obtain⟨_,_,_,q2⟩:=q;exact q2.elim
 |ret u=>obtain⟨_,_,_,_,_,q2⟩:=q;exact q2.elim
end
def ye(a:Addr)(o:aI)(kvs:List (Key×V)):It:=
 ⟨fun i H=>H a=some (.frz o (.dK kvs))/\i<kvs.length,fun i H x H'=>H'=H/\∃kv,kvs[i]?=some kv/\x=kV kv.1,fun i H=>H a=some (.frz o (.dK kvs))/\kvs.length<=i⟩
theorem L0{P:aP}{w:aH}{K:aB}{tg:Expr}(a it:Addr)(o:aI)(kvs:List (Key×V))(vs:List (Key×aa))(ep:Nat)(rel:KV kvs vs)(hat:u0 (cR P w) o vs ep):
 jr P w K tg (ye a o kvs) [it] it (fun i h=>h.IsKeyIter it a i vs.length ep) where
 mem:=by simp
 obj:=fun i h st b hb=>by
  have e:b=it:=by simpa using hb
  subst e
  obtain⟨o,e,c,d⟩:=st
  exact⟨o,e,fun v z=>by rw[d]at z;cases z⟩
 keep:=fun i h h' st k=>by
  obtain⟨o,e,c,d⟩:=st
  exact⟨o,k it (by simp) o e,c,d⟩
 item:=by
  intro X hP hw hK hc i pins s σ H E I hf st hg
  subst hP hw hK
  obtain⟨ha,hi⟩:=hg
  have hget:=uz I ha
  have hl:=rel.length
  have hk:=rel.keys
  obtain⟨k,x,hx⟩:∃k x,vs[i]?=some (k,x):=⟨_,_,zGE (by omega)⟩
  obtain⟨f0,f1,f2,f3,f4,f5⟩:=hf it (by simp)
  refine wpAny_pyNext_dict_item st (hat.dictAt hget) hx fun key h' hkey st' sb=>?_
  have I1:Inv X pins σ H { s with heap:=h'}:=I.turned (t':=s.toks) (fun b o hb e=>(sb.2 b hb).trans e) f0 f1 f3 f4 f5
  have hkv:kvs[i]?.map (·.1)=some k:=by rw[<-cV,hk,cV,hx];rfl
  rw[zGE hi]at hkv
  refine⟨key,rfl,letGo_keyiter (s':={ s with heap:=h'}) st' ⟨kV k,H,I1,tq hkey,⟨rfl,_,zGE hi,by rw[<-cQ hkv]⟩,st',fun b hb=>(hf b hb).1⟩⟩
 done:=by
  intro X hP hw hK hc i pins s σ H E I hf st hg
  subst hP hw hK
  obtain⟨ha,hi⟩:=hg
  have hget:=uz I ha
  have hl:=rel.length
  obtain⟨f0,f1,f2,f3,f4,f5⟩:=hf it (by simp)
  exact wpAny_pyNext_dict_end (I.ok.hd hc) st (hat.dictAt hget) (vo (by omega)) fun h' eb=>⟨rfl,I.turned (t':=s.toks) (fun b o hb e=>eb b o hb e) f0 f1 f3 f4 f5⟩
 self:=fun _ _ _ _ _ st h=>wpAny_pyIter_keyiter st h
def L1(td:TE):TI:=fun σ H R=>td σ H fun x H1=>∃a kvs,x= .ref a/\H1 a=some (.dK kvs)/\∀o,R (ye a o kvs) (ae H1 a (.frz o (.dK kvs)))
theorem E2{X:Cx}{tg l:Expr}{td:TE}(hl:PE X l td):PI X tg l (L1 td):=by
 intro pins s σ H R I h
 refine aL (hl pins s σ H _ I h) fun v s1 ⟨x,H1,I1,r1,q1⟩=>?_
 obtain⟨a,kvs,e,hq,q⟩:=q1
 subst e
 cases r1
 obtain⟨o,vs,ep,hget,lo,rel,hat,I2⟩:=EY I1 hq
 refine wpAny_pyIter_dict lo (hat.dictAt hget) ?_
 have ha2:ae H1 a (.frz o (.dK kvs)) a=some _:=au
 refine⟨s1.heap.objs.size,[s1.heap.objs.size],_,_,ae H1 a (.frz o (.dK kvs)),rfl,I2.kept (t':=s1.toks) fun b o e=>br _ e,L0 a _ o kvs vs ep rel hat,⟨_,bY _ rfl,rfl,rfl⟩,fun b hb=>?_,q o⟩
 have e:b=s1.heap.objs.size:=by simpa using hb
 subst e
 exact I2.fpOk (aJ _) (I2.hok.fresh (aJ _))
theorem E3{a D:Addr}{o:aI}{kvs:List (Key×V)}{g:TG}{tt:TT}{te:TE}{σ:L2.St}{H:Hp}{Q:Hp->Prop}(Pv:Nat->L2.St->Hp->Prop)(h0:Pv 0 σ H)(hl:∀i σ H,i<=kvs.length->Pv i σ H->H a=some (.frz o (.dK kvs)))
 (hs:∀i kv σ H,kvs[i]?=some kv->Pv i σ H->g (kV kv.1) σ H fun σ2 H2=>tt σ2 H2 fun b H3=>if b=true then te σ2 H3 fun y H4=>∃ys,H4 D=some (.lst ys)/\ys.length<sizeLine/\Pv (i+1) σ2 (ae H4 D (.lst (ys++[y])))else Pv (i+1) σ2 H3)
 (hd:∀σ H,Pv kvs.length σ H->Q H):mf g tt te (ye a o kvs) σ H D Q:=by
 refine⟨fun i m σ H=>m=kvs.length - i/\i<=kvs.length/\Pv i σ H,⟨kvs.length,by simp,cP _,h0⟩,?_⟩
 rintro i m σ H ⟨rfl,hi,p⟩
 have q:=hl i σ H hi p
 by_cases hlt:i<kvs.length
 ·refine .inr ⟨⟨q,hlt⟩,Pv (i+1),fun σ' H' p'=>⟨kvs.length - (i+1),by omega,rfl,hlt,p'⟩,fun x H' y=>?_⟩
  obtain⟨e,kv,hkv,ex⟩:=y
  subst e ex
  exact hs i kv σ _ hkv p
 ·have e:i=kvs.length:=by omega
  subst e
  exact .inl ⟨⟨q,aJ _⟩,hd σ H p⟩
theorem L3:entryFor table "dict_itemiterator.__iter__"=some dA.«dict_keyiterator.__iter__»:=
 entryFor_alias (id':="dict_keyiterator.__iter__") (by kernel_rfl) rfl (by decide +kernel) (by kernel_rfl)
theorem L4{prog:aP}{w:aH}{A:bx}{E:aa->ah->Prop}{s:ah}{it d:Addr}{i n ep:Nat}{ok ov:aa}{Q:aa->ah->Prop}(hit:IsItemIter s.heap it d i n ep ok ov)(h:Q (.ref it) s):wpAny (model prog w) A (pyIter (.ref it)) Q E s:=by
 have hT:s.TypeIs (.ref it) "dict_itemiterator":=⟨_,hit,rfl⟩
 refine uO hT zR (fF zR hT L3 ?_ (F.args_dict_itemiterator_iter_1 _))
 show wpAny _ _ (ret (.ref it)) _ _ s
 exact aR ⟨_,rfl,"dict_itemiterator",_,hT,F.slot_dict_itemiterator_next.lookup,h⟩
def qN(a:Addr)(o:aI)(kvs:List (Key×V)):It:=
 ⟨fun i H=>H a=some (.frz o (.dK kvs))/\i<kvs.length,fun i H x H'=>∃kv q,kvs[i]?=some kv/\H q=none/\x= .ref q/\H'=ae H q (.tup [kV kv.1,kv.2]),fun i H=>H a=some (.frz o (.dK kvs))/\kvs.length<=i⟩
theorem L5{P:aP}{w:aH}{K:aB}{elts:List Expr}{ek}{epos:Pos}(a it:Addr)(o:aI)(kvs:List (Key×V))(vs:List (Key×aa))(ep:Nat)(rel:KV kvs vs)(hat:u0 (cR P w) o vs ep):
 jr P w K (.Tuple elts ek epos) (qN a o kvs) [it] it (fun i h=>∃ok ov,IsItemIter h it a i vs.length ep ok ov) where
 mem:=by simp
 obj:=fun i h st b hb=>by
  have e:b=it:=by simpa using hb
  subst e
  obtain⟨ok,ov,st⟩:=st
  exact⟨_,st,fun v z=>by
    have z':km.fields _=km.cell v:=z
    cases z'⟩
 keep:=fun i h h' st k=>by
  obtain⟨ok,ov,st⟩:=st
  exact⟨ok,ov,k it (by simp) _ st⟩
 item:=by
  intro X hP hw hK hc i pins s σ H E I hf st hg
  subst hP hw hK
  obtain⟨ok,ov,st⟩:=st
  obtain⟨ha,hi⟩:=hg
  have hget:=uz I ha
  have hl:=rel.length
  have hk:=rel.keys
  obtain⟨k,x,hx⟩:∃k x,vs[i]?=some (k,x):=⟨_,_,zGE (by omega)⟩
  obtain⟨f0,f1,f2,f3,f4,f5⟩:=hf it (by simp)
  obtain⟨kv,hkv,hrel⟩:∃kv,kvs[i]?=some kv/\kv.1=k/\aW kv.2 x:=by
   obtain⟨b,hb,e1,e2⟩:=qc rel (zGE hi)
   rw[hx]at hb
   cases hb
   exact⟨_,zGE hi,e1,e2⟩
  refine wpAny_pyNext_items_item st (hat.dictAt hget) hx fun key h' hkey st' htup hsz hkeep=>⟨_,rfl,?_⟩
  refine wpAny_letOwnedTupleGo_items (s:={ s with heap:=h'}) st' fun h2 st2 sb2=>?_
  have hne:s.heap.objs.size≠it:=ji (bm st)
  have fr:H s.heap.objs.size=none:=I.hok.fresh (aJ _)
  have ru:aW (kV k) key:=tq hkey
  have J:Inv X pins σ (ae H s.heap.objs.size (.tup [kV k,kv.2])) { s with heap:=s.heap.push { cls:= .type "tuple",data:= .seq #[key,x]}}:=
   I.laid (t':=s.toks) (fun b u e=>br _ e) (aJ _) ⟨by show 2<=sizeLine;decide,[key,x],.cons ru (.cons hrel.2 .nil),⟨_,bY _ rfl,rfl,_,rfl⟩⟩
  have hf':∀b∈[it],d4 X pins (ae H s.heap.objs.size (.tup [kV k,kv.2])) b:=fun b hb=>by
   have e:b=it:=by simpa using hb
   subst e
   exact⟨by rw[am hne.symm];exact f0,(hf b hb).2⟩
  have I2:Inv X pins σ (ae H s.heap.objs.size (.tup [kV k,kv.2])) { s with heap:=h2,toks:=s.toks}:=by
   refine L2.Inv.turnedL (s:={ s with heap:=s.heap.push { cls:= .type "tuple",data:= .seq #[key,x]}}) (t':=s.toks) (ch:=[it]) J (fun c o hc e=>?_) hf'
   have hc':c≠it:=by simpa using hc
   refine(sb2.2 c hc').trans ?_
   by_cases z:c=s.heap.objs.size
   ·subst z
    have e':(s.heap.push { cls:= .type "tuple",data:= .seq #[key,x]}).get? s.heap.objs.size=some o:=e
    rw[bY _ rfl]at e'
    cases e'
    exact htup
   ·have e':(s.heap.push { cls:= .type "tuple",data:= .seq #[key,x]}).get? c=some o:=e
    rw[rq _ _ _ z]at e'
    exact hkeep c o hc' e'
  refine⟨.ref s.heap.objs.size,_,I2,rfl,⟨kv,s.heap.objs.size,hkv,fr,rfl,by rw[hrel.1]⟩,⟨key,x,st2⟩,fun b hb=>(hf' b hb).1⟩
 done:=by
  intro X hP hw hK hc i pins s σ H E I hf st hg
  subst hP hw hK
  obtain⟨ok,ov,st⟩:=st
  obtain⟨ha,hi⟩:=hg
  have hget:=uz I ha
  have hl:=rel.length
  obtain⟨f0,f1,f2,f3,f4,f5⟩:=hf it (by simp)
  exact wpAny_pyNext_items_end (I.ok.hd hc) st (hat.dictAt hget) (vo (by omega)) fun h' eb=>⟨rfl,I.turned (t':=s.toks) (fun b o hb e=>eb b o hb e) f0 f1 f3 f4 f5⟩
 self:=fun _ _ _ _ _ st h=>by
  obtain⟨ok,ov,st⟩:=st
  exact L4 st h
def L6(td:TE):TI:=fun σ H R=>td σ H fun x H1=>∃a kvs,x= .ref a/\H1 a=some (.dK kvs)/\∀o,R (qN a o kvs) (ae H1 a (.frz o (.dK kvs)))
theorem L7{X:Cx}{l:Expr}{td:TE}{elts:List Expr}{ek}{epos apos cpos:Pos}(hl:PE X l td)(hbase:attributeBase l "items" X.env (eval l X.env)=eval l X.env:=by rfl)(hline:(apos.endLine==cpos.line)=true:=by rfl):
 PI X (.Tuple elts ek epos) (.Call (.Attribute l "items" apos) [] [] cpos) (L6 td):=by
 intro pins s σ H R I h
 refine yJ hbase hline (aL (hl pins s σ H _ I h) fun v s1 ⟨x,H1,I1,r1,q1⟩=>?_)
 obtain⟨a,kvs,e,hq,q⟩:=q1
 subst e
 cases r1
 obtain⟨o,vs,ep,hget,lo,rel,hat,I2⟩:=EY I1 hq
 have hm:=(hat.dictAt hget).dictOf
 refine⟨"dict","dict.items",F.plainAttrs_dict,zT,F.type_dict_items,hm.typeIs,hm.mapOf.noDict,?_⟩
 show wpAny _ _ (callWith cpos (.builtin "dict.items") [.ref a] [] []) _ _ s1
 refine method_meetsIn zT F.entry_dict_items rfl (yK ⟨rfl,hm.typeIs,F.args_dict_items_1 _,_,meets_dict_items _ a lo,⟨vs,hm⟩,?_⟩)
 have I3:Inv X pins σ (ae H1 a (.frz o (.dK kvs))) { s1 with heap:=s1.heap.push { cls:= .type "dict_items",data:= .fields #[.ref a]}}:=I2.kept (t':=s1.toks) fun b o e=>br _ e
 refine wpAny_pyIter_items (knd:=cR X.prog X.w) (d:=a) (kvs:=vs) (ep:=ep) ⟨_,bY _ rfl,rfl,rfl⟩ ((hat.dictAt hget).push _) ?_
 refine⟨_,[_],_,_,ae H1 a (.frz o (.dK kvs)),rfl,I3.kept (t':=s1.toks) fun b o e=>br _ e,L5 a _ o kvs vs ep rel hat,⟨_,_,bY _ rfl⟩,fun b hb=>?_,q o⟩
 have e:=bZ.mp hb
 subst e
 exact I3.fpOk (aJ _) (I3.hok.fresh (aJ _))
theorem L8{a:Addr}{o:aI}{kvs:List (Key×V)}{g:TG}{tb:TS}{D:dE}{σ:L2.St}{H:Hp}(Pv:Nat->L2.St->Hp->Prop)(h0:Pv 0 σ H)(hl:∀i σ H,i<=kvs.length->Pv i σ H->H a=some (.frz o (.dK kvs)))
 (hs:∀i kv q σ H,kvs[i]?=some kv->Pv i σ H->H q=none->g (.ref q) σ (ae H q (.tup [kV kv.1,kv.2])) fun σ2 H2=>tb { D with nx:=Pv (i+1),ct:=Pv (i+1),bk:=D.nx} σ2 H2) (hd:∀σ H,Pv kvs.length σ H->D.nx σ H):
 ∃W:Nat->Nat->L2.St->Hp->Prop,(∃m,W 0 m σ H)/\∀i m σ H,W i m σ H->
  ((qN a o kvs).stop i H/\D.nx σ H)\/((qN a o kvs).go i H/\∃N:L2.St->Hp->Prop,(∀σ' H',N σ' H'->∃m',m'<m/\W (i+1) m' σ' H')/\∀x H',(qN a o kvs).yld i H x H'->g x σ H' fun σ2 H2=>tb { D with nx:=N,ct:=N,bk:=D.nx} σ2 H2):=by
 refine⟨fun i m σ H=>m=kvs.length - i/\i<=kvs.length/\Pv i σ H,⟨kvs.length,by simp,cP _,h0⟩,?_⟩
 rintro i m σ H ⟨rfl,hi,p⟩
 have q:=hl i σ H hi p
 by_cases hlt:i<kvs.length
 ·refine .inr ⟨⟨q,hlt⟩,Pv (i+1),fun σ' H' p'=>⟨kvs.length - (i+1),by omega,rfl,hlt,p'⟩,fun x H' y=>?_⟩
  obtain⟨kv,q0,hkv,hq0,ex,eh⟩:=y
  subst ex eh
  exact hs i kv q0 σ _ hkv p hq0
 ·have e:i=kvs.length:=by omega
  subst e
  exact .inl ⟨⟨q,aJ _⟩,hd σ H p⟩
end BF
namespace K07
open PySem L2 BF
section
variable{P:aP}{w:aH}{K:aB}{mg:ac->Option aa}{base:aA}{C:Addr}
structure DS(kvs:List (Key×V))(ks:List ac):Prop where
 keys:kvs.map (·.1)=ks.map Sum.inr
 nd:ks.Nodup
theorem E4{kvs:List (Key×V)}{ks:List ac}(h:DS kvs ks)(x:ac):(kvs.any fun kv=>decide (kv.1=Sum.inr x))=true↔x∈ks:=by
 rw[ve]
 constructor
 ·rintro⟨kv,h1,h2⟩
  have:kv.1∈ks.map Sum.inr:=by rw[<-h.keys];exact bL.mpr ⟨kv,h1,rfl⟩
  obtain⟨y,hy,e⟩:=bL.mp this
  have h3:kv.1=Sum.inr x:=of_decide_eq_true h2
  rw[h3]at e
  exact kM e▸hy
 ·intro hx
  have:(Sum.inr x:Key)∈kvs.map (·.1):=by rw[h.keys];exact bL.mpr ⟨x,hx,rfl⟩
  obtain⟨kv,h1,h2⟩:=bL.mp this
  exact⟨kv,h1,decide_eq_true h2⟩
theorem DS.put{kvs:List (Key×V)}{ks:List ac}(h:DS kvs ks)(x:ac)(v:V):DS (cS kvs (Sum.inr x) v) (if x∈ks then ks else ks++[x]):=by
 unfold cS
 by_cases c:x∈ks
 ·rw[if_pos ((E4 h x).mpr c),if_pos c]
  refine⟨?_,h.nd⟩
  rw[lG,<-h.keys]
  refine mW fun kv _=>?_
  simp only[vW]
  split<;>rfl
 ·rw[if_neg (fun z=>c ((E4 h x).mp z)),if_neg c]
  refine⟨by rw[zMA,zMA,h.keys];rfl,?_⟩
  rw[rG]
  refine⟨h.nd,by simp,fun a ha b hb=>?_⟩
  rw[bZ.mp hb]
  rintro rfl
  exact c ha
theorem DS.get{kvs:List (Key×V)}{ks:List ac}(h:DS kvs ks){i:Nat}{kv:Key×V}(e:kvs[i]?=some kv):∃x,ks[i]?=some x/\kv.1=Sum.inr x/\bQ kvs (Sum.inr x)=some kv.2:=by
 have h1:(kvs.map (·.1))[i]?=some kv.1:=by rw[cV,e];rfl
 rw[h.keys,cV]at h1
 cases hx:ks[i]? with
 |none=>rw[hx]at h1;cases h1
 |some x=>
  rw[hx]at h1
  have ek:kv.1=Sum.inr x:=(cQ h1).symm
  refine⟨x,rfl,ek,?_⟩
  have hk:=h.keys
  have hn:=h.nd
  clear h h1
  induction kvs generalizing ks i with
  |nil=>cases e
  |cons a r ih=>
   cases ks with
   |nil=>cases hx
   |cons y s=>
    simp only[bP,jK]at hk
    rw[iN]at hn
    cases i with
    |zero=>
     cases e
     rw[nH,if_pos ek]
    |succ j=>
     simp only[vi]at e hx
     rw[nH,if_neg]
     ·exact ih e hx hk.2 hn.2
     ·intro z
      rw[hk.1]at z
      exact hn.1 (kM z▸zMG hx)
inductive E5(C:Addr)(vs:List V)(H:Hp)(Q:VK):Prop
 |mk:∀(p dx L O:Addr)(g:Ln)(U:List Tm)(fs:List Lf)(on:On)(cl:V)(N:Nat)(lw:Addr)(ws:List ac),(vs=[.ref p,.ref lw])->(RK C p dx L O g U H fs on cl N)->(H lw=some (.lst (ws.map V.str)))->(lw≠L)->((∀x∈ws,Tm.blank x∈U))->((∀t,∃k e,a0 (bg fs on) k t e))->(N+ws.length * (2 * U.length)<=90000)->(ws.length<=1000)->(∀(d:Addr)(kvs:List (Key×V))(ks:List ac) H' fs' on',cI p L O H H'->RK C p dx L O g U H' fs' on' cl (N+ws.length * (2 * U.length))->dR fs fs'->fN g (bg fs on) (bg fs' on')->H d=none->H' d=some (.dK kvs)->DS kvs ks->(∀x,x∈ks↔x∈ws/\bg fs on (.blank x)≠none)->(∀x∈ks,∃(n:Nat)(z:Lf)(e:Tm)(k:Nat),bQ kvs (Sum.inr x)=some (.int (n:Nat))/\fs'[n]?=some z/\z.1=(.blank x,e)/\a0 (bg fs on) k (.blank x) e)->Q (.ref d) H')->E5 C vs H Q
def yf(C:Addr):Sp:=fun vs H Q _=>E5 C vs H Q
theorem L9{f:Addr}{fd:bd}(F:bw K "lines_by_word" "lines_by_word" mC f fd)(m_line_to_end:cU P w K mg base 4 C "line_to_end" ["self","term"] (qJ C)):be P w K mg base bh 5 f fd ["reckoning","words"] (yf C):=by
 refine F.ok tY (fun vs H Q E h=>?_) (fun cdv A outer s H vs Q E hr h=>?_)
 ·obtain⟨_,_,_,_,_,_,_,_,_,_,_,_,rfl,_⟩:=h
  rfl
 obtain⟨p,dx,L,O,g,U,fs,on,cl,N,lw,ws,rfl,hk,hlw,nlw,hwU,htot,hN,hwl,q⟩:=h
 have hun:=hr.un
 have hu:(A.deeper (gG "lines_by_word" (av mC) s.heap.objs.size f cdv)).units+1<cLine:=by omega
 apply aE;intro T1
 apply aE;intro T2
 refine⟨_,(aj (az (i:=2) tY.nd pX) (aD T2 (aj (dM cr rfl (fi (pv 1)) (cn (i:=3) tY.nd rfl (Or.inl rfl)) (aD T1 (aj (az (i:=4) tY.nd (d6 m_line_to_end (hr.mono (by decide)) (pv 0) (ad (bN (ad aO (ad (pv 3) af))) af))) (al (aK (aF nv (pv 4) d9 (aC _)) (al (pW hu (pv 2) (pv 3) (pv 4) rfl)) aU))))) (al (ay (pv 2)))))),?_⟩
 refine fun d fd0=>?_
 generalize e_:ae H d (HO.dK [])=H1
 obtain⟨s1,x1⟩:=aM fd0 e_
 have ndO:d≠O:=fun z=>by
  obtain⟨kv,e1,_⟩:=hk.dic
  rw[z,e1]at fd0
  cases fd0
 refine⟨_,rfl,lw,rfl,⟨_,ak.of (s1 _ _ hlw)⟩,let I1:Nat->L2.St->Hp->Prop:=(fun i σ HX=>∃(o3 o4:Option V)(kvs:List (Key×V))(ks:List ac)(fs':List Lf)(on':On),σ=[some (.ref p),some (.ref lw),some (.ref d),o3,o4]/\cI p L O H HX/\HX lw=some (.lst (ws.map V.str))/\RK C p dx L O g U HX fs' on' cl (N+i * (2 * U.length))/\dR fs fs'/\fN g (bg fs on) (bg fs' on')/\HX d=some (.dK kvs)/\DS kvs ks/\kvs.length<=i/\
  (∀x,x∈ks↔x∈ws.take i/\bg fs on (.blank x)≠none)/\∀x∈ks,∃(n:Nat)(z:Lf)(e:Tm)(k:Nat),bQ kvs (Sum.inr x)=some (.int (n:Nat))/\fs'[n]?=some z/\z.1=(.blank x,e)/\a0 (bg fs on) k (.blank x) e);iw (K:=K) (a:=lw) (xs:=ws.map V.str) I1
  ⟨none,none,[],[],fs,on,rfl,.of s1,s1 _ _ hlw,(hk.same s1).more (by omega),.refl,.refl,x1,⟨rfl,.nil⟩,aJ _,fun x=>by simp,fun x hx=>(by cases hx)⟩ (fun i σ HX _ hI=>by obtain⟨_,_,_,_,_,_,_,_,z,_⟩:=hI;exact ak.of z) ?_ ?_⟩
 ·rintro i y σ HX hy ⟨o3,o4,kvs,ks,fs',on',rfl,fX,glw,kX,hext,hkeep,gd,hds,hkl,hdom,hval⟩
  have hi:i<ws.length:=by have:=(bI.mp hy).1;simpa using this
  have ey:y= .str ws[i]:=by
   rw[cV,zGE hi]at hy
   exact(cQ hy).symm
  subst ey
  have hmul:(i+1) * (2 * U.length)<=ws.length * (2 * U.length):=jj _ (by omega)
  rw[jB,rn]at hmul
  obtain⟨k,e,hrc⟩:=htot (.blank ws[i])
  obtain⟨k',hrc'⟩:=hkeep.rch _ _ _ hrc
  refine⟨_,rfl,p,dx,_,rfl,kX.self,dY (by decide +kernel) (by decide +kernel) (by decide +kernel),_,rfl,cq,fun b fb=>?_⟩
  generalize e_:ae HX b (HO.tup [.str "blank",.str ws[i]])=HY
  obtain⟨t1,z1⟩:=aM fb e_
  have kY:=kX.same t1
  refine⟨p,dx,L,O,g,U,fs',on',cl,_,.ref b,.blank ws[i],e,k',rfl,kY,dU.mpr ⟨b,rfl,z1⟩,hwU _ (zGM hi),hrc',by omega,fun mo HZ fs2 on2 fZ kZ hext2 hkeep2 h0 h1 h2n=>?_⟩
  have fXZ:=fX.trans ((cI.of t1).trans fZ)
  have gdZ:=kY.dct fZ (t1 _ _ gd) ndO
  have glwZ:=kY.lst fZ (t1 _ _ glw) nlw
  have etk:ws.take (i+1)=ws.take i++[ws[i]]:=zTS hi
  have hNe:N+i * (2 * U.length)+2 * U.length=N+(i+1) * (2 * U.length):=by rw[jB];omega
  have hval2:∀x∈ks,∃(n:Nat)(z:Lf)(e:Tm)(k:Nat),bQ kvs (Sum.inr x)=some (.int (n:Nat))/\fs2[n]?=some z/\z.1=(.blank x,e)/\a0 (bg fs on) k (.blank x) e:=fun x hx=>by
   obtain⟨n,z,e,k,h1,h2,h3,h4⟩:=hval x hx
   exact⟨n,z,e,k,h1,hext2.get h2,h3,h4⟩
  cases mo with
  |none=>
   have e0:=h0 rfl
   have hnn:bg fs on (.blank ws[i])=none:=by
        cases hrc with
        |root z=>exact z
        |step z r=>
         have:=r.end'
         rw[<-e0]at this
         exact this
   refine⟨_,rfl,rfl,_,rfl,ck (by simp[cY]) ⟨_,_,kvs,ks,fs2,on2,rfl,fXZ,glwZ,hNe▸kZ,hext.trans hext2,hkeep.trans hkeep2,gdZ,hds,by omega,fun x=>?_,hval2⟩⟩
   rw[etk,hdom x]
   constructor
   ·rintro⟨h1,h2⟩
    exact⟨eJ _ h1,h2⟩
   ·rintro⟨h1,h2⟩
    rcases bR.mp h1 with z|z
    ·exact⟨z,h2⟩
    ·rw[bZ.mp z]at h2
     exact absurd hnn h2
  |some m=>
   obtain⟨z,hz,ez⟩:=h1 m rfl
   refine⟨_,rfl,rfl,_,rfl,iV (by simp[cY]) ⟨_,rfl,_,rfl,_,rfl,d,_,rfl,jV.k (k:=Sum.inr ws[i]) gdZ (big (by omega)),?_⟩⟩
   have kT:∀b' o',HZ b'=some o'->b'≠d->ae HZ d (HO.dK (cS kvs (Sum.inr ws[i]) (cY (some m)))) b'=some o':=fun b' o' z hb=>by rw[am hb];exact z
   have hlp:=nB kvs (Sum.inr ws[i]) (cY (some m))
   have hnn:bg fs on (.blank ws[i])≠none:=fun y=>by
        have:=h2n ((hkeep.non _).mpr y)
        cases this
   have kZ2:RK C p dx L O g U (ae HZ d (HO.dK (cS kvs (Sum.inr ws[i]) (cY (some m))))) fs2 on2 cl (N+(i+1) * (2 * U.length)):=by
        have kk:=hNe▸kZ
        obtain⟨l6,g6,h6⟩:=kk.ls
        obtain⟨kv,g7,h7⟩:=kk.dic
        have kt:aV HZ (ae HZ d (HO.dK (cS kvs (Sum.inr ws[i]) (cY (some m))))):=fun bq ys y=>kT _ _ y (cy y gdZ (by intro z;cases z))
        exact⟨kT _ _ kk.self (cy kk.self gdZ (by intro z;cases z)),⟨l6,kT _ _ g6 (cy g6 gdZ (by intro z;cases z)),dX.mono kt h6⟩,⟨kv,kT _ _ g7 ndO.symm,h7⟩,kk.len,kk.st,kk.ok⟩
   refine⟨_,_,_,_,fs2,on2,rfl,fun b' o' y h1 h2 h3=>by rw[am (aN y fd0)];exact fXZ _ _ y h1 h2 h3,kT _ _ glwZ (cy glwZ gdZ (by intro z;cases z)),kZ2,hext.trans hext2,hkeep.trans hkeep2,au,hds.put ws[i] (cY (some m)),by omega,fun x=>?_,fun x hx=>?_⟩
   ·have hin:(x∈if ws[i]∈ks then ks else ks++[ws[i]])↔x∈ks\/x=ws[i]:=by
     by_cases c:ws[i]∈ks
     ·rw[if_pos c]
      exact⟨.inl,fun y=>y.elim id fun y=>y▸c⟩
     ·rw[if_neg c,bR,bZ]
    rw[hin,etk,hdom x]
    constructor
    ·rintro(⟨h1,h2⟩|rfl)
     ·exact⟨eJ _ h1,h2⟩
     ·exact⟨eK _ (bZ.mpr rfl),hnn⟩
    ·rintro⟨h1,h2⟩
     rcases bR.mp h1 with y|y
     ·exact .inl ⟨y,h2⟩
     ·exact .inr (bZ.mp y)
   ·by_cases c:x=ws[i]
    ·subst c
     exact⟨m,z,e,k,by rw[sM,if_pos rfl];rfl,hz,ez,hrc⟩
    ·have hx':x∈ks:=by
      by_cases c2:ws[i]∈ks
      ·rw[if_pos c2]at hx;exact hx
      ·rw[if_neg c2]at hx
       rcases bR.mp hx with y|y
       ·exact y
       ·exact absurd (bZ.mp y) c
     obtain⟨n,z',e',k'',h1,h2,h3,h4⟩:=hval2 x hx'
     exact⟨n,z',e',k'',by rw[sM,if_neg (fun y=>c (kM y))];exact h1,h2,h3,h4⟩
 ·rintro σ HX ⟨o3,o4,kvs,ks,fs',on',rfl,fX,glw,kX,hext,hkeep,gd,hds,hkl,hdom,hval⟩
  rw[zLM]at kX hdom
  rw[dL (aJ _)]at hdom
  exact⟨_,rfl,q d kvs ks HX fs' on' fX kX hext hkeep fd0 gd hds hdom hval⟩
end
theorem Ma(t:Tm):t.firsts.Nodup:=by
 unfold Tm.firsts
 have:∀(l acc:List ac),acc.Nodup->(eT acc l).Nodup:=by
  intro l
  induction l with
  |nil=>intro acc h;exact h
  |cons x r ih=>
   intro acc h
   simp only[eT]
   split
   ·exact ih acc h
   ·rename_i hx
    refine ih _ ?_
    rw[rG]
    refine⟨h,by simp,fun a ha b hb=>?_⟩
    rw[bZ.mp hb]
    rintro rfl
    exact hx ha
 exact this _ _ List.nodup_nil
theorem qO(t:Tm):t.firsts.length<=t.bl.length:=jb (Ma t) fun x hx=>ld.mp hx
end K07
namespace BF
open PySem Classical
noncomputable def ie(σ:ac->Tm)(m:Nat):List Tm->Nat
 |[]=>0
 |t::r=>(if cc t=true/\(t.sub σ).nodes<=m then 1 else 0)+ie σ m r
theorem E6{σ:ac->Tm}{m n:Nat}(h:m<=n):∀U:List Tm,ie σ m U<=ie σ n U
 |[]=>aJ _
 |t::r=>by
  have ih:=E6 (σ:=σ) h r
  simp only[ie]
  by_cases c:cc t=true/\(t.sub σ).nodes<=m
  ·rw[if_pos c,if_pos ⟨c.1,dJ c.2 h⟩];omega
  ·rw[if_neg c];omega
theorem E7{σ:ac->Tm}{m:Nat}{t:Tm}(hT:cc t=true)(h:m<(t.sub σ).nodes):∀{U:List Tm},t∈U->ie σ m U+1<=ie σ (t.sub σ).nodes U
 |[],hU=>by cases hU
 |a::r,hU=>by
  simp only[ie]
  rcases bF.mp hU with z|z
  ·subst z
   have:=E6 (σ:=σ) (mQ h) r
   rw[if_neg (by omega),if_pos ⟨hT,aJ _⟩]
   omega
  ·have ih:=E7 hT h z
   by_cases c:cc a=true/\(a.sub σ).nodes<=m
   ·rw[if_pos c,if_pos ⟨c.1,by omega⟩];omega
   ·rw[if_neg c];omega
theorem E8{σ:ac->Tm}{m:Nat}:∀U:List Tm,ie σ m U<=U.length
 |[]=>aJ _
 |t::r=>by
  have ih:=E8 (σ:=σ) (m:=m) r
  simp only[ie,zLC]
  split<;>omega
structure oY(σ:ac->Tm)(U:List Tm):Prop where
 part:∀w ps,Tm.thing w ps∈U->∀p∈ps,p∈U
 blank:∀x,Tm.blank x∈U->(σ x).nodes=1\/∃e∈U,cc e=true/\σ x=e.sub σ
theorem oY.deepT{σ:ac->Tm}{U:List Tm}(h:oY σ U):∀(n:Nat)(t:Tm),t∈U->cc t=true->(t.sub σ).nodes<=n->(t.sub σ).dp<=1+ie σ (t.sub σ).nodes U:=by
 intro n
 induction n with
 |zero=>intro t _ _ hn;have:=(t.sub σ).nodes_pos;omega
 |succ n ih=>
  intro t ht hT hn
  cases t with
  |num _=>cases hT
  |name _=>cases hT
  |blank _=>cases hT
  |thing w ps=>
   have key:∀p∈ps,(p.sub σ).dp<=ie σ ((Tm.thing w ps).sub σ).nodes U:=fun p hp=>by
        have hlt:(p.sub σ).nodes<((Tm.thing w ps).sub σ).nodes:=qo hp
        have hpU:=h.part w ps ht p hp
        have hc:=E7 (σ:=σ) (m:=(p.sub σ).nodes) hT hlt ht
        have one:(p.sub σ).nodes=1->(p.sub σ).dp<=ie σ ((Tm.thing w ps).sub σ).nodes U:=fun e=>by
         have:=Dn (p.sub σ)
         omega
        cases p with
        |num _=>exact one rfl
        |name _=>exact one rfl
        |thing v qs=>
         have:=ih _ hpU rfl (by omega)
         omega
        |blank x=>
         rcases h.blank x hpU with e|⟨e,he,hTe,ee⟩
         ·exact one e
         ·have es:(Tm.blank x).sub σ=e.sub σ:=ee
          rw[es]at hlt hc |-
          have:=ih e he hTe (by omega)
          omega
   have hd:((Tm.thing w ps).sub σ).dp=1+iY (ps.map (Tm.sub σ)):=by simp only[Tm.sub,ja,Tm.dp]
   have:=wW (n:=ie σ ((Tm.thing w ps).sub σ).nodes U) (l:=ps.map (Tm.sub σ)) fun q hq=>by
        obtain⟨p,hp,rfl⟩:=bL.mp hq
        exact key p hp
   omega
theorem oY.deep{σ:ac->Tm}{U:List Tm}(h:oY σ U){t:Tm}(ht:t∈U):(t.sub σ).dp<=1+U.length:=by
 have one:(t.sub σ).nodes=1->(t.sub σ).dp<=1+U.length:=fun e=>by have:=Dn (t.sub σ);omega
 have thing:∀e∈U,cc e=true->(e.sub σ).dp<=1+U.length:=fun e he hT=>by
  have h1:=h.deepT _ e he hT (aJ _)
  have h2:=E8 (σ:=σ) (m:=(e.sub σ).nodes) U
  omega
 cases t with
 |num _=>exact one rfl
 |name _=>exact one rfl
 |thing v qs=>exact thing _ ht rfl
 |blank x=>
  rcases h.blank x ht with e|⟨e,he,hTe,ee⟩
  ·exact one e
  ·have es:(Tm.blank x).sub σ=e.sub σ:=ee
   rw[es]
   exact thing e he hTe
theorem yg{g:Ln}{x:ac}:Tm.blank x∈bK g↔x∈g.1.bl\/x∈g.2.bl:=by
 unfold bK
 rw[bR,<-mU,tH,<-mU (as:=g.2.rp),tH]
theorem Mb{g:Ln}{t:Tm}{x:ac}(ht:t∈bK g)(hx:x∈t.bl):x∈g.1.bl\/x∈g.2.bl:=by
 rw[<-yg]
 have hb:Tm.blank x∈t.rp:=by rw[<-mU];exact tH.mpr hx
 unfold bK at ht |-
 rcases bR.mp ht with z|z
 ·exact eJ _ (tQ _ z _ hb)
 ·exact eK _ (tQ _ z _ hb)
def dZ(ks:List ac)(E:ac->Tm):Fl:=ks.map fun x=>(x,E x)
theorem Mc(ks:List ac)(E:ac->Tm):(dZ ks E).map (·.1)=ks:=by simp[dZ,lG,Au]
theorem ki(ks:List ac)(E:ac->Tm)(x:ac):look (dZ ks E) x=if x∈ks then some (E x)else none:=by
 induction ks with
 |nil=>rfl
 |cons a r ih=>
  have e:dZ (a::r) E=(a,E a)::dZ r E:=rfl
  have e2:look ((a,E a)::dZ r E) x=if a=x then some (E a)else look (dZ r E) x:=by
   by_cases c:a=x
   ·simp[look,c]
   ·simp[look,c]
  rw[e,e2,ih]
  by_cases c:a=x
  ·subst c;simp
  ·have c':¬x=a:=fun z=>c z.symm
   rw[if_neg c]
   simp[c']
structure kj(g:Ln)(nx:Nx)(ks:List ac)(E:ac->Tm):Prop where
 nd:ks.Nodup
 dom:∀x,x∈ks↔(x∈g.1.bl\/x∈g.2.bl)/\nx (.blank x)≠none
 way:∀x∈ks,∃k,a0 nx k (.blank x) (E x)
 inU:∀x∈ks,E x∈bK g
 key:∀x,nx (.blank x)≠none->x∈g.1.bl\/x∈g.2.bl
theorem kj.none'{g:Ln}{nx:Nx}{ks:List ac}{E:ac->Tm}(h:kj g nx ks E){x:ac}:x∉ks↔nx (.blank x)=none:=by
 constructor
 ·intro hx
  cases z:nx (.blank x)with
  |none=>rfl
  |some u=>exact absurd ((h.dom x).mpr ⟨h.key x (by rw[z];simp),by rw[z];simp⟩) hx
 ·intro z hx
  exact((h.dom x).mp hx).2 z
theorem kj.sol{g:Ln}{nx:Nx}{ks:List ac}{E:ac->Tm}(h:kj g nx ks E){f:Fl}(hs:eB (dZ ks E) f)(hall:∀x∈ks,x∈f.map (·.1)):∀x k e,a0 nx k (.blank x) e->bJ f x=e.sub (bJ f):=fun x k e r=>by
 by_cases c:x∈ks
 ·obtain⟨k',r'⟩:=h.way x c
  rw[(r.det r').2]
  exact hs.eqn (by rw[ki,if_pos c]) (hall x c)
 ·rw[(r.of_root (h.none'.mp c)).2]
  rfl
theorem yh{ks:List ac}{E:ac->Tm}{f:Fl}(hs:eB (dZ ks E) f){x:ac}(c:x∉ks):bJ f x= .blank x:=by
 have:=hs.out (w:=x) (by rw[ki,if_neg c])
 simp[bJ,this]
theorem kj.cov{g:Ln}{nx:Nx}{ks:List ac}{E:ac->Tm}(h:kj g nx ks E){f:Fl}(hs:eB (dZ ks E) f)(hall:∀x∈ks,x∈f.map (·.1)):oY (bJ f) (bK g) where
 part:=fun w ps h p hp=>xn h hp
 blank:=fun x hx=>by
  by_cases c:x∈ks
  ·obtain⟨k,r⟩:=h.way x c
   have e:=h.sol hs hall x k _ r
   cases z:E x with
   |num n=>rw[z]at e;exact .inl (by rw[e];rfl)
   |name n=>rw[z]at e;exact .inl (by rw[e];rfl)
   |thing v qs=>exact .inr ⟨E x,h.inU x c,by rw[z];rfl,e⟩
   |blank y=>
    rw[z]at e r
    have hy:y∉ks:=h.none'.mpr r.end'
    refine .inl ?_
    rw[e]
    show (bJ f y).nodes=1
    rw[yh hs hy]
    rfl
  ·exact .inl (by rw[yh hs c];rfl)
structure fz(g:Ln)(f:Fl)(fs:List Lf)(ns:List Nat):Prop where
 rise:f.Pairwise fun p q=>p.1.cps.toList<q.1.cps.toList
 own:∀p∈f,p.2≠ .blank p.1
 keys:∀p∈f,p.1∈g.1.bl\/p.1∈g.2.bl
 clean:∀p∈f,∀x∈p.2.bl,(x∈g.1.bl\/x∈g.2.bl)/\x∉f.map (·.1)
 same:g.1.fill f=g.2.fill f
 best:∀φ,j8 φ g->∀x,(bJ f x).sub φ=φ x
 nums:ns.length=f.length/\∀i (h:i<f.length)(h':i<ns.length),∃z,fs[ns[i]]?=some z/\z.1.1= .blank f[i].1/\z.1.2.fill f=f[i].2
 cov:oY (bJ f) (bK g)
 val:∀p∈f,∃e∈bK g,p.2=e.sub (bJ f)/\∀y,e= .blank y->bJ f y= .blank y
theorem Md{f:Fl}{ss:List ac}(hp:ss.Perm (f.map (·.1))):bJ (cM f ss)=bJ f:=by
 funext x
 unfold bJ
 by_cases c:x∈ss
 ·exact wU c
 ·rw[JK c,kW fun z=>c (hp.mem_iff.mpr z)]
theorem Me{g:Ln}{fs:List Lf}{on:On}{ks:List ac}{E:ac->Tm}{num:ac->Nat}{f:Fl}{ss:List ac}(hst:ia g (bK g) fs on)(hU:dP g (bg fs on) [])(he:kj g (bg fs on) ks E)
 (hnum:∀x∈ks,∃z,fs[num x]?=some z/\z.1=(.blank x,E x)) (hs:eB (dZ ks E) f) (hall:∀x∈ks,x∈f.map (·.1)) (hp:ss.Perm (f.map (·.1))) (hr:ss.Pairwise fun a b=>a.cps.toList<b.cps.toList):
 fz g (cM f ss) fs ((cM f ss).map fun p=>num p.1):=by
 have hfs:=Md hp
 have hin:∀p∈cM f ss,p.1∈ks/\p.2=(E p.1).sub (bJ f):=fun p h=>by
  obtain⟨h1,h2,h3⟩:=j4 h
  obtain⟨e,h4,h5,h6,_⟩:=hs.inv.2 _ (iH h2)
  simp only at h4 h5
  rw[ki]at h4
  split at h4
  ·rename_i c
   cases h4
   exact⟨c,by rw[h5,gP]⟩
  ·cases h4
 have sol:=he.sol hs hall
 have keysN:∀x,x∈(cM f ss).map (·.1)->x∈ks:=fun x hx=>by
  obtain⟨p,hp',rfl⟩:=bL.mp hx
  exact(hin p hp').1
 refine⟨Dl hr,fun p h=>(j4 h).2.2,fun p h=>((he.dom _).mp (hin p h).1).1,fun p h x hx=>?_,?_,fun φ hφ x=>?_,⟨by simp,fun i h h'=>?_⟩,by rw[hfs];exact he.cov hs hall,fun p h=>⟨E p.1,he.inU _ (hin p h).1,by rw[hfs];exact(hin p h).2,fun y hy=>?_⟩⟩
 ·obtain⟨h1,h2,_⟩:=j4 h
  obtain⟨c1,q,hq,c2⟩:=hs.clean _ (iH h2) x hx
  obtain⟨y,hy,rfl⟩:=bL.mp hq
  refine⟨Mb (he.inU y hy) c2,fun z=>?_⟩
  rw[ki,if_pos (keysN x z)]at c1
  cases c1
 ·rw[gP,gP,hfs]
  exact hU.both sol
 ·rw[hfs]
  refine hs.best (fun y e hy=>?_) x
  rw[ki]at hy
  split at hy
  ·rename_i c
   cases hy
   obtain⟨z,hz,ez⟩:=hnum y c
   have:=DG hφ fs [] hst.snd (fun _ h=>by cases h) z (zMG hz)
   unfold j8 at this
   rw[ez]at this
   exact this
  ·cases hy
 ·obtain⟨h1,h2⟩:=hin _ (zGM h)
  obtain⟨z,hz,ez⟩:=hnum _ h1
  refine⟨z,by rw[jl];exact hz,by rw[ez],?_⟩
  rw[ez,gP,hfs]
  exact h2.symm
 ·obtain⟨k,r⟩:=he.way _ (hin p h).1
  rw[hy]at r
  rw[hfs]
  exact yh hs (he.none'.mpr r.end')
theorem Mf{g:Ln}{nx:Nx}{ks:List ac}{E:ac->Tm}(he:kj g nx ks E){ws:List ac}(hne:ws≠[])(h:∀i (h:i<ws.length),∃e,look (dZ ks E) ws[i]=some e/\ws[(i+1) % ws.length]'(eY _ (by omega))∈e.bl/\look (dZ ks E) (ws[(i+1) % ws.length]'(eY _ (by omega)))≠none):
 tI (ws.map fun x=>(.blank x,E x)):=by
 have hE:∀i (h':i<ws.length),ws[(i+1) % ws.length]'(eY _ (by omega))∈(E ws[i]).bl/\ws[i]∈ks/\ws[(i+1) % ws.length]'(eY _ (by omega))∈ks:=fun i h'=>by
  obtain⟨e,h1,h2,h3⟩:=h i h'
  rw[ki]at h1 h3
  split at h1
  ·rename_i c
   cases h1
   refine⟨h2,c,?_⟩
   by_cases c2:ws[(i+1) % ws.length]'(eY _ (by omega))∈ks
   ·exact c2
   ·rw[if_neg c2]at h3;exact absurd rfl h3
  ·cases h1
 refine⟨fun p hp=>?_,fun i hi=>?_,?_⟩
 ·obtain⟨x,_,rfl⟩:=bL.mp hp
  rfl
 ·have hi':i<ws.length:=by simpa using hi
  refine⟨ws[(i+1) % ws.length]'(eY _ (by omega)),?_,?_⟩
  ·simp only[jl,zLM]
  ·simp only[jl]
   exact(hE i hi').1
 ·have h0:0<ws.length:=zy.mpr hne
  obtain⟨h1,h2,h3⟩:=hE 0 h0
  refine⟨(.blank ws[0],E ws[0]),bL.mpr ⟨_,zGM h0,rfl⟩,?_⟩
  obtain⟨k,r⟩:=he.way _ h2
  cases z:E ws[0]with
  |num n=>rw[z]at h1;simp[Tm.bl]at h1
  |name n=>rw[z]at h1;simp[Tm.bl]at h1
  |thing v qs=>rfl
  |blank y=>
   rw[z]at h1 r
   simp only[Tm.bl,bZ]at h1
   rw[h1]at h3
   exact absurd r.end' ((he.dom y).mp h3).2
end BF
namespace K07
open PySem L2 BF
section
variable{P:aP}{w:aH}{K:aB}{mg:ac->Option aa}{base:aA}
inductive E9(vs:List V)(H:Hp)(Q:VK):Prop
 |mk:∀(L:Addr)(ls:List V)(fs:List Lf)(d:Addr)(kvs:List (Key×V))(ks:List ac)(E:ac->Tm),(vs=[.ref L,.ref d])->(H L=some (.lst ls))->(dX H ls fs)->(H d=some (.dK kvs))->(DS kvs ks)->((∀x∈ks,∃(n:Nat)(z:Lf),bQ kvs (Sum.inr x)=some (.int (n:Nat))/\fs[n]?=some z/\z.1.2=E x))->(ks.length<=1000)->(∀(d2:Addr)(kv2:List (Key×V))(H':Hp),aq H H'->H d2=none->H' d2=some (.dK kv2)->dw H' kv2 (dZ ks E)->Q (.ref d2) H')->E9 vs H Q
def yi:Sp:=fun vs H Q _=>E9 vs H Q
theorem Mg{f:Addr}{fd:bd}(F:bw K "ends_by_word" "ends_by_word" mD f fd):be P w K mg base bh 1 f fd ["lines","numbers"] yi:=by
 refine F.ok tZ (fun vs H Q E h=>?_) (fun cdv A outer s H vs Q E hr h=>?_)
 ·obtain⟨_,_,_,_,_,_,_,rfl,_⟩:=h
  rfl
 obtain⟨L,ls,fs,d,kvs,ks,Ef,rfl,hL,hls,hd,hds,hval,hkl,q⟩:=h
 have hun:=hr.un
 have hu:(A.deeper (gG "ends_by_word" (av mD) s.heap.objs.size f cdv)).units+1<cLine:=by omega
 have hkk:kvs.length=ks.length:=by have:=congrArg kz hds.keys;simpa using this
 apply aE;intro T1
 apply aE;intro T2
 refine⟨_,(aj (az (i:=2) tZ.nd pX) (aD T2 (aj (LZ (dM cr rfl (L7 (pv 1)) (v4 rfl (nr (cn (i:=3) tZ.nd rfl (Or.inl rfl)) (nr (cn (i:=4) tZ.nd rfl (Or.inl rfl)) v3))) (aD T1 (al (pW hu (pv 2) (pv 3) (ao (bG bV (pv 0) (pv 4) (fun _ _=>rfl))) rfl))))) (al (ay (pv 2)))))),?_⟩
 refine fun e fe=>?_
 generalize e_:ae H e (HO.dK [])=H1
 obtain⟨s1,x1⟩:=aM fe e_
 have hd1:=s1 _ _ hd
 have nde:d≠e:=aN hd fe
 refine⟨d,kvs,hd1,_,rfl,d,kvs,rfl,hd1,fun o=>?_⟩
 have kf:∀b ob,H1 b=some ob->b≠d->ae H1 d (HO.frz o (.dK kvs)) b=some ob:=fun b ob z hb=>by rw[am hb];exact z
 have xf:ae H1 d (HO.frz o (.dK kvs)) d=some _:=au
 generalize ae H1 d (HO.frz o (.dK kvs))=Hf at kf xf |-
 refine let I1:Nat->L2.St->Hp->Prop:=(fun i σ HX=>∃(o3 o4:Option V)(kv2:List (Key×V)),σ=[some (.ref L),some (.ref d),some (.ref e),o3,o4]/\(∀b ob,H b=some ob->b≠d->HX b=some ob)/\HX d=some (.frz o (.dK kvs))/\HX e=some (.dK kv2)/\dw HX kv2 (dZ (ks.take i) Ef)/\kv2.length<=i);L8 (a:=d) (o:=o) (kvs:=kvs) I1
  ⟨none,none,[],rfl,fun b ob z hb=>kf _ _ (s1 _ _ z) hb,xf,kf _ _ x1 nde.symm,.nil,aJ _⟩ (fun i σ HX _ hI=>by obtain⟨_,_,_,_,_,z,_⟩:=hI;exact z) ?_ ?_
 ·rintro i kv q0 σ HX hkv ⟨o3,o4,kv2,rfl,kX,gd,ge,hk2,hl2⟩ fq0
  obtain⟨x,hx,ek,ev⟩:=hds.get hkv
  obtain⟨hi,ex⟩:=bI.mp hx
  obtain⟨n,z,ev2,hz,ez⟩:=hval x (zMG hx)
  rw[ev]at ev2
  obtain⟨kv1,kvv⟩:=kv
  simp only at ek ev2
  cases ek
  cases ev2
  have t1:=bz fq0 (HO.tup [kV (Sum.inr x),.int (n:Nat)])
  have z1:ae HX q0 (HO.tup [kV (Sum.inr x),.int (n:Nat)]) q0=some _:=au
  have kT:aV H HX:=fun b xs z=>kX _ _ z (cy z hd (by intro z;cases z))
  obtain⟨a,u,v,r,hat,ha,hr',hu1,hv1⟩:=iI (dX.mono kT hls) hz
  refine⟨q0,_,rfl,ag.of z1,rfl,_,_,rfl,_,_,rfl,rfl,?_⟩
  generalize ae HX q0 (HO.tup [kV (Sum.inr x),.int (n:Nat)])=HY at t1 z1 |-
  have geY:=t1 _ _ ge
  have hLY:=t1 _ _ (kX _ _ hL (cy hL hd (by intro z;cases z)))
  refine⟨_,rfl,_,rfl,L,_,_,_,rfl,rfl,ak.of hLY,hat,_,_,_,_,rfl,rfl,ag.of (t1 _ _ ha),cx,_,rfl,_,rfl,e,_,rfl,jV.k (k:=Sum.inr x) geY (big (by omega)),?_⟩
  have hnone:bQ kv2 (Sum.inr x)=none:=by
   refine(hk2.dof x).1 (kW ?_)
   intro y
   rw[dZ,lG]at y
   have y':x∈ks.take i:=by simpa[Au]using y
   obtain⟨j,hj,ej⟩:=kI.mp y'
   rw[zLT]at hj
   rw[pq]at ej
   exact(mY.mp hds.nd j i (by omega) hi (by omega)) (ej.trans ex.symm)
  rw[L2.BI _ hnone]
  have kE:aV HY (ae HY e (HO.dK (kv2++[(Sum.inr x,v)]))):=fun b ys y=>by rw[am (cy y geY (by intro z;cases z))];exact y
  have hv':aw HY v z.1.2:=hv1.mono (.of t1)
  refine⟨_,_,_,rfl,fun b ob y hb=>by rw[am (aN y fe)];exact t1 _ _ (kX _ _ y hb),by rw[am nde];exact t1 _ _ gd,au,?_,by simp;omega⟩
  have etk:dZ (ks.take (i+1)) Ef=dZ (ks.take i) Ef++[(x,Ef x)]:=by
   rw[zTS hi,dZ,zMA,ex]
   rfl
  rw[etk]
  exact j6 (dw.mono ((aV.of t1).trans kE) hk2) ⟨rfl,by show aw _ v (Ef x);rw[<-ez];exact hv'.mono kE⟩
 ·rintro σ HX ⟨o3,o4,kv2,rfl,kX,gd,ge,hk2,hl2⟩
  rw[hkk,dL (aJ _)]at hk2
  refine⟨o,gd,_,rfl,?_⟩
  have kD:aV HX (ae HX d (HO.dK kvs)):=fun b ys y=>by rw[am (cy y gd (by intro z;cases z))];exact y
  refine q e kv2 _ (fun b ob y=>?_) fe (by rw[am nde.symm];exact ge) (dw.mono kD hk2)
  by_cases c:b=d
  ·subst c
   rw[au,<-y,hd]
  ·rw[am c];exact kX _ _ y c
def iJ(ends f:Fl)(e:Tm):List ac:=e.firsts.filter fun y=>(look ends y).isSome&&(look f y).isNone
theorem kl{H:Hp}{d:Addr}{kvs:List (Key×V)}{f:Fl}(hr:Rd H d (.dK kvs))(hk:dw H kvs f)(x:ac):(look f x=none->db H d (.str x) none)/\∀t,look f x=some t->∃v,db H d (.str x) (some v)/\aw H v t:=by
 have h0:db H d (.str x) (bQ kvs (Sum.inr x)):= .inl ⟨kvs,Sum.inr x,hr,rfl,rfl⟩
 refine⟨fun e=>?_,fun t e=>?_⟩
 ·rw[(hk.dof x).1 e]at h0;exact h0
 ·obtain⟨v,e1,e2⟩:=(hk.dof x).2 t e
  rw[e1]at h0
  exact⟨v,h0,e2⟩
theorem Fa{H H':Hp}{a:Addr}{u:HO}(s:aq H H')(h:Rd H a u):Rd H' a u:=h.imp (fun e=>s _ _ e) fun⟨o,e⟩=>⟨o,s _ _ e⟩
inductive Fb(vs:List V)(H:Hp)(Q:VK):Prop
 |mk:∀(de:Addr)(ke:List (Key×V))(ends:Fl)(dt:Addr)(kt:List (Key×V))(f:Fl)(x:ac)(e:Tm),(vs=[.ref de,.ref dt,.str x])->(Rd H de (.dK ke))->(dw H ke ends)->(Rd H dt (.dK kt))->(dw H kt f)->(look ends x=some e)->(e.nodes<=900)->(∀(l:Addr)(H':Hp),aq H H'->H l=none->H' l=some (.lst ((iJ ends f e).map V.str))->Q (.ref l) H')->Fb vs H Q
def uA:Sp:=fun vs H Q _=>Fb vs H Q
theorem Mh{f0:Addr}{fd:bd}(F:bw K "words_ahead" "words_ahead" mG f0 fd)(c_blanks_of:aG P w K mg base 2 "blanks_of" ["term"] mK):be P w K mg base bh 3 f0 fd ["ends","terms","word"] uA:=by
 refine F.ok KG (fun vs H Q E h=>?_) (fun cdv A outer s H vs Q E hr h=>?_)
 ·obtain⟨_,_,_,_,_,_,_,_,rfl,_⟩:=h
  rfl
 obtain⟨de,ke,ends,dt,kt,f,x,e,rfl,hde,hke,hdt,hkt,hlk,hen,q⟩:=h
 have hun:=hr.un
 have hu:(A.deeper (gG "words_ahead" (av mG) s.heap.objs.size f0 cdv)).units+1<cLine:=by omega
 refine⟨_,(al (ay (kU (Nc:=["needed","ends","terms"]) (k:=1) (js:=[0,1]) ⟨rfl,rfl,rfl,rfl,rfl,rfl⟩ (fi (aY c_blanks_of (hr.mono (by decide)) (ad (nC hu (pv 0) (pv 2) (fun _ _=>rfl)) af))) (fun _ _ _ _=>cn (i:=0) (show (["needed","ends","terms"]:List ac).Nodup by decide +kernel) rfl (Or.inl rfl)) (fun _ _ _ _=>tu (jq (sf (Ia hu (pv 0) (pv 1))) (jp (sf (wo hu (pv 0) (pv 2))))).pt) (fun _ _ _ _=>(pv 0))))),?_⟩
 obtain⟨v,hget,hv⟩:=(kl hde hke x).2 e hlk
 refine⟨_,rfl,_,rfl,de,v,rfl,hget,v,e,rfl,hv,by omega,fun lb H1 s1 hlb=>⟨lb,rfl,⟨_,ak.of hlb⟩,fun D fD _ _ _ _=>?_⟩⟩
 refine let I2:Nat->L2.St->Hp->Prop:=(fun i σ HX=>∃(o:Option V),σ=[o,some (.ref de),some (.ref dt)]/\aq H1 HX/\HX D=some (.lst (((e.firsts.take i).filter fun y=>(look ends y).isSome&&(look f y).isNone).map V.str)));wM (K:=K) (a:=lb) (xs:=e.firsts.map V.str) I2
  ⟨none,rfl,bz fD _,au⟩ (fun i σ HX _ hI=>by obtain⟨_,_,sX,_⟩:=hI;exact sX.seq (ak.of hlb)) ?_ ?_
 ·rintro i y σ HX hy ⟨o,rfl,sX,gD⟩
  have hi:i<e.firsts.length:=by have:=(bI.mp hy).1;simpa using this
  have ey:y= .str e.firsts[i]:=by
   rw[cV,zGE hi]at hy
   exact(cQ hy).symm
  subst ey
  have sHX:=s1.trans sX
  have hde':=Fa sHX hde
  have hdt':=Fa sHX hdt
  have hke':=hke.mono (.of sHX)
  have hkt':=hkt.mono (.of sHX)
  have etk:e.firsts.take (i+1)=e.firsts.take i++[e.firsts[i]]:=zTS hi
  have hfl:=qO e
  have hbl:=mh e
  have hfll:((e.firsts.take i).filter fun y=>(look ends y).isSome&&(look f y).isNone).length<=i:=dJ (rL _ _) (by rw[zLT];omega)
  have no:((look ends e.firsts[i]).isSome&&(look f e.firsts[i]).isNone)=false->HX D=some (.lst (((e.firsts.take (i+1)).filter fun y=>(look ends y).isSome&&(look f y).isNone).map V.str)):=fun z=>by
   rw[etk,m5,m6,z]
   simpa using gD
  cases hl1:look ends e.firsts[i]with
  |none=>
   exact⟨_,rfl,_,rfl,de,_,rfl,(kl hde' hke' _).1 hl1,_,rfl,fQ (bf ⟨_,rfl,sX,no (by rw[hl1];rfl)⟩)⟩
  |some t1=>
   obtain⟨v1,hg1,_⟩:=(kl hde' hke' _).2 t1 hl1
   cases hl2:look f e.firsts[i]with
   |some t2=>
    obtain⟨v2,hg2,_⟩:=(kl hdt' hkt' _).2 t2 hl2
    exact⟨_,rfl,_,rfl,de,_,rfl,hg1,_,rfl,iV (by simp) ⟨_,rfl,_,rfl,dt,_,rfl,hg2,_,rfl,fQ ⟨_,rfl,sX,no (by rw[hl2];simp)⟩⟩⟩
   |none=>
    refine⟨_,rfl,_,rfl,de,_,rfl,hg1,_,rfl,iV (by simp) ⟨_,rfl,_,rfl,dt,_,rfl,(kl hdt' hkt' _).1 hl2,_,rfl,iV (by simp) ⟨_,rfl,_,gD,big (by rw[zLM];omega),?_⟩⟩⟩
    refine⟨_,rfl,fun b ob z=>by rw[am (aN z fD)];exact sX _ _ z,?_⟩
    rw[au,etk,m5,m6,hl1,hl2]
    simp
 ·rintro σ HX ⟨o,rfl,sX,gD⟩
  rw[zLM,dL (aJ _)]at gD
  exact q D HX (s1.trans sX) (s1.free fD) gD
end
section
variable{P:aP}{w:aH}{K:aB}{mg:ac->Option aa}{base:aA}
def iK(ends f:Fl)(p:ac×Tm):Bool:=(look f p.1).isNone&&(iJ ends f p.2).isEmpty
def fY(ends f:Fl):List ac:=(ends.filter (iK ends f)).map (·.1)
structure mL(H:Hp)(de:Addr)(ke:List (Key×V))(ends:Fl):Prop where
 at':H de=some (.dK ke)
 kv:dw H ke ends
 nd:(ends.map (·.1)).Nodup
 sz:∀p∈ends,p.2.nodes<=90
 len:ends.length<=1000
inductive Fc(vs:List V)(H:Hp)(Q:VK):Prop
 |mk:∀(de:Addr)(ke:List (Key×V))(ends:Fl)(dt:Addr)(kt:List (Key×V))(f:Fl),(vs=[.ref de,.ref dt])->(mL H de ke ends)->(H dt=some (.dK kt))->(dw H kt f)->(de≠dt)->(∀(l:Addr)(H':Hp),aq H H'->H l=none->H' l=some (.lst ((fY ends f).map V.str))->Q (.ref l) H')->Fc vs H Q
def yj:Sp:=fun vs H Q _=>Fc vs H Q
theorem Fd{H:Hp}{kvs:List (Key×V)}{f:Fl}(h:dw H kvs f){i:Nat}{kv:Key×V}(e:kvs[i]?=some kv):∃p,f[i]?=some p/\kv.1=Sum.inr p.1/\aw H kv.2 p.2:=by
 obtain⟨p,h1,h2,h3⟩:=qc h e
 exact⟨p,h1,h2,h3⟩
theorem yk{f:Fl}(hn:(f.map (·.1)).Nodup){p:ac×Tm}(h:p∈f):look f p.1=some p.2:=by
 induction f with
 |nil=>cases h
 |cons a r ih=>
  rw[bP,iN]at hn
  rw[qi]
  rcases bF.mp h with z|z
  ·rw[<-z];simp
  ·rw[if_neg (fun e=>hn.1 (by rw[e];exact bL.mpr ⟨_,z,rfl⟩))]
   exact ih hn.2 z
theorem Mi{f0:Addr}{fd:bd}(F:bw K "ready_words" "ready_words" mF f0 fd)(c_words_ahead:aG P w K mg base 3 "words_ahead" ["ends","terms","word"] uA):be P w K mg base bh 4 f0 fd ["ends","terms"] yj:=by
 refine F.ok KF (fun vs H Q E h=>?_) (fun cdv A outer s H vs Q E hr h=>?_)
 ·obtain⟨_,_,_,_,_,_,rfl,_⟩:=h
  rfl
 obtain⟨de,ke,ends,dt,kt,f,rfl,he,hdt,hkt,nedt,q⟩:=h
 have hun:=hr.un
 have hu:(A.deeper (gG "ready_words" (av mF) s.heap.objs.size f0 cdv)).units+1<cLine:=by omega
 have hkl:=he.kv.len
 have hel:=he.len
 refine⟨_,(al (ay (E1 (kU (Nc:=["word","terms","ends"]) (k:=1) (js:=[1,0]) ⟨rfl,rfl,rfl,rfl,rfl,rfl⟩ (E2 (pv 0)) (fun _ _ _ _=>cn (i:=0) (show (["word","terms","ends"]:List ac).Nodup by decide +kernel) rfl (Or.inl rfl)) (fun _ _ _ _=>tu (jq (sf (wo hu (pv 0) (pv 1))) (jp (cK (nw (aY c_words_ahead (hr.mono (by decide)) (ad (pv 2) (ad (pv 1) (ad (pv 0) af)))) (fun _=>rfl))))).pt) (fun _ _ _ _=>(pv 0)))))),?_⟩
 refine⟨de,ke,he.at',_,rfl,de,ke,rfl,he.at',fun o D fD _ _ _ _=>?_⟩
 have kf:∀b ob,H b=some ob->b≠de->ae H de (HO.frz o (.dK ke)) b=some ob:=fun b ob z hb=>by rw[am hb];exact z
 have xf:ae H de (HO.frz o (.dK ke)) de=some _:=au
 have fD0:H D=none:=by
  cases e:H D with
  |none=>rfl
  |some ob=>
   by_cases c:D=de
   ·rw[c,xf]at fD;cases fD
   ·rw[kf _ _ e c]at fD;cases fD
 have nDe:D≠de:=fun z=>by rw[z,xf]at fD;cases fD
 have sD:=bz fD (HO.lst [])
 have xD:ae (ae H de (HO.frz o (.dK ke))) D (HO.lst []) D=some _:=au
 generalize ae (ae H de (HO.frz o (.dK ke))) D (HO.lst [])=HD at sD xD |-
 generalize ae H de (HO.frz o (.dK ke))=Hf at kf xf fD sD
 refine let I1:Nat->L2.St->Hp->Prop:=(fun i σ HX=>∃(o1:Option V),σ=[o1,some (.ref dt),some (.ref de)]/\aq Hf HX/\HX D=some (.lst ((((ends.take i).filter (iK ends f)).map (·.1)).map V.str)));E3 (a:=de) (o:=o) (kvs:=ke) I1
  ⟨none,rfl,sD,xD⟩ (fun i σ HX _ hI=>by obtain⟨_,_,sX,_⟩:=hI;exact sX _ _ xf) ?_ ?_
 ·rintro i kv σ HX hkv ⟨o1,rfl,sX,gD⟩
  obtain⟨p,hp,ek,_⟩:=Fd he.kv hkv
  obtain⟨kv1,kvv⟩:=kv
  simp only at ek
  cases ek
  obtain⟨hi,ep⟩:=bI.mp hp
  have hpm:=zMG hp
  have kX:aV H HX:=fun b xs z=>sX _ _ (kf _ _ z (cy z he.at' (by intro z;cases z)))
  have hde':Rd HX de (.dK ke):= .inr ⟨o,sX _ _ xf⟩
  have hdt':Rd HX dt (.dK kt):= .inl (sX _ _ (kf _ _ hdt nedt.symm))
  have hke':=he.kv.mono kX
  have hkt':=hkt.mono kX
  have hlk:=yk he.nd hpm
  have hsz:=he.sz p hpm
  have etk:ends.take (i+1)=ends.take i++[p]:=by rw[zTS hi,ep]
  have hfl:((ends.take i).filter (iK ends f)).length<=i:=dJ (rL _ _) (by rw[zLT];omega)
  have no:iK ends f p=false->∀HZ:Hp,HZ D=HX D->HZ D=some (.lst ((((ends.take (i+1)).filter (iK ends f)).map (·.1)).map V.str)):=fun z HZ e=>by
   rw[etk,m5,m6,z,e]
   simpa using gD
  cases hl2:look f p.1 with
  |some t2=>
   obtain⟨v2,hg2,_⟩:=(kl hdt' hkt' _).2 t2 hl2
   exact⟨_,rfl,_,rfl,dt,_,rfl,hg2,_,rfl,fQ (bf ⟨_,rfl,sX,no (by unfold iK;rw[hl2];rfl) _ rfl⟩)⟩
  |none=>
   refine⟨_,rfl,_,rfl,dt,_,rfl,(kl hdt' hkt' _).1 hl2,_,rfl,iV (by simp) ⟨_,rfl,_,rfl,_,rfl,de,ke,ends,dt,kt,f,p.1,p.2,rfl,hde',hke',hdt',hkt',hlk,by omega,fun l HY sY fl gl=>⟨_,.inl ⟨_,ak.of gl,rfl⟩,bO (fun c=>?_) (fun c=>?_)⟩⟩⟩
   ·have hemp:iJ ends f p.2=[]:=by
     cases z:iJ ends f p.2 with
     |nil=>rfl
     |cons a b=>rw[z]at c;simp at c
    have hrd:iK ends f p=true:=by unfold iK;rw[hl2,hemp];rfl
    have gDY:=sY _ _ gD
    refine⟨_,rfl,_,gDY,big (by simp only[zLM];omega),?_⟩
    refine⟨_,rfl,fun b ob z=>by rw[am (aN z fD)];exact sY _ _ (sX _ _ z),?_⟩
    rw[au,etk,m5,m6,hrd]
    simp[kV]
   ·have hemp:iK ends f p=false:=by
     unfold iK
     cases z:iJ ends f p.2 with
     |nil=>rw[z]at c;simp at c
     |cons a b=>simp
    exact⟨_,rfl,sX.trans sY,no hemp HY (by rw[sY _ _ gD,gD])⟩
 ·rintro σ HX ⟨o1,rfl,sX,gD⟩
  rw[hkl,dL (aJ _)]at gD
  refine⟨o,sX _ _ xf,q D _ (fun b ob z=>?_) fD0 (by rw[am nDe];exact gD)⟩
  by_cases c:b=de
  ·subst c
   rw[au,<-z,he.at']
  ·rw[am c];exact sX _ _ (kf _ _ z c)
theorem mL.same{H H':Hp}{de:Addr}{ke:List (Key×V)}{ends:Fl}(s:aq H H')(h:mL H de ke ends):mL H' de ke ends:=⟨s _ _ h.at',h.kv.mono (.of s),h.nd,h.sz,h.len⟩
theorem Fe{ends f:Fl}{x:ac}:x∈fY ends f↔∃p∈ends,p.1=x/\look f x=none/\iJ ends f p.2=[]:=by
 unfold fY
 rw[bL]
 constructor
 ·rintro⟨p,hp,rfl⟩
  obtain⟨h1,h2⟩:=ky.mp hp
  unfold iK at h2
  rw[iO]at h2
  exact⟨p,h1,rfl,vO.mp h2.1,List.isEmpty_iff.mp h2.2⟩
 ·rintro⟨p,hp,rfl,h1,h2⟩
  refine⟨p,ky.mpr ⟨hp,?_⟩,rfl⟩
  unfold iK
  rw[h1,h2]
  rfl
theorem Mj{ends f:Fl}{e:Tm}(h:iJ ends f e=[]):∀y∈e.bl,look ends y≠none->look f y≠none:=fun y hy h1 h2=>by
 have:y∈iJ ends f e:=by
  refine ky.mpr ⟨ld.mpr hy,?_⟩
  rw[h2]
  cases z:look ends y with
  |none=>exact absurd z h1
  |some _=>rfl
 rw[h]at this
 cases this
theorem qP{f:Fl}{x:ac}:look f x≠none↔x∈f.map (·.1):=by
 constructor
 ·intro h
  cases e:look f x with
  |none=>exact absurd e h
  |some t=>exact bL.mpr ⟨_,iH e,rfl⟩
 ·intro h e
  obtain⟨t,e'⟩:=wV h
  rw[e]at e'
  cases e'
inductive Ff(vs:List V)(H:Hp)(Q:VK):Prop
 |mk:∀(de:Addr)(ke:List (Key×V))(ends:Fl),(vs=[.ref de])->(mL H de ke ends)->(∀(dt:Addr)(kt:List (Key×V))(f:Fl)(H':Hp),aq H H'->H dt=none->H' dt=some (.dK kt)->dw H' kt f->eB ends f->fY ends f=[]->Q (.ref dt) H')->Ff vs H Q
def yl:Sp:=fun vs H Q _=>Ff vs H Q
theorem Ml{f0:Addr}{fd:bd}(F:bw K "settled" "settled" mE f0 fd)(c_ready_words:aG P w K mg base 4 "ready_words" ["ends","terms"] yj)(c_replaced:aG P w K mg base 2 "replaced" ["term","terms"] uv):be P w K mg base bh 5 f0 fd ["ends"] yl:=by
 refine F.ok qx (fun vs H Q E h=>?_) (fun cdv A outer s H vs Q E hr h=>?_)
 ·obtain⟨_,_,_,rfl,_⟩:=h
  rfl
 obtain⟨de,ke,ends,rfl,he,q⟩:=h
 have hun:=hr.un
 have hu:(A.deeper (gG "settled" (av mE) s.heap.objs.size f0 cdv)).units+1<cLine:=by omega
 have hel:=he.len
 have hfle:∀f:Fl,eB ends f->f.length<=ends.length:=fun f hf=>by
  have hi:=hf.inv
  have:=jb hi.1 (m:=ends.map (·.1)) fun x hx=>by
   obtain⟨p,hp,rfl⟩:=bL.mp hx
   obtain⟨e,h1,_⟩:=hi.2 p hp
   exact qP.mp (by rw[h1];simp)
  simpa using this
 apply aE;intro T1
 apply aE;intro T2
 apply aE;intro T3
 apply aE;intro T4
 apply aE;intro T5
 refine⟨_,(aj (az (i:=1) qx.nd pX) (aD T5 (aj (az (i:=2) qx.nd (aY c_ready_words (hr.mono (by decide)) (ad (pv 0) (ad (pv 1) af)))) (aD T4 (aj (iu cr (nw (pv 2) (fun _=>rfl)) (aD T3 (aj (dM cr rfl (fi (pv 2)) (cn (i:=3) qx.nd rfl (Or.inl rfl)) (aD T1 (al (pW hu (pv 1) (pv 3) (aY c_replaced (hr.mono (by decide)) (ad (nC hu (pv 0) (pv 3) (fun _ _=>rfl)) (ad (pv 1) af))) rfl)))) (aD T2 (al (az (i:=2) qx.nd (aY c_ready_words (hr.mono (by decide)) (ad (pv 0) (ad (pv 1) af))))))))) (al (ay (pv 1)))))))),?_⟩
 refine fun dt fdt=>?_
 generalize e_:ae H dt (HO.dK [])=H1
 obtain⟨s1,x1⟩:=aM fdt e_
 have nde:de≠dt:=aN he.at' fdt
 refine⟨_,rfl,_,rfl,de,ke,ends,dt,[],[],rfl,he.same s1,x1,.nil,nde,fun l H2 s2 fl gl=>?_⟩
 refine⟨fun m σ HA=>∃(o3:Option V)(lr:Addr)(kt:List (Key×V))(f:Fl),σ=[some (.ref de),some (.ref dt),some (.ref lr),o3]/\aq H HA/\HA dt=some (.dK kt)/\dw HA kt f/\eB ends f/\HA lr=some (.lst ((fY ends f).map V.str))/\ends.length - f.length=m,
  ⟨_,none,l,[],[],rfl,s1.trans s2,s2 _ _ x1,.nil,.nil,gl,rfl⟩,?_⟩
 rintro m σ HA ⟨o3,lr,kt,f,rfl,sA,gdt,hkt,hst,glr,hm⟩
 refine⟨_,rfl,_,.inl ⟨_,ak.of glr,rfl⟩,bO (fun c=>⟨_,fun _ _ h=>h,?_⟩) (fun c=>?_)⟩
 ·have hrne:fY ends f≠[]:=fun z=>by rw[z]at c;simp at c
  have hrnd:(fY ends f).Nodup:=by
   unfold fY
   exact List.Nodup.sublist (List.Sublist.map _ List.filter_sublist) he.nd
  have hrin:∀x∈fY ends f,∃e,look ends x=some e/\e.nodes<=90/\look f x=none/\iJ ends f e=[]:=fun x hx=>by
   obtain⟨p,hp,rfl,h1,h2⟩:=Fe.mp hx
   exact⟨p.2,yk he.nd hp,he.sz p hp,h1,h2⟩
  have hrl:(fY ends f).length<=ends.length:=by
   unfold fY
   rw[zLM]
   exact rL _ _
  generalize hrs:fY ends f=rs at hrne hrnd hrin hrl glr
  refine⟨_,rfl,lr,rfl,⟨_,ak.of glr⟩,let I2:Nat->L2.St->Hp->Prop:=(fun i σ HX=>∃(o:Option V)(kt':List (Key×V))(f':Fl),σ=[some (.ref de),some (.ref dt),some (.ref lr),o]/\aq H HX/\HX lr=some (.lst (rs.map V.str))/\HX dt=some (.dK kt')/\dw HX kt' f'/\eB ends f'/\f'.map (·.1)=f.map (·.1)++rs.take i);iw (K:=K) (a:=lr) (xs:=rs.map V.str) I2
   ⟨_,kt,f,rfl,sA,glr,gdt,hkt,hst,by simp⟩ (fun i σ HX _ hI=>by obtain⟨_,_,_,_,_,z,_⟩:=hI;exact ak.of z) ?_ ?_⟩
  ·rintro i y σ HX hy ⟨o,kt',f',rfl,sX,glX,gdX,hkX,hstX,hkeys⟩
   have hi:i<rs.length:=by have:=(bI.mp hy).1;simpa using this
   have ey:y= .str rs[i]:=by
        rw[cV,zGE hi]at hy
        exact(cQ hy).symm
   subst ey
   obtain⟨e,hle,hen,hlf,hah⟩:=hrin _ (zGM hi)
   have heX:=he.same sX
   obtain⟨v,hv1,hv⟩:=(heX.kv.dof rs[i]).2 e hle
   have hget:db HX de (.str rs[i]) (some v):=by
        have:=db.k (k:=Sum.inr rs[i]) heX.at'
        rw[hv1]at this
        exact this
   refine⟨_,rfl,_,rfl,de,v,rfl,hget,_,rfl,v,e,dt,kt',f',rfl,hv,by omega,gdX,hkX.dof,fun v' HY sY hv'=>?_⟩
   have gdY:=sY _ _ gdX
   have hkl:=hkX.len
   have hfl:=hfle f' hstX
   refine⟨_,rfl,_,rfl,dt,_,rfl,jV.k (k:=Sum.inr rs[i]) gdY (big (by omega)),?_⟩
   have hnew:rs[i]∉f'.map (·.1):=by
        rw[hkeys]
        intro z
        rcases bR.mp z with z|z
        ·exact qP.mpr z hlf
        ·obtain⟨j,hj,ej⟩:=kI.mp z
         rw[zLT]at hj
         rw[pq]at ej
         exact(mY.mp hrnd j i (by omega) hi (by omega)) ej
   have hnone:bQ kt' (Sum.inr rs[i])=none:=(hkX.dof rs[i]).1 (kW hnew)
   rw[L2.BI _ hnone]
   have kE:aV HY (ae HY dt (HO.dK (kt'++[(Sum.inr rs[i],v')]))):=fun b ys y=>by rw[am (cy y gdY (by intro z;cases z))];exact y
   refine⟨_,_,f'++[(rs[i],e.fill f')],rfl,fun b ob z=>by rw[am (aN z fdt)];exact sY _ _ (sX _ _ z),by rw[am (cy (sY _ _ glX) gdY (by intro z;cases z))];exact sY _ _ glX,au,j6 (dw.mono ((aV.of sY).trans kE) hkX) ⟨rfl,hv'.mono kE⟩,.snoc hstX hle hnew (fun x hx h1=>?_),?_⟩
   ·rw[hkeys]
    exact eJ _ (qP.mp (Mj hah x hx h1))
   ·rw[zMA,hkeys,zTS hi,d8]
    rfl
  ·rintro σ HX ⟨o,kt',f',rfl,sX,glX,gdX,hkX,hstX,hkeys⟩
   rw[zLM,dL (aJ _)]at hkeys
   refine⟨_,rfl,_,rfl,de,ke,ends,dt,kt',f',rfl,he.same sX,gdX,hkX,nde,fun l2 HY sY fl2 gl2=>?_⟩
   have hlen:=congrArg kz hkeys
   rw[zLA,zLM,zLM]at hlen
   have h1:=hfle f' hstX
   have h2:0<rs.length:=zy.mpr hrne
   exact⟨_,by omega,_,l2,kt',f',rfl,sX.trans sY,sY _ _ gdX,hkX.mono (.of sY),hstX,gl2,rfl⟩
 ·have e0:fY ends f=[]:=by
   cases z:fY ends f with
   |nil=>rfl
   |cons a b=>rw[z]at c;exact absurd rfl c
  exact⟨_,rfl,q dt kt f HA sA fdt gdt hkt hst e0⟩
end
section
variable{P:aP}{w:aH}{K:aB}{mg:ac->Option aa}{base:aA}
theorem qQ{H:Hp}:∀l:List ac,bX H (l.map V.str) (l.map Dt.str)
 |[]=>by simp[bX]
 |x::r=>by
  simp only[bP,bX]
  exact⟨_,_,rfl,by simp[aQ],qQ r⟩
theorem Mm(xs:List V)(i:Nat)(h:i<=xs.length):eu xs (some (i:Int)) none=xs.drop i:=by
 unfold eu
 rw[HT.sIx_none,HT.sIx_nat,ze h]
 exact dL (by rw[dD];omega)
def Mn(ends:Fl)(ws:List ac):Prop:=ws≠[]/\∀i (h:i<ws.length),∃e,look ends ws[i]=some e/\ws[(i+1) % ws.length]'(eY _ (by omega))∈e.bl/\look ends (ws[(i+1) % ws.length]'(eY _ (by omega)))≠none
inductive Fg(vs:List V)(H:Hp)(Q:VK):Prop
 |mk:∀(de:Addr)(ke:List (Key×V))(ends:Fl)(dt:Addr)(kt:List (Key×V))(f:Fl),(vs=[.ref de,.ref dt])->(mL H de ke ends)->(H dt=some (.dK kt))->(dw H kt f)->(de≠dt)->(fY ends f=[])->((∃p∈ends,look f p.1=none))->(∀(l:Addr)(ws:List ac)(H':Hp),aq H H'->H l=none->H' l=some (.lst (ws.map V.str))->Mn ends ws->ws.length<=1000->Q (.ref l) H')->Fg vs H Q
def ym:Sp:=fun vs H Q _=>Fg vs H Q
theorem Mo{f0:Addr}{fd:bd}(F:bw K "ring_of" "ring_of" mH f0 fd)(c_words_ahead:aG P w K mg base 3 "words_ahead" ["ends","terms","word"] uA):be P w K mg base bh 4 f0 fd ["ends","terms"] ym:=by
 refine F.ok ua (fun vs H Q E h=>?_) (fun cdv A outer s H vs Q E hr h=>?_)
 ·obtain⟨_,_,_,_,_,_,rfl,_⟩:=h
  rfl
 obtain⟨de,ke,ends,dt,kt,f,rfl,he,hdt,hkt,nedt,hrd,hex,q⟩:=h
 have hun:=hr.un
 have hu:(A.deeper (gG "ring_of" (av mH) s.heap.objs.size f0 cdv)).units+1<cLine:=by omega
 have hkl:=he.kv.len
 have hel:=he.len
 have hnext:∀x,look ends x≠none->look f x=none->∃e y r,look ends x=some e/\e.nodes<=90/\iJ ends f e=y::r/\y∈e.bl/\look ends y≠none/\look f y=none:=fun x h1 h2=>by
  cases z:look ends x with
  |none=>exact absurd z h1
  |some e=>
   have hm:=iH z
   cases ha:iJ ends f e with
   |nil=>
    have:x∈fY ends f:=Fe.mpr ⟨_,hm,rfl,h2,ha⟩
    rw[hrd]at this
    cases this
   |cons y r=>
    have hy:y∈iJ ends f e:=by rw[ha];simp
    obtain⟨g1,g2⟩:=ky.mp hy
    rw[iO]at g2
    exact⟨e,y,r,rfl,he.sz _ hm,ha,ld.mp g1,fun y'=>by rw[y']at g2;simp at g2,vO.mp g2.2⟩
 apply aE;intro T1
 apply aE;intro T2
 apply aE;intro T3
 apply aE;intro T4
 apply aE;intro T5
 refine⟨_,(aj (az (i:=2) ua.nd (bG bV (E1 (kU (Nc:=["unsettled","terms"]) (k:=1) (js:=[1]) ⟨rfl,rfl,rfl,rfl,rfl,rfl⟩ (E2 (pv 0)) (fun _ _ _ _=>cn (i:=0) (show (["unsettled","terms"]:List ac).Nodup by decide +kernel) rfl (Or.inl rfl)) (fun _ _ _ _=>tu (sf (wo hu (pv 0) (pv 1)))) (fun _ _ _ _=>(pv 0)))) ax (fun _ _=>rfl))) (aD T5 (aj (az (i:=3) ua.nd (ca af)) (aD T4 (aj (iu cr (aF qg (pv 2) (pv 3) (by with_unfolding_all rfl)) (aD T2 (aj (cp (cE ce dk dl dg (pv 3) (ad (pv 2) af))) (aD T1 (al (az (i:=2) ua.nd (bG bV (aY c_words_ahead (hr.mono (by decide)) (ad (pv 0) (ad (pv 1) (ad (pv 2) af)))) ax (fun _ _=>rfl)))))))) (aD T3 (al (ay (fS gZ (pv 3) (fK (cE ce zU zV CZ (pv 3) (ad (pv 2) af))) gj))))))))),?_⟩
 refine⟨de,ke,he.at',_,rfl,de,ke,rfl,he.at',fun o D fD _ _ _ _=>?_⟩
 have kf:∀b ob,H b=some ob->b≠de->ae H de (HO.frz o (.dK ke)) b=some ob:=fun b ob z hb=>by rw[am hb];exact z
 have xf:ae H de (HO.frz o (.dK ke)) de=some _:=au
 have fD0:H D=none:=by
  cases e:H D with
  |none=>rfl
  |some ob=>
   by_cases c:D=de
   ·rw[c,xf]at fD;cases fD
   ·rw[kf _ _ e c]at fD;cases fD
 have nDe:D≠de:=fun z=>by rw[z,xf]at fD;cases fD
 have sD:=bz fD (HO.lst [])
 have xD:ae (ae H de (HO.frz o (.dK ke))) D (HO.lst []) D=some _:=au
 generalize ae (ae H de (HO.frz o (.dK ke))) D (HO.lst [])=HD at sD xD |-
 generalize ae H de (HO.frz o (.dK ke))=Hf at kf xf fD sD
 refine let I1:Nat->L2.St->Hp->Prop:=(fun i σ HX=>∃(o1:Option V),σ=[o1,some (.ref dt)]/\aq Hf HX/\HX D=some (.lst ((((ends.take i).filter fun p=>(look f p.1).isNone).map (·.1)).map V.str)));E3 (a:=de) (o:=o) (kvs:=ke) I1
  ⟨none,rfl,sD,xD⟩ (fun i σ HX _ hI=>by obtain⟨_,_,sX,_⟩:=hI;exact sX _ _ xf) ?_ ?_
 ·rintro i kv σ HX hkv ⟨o1,rfl,sX,gD⟩
  obtain⟨p,hp,ek,_⟩:=Fd he.kv hkv
  obtain⟨kv1,kvv⟩:=kv
  simp only at ek
  cases ek
  obtain⟨hi,ep⟩:=bI.mp hp
  have kX:aV H HX:=fun b xs z=>sX _ _ (kf _ _ z (cy z he.at' (by intro z;cases z)))
  have hdt':Rd HX dt (.dK kt):= .inl (sX _ _ (kf _ _ hdt nedt.symm))
  have hkt':=hkt.mono kX
  have etk:ends.take (i+1)=ends.take i++[p]:=by rw[zTS hi,ep]
  have hfl:((ends.take i).filter fun p=>(look f p.1).isNone).length<=i:=dJ (rL _ _) (by rw[zLT];omega)
  cases hl2:look f p.1 with
  |some t2=>
   obtain⟨v2,hg2,_⟩:=(kl hdt' hkt' _).2 t2 hl2
   refine⟨_,rfl,_,rfl,dt,_,rfl,hg2,_,rfl,fQ ⟨_,rfl,sX,?_⟩⟩
   rw[etk,m5,m6,hl2]
   simpa using gD
  |none=>
   refine⟨_,rfl,_,rfl,dt,_,rfl,(kl hdt' hkt' _).1 hl2,_,rfl,iV (by simp) ⟨_,rfl,_,gD,big (by simp only[zLM];omega),?_⟩⟩
   refine⟨_,rfl,fun b ob z=>by rw[am (aN z fD)];exact sX _ _ z,?_⟩
   rw[au,etk,m5,m6,hl2]
   simp[kV]
 rintro σ HX ⟨o1,rfl,sX,gD⟩
 rw[hkl,dL (aJ _)]at gD
 refine⟨o,sX _ _ xf,?_⟩
 have gD2:ae HX de (HO.dK ke) D=some (.lst (((ends.filter fun p=>(look f p.1).isNone).map (·.1)).map V.str)):=by rw[am nDe];exact gD
 have s2:aq H (ae HX de (HO.dK ke)):=fun b ob z=>by
  by_cases c:b=de
  ·subst c
   rw[au,<-z,he.at']
  ·rw[am c];exact sX _ _ (kf _ _ z c)
 generalize ae HX de (HO.dK ke)=H2 at gD2 s2 |-
 obtain⟨x0,r0,ex0,hx1,hx2⟩:∃x0 r0,((ends.filter fun p=>(look f p.1).isNone).map (·.1)).map V.str=V.str x0::r0/\look ends x0≠none/\look f x0=none:=by
  obtain⟨p,hp,hpn⟩:=hex
  have hm:p∈ends.filter fun p=>(look f p.1).isNone:=ky.mpr ⟨hp,by rw[hpn];rfl⟩
  cases hz:ends.filter fun p=>(look f p.1).isNone with
  |nil=>rw[hz]at hm;cases hm
  |cons a b=>
   have ha:a∈ends.filter fun p=>(look f p.1).isNone:=by rw[hz];simp
   obtain⟨g1,g2⟩:=ky.mp ha
   exact⟨a.1,_,rfl,by rw[yk he.nd g1];simp,vO.mp g2⟩
 rw[ex0]at gD2
 refine⟨D,_,_,_,rfl,rfl,ak.of gD2,bD,?_⟩
 refine⟨dz,fun lw flw=>?_⟩
 generalize e_:ae H2 lw (HO.lst [])=H3
 obtain⟨t3,x3⟩:=aM flw e_
 have s3:=s2.trans t3
 have flw0:H lw=none:=s2.free flw
 refine⟨fun m σ HA=>∃(x:ac)(ws:List ac),σ=[some (.ref de),some (.ref dt),some (.str x),some (.ref lw)]/\aq H HA/\HA lw=some (.lst (ws.map V.str))/\ws.Nodup/\(∀y∈ws++[x],look ends y≠none/\look f y=none)/\(∀i (h:i<ws.length),∃e,look ends ws[i]=some e/\(ws++[x])[i+1]'(by simp;omega)∈e.bl)/\ends.length - ws.length=m,
  ⟨_,x0,[],rfl,s3,x3,.nil,fun y hy=>(by simp at hy;subst hy;exact⟨hx1,hx2⟩),fun i h=>(by simp at h),rfl⟩,?_⟩
 rintro m σ HA ⟨x,ws,rfl,sA,gw,hnd,hall,hch,hm⟩
 have hwle:∀l:List ac,l.Nodup->(∀y∈l,look ends y≠none)->l.length<=ends.length:=fun l h1 h2=>by
  have:=jb h1 (m:=ends.map (·.1)) fun y hy=>qP.mp (h2 y hy)
  simpa using this
 have hwl:=hwle ws hnd fun y hy=>(hall y (eJ _ hy)).1
 have hdat:∀HX:Hp,bX HX (ws.map V.str) (ws.map Dt.str):=fun HX=>qQ ws
 refine⟨_,rfl,_,rfl,.str x,lw,_,_,by simp[aQ],rfl,gw,hdat HA,fun e hE=>?_,fun bb hbb=>⟨_,rfl,bO (fun c=>⟨_,fun _ _ h=>h,?_⟩) (fun c=>?_)⟩⟩
 ·obtain⟨y,_,rfl⟩:=bL.mp hE
  show (A.deeper _).units+1+0<cLine
  omega
 ·have hxn:x∉ws:=fun z=>hbb.mp c (bL.mpr ⟨x,z,rfl⟩)
  obtain⟨hxe,hxf⟩:=hall x (eK _ (bZ.mpr rfl))
  obtain⟨e,y,r,hle,hen,hah,hyb,hye,hyf⟩:=hnext x hxe hxf
  have hnd2:(ws++[x]).Nodup:=by
   rw[rG]
   refine⟨hnd,by simp,fun a ha b hb=>?_⟩
   rw[bZ.mp hb]
   rintro rfl
   exact hxn ha
  have hw2:=hwle _ hnd2 fun z hz=>(hall z hz).1
  rw[zLA]at hw2
  simp only[zLC,zLN]at hw2
  refine⟨_,rfl,.inl ⟨rfl,_,ak.of gw⟩,_,rfl,lw,_,_,rfl,rfl,gw,big (by rw[zLM];omega),?_⟩
  have kB:aV HA (ae HA lw (HO.lst (ws.map V.str++[.str x]))):= .lst gw
  have gB:ae HA lw (HO.lst (ws.map V.str++[.str x])) lw=some _:=au
  have sB:aq H (ae HA lw (HO.lst (ws.map V.str++[.str x]))):=fun b ob z=>by rw[am (aN z flw0)];exact sA _ _ z
  generalize ae HA lw (HO.lst (ws.map V.str++[.str x]))=HB at kB gB sB |-
  have heB:=he.same sB
  refine⟨_,rfl,_,rfl,_,rfl,de,ke,ends,dt,kt,f,x,e,rfl,.inl heB.at',heB.kv,.inl (sB _ _ hdt),hkt.mono (.of sB),hle,by omega,fun l HC sC fl gl=>?_⟩
  rw[hah]at gl
  refine⟨l,_,_,.str y,rfl,rfl,ak.of gl,bD,?_⟩
  refine⟨ends.length - (ws++[x]).length,by rw[zLA];simp only[zLC,zLN];omega,y,ws++[x],rfl,sB.trans sC,by rw[sC _ _ gB,zMA];rfl,hnd2,fun z hz=>?_,fun i h=>?_,rfl⟩
  ·rcases bR.mp hz with z'|z'
   ·exact hall z z'
   ·rw[bZ.mp z'];exact⟨hye,hyf⟩
  ·by_cases c2:i<ws.length
   ·obtain⟨e1,h1,h2⟩:=hch i c2
    refine⟨e1,by rw[pw c2];exact h1,?_⟩
    rw[pw (by simp;omega)]
    exact h2
   ·have ei:i=ws.length:=by simp at h;omega
    subst ei
    refine⟨e,by rw[vp (aJ _)];simpa using hle,?_⟩
    rw[vp (by simp)]
    simpa using hyb
 ·have hxin:x∈ws:=by
   have:¬¬(Dt.str x∈ws.map Dt.str):=fun z=>c (hbb.mpr z)
   obtain⟨y,hy,e⟩:=bL.mp (Classical.not_not.mp this)
   cases e
   exact hy
  obtain⟨j,hj,ej,hfirst⟩:∃(j:Nat)(h:j<(ws.map Dt.str).length),(ws.map Dt.str)[j]=Dt.str x/\∀i (h':i<(ws.map Dt.str).length),i<j->(ws.map Dt.str)[i]≠Dt.str x:=by
   obtain⟨j,hj,ej⟩:=kI.mp hxin
   refine⟨j,by simpa using hj,by simp[ej],fun i h' hij z=>?_⟩
   have h2:i<ws.length:=by simpa using h'
   have h3:ws[i]=x:=by simpa using z
   exact(mY.mp hnd i j h2 hj hij) (h3.trans ej.symm)
  refine⟨_,rfl,_,rfl,.inl ⟨rfl,_,ak.of gw⟩,_,rfl,lw,.str x,_,_,.str x,j,rfl,rfl,gw,hdat HA,by simp[aQ],fun e hE=>?_,⟨hj,ej,hfirst⟩,_,rfl,lw,_,rfl,ak.of gw,fun l fl=>?_⟩
  ·obtain⟨y,_,rfl⟩:=bL.mp hE
   show (A.deeper _).units+2+0<cLine
   omega
  have hj':j<ws.length:=by simpa using hj
  have ej':ws[j]=x:=by simpa using ej
  rw[Mm _ _ (by rw[zLM];omega),<-vq]
  have t9:=bz fl (HO.lst ((ws.drop j).map V.str))
  refine q l (ws.drop j) _ (sA.trans t9) (sA.free fl) au ⟨fun z=>?_,fun i h=>?_⟩ (by rw[dD];omega)
  ·have:=congrArg kz z
   rw[dD]at this
   simp at this
   omega
  ·have hil:j+i<ws.length:=by rw[dD]at h;omega
   obtain⟨e,h1,h2⟩:=hch (j+i) hil
   have hnx:(ws.drop j)[(i+1) % (ws.drop j).length]'(eY _ (by omega))=(ws++[x])[j+i+1]'(by simp;omega):=by
        by_cases c3:i+1<(ws.drop j).length
        ·have em:(i+1) % (ws.drop j).length=i+1:=zf c3
         rw[dD]at c3
         simp only[em,pp]
         rw[pw (by omega)]
         rfl
        ·have el:i+1=(ws.drop j).length:=by omega
         have em:(i+1) % (ws.drop j).length=0:=by rw[el,Nat.mod_self]
         rw[dD]at el
         simp only[em,pp]
         rw[vp (by omega)]
         simp only[Nat.add_zero,ej']
         simp
   refine⟨e,by rw[pp];exact h1,by rw[hnx];exact h2,?_⟩
   rw[hnx]
   exact(hall _ (zGM _)).1
end
end K07
namespace BF
open PySem Classical
theorem Fh{f:Fl}(hn:(f.map (·.1)).Nodup){p:ac×Tm}(h:p∈f):look f p.1=some p.2:=by
 induction f with
 |nil=>cases h
 |cons a r ih=>
  rw[bP,iN]at hn
  rcases bF.mp h with z|z
  ·subst z;simp[look]
  ·have hne:¬a.1=p.1:=fun e=>hn.1 (by rw[e];exact bL.mpr ⟨_,z,rfl⟩)
   have:=ih hn.2 z
   simp only[look,kH,decide_eq_false hne]at this |-
   exact this
theorem Mp{x y:ac}(h:x.cps.toList=y.cps.toList):x=y:=by
 cases x with|mk a=>cases y with|mk b=>simp only[ac.mk.injEq];exact vL h
theorem Mq{f:Fl}(hl:f.length<=700)(hc:∀i p,f[i]?=some p->p.1.cps.toList=eG i):(f.map (·.1)).Nodup:=by
 rw[rK,pA,mY]
 intro i j hi hj hij e
 have h1:=hc i _ (zGE hi)
 have h2:=hc j _ (zGE hj)
 rw[e,h2]at h1
 have:=JY (by omega) (by omega) h1
 omega
theorem uB{m:Nat}{f:Fl}(hl:f.length<=m)(h7:f.length<=700)(hc:∀i p,f[i]?=some p->p.1.cps.toList=eG i){t p:Tm}(h:j5 m (f.map (·.2)) t p):p.sub (bJ f)=t:=by
 obtain⟨x,i,rfl,hx,hs⟩:=h
 rw[cV]at hs
 cases hf:f[i]? with
 |none=>rw[hf]at hs;cases hs
 |some q=>
  rw[hf]at hs
  have hq:q.2=t:=cQ hs
  have hi:=(bI.mp hf).1
  rw[zf (by omega)]at hx
  have ex:x=q.1:=Mp (by rw[hx,hc i q hf])
  have hk:=Fh (Mq h7 hc) (zMG hf)
  show (look f x).getD (.blank x)=t
  rw[ex,hk,<-hq]
  rfl
theorem Mr{f:Fl}(hc:∀i p,f[i]?=some p->p.1.cps.toList=eG i){x:ac}(h:iZ x):bJ f x= .blank x:=by
 have:look f x=none:=kW fun z=>by
  obtain⟨p,hp,rfl⟩:=bL.mp z
  obtain⟨i,hi,ei⟩:=kI.mp hp
  exact J0 h (hc i p (by rw[<-ei];exact zGE hi))
 simp[bJ,this]
theorem Fi{m:Nat}{f:Fl}(hl:f.length<=m)(h7:f.length<=700)(hc:∀i p,f[i]?=some p->p.1.cps.toList=eG i)(t:Tm):∀p,cw m (f.map (·.2)) t p->p.sub (bJ f)=t:=by
 refine Tm.ind (P:=fun t=>∀p,cw m (f.map (·.2)) t p->p.sub (bJ f)=t) (fun n p h=>?_) (fun n p h=>?_) (fun n p h=>?_) (fun n ts ih p h=>?_) t
 ·simp only[cw]at h
  rcases h with h|rfl
  ·exact uB hl h7 hc h
  ·rfl
 ·simp only[cw]at h
  rcases h with h|rfl
  ·exact uB hl h7 hc h
  ·rfl
 ·simp only[cw]at h
  rcases h with h|⟨rfl,hx⟩
  ·exact uB hl h7 hc h
  ·exact Mr hc hx
 ·simp only[cw]at h
  rcases h with h|⟨ps,rfl,hL⟩
  ·exact uB hl h7 hc h
  ·simp only[Tm.sub]
   congr 1
   clear hl h7
   induction ts generalizing ps with
   |nil=>simp only[gr]at hL;subst hL;rfl
   |cons a r ih2=>
    simp only[gr]at hL
    obtain⟨q,s,rfl,h1,h2⟩:=hL
    simp only[nI]
    rw[ih a (by simp) q h1,ih2 (fun b hb=>ih b (by simp[hb])) s h2]
theorem fz.okT{g:Ln}{f:Fl}{fs:List Lf}{ns:List Nat}(h:fz g f fs ns)(hn:(f.map (·.1)).Nodup)(ok:∀t∈bK g,t.Ok):∀(n:Nat)(t:Tm),t∈bK g->cX t=false->(t.sub (bJ f)).nodes<=n->(t.sub (bJ f)).Ok:=by
 intro n
 induction n with
 |zero=>intro t _ _ hn;have:=(t.sub (bJ f)).nodes_pos;omega
 |succ n ih=>
  intro t ht hb hle
  cases t with
  |num _=>exact ok _ ht
  |name _=>exact ok _ ht
  |blank _=>cases hb
  |thing w ps=>
   have ho:=ok _ ht
   simp only[Tm.Ok]at ho
   simp only[Tm.sub,Tm.Ok]
   refine⟨ho.1,fun z=>ho.2.1 ?_,?_⟩
   ·have:=congrArg kz z
    rw[Ka]at this
    exact kJ.mp this
   ·rw[ja,pY]
    intro q hq
    obtain⟨p,hp,rfl⟩:=bL.mp hq
    have hlt:(p.sub (bJ f)).nodes<((Tm.thing w ps).sub (bJ f)).nodes:=qo hp
    have hpU:=xn ht hp
    cases p with
    |num _=>exact ih _ hpU rfl (by omega)
    |name _=>exact ih _ hpU rfl (by omega)
    |thing _ _=>exact ih _ hpU rfl (by omega)
    |blank x=>
     show (bJ f x).Ok
     cases hl:look f x with
     |none=>simp only[bJ,hl,rY];exact ok _ hpU
     |some p2=>
      obtain⟨e,he,e2,e3⟩:=h.val _ (iH hl)
      have ee:bJ f x=e.sub (bJ f):=by simp only[bJ,hl,pJ];exact e2
      have hlt':(e.sub (bJ f)).nodes<=n:=by
           have:((Tm.blank x).sub (bJ f)).nodes=(e.sub (bJ f)).nodes:=by show (bJ f x).nodes=_;rw[ee]
           omega
      rw[ee]
      cases e with
      |num _=>exact ok _ he
      |name _=>exact ok _ he
      |blank y=>show (bJ f y).Ok;rw[e3 y rfl];exact ok _ he
      |thing _ _=>exact ih _ he rfl hlt'
theorem fz.ok{g:Ln}{f:Fl}{fs:List Lf}{ns:List Nat}(h:fz g f fs ns)(hn:(f.map (·.1)).Nodup)(ok:∀t∈bK g,t.Ok){p:ac×Tm}(hp:p∈f):p.2.Ok:=by
 obtain⟨e,he,e2,e3⟩:=h.val p hp
 rw[e2]
 cases e with
 |num _=>exact ok _ he
 |name _=>exact ok _ he
 |blank y=>show (bJ f y).Ok;rw[e3 y rfl];exact ok _ he
 |thing _ _=>exact h.okT hn ok _ _ he rfl (aJ _)
theorem fz.nodup{g:Ln}{f:Fl}{fs:List Lf}{ns:List Nat}(h:fz g f fs ns):(f.map (·.1)).Nodup:=by
 rw[rK,pA]
 exact h.rise.imp fun h e=>by rw[e]at h;exact absurd h (vn _)
theorem Ms{g:Ln}(h1:g.1.Ok)(h2:g.2.Ok):∀t∈bK g,t.Ok:=fun t ht=>by
 rcases bR.mp ht with z|z
 ·exact tR h1 _ z
 ·exact tR h2 _ z
theorem Fj{g:Ln}:g.1∈bK g/\g.2∈bK g:=⟨eJ _ (qu _),eK _ (qu _)⟩
theorem Fk(g:Ln):(bK g).length=g.1.nodes+g.2.nodes:=by unfold bK;rw[zLA,hV,hV]
end BF
namespace K07
open PySem L2 BF
section
variable{P:aP}{w:aH}{K:aB}{mg:ac->Option aa}{base:aA}
theorem Fm{t:Tm}:t.Ok->∀x∈t.bl,Wd x:=by
 refine Tm.ind (P:=fun t=>t.Ok->∀x∈t.bl,Wd x) (fun _ _ x h=>by simp[Tm.bl]at h) (fun _ _ x h=>by simp[Tm.bl]at h) (fun w h x hx=>?_) (fun w ps ih h x hx=>?_) t
 ·simp only[Tm.bl,bZ]at hx
  subst hx
  simpa[Tm.Ok]using h
 ·simp only[Tm.bl]at hx
  obtain⟨p,hp,hx⟩:=tL.mp hx
  simp only[Tm.Ok]at h
  exact ih p hp ((pY ps).mp h.2.2 p hp) x hx
inductive Fo(K:aB)(vs:List V)(H:Hp)(Q:VK):Prop
 |mk:∀(a:Addr)(ns:List Int)(m b:Int),(vs=[.ref a,.int m,.int b])->(ak K H a (ns.map V.int))->(ns.length<=63)->(Q (.int m) H)->Fo K vs H Q
def yn(K:aB):Sp:=fun vs H Q _=>Fo K vs H Q
theorem Mu{f:Addr}{fd:bd}(F:bw K "_law_room" "_law_room" oR f fd)(T:Bi mg):be P w K mg base bh 1 f fd ["_law_script","_law_most","_law_bound"] (yn K):=by
 refine F.ok KN (fun vs H Q E h=>?_) (fun cdv A outer s H vs Q E hr h=>?_)
 ·obtain⟨_,_,_,_,rfl,_⟩:=h
  rfl
 obtain⟨a,ns,m,b,rfl,hS,hn,q⟩:=h
 refine⟨_,(aj (aK (aF su (bc cm T.b_len cj (ad (pv 0) af)) ax (aC _)) (al (ay (pv 2))) aU)
  (al (ay (pv 1)))),?_⟩
 refine⟨_,rfl,a,_,rfl,.inl hS,_,_,rfl,rfl,_,rfl,bO (fun c=>?_) (fun c=>⟨_,rfl,q⟩)⟩
 have c':=of_decide_eq_true c
 rw[zLM]at c'
 omega
inductive Fp(vs:List V)(H:Hp)(Q:VK):Prop
 |mk:∀(lf:Addr)(ps:List V)(f:Fl)(v1 v2:V)(t1 t2:Tm),(vs=[.ref lf,v1,v2])->(H lf=some (.lst ps))->(dW H ps f)->(oW f)->(aw H v1 t1)->(aw H v2 t2)->(t1.nodes<=900)->(t2.nodes<=900)->((∀p∈f,p.1∈t1.bl\/p.1∈t2.bl))->((∀p∈f,∀x∈p.2.bl,(x∈t1.bl\/x∈t2.bl)/\x∉f.map (·.1)))->(t1.fill f=t2.fill f)->((t1.fill f).dp<=90)->(f.length<=1000)->(∀H',aq H H'->Q (.bl true) H')->Fp vs H Q
def yo:Sp:=fun vs H Q _=>Fp vs H Q
theorem Mv{f0:Addr}{fd:bd}(F:bw K "_law_good" "_law_good" mJ f0 fd)(T:Bi mg)(c__law_is_filling:aG P w K mg base 4 "_law_is_filling" ["_law_found"] xX)(c__law_blanks:aG P w K mg base 2 "_law_blanks" ["_law_term"] mK)(c__law_fill:aG P w K mg base 2 "_law_fill" ["_law_term","_law_pairs"] qL):
 be P w K mg base bh 5 f0 fd ["_law_filling","_law_one","_law_other"] yo:=by
 refine F.ok qD (fun vs H Q E h=>?_) (fun cdv A outer s H vs Q E hr h=>?_)
 ·obtain⟨_,_,_,_,_,_,_,rfl,_⟩:=h
  rfl
 obtain⟨lf,ps,f,v1,v2,t1,t2,rfl,hl,hf,hok,h1,h2,hn1,hn2,hkey,hcl,heq,hdp,hfl,q⟩:=h
 have hun:=hr.un
 have hb1:=mh t1
 have hb2:=mh t2
 have hf1:=qO t1
 have hf2:=qO t2
 have hpl:=hf.len
 refine⟨_,(aj (aK (cK (cf (aY c__law_is_filling (hr.mono (by decide)) (ad (pv 0) af)))) (al (ay bU)) aU)
  (aj (az (i:=3) qD.nd (aZ jS (aY c__law_blanks (hr.mono (by decide)) (ad (pv 1) af)) (aY c__law_blanks (hr.mono (by decide)) (ad (pv 2) af))))
  (aj (CU (i:=4) (Nc:=["_law_pair"]) (k:=1) (js:=[]) ⟨rfl,rfl,rfl,rfl,rfl,rfl⟩ qD.nd rfl (Or.inl rfl) (fi (pv 0)) (fun _ _ _ _=>cn (i:=0) (show (["_law_pair"]:List ac).Nodup by decide +kernel) rfl (Or.inl rfl)) (fun _ _ _ _=>nE) (fun _ _ _ _=>(ao (pv 0))))
  (aj (dM cr rfl (fi (pv 0)) (cn (i:=5) qD.nd rfl (Or.inl rfl)) (aj (aK (aF qg (ao (pv 5)) (pv 3) (by with_unfolding_all rfl)) (al (ay bU)) aU)
        (al (dM cr rfl (fi (aY c__law_blanks (hr.mono (by decide)) (ad (ao (pv 5)) af))) (cn (i:=6) qD.nd rfl (Or.inl rfl)) (al (aK (cv (aF qg (pv 6) (pv 3) (by with_unfolding_all rfl)) (dF (aF Jp (pv 6) (pv 4) (by with_unfolding_all rfl)))).pt (al (ay bU)) aU))))))
  (al (ay (iQ Dp (aY c__law_fill (hr.mono (by decide)) (ad (pv 1) (ad (pv 0) af))) (aY c__law_fill (hr.mono (by decide)) (ad (pv 2) (ad (pv 0) af))) (aC _)))))))),?_⟩
 refine⟨_,rfl,lf,ps,f,rfl,hl,hf,hok,fun H1 s1=>⟨_,rfl,bf ?_⟩⟩
 refine⟨_,rfl,v1,t1,rfl,h1.mono (.of s1),by omega,fun l1 H2 s2 g2=>⟨_,rfl,v2,t2,rfl,h2.mono (.of (s1.trans s2)),by omega,fun l2 H3 s3 g3=>⟨l1,l2,_,_,rfl,rfl,s3 _ _ g2,g3,eP (by simp only[zLM];omega),fun lk fk=>?_⟩⟩⟩
 rw[<-zMA]
 generalize e_:ae H3 lk (HO.lst ((t1.firsts++t2.firsts).map V.str))=H4
 obtain⟨t4,x4⟩:=aM fk e_
 have s4:=s1.trans (s2.trans (s3.trans t4))
 have hl4:=s4 _ _ hl
 have hws:∀x,x∈t1.firsts++t2.firsts↔x∈t1.bl\/x∈t2.bl:=fun x=>by rw[bR,ld,ld]
 refine⟨_,rfl,lf,rfl,⟨_,ak.of hl4⟩,fun D fD _ _ _ _=>?_⟩
 refine qf (K:=K) (a:=lf) (xs:=ps) (fun n σ HX=>∃(o:Option V),σ=[o]/\aq H4 HX/\HX D=some (.lst (((f.map (·.1)).take n).map V.str))) ⟨none,rfl,bz fD _,au⟩ (fun n σ HX _ hI=>by obtain⟨_,_,sX,_⟩:=hI;exact sX.seq (ak.of hl4)) ?_ ?_
 ·rintro n y σ HX hy ⟨o,rfl,sX,gD⟩
  obtain⟨hi,ey⟩:=bI.mp hy
  have hi':n<f.length:=by omega
  obtain⟨b,v,eb,hb0,_⟩:=hf.get n hi hi'
  rw[ey]at eb
  subst eb
  refine⟨_,rfl,_,_,_,_,rfl,rfl,ag.of (sX _ _ (s4 _ _ hb0)),bD,_,gD,big (by simp only[zLM,zLT];omega),?_⟩
  refine⟨_,rfl,fun b ob z=>by rw[am (aN z fD)];exact sX _ _ z,?_⟩
  have hi2:n<(f.map (·.1)).length:=by rw[zLM];exact hi'
  rw[au,zTS hi2,zMA,jl]
  rfl
 rintro σ0 H5 ⟨o,rfl,s5,gD⟩
 rw[dL (by rw[zLM];omega)]at gD
 have s05:=s4.trans s5
 have hl5:=s05 _ _ hl
 have x5:=s5 _ _ x4
 have hin:∀{x:ac}{l:List ac},Dt.str x∈l.map Dt.str↔x∈l:=fun {x l}=>by
  constructor
  ·intro z
   obtain⟨y,hy,e⟩:=bL.mp z
   cases e
   exact hy
  ·intro z;exact bL.mpr ⟨x,z,rfl⟩
 have hunits:∀(l:List ac)(k:Nat),k<=2->∀e∈l.map Dt.str,(A.deeper (gG "_law_good" (av mJ) s.heap.objs.size f0 cdv)).units+k+e.dep<cLine:=fun l k hk e hE=>by
  obtain⟨y,_,rfl⟩:=bL.mp hE
  show (A.deeper _).units+k+0<cLine
  omega
 refine⟨_,rfl,lf,rfl,⟨_,ak.of hl5⟩,iw (K:=K) (a:=lf) (xs:=ps) (fun i σ HX=>∃(o5 o6:Option V),σ=[some (.ref lf),some v1,some v2,some (.ref lk),some (.ref D),o5,o6]/\aq H5 HX) ⟨none,none,rfl,aq.refl _⟩ (fun i σ HX _ hI=>by obtain⟨_,_,_,sX⟩:=hI;exact sX.seq (ak.of hl5)) ?_ ?_⟩
 ·rintro i y σ HX hy ⟨o5,o6,rfl,sX⟩
  obtain⟨hi,ey⟩:=bI.mp hy
  have hi':i<f.length:=by omega
  obtain⟨b,v,eb,hb0,hv⟩:=hf.get i hi hi'
  rw[ey]at eb
  subst eb
  have s0X:=s05.trans sX
  have hb:=s0X _ _ hb0
  have hpm:=zGM hi'
  obtain⟨_,_,htn,_,_⟩:=hok.1 _ hpm
  refine⟨_,rfl,_,_,_,_,rfl,rfl,ag.of hb,bD,_,rfl,.str f[i].1,lk,_,_,by simp[aQ],rfl,sX _ _ x5,qQ _,hunits _ 1 (by omega),fun bb hbb=>⟨_,rfl,ck (fH.mpr fun z=>hbb.mp z (hin.mpr ((hws _).mpr (hkey _ hpm)))) ?_⟩⟩
  have hcl':=hcl _ hpm
  refine⟨_,rfl,_,_,_,_,rfl,rfl,ag.of hb,cx,v,f[i].2,rfl,hv.mono (.of s0X),by omega,fun lb HY sY glb=>⟨lb,rfl,⟨_,ak.of glb⟩,iw (K:=K) (a:=lb) (xs:=f[i].2.firsts.map V.str) (fun j σ HZ=>∃(o6:Option V),σ=[some (.ref lf),some v1,some v2,some (.ref lk),some (.ref D),some (.ref b),o6]/\aq HY HZ) ⟨_,rfl,aq.refl _⟩ (fun j σ HZ _ hI=>by obtain⟨_,_,sZ⟩:=hI;exact sZ.seq (ak.of glb)) ?_ ?_⟩⟩
  ·rintro j y2 σ HZ hy2 ⟨o6,rfl,sZ⟩
   have hj:j<f[i].2.firsts.length:=by have:=(bI.mp hy2).1;simpa using this
   have ey2:y2= .str f[i].2.firsts[j]:=by
        rw[cV,zGE hj]at hy2
        exact(cQ hy2).symm
   subst ey2
   obtain⟨c1,c2⟩:=hcl' _ (ld.mp (zGM hj))
   have sXZ:=sX.trans (sY.trans sZ)
   have s5Z:=sY.trans sZ
   refine⟨_,rfl,_,rfl,.str f[i].2.firsts[j],lk,_,_,by simp[aQ],rfl,sXZ _ _ x5,qQ _,hunits _ 1 (by omega),fun bb hbb=>⟨_,rfl,ck (fH.mpr fun z=>hbb.mp z (hin.mpr ((hws _).mpr c1))) ?_⟩⟩
   refine⟨_,rfl,_,rfl,.str f[i].2.firsts[j],D,_,_,by simp[aQ],rfl,sXZ _ _ gD,qQ _,hunits _ 1 (by omega),fun bb hbb=>⟨_,rfl,ck (fH.mpr fun z=>c2 (hin.mp (hbb.mp z))) ⟨_,rfl,sZ⟩⟩⟩
  ·rintro σ HZ ⟨o6,rfl,sZ⟩
   exact⟨_,_,rfl,sX.trans (sY.trans sZ)⟩
 rintro σ HX ⟨o5,o6,rfl,sX⟩
 have s0X:=s05.trans sX
 refine⟨_,rfl,_,rfl,v1,t1,lf,ps,f,rfl,h1.mono (.of s0X),by omega,s0X _ _ hl,hf.mono (.of s0X),hok.nodup,fun w1 HY sY hw1=>⟨_,rfl,_,rfl,v2,t2,lf,ps,f,rfl,h2.mono (.of (s0X.trans sY)),by omega,(s0X.trans sY) _ _ hl,hf.mono (.of (s0X.trans sY)),hok.nodup,fun w2 HZ sZ hw2=>?_⟩⟩
 have hdd:=tG (t1.fill f)
 refine⟨t1.fill f,t2.fill f,hw1.mono (.of sZ),hw2,(by show (A.deeper _).units+(t1.fill f).dt.dep<cLine;omega),fun bb hbb=>?_⟩
 rw[hbb.mpr heq]
 exact q _ (s0X.trans (sY.trans sZ))
end
end K07
namespace BF
open PySem Classical
def wq(t:Tm):Bool:=cX t||cc t
def ig:Tm->Nat
 |.thing _ ps=>ps.countP fun p=> !wq p
 |_=>0
theorem Fq(t:Tm):hv wq t+ig t=ar t:=by
 cases t with
 |num _=>rfl
 |name _=>rfl
 |blank _=>rfl
 |thing w ps=>
  show ps.countP wq+ps.countP (fun p=> !wq p)=ps.length
  induction ps with
  |nil=>rfl
  |cons a r ih=>
   simp only[vj,zLC]
   cases wq a<;>simp<;>omega
theorem Mw(U:List Tm):(U.map (hv wq)).sum+(U.map ig).sum=(U.map ar).sum:=by
 induction U with
 |nil=>rfl
 |cons a r ih=>
  have:=Fq a
  simp only[bP,jH]
  omega
theorem Mx{U:List Tm}{t:Tm}(h:t∈U):ig t<=(U.map ig).sum:=by
 induction U with
 |nil=>cases h
 |cons a r ih=>
  simp only[bP,jH]
  rcases bF.mp h with z|z
  ·subst z;omega
  ·have:=ih z;omega
def Wt(g:Ln):Prop:=∃c L,((bK g).map (hv wq)).sum<=c/\(∀t∈bK g,ig t<=L)/\c+L<=34
theorem My{g:Ln}(h:g.1.nodes+g.2.nodes<=36):Wt g:=by
 have h1:=tS g.1
 have h2:=tS g.2
 have h3:=Mw (bK g)
 have h4:((bK g).map ar).sum=(g.1.rp.map ar).sum+(g.2.rp.map ar).sum:=by unfold bK;rw[zMA,mX]
 exact⟨_,_,aJ _,fun t ht=>Mx ht,by omega⟩
theorem Mz:∀c<35,∀L<35,c+L<=34->2 * (L+1) * 3 ^ c<=2 ^ c * 2600000:=by decide +kernel
theorem fz.bnd{g:Ln}{f:Fl}{fs:List Lf}{ns:List Nat}(h:fz g f fs ns){L:Nat}(hL:∀t∈bK g,ig t<=L):qp wq L (bJ f) (bK g) where
 part:=fun w ps hp p h1 _=>h.cov.part w ps hp p h1
 blank:=fun w ps hp x hx=>h.cov.blank x (h.cov.part w ps hp _ hx)
 light:=fun w ps hp=>⟨hL _ hp,fun p _ hq=>by cases p<;>first|rfl|cases hq⟩
theorem fz.big{g:Ln}{f:Fl}{fs:List Lf}{ns:List Nat}(h:fz g f fs ns)(hw:Wt g){t:Tm}(ht:t∈bK g):(t.sub (bJ f)).nodes<=2600000:=by
 obtain⟨c,L,h1,h2,h3⟩:=hw
 have hN:2 * (L+1) * 3 ^ c<=2 ^ c * 2600000:=by
  exact Mz c (by omega) L (by omega) h3
 have thing:∀e∈bK g,cc e=true->(e.sub (bJ f)).nodes<=2600000:=fun e he hT=>(h.bnd h2).num he hT h1 hN
 cases t with
 |num _=>show 1<=2600000;decide
 |name _=>show 1<=2600000;decide
 |thing v qs=>exact thing _ ht rfl
 |blank x=>
  show (bJ f x).nodes<=2600000
  rcases h.cov.blank x ht with e|⟨e,he,hTe,ee⟩
  ·omega
  ·rw[ee];exact thing e he hTe
theorem Fr{φ:ac->Tm}{x:ac}{t:Tm}:x∈t.bl->(φ x).nodes<=(t.sub φ).nodes:=by
 refine Tm.ind (P:=fun t=>x∈t.bl->(φ x).nodes<=(t.sub φ).nodes) (fun _ h=>by simp[Tm.bl]at h) (fun _ h=>by simp[Tm.bl]at h) (fun w h=>?_) (fun w ps ih h=>?_) t
 ·simp only[Tm.bl,bZ]at h
  subst h
  exact aJ _
 ·simp only[Tm.bl]at h
  obtain⟨p,hp,hx⟩:=tL.mp h
  have h1:=ih p hp hx
  have h2:=qo (φ:=φ) (w:=w) hp
  omega
theorem fz.vals{g:Ln}{f:Fl}{fs:List Lf}{ns:List Nat}(h:fz g f fs ns){p:ac×Tm}(hp:p∈f):p.2.nodes<=(g.1.fill f).nodes/\p.2.dp<=1+(g.1.nodes+g.2.nodes):=by
 have e:bJ f p.1=p.2:=by simp only[bJ,Fh h.nodup hp,pJ]
 constructor
 ·rcases h.keys p hp with z|z
  ·have:=Fr (φ:=bJ f) z
   rw[e,<-gP]at this
   exact this
  ·have:=Fr (φ:=bJ f) z
   rw[e,<-gP,<-h.same]at this
   exact this
 ·obtain⟨e',he,e2,_⟩:=h.val p hp
  have:=h.cov.deep he
  rw[<-e2,Fk]at this
  exact this
theorem fz.deep1{g:Ln}{f:Fl}{fs:List Lf}{ns:List Nat}(h:fz g f fs ns):(g.1.fill f).dp<=1+(g.1.nodes+g.2.nodes):=by
 have:=h.cov.deep (Fj (g:=g)).1
 rw[<-gP,Fk]at this
 exact this
theorem Fs(k:Nat):(eG k).length<=4:=by
 unfold eG
 split<;>simp
theorem uC{m:Nat}{seen:List Tm}(t:Tm):∀p,cw m seen t p->∀x∈p.bl,x.cps.toList.length<=39:=by
 have inn:∀{t p:Tm},j5 m seen t p->∀x∈p.bl,x.cps.toList.length<=39:=fun {t p} h x hx=>by
  obtain⟨y,i,rfl,hy,_⟩:=h
  simp only[Tm.bl,bZ]at hx
  subst hx
  rw[hy]
  have:=Fs (i % m)
  omega
 refine Tm.ind (P:=fun t=>∀p,cw m seen t p->∀x∈p.bl,x.cps.toList.length<=39) (fun n p h=>?_) (fun n p h=>?_) (fun n p h=>?_) (fun n ts ih p h=>?_) t
 ·simp only[cw]at h
  rcases h with h|rfl
  ·exact inn h
  ·intro x hx;simp[Tm.bl]at hx
 ·simp only[cw]at h
  rcases h with h|rfl
  ·exact inn h
  ·intro x hx;simp[Tm.bl]at hx
 ·simp only[cw]at h
  rcases h with h|⟨rfl,c,r,e,_,hr⟩
  ·exact inn h
  ·intro x hx
   simp only[Tm.bl,bZ]at hx
   subst hx
   rw[e,zLC]
   omega
 ·simp only[cw]at h
  rcases h with h|⟨ps,rfl,hL⟩
  ·exact inn h
  ·intro x hx
   simp only[Tm.bl]at hx
   clear n
   induction ts generalizing ps with
   |nil=>simp only[gr]at hL;subst hL;simp[fq]at hx
   |cons a r ih2=>
    simp only[gr]at hL
    obtain⟨q,s,rfl,h1,h2⟩:=hL
    simp only[fq,bR]at hx
    rcases hx with z|z
    ·exact ih a (by simp) q h1 x z
    ·exact ih2 (fun b hb=>ih b (by simp[hb])) s h2 z
end BF
namespace K07
open PySem L2 BF
section
variable{P:aP}{w:aH}{K:aB}{mg:ac->Option aa}{base:aA}
inductive Ft(vs:List V)(H:Hp)(Q:VK):Prop
 |mk:∀(a lL:Addr)(v1 v2 x:V)(tag:ac)(g:Ln)(ls:List V)(fs:List Lf),(vs=[.ref a,v1,v2])->(H a=some (.tup [.str tag,.ref lL,x]))->(aw H v1 g.1)->(aw H v2 g.2)->(H lL=some (.lst ls))->(dX H ls fs)->(eg g [] fs)->(fs.length<=80000)->((∀p∈fs,p.1.1.nodes<=80/\p.1.2.nodes<=80))->(((∃(m:Nat)(z:Lf),tag="clash"/\x= .int (m:Nat)/\fs[m]?=some z/\uj z.1.1 z.1.2)\/∃(ln:Addr)(ns:List Nat)(R:List Ln),tag="ring"/\x= .ref ln/\H ln=some (.lst (bE ns))/\ic fs ns R/\tI R/\ns.length<=1000))->(∀H',Q (.bl true) H')->Ft vs H Q
def yp:Sp:=fun vs H Q _=>Ft vs H Q
theorem MC{fs:List Lf}{ns:List Nat}{R:List Ln}(h:ic fs ns R):gy (fs.map (·.1)) ns=R/\∀n∈ns,n<fs.length:=by
 induction h with
 |nil=>exact⟨rfl,fun n hn=>by cases hn⟩
 |cons a _ ih=>
  obtain⟨x,e1,e2⟩:=a
  have hl:=(bI.mp e1).1
  refine⟨?_,fun n hn=>?_⟩
  ·have h1:=ih.1
   unfold gy at h1 |-
   rw[bP,h1,vt,cV,e1,<-e2]
   rfl
  ·rcases bF.mp hn with z|z
   ·rw[z];exact hl
   ·exact ih.2 n z
theorem MD{f0:Addr}{fd:bd}(F:bw K "_law_refusal" "_law_refusal" oN f0 fd)(T:Bi mg)(c__law_reckoned:aG P w K mg base 3 "_law_reckoned" ["_law_lines","_law_one","_law_other"] uy)(c__law_whole:aG P w K mg base 1 "_law_whole" ["_law_found"] oV)(c__law_ring:aG P w K mg base 2 "_law_ring" ["_law_lines","_law_numbers"] xZ)
 (c__law_clash:aG P w K mg base 1 "_law_clash" ["_law_one","_law_other"] uk):be P w K mg base bh 4 f0 fd ["_law_found","_law_one","_law_other"] yp:=by
 refine F.ok qB (fun vs H Q E h=>?_) (fun cdv A outer s H vs Q E hr h=>?_)
 ·obtain⟨_,_,_,_,_,_,_,_,_,rfl,_⟩:=h
  rfl
 obtain⟨a,lL,v1,v2,x,tag,g,ls,fs,rfl,ha,h1,h2,hlL,hls,hsnd,hlen,hsz,hcase,q⟩:=h
 refine⟨_,(aj (aK (aF eN (bc cm T.b_len cj (ad (pv 0) af)) ax (aC _)) (al (ay bU)) aU)
  (aj (az (i:=3) qB.nd (aY c__law_reckoned (hr.mono (by decide)) (ad (ao (pv 0)) (ad (pv 1) (ad (pv 2) af)))))
  (aj (aK (aF lO (pv 3) d9 (aC _)) (al (ay bU)) aU)
  (aj (az (i:=4) qB.nd (ca (ad (ao (pv 0)) af)))
  (aj (aK (aF bM (ao (pv 0)) aO (aC _)) (al (az (i:=4) qB.nd (ao (pv 0)))) aU)
  (aj (aK (cK (cf (bc cW T.b_isinstance cT (ad (pv 4) (ad (cO T.b_list gm) af))))) (al (ay bU)) aU)
  (aj (dM cr rfl (fi (pv 4)) (cn (i:=5) qB.nd rfl (Or.inl rfl)) (al (aK (cv (cK (cf (aY c__law_whole (hr.mono (by decide)) (ad (pv 5) af)))) (cv (aF lN (pv 5) ax (aC _)) (dF (aF pP (pv 5) (bc cm T.b_len cj (ad (pv 3) af)) (aC _))))).pt (al (ay bU)) aU)))
  (aj (aK (aF bM (ao (pv 0)) aO (aC _)) (al (ay (aY c__law_ring (hr.mono (by decide)) (ad (pv 3) (ad (pv 4) af))))) aU)
  (al (ay (sh (iQ bM (ao (pv 0)) aO (aC _)) (nq (aY c__law_clash (hr.mono (by decide)) (ad (ao (bG bV (pv 3) (ao (pv 0)) (fun _ _=>rfl))) (ad (ao (bG bV (pv 3) (ao (pv 0)) (fun _ _=>rfl))) af))))))))))))))),?_⟩
 refine⟨_,rfl,a,_,rfl,.inr (ag.of ha),rfl,_,rfl,fQ ?_⟩
 refine⟨_,rfl,_,_,_,_,rfl,rfl,ag.of ha,cx,_,rfl,_,rfl,lL,ls,fs,v1,v2,g,rfl,hlL,hls,h1,h2,hlen,hsz,hsnd,fun k ks H1 s1 hk hks=>?_⟩
 refine⟨_,rfl,rfl,_,rfl,fQ ?_⟩
 have ha1:=s1 _ _ ha
 have hkl:ks.length=fs.length:=by have:=Paired.length hks;rwa [zLM]at this
 refine⟨_,rfl,_,_,_,_,rfl,rfl,ag.of ha1,kh,gQ,fun l0 fl0=>?_⟩
 generalize e_:ae H1 l0 (HO.lst [x])=H2
 obtain⟨s2,x2⟩:=aM fl0 e_
 have ha2:=s2 _ _ ha1
 have hk2:=s2 _ _ hk
 have hks2:=hks.mono (.of s2)
 rcases hcase with⟨m,z,rfl,rfl,hz,hcl⟩|⟨ln,ns,R,rfl,rfl,hln,hnums,hR,hnl⟩
 ·have hm:=(bI.mp hz).1
  have hzn:=hsz _ (zMG hz)
  obtain⟨b,u,v,r,hat,hb,hu,hv⟩:=oX hks2 (n:=m) (p:=z.1) (by rw[cV,hz];rfl)
  refine⟨_,rfl,_,_,_,_,rfl,rfl,ag.of ha2,bD,rfl,_,rfl,bj ?_⟩
  refine⟨_,rfl,_,_,_,_,rfl,.lst x2,.ll,_,rfl,bf ?_⟩
  refine⟨_,rfl,l0,rfl,⟨_,ak.of x2⟩,iw (K:=K) (a:=l0) (xs:=[.int (m:Nat)]) (fun i σ H9=>∃(o:Option V),σ=[some (.ref a),some v1,some v2,some (.ref k),some (.ref l0),o]/\H2=H9) ⟨none,rfl,rfl⟩ (fun i σ H9 _ hI=>by obtain⟨_,_,e⟩:=hI;exact by rw[<-e];exact ak.of x2) ?_ ?_⟩
  ·rintro i y σ H9 hi ⟨o,rfl,e9⟩
   subst e9
   obtain rfl:y= .int (m:Nat):=by simpa using zMG hi
   refine⟨_,rfl,(m:Int),rfl,_,rfl,bf ⟨_,rfl,_,_,rfl,rfl,_,rfl,ck (decide_eq_false (by omega)) ⟨_,rfl,_,rfl,k,_,rfl,.inl (ak.of hk2),_,_,rfl,rfl,_,rfl,ck (decide_eq_false (by omega)) ?_⟩⟩⟩
   exact⟨_,rfl,rfl⟩
  ·rintro σ H9 ⟨o,rfl,e9⟩
   subst e9
   refine⟨_,rfl,_,_,_,_,rfl,rfl,ag.of ha2,bD,rfl,_,rfl,bj ?_⟩
   refine⟨_,rfl,_,_,_,_,rfl,rfl,ag.of ha2,bD,rfl,_,rfl,cZ ?_⟩
   refine⟨_,rfl,_,rfl,_,_,_,_,rfl,rfl,ag.of ha2,kh,k,ks,_,.ref b,rfl,rfl,ak.of hk2,hat,_,_,_,_,rfl,rfl,ag.of hb,bD,_,rfl,_,rfl,_,_,_,_,rfl,rfl,ag.of ha2,kh,k,ks,_,.ref b,rfl,rfl,ak.of hk2,hat,_,_,_,_,rfl,rfl,ag.of hb,cx,_,_,z.1.1,z.1.2,rfl,hu,hv,by omega,fun bb hbb=>?_⟩
   rw[hbb.mpr hcl]
   exact q _
 ·obtain⟨eR,hin⟩:=MC hnums
  have hln2:=s2 _ _ (s1 _ _ hln)
  refine⟨_,rfl,_,_,_,_,rfl,rfl,ag.of ha2,bD,rfl,_,rfl,cZ ?_⟩
  refine⟨_,rfl,_,_,_,_,rfl,rfl,ag.of ha2,kh,?_⟩
  refine⟨_,rfl,_,_,_,_,rfl,.lst hln2,.ll,_,rfl,bf ?_⟩
  refine⟨_,rfl,ln,rfl,⟨_,ak.of hln2⟩,iw (K:=K) (a:=ln) (xs:=bE ns) (fun i σ H9=>∃(o:Option V),σ=[some (.ref a),some v1,some v2,some (.ref k),some (.ref ln),o]/\H2=H9) ⟨none,rfl,rfl⟩ (fun i σ H9 _ hI=>by obtain⟨_,_,e⟩:=hI;exact by rw[<-e];exact ak.of hln2) ?_ ?_⟩
  ·rintro i y σ H9 hi ⟨o,rfl,e9⟩
   subst e9
   obtain⟨n,hn,rfl⟩:=bL.mp (zMG hi)
   have hn':=hin n hn
   refine⟨_,rfl,(n:Int),rfl,_,rfl,bf ⟨_,rfl,_,_,rfl,rfl,_,rfl,ck (decide_eq_false (by omega)) ⟨_,rfl,_,rfl,k,_,rfl,.inl (ak.of hk2),_,_,rfl,rfl,_,rfl,ck (decide_eq_false (by omega)) ?_⟩⟩⟩
   exact⟨_,rfl,rfl⟩
  ·rintro σ H9 ⟨o,rfl,e9⟩
   subst e9
   refine⟨_,rfl,_,_,_,_,rfl,rfl,ag.of ha2,bD,rfl,_,rfl,cZ ?_⟩
   exact⟨_,rfl,_,rfl,k,ks,fs.map (·.1),ln,ns,rfl,hk2,hks2,hln2,fun n hn=>by rw[zLM];exact hin n hn,fun p hp=>by obtain⟨y,hy,rfl⟩:=bL.mp hp;have:=(hsz y hy).2;omega,hnl,by rw[eR];exact hR,fun H3 _=>q H3⟩
inductive Fu(vs:List V)(H:Hp)(Q:VK):Prop
 |mk:∀(a lf lL ln:Addr)(v1 v2:V)(g:Ln)(ps ls:List V)(ns:List Nat)(f:Fl)(fs:List Lf),(vs=[.ref a,v1,v2])->(H a=some (.tup [.str "alike",.ref lf,.ref lL,.ref ln]))->(aw H v1 g.1)->(aw H v2 g.2)->(H lf=some (.lst ps))->(dW H ps f)->(H lL=some (.lst ls))->(dX H ls fs)->(H ln=some (.lst (bE ns)))->(fz g f fs ns)->(eg g [] fs)->(fs.length<=80000)->((∀p∈fs,p.1.1.nodes<=80/\p.1.2.nodes<=80))->(g.1.nodes+g.2.nodes<=60)->(oW f)->((g.1.fill f).dp<=90)->(f.length<=1000)->(∀H',aq H H'->Q (.bl true) H')->Fu vs H Q
def yq:Sp:=fun vs H Q _=>Fu vs H Q
theorem ME{f0:Addr}{fd:bd}(F:bw K "_law_asked_for" "_law_asked_for" oQ f0 fd)(T:Bi mg)(c__law_good:aG P w K mg base 5 "_law_good" ["_law_filling","_law_one","_law_other"] yo)(c__law_reckoned:aG P w K mg base 3 "_law_reckoned" ["_law_lines","_law_one","_law_other"] uy)(c__law_whole:aG P w K mg base 1 "_law_whole" ["_law_found"] oV)
 (c__law_fill:aG P w K mg base 2 "_law_fill" ["_law_term","_law_pairs"] qL):be P w K mg base bh 6 f0 fd ["_law_found","_law_one","_law_other"] yq:=by
 refine F.ok lq (fun vs H Q E h=>?_) (fun cdv A outer s H vs Q E hr h=>?_)
 ·obtain⟨_,_,_,_,_,_,_,_,_,_,_,_,rfl,_⟩:=h
  rfl
 obtain⟨a,lf,lL,ln,v1,v2,g,ps,ls,ns,f,fs,rfl,ha,h1,h2,hlf,hfill,hlL,hls,hln,hA,hsnd,hlen,hsz,hn,hfok,hdp,hfl,q⟩:=h
 have hun:=hr.un
 have hpl:=hfill.len
 have hnn:=EQ ns
 obtain⟨hnf,hnums⟩:=hA.nums
 refine⟨_,(aj (az (i:=3) lq.nd (ao (pv 0)))
  (aj (az (i:=4) lq.nd (ao (pv 0)))
  (aj (aK (cK (cf (aY c__law_good (hr.mono (by decide)) (ad (pv 3) (ad (pv 1) (ad (pv 2) af)))))) (al (ay bU)) aU)
  (aj (az (i:=5) lq.nd (aY c__law_reckoned (hr.mono (by decide)) (ad (ao (pv 0)) (ad (pv 1) (ad (pv 2) af)))))
  (aj (aK (cv (aF lO (pv 5) d9 (aC _)) (cv (cK (cf (bc cW T.b_isinstance cT (ad (pv 4) (ad (cO T.b_list gm) af))))) (dF (aF eN (bc cm T.b_len cj (ad (pv 4) af)) (bc cm T.b_len cj (ad (pv 3) af)) (aC _))))).pt (al (ay bU)) aU)
  (aj (dM cr rfl (kN rfl T.b_range (ad (bc cm T.b_len cj (ad (pv 4) af)) af)) (cn (i:=6) lq.nd rfl (Or.inl rfl)) (aj (az (i:=7) lq.nd (bG bV (pv 4) (pv 6) (fun _ _=>rfl)))
        (aj (az (i:=8) lq.nd (bG bV (pv 3) (pv 6) (fun _ _=>rfl)))
        (aj (aK (cv (cK (cf (aY c__law_whole (hr.mono (by decide)) (ad (pv 7) af)))) (cv (aF lN (pv 7) ax (aC _)) (dF (aF pP (pv 7) (bc cm T.b_len cj (ad (pv 5) af)) (aC _))))).pt (al (ay bU)) aU)
        (aj (az (i:=9) lq.nd (bG bV (pv 5) (pv 7) (fun _ _=>rfl)))
        (al (aK (cv (aF wF (ao (pv 9)) (bN (ad aO (ad (ao (pv 8)) af))) (aC _)) (dF (aF Dr (aY c__law_fill (hr.mono (by decide)) (ad (ao (pv 9)) (ad (pv 3) af))) (ao (pv 8)) (aC _)))).pt (al (ay bU)) aU)))))))
  (al (ay bU)))))))),?_⟩
 refine⟨_,rfl,_,_,_,_,rfl,rfl,ag.of ha,cx,_,rfl,_,_,_,_,rfl,rfl,ag.of ha,dH (j:=3) rfl,?_⟩
 refine⟨_,rfl,_,rfl,_,rfl,lf,ps,f,v1,v2,g.1,g.2,rfl,hlf,hfill,hfok,h1,h2,by omega,by omega,hA.keys,hA.clean,hA.same,hdp,hfl,fun H1 s1=>⟨_,rfl,bf ?_⟩⟩
 refine⟨_,rfl,_,_,_,_,rfl,rfl,ag.of (s1 _ _ ha),kh,_,rfl,_,rfl,lL,ls,fs,v1,v2,g,rfl,s1 _ _ hlL,dX.mono (.of s1) hls,h1.mono (.of s1),h2.mono (.of s1),hlen,hsz,hsnd,fun k ks H2 s2 hk hks=>?_⟩
 have s12:=s1.trans s2
 have hln2:=s12 _ _ hln
 have hlf2:=s12 _ _ hlf
 have hkl:ks.length=fs.length:=by have:=Paired.length hks;rwa [zLM]at this
 refine⟨_,rfl,rfl,_,rfl,fQ ?_⟩
 refine⟨_,rfl,_,_,_,_,rfl,.lst hln2,.ll,_,rfl,bf ?_⟩
 refine⟨_,rfl,ln,_,rfl,.inl (ak.of hln2),_,rfl,lf,_,rfl,.inl (ak.of hlf2),rfl,_,rfl,ck (by rw[hnn,hpl,hnf];simp) ?_⟩
 refine⟨_,rfl,ln,_,rfl,.inl (ak.of hln2),_,rfl,by omega,by omega,jO (lo:=0) (n:=(((bE ns).length:Nat):Int).toNat) (fun i σ H3=>∃(o6 o7 o8 o9:Option V),σ=[some (.ref a),some v1,some v2,some (.ref lf),some (.ref ln),some (.ref k),o6,o7,o8,o9]/\aq H2 H3) ⟨none,none,none,none,rfl,aq.refl _⟩ ?_ ?_⟩
 ·rintro i σ H3 hi ⟨o6,o7,o8,o9,rfl,s3⟩
  rw[gH,hnn]at hi
  have e0:(0:Int)+(i:Int)=((i:Nat):Int):=by omega
  rw[e0]
  have hif:i<f.length:=by omega
  obtain⟨z,hz,ez1,ez2⟩:=hnums i hif hi
  have hzl:=(bI.mp hz).1
  have s03:=s12.trans s3
  obtain⟨b,v,eb,hb,hv⟩:=(hfill.mono (.of s03)).get i (by omega) hif
  obtain⟨c,u,u',r,hat,hc,hu,hu'⟩:=oX (hks.mono (.of s3)) (n:=ns[i]) (p:=z.1) (by rw[cV,hz];rfl)
  have hzn:=hsz _ (zMG hz)
  have hval:=(hA.vals (zGM hif)).2
  refine⟨_,rfl,_,rfl,ln,_,_,_,rfl,rfl,ak.of (s3 _ _ hln2),xY hi,?_⟩
  refine⟨_,rfl,_,rfl,lf,ps,_,.ref b,rfl,rfl,ak.of (s3 _ _ hlf2),(by rw[dH (zGE (by omega:i<ps.length)),eb]),?_⟩
  refine⟨_,rfl,(ns[i]:Int),rfl,_,rfl,bf ⟨_,rfl,_,_,rfl,rfl,_,rfl,ck (decide_eq_false (by omega)) ⟨_,rfl,_,rfl,k,_,rfl,.inl (ak.of (s3 _ _ hk)),_,_,rfl,rfl,_,rfl,ck (decide_eq_false (by omega)) ?_⟩⟩⟩
  refine⟨_,rfl,_,rfl,k,ks,_,.ref c,rfl,rfl,ak.of (s3 _ _ hk),hat,?_⟩
  refine⟨_,rfl,_,_,_,_,rfl,rfl,ag.of hc,bD,_,rfl,_,_,_,_,rfl,rfl,ag.of hb,bD,cq,fun d fd'=>?_⟩
  generalize e_:ae H3 d (HO.tup [.str "blank",.str f[i].1])=H4
  obtain⟨s4,x4⟩:=aM fd' e_
  have s04:=s03.trans s4
  rw[ez1]at hu
  refine⟨_,_,hu.mono (.of s4),dU.mpr ⟨d,rfl,x4⟩,(by show (A.deeper _).units+2 * 1<cLine;omega),fun bb hbb=>⟨_,rfl,ck (fH.mpr fun y=>hbb.mp y rfl) ?_⟩⟩
  refine⟨_,rfl,_,_,_,_,rfl,rfl,ag.of (s4 _ _ hc),cx,_,rfl,u',z.1.2,lf,ps,f,rfl,hu'.mono (.of s4),by omega,s04 _ _ hlf,hfill.mono (.of s04),hA.nodup,fun w' H5 s5 hw'=>?_⟩
  rw[ez2]at hw'
  have hd:=tG f[i].2
  refine⟨_,rfl,_,_,_,_,rfl,rfl,ag.of (s5 _ _ (s4 _ _ hb)),cx,_,_,hw',hv.mono (.of (s4.trans s5)),(by show (A.deeper _).units+_<cLine;omega),fun bb hbb=>⟨_,rfl,ck (fH.mpr fun y=>hbb.mp y rfl) ?_⟩⟩
  exact⟨_,_,_,_,rfl,s3.trans (s4.trans s5)⟩
 ·rintro σ H3 ⟨o6,o7,o8,o9,rfl,s3⟩
  exact q H3 (s12.trans s3)
end
section
variable{P:aP}{w:aH}{K:aB}{mg:ac->Option aa}{base:aA}
inductive Fv(vs:List V)(H:Hp)(Q:VK):Prop
 |mk:∀(v:V)(t:Tm)(l:Addr)(ps:List V)(f:Fl),(vs=[v,.ref l])->(aw H v t)->(t.nodes<=200)->(H l=some (.lst ps))->(dW H ps f)->((f.map (·.1)).Nodup)->(f.length<=1000)->(∀v' H',aq H H'->aw H' v' (t.fill f)->Q v' H')->Fv vs H Q
def yr:Sp:=fun vs H Q _=>Fv vs H Q
theorem MF{f0:Addr}{fd:bd}(F:bw K "filled" "filled" nP f0 fd)(T:Bi mg)(TD:mg "dict"=none)(c_replaced:aG P w K mg base 2 "replaced" ["term","terms"] uv):be P w K mg base bh 3 f0 fd ["term","filling"] yr:=by
 refine F.ok Kx (fun vs H Q E h=>?_) (fun cdv A outer s H vs Q E hr h=>?_)
 ·obtain⟨_,_,_,_,_,rfl,_⟩:=h
  rfl
 obtain⟨v,t,l,ps,f,rfl,ht,hn,hl,hf,hnd,hsz,q⟩:=h
 obtain⟨kvs,g1,g2⟩:=JJ hf hnd
 have hlen:=hf.len
 refine⟨_,(al (ay (aY c_replaced (hr.mono (by decide)) (ad (pv 0) (ad (gM (Jv rfl) TD Jw (ad (pv 1) af)) af))))),?_⟩
 refine⟨_,rfl,_,rfl,l,ps,kvs,rfl,hl,g1,big (by omega),fun d hd=>?_⟩
 refine⟨v,t,d,_,f,rfl,ht.mono (.new hd),hn,au,g2.mono (.new hd),fun v' H' s' ht'=>?_⟩
 exact q v' H' ((bz hd _).trans s') ht'
end
section
variable{P:aP}{w:aH}{K:aB}{mg:ac->Option aa}{base:aA}
inductive Fw(vs:List V)(H:Hp)(Q:VK):Prop
 |mk:∀k:Nat,(vs=[.int (k:Nat)])->(∀x:ac,x.cps.toList=eG k->Q (.str x) H)->Fw vs H Q
def uD:Sp:=fun vs H Q _=>Fw vs H Q
theorem uE(m:Nat)(h1:m<26):dn (bT "abcdefghijklmnopqrstuvwxyz").cps.toList ((m:Nat):Int)=some (97+m):=dH (Cq m h1)
theorem MG{f:Addr}{fd:bd}(F:bw K "_law_called" "_law_called" ow f fd)(T:Bi mg):be P w K mg base bh 1 f fd ["_law_k"] uD:=by
 refine F.ok ub (fun vs H Q E h=>?_) (fun cdv A outer s H vs Q E hr h=>?_)
 ·obtain⟨_,rfl,_⟩:=h
  rfl
 obtain⟨k,rfl,q⟩:=h
 have e1:dn (bT "abcdefghijklmnopqrstuvwxyz").cps.toList ((k:Int) % 3)=some (97+k % 3):=uE (k % 3) (by omega)
 have e2:dn (bT "abcdefghijklmnopqrstuvwxyz").cps.toList ((k:Int) / 3 % 3)=some (97+k / 3 % 3):=uE (k / 3 % 3) (by omega)
 have e3:dn (bT "abcdefghijklmnopqrstuvwxyz").cps.toList ((k:Int) / 9 % 3)=some (97+k / 9 % 3):=uE (k / 9 % 3) (by omega)
 have e4:dn (bT "abcdefghijklmnopqrstuvwxyz").cps.toList ((k:Int) / 27 % 26)=some (97+k / 27 % 26):=uE (k / 27 % 26) (by omega)
 apply aE;intro T1
 apply aE;intro T2
 apply aE;intro T3
 refine⟨_,(aj (az (i:=1) ub.nd aO) (aD T3 (aj (az (i:=2) ub.nd (aZ lP (aZ lP (bG lW (pv 1) (aZ dG (pv 0) ax) (fun _ _=>rfl)) (bG lW (pv 1) (aZ dG (aZ fI (pv 0) ax) ax) (fun _ _=>rfl))) (bG lW (pv 1) (aZ dG (aZ fI (pv 0) ax) ax) (fun _ _=>rfl)))) (aD T2 (aj (aK (aF su (pv 0) ax (aC _)) (aD T1 (al (az (i:=2) ub.nd (aZ lP (pv 2) (bG lW (pv 1) (aZ dG (aZ fI (pv 0) ax) ax) (fun _ _=>rfl)))))) aU) (al (ay (pv 2)))))))),?_⟩
 refine⟨_,rfl,_,rfl,_,_,rfl,rfl,(show (0:Int)<_ by decide),_,_,_,rfl,rfl,(by decide +kernel),e1,?_⟩
 refine⟨_,rfl,_,rfl,_,_,rfl,rfl,⟨by decide,by decide⟩,_,_,rfl,rfl,(show (0:Int)<_ by decide),_,_,_,rfl,rfl,(by decide +kernel),e2,_,_,rfl,rfl,?_,?_⟩
 ·rw[gK,gK]
  exact eP (by simp)
 refine⟨_,rfl,_,rfl,_,_,rfl,rfl,⟨by decide,by decide⟩,_,_,rfl,rfl,(show (0:Int)<_ by decide),_,_,_,rfl,rfl,(by decide +kernel),e3,_,_,rfl,rfl,?_,?_⟩
 ·rw[gK,gK,gn]
  exact eP (by simp)
 refine⟨_,rfl,_,_,rfl,rfl,_,rfl,bO (fun c=>?_) (fun c=>⟨_,rfl,q _ ?_⟩)⟩
 ·have c':(k:Int)>26:=of_decide_eq_true c
  refine⟨_,rfl,_,rfl,_,rfl,_,_,rfl,rfl,⟨by decide,by decide⟩,_,_,rfl,rfl,(show (0:Int)<_ by decide),_,_,_,rfl,rfl,(by decide +kernel),e4,_,_,rfl,rfl,?_,⟨_,rfl,q _ ?_⟩⟩
  ·rw[gK,gK,gn,gn]
   exact eP (by simp)
  ·rw[gn,gn,gn]
   unfold eG
   rw[if_pos (by omega)]
   rfl
 ·have c':¬(k:Int)>26:=of_decide_eq_false (fH.mpr c)
  rw[gn,gn]
  unfold eG
  rw[if_neg (by omega)]
  rfl
inductive Fx(K:aB)(vs:List V)(H:Hp)(Q:VK):Prop
 |mk:∀(a:Addr)(ns:List Int)(m:Nat),(vs=[.ref a,.int (m:Nat)])->(ak K H a (ns.map V.int))->(ns.length<=63)->(0<m)->(∀(r lf lp:Addr)(x0 x1 x2:V)(d:cG)(seen:List Tm)(pv:List V)(f:Fl)(H':Hp),aq H H'->H' r=some (.tup [.ref lf,.ref lp])->H' lf=some (.lst [x0,x1,x2])->aw H' x0 d.1->aw H' x1 d.2.1->aw H' x2 d.2.2->eI m seen d->d.2.2.nodes<=ns.length+2->H' lp=some (.lst pv)->dW H' pv f->f.map (·.2)=seen->(∀i p,f[i]?=some p->p.1.cps.toList=eG i)->seen.length<=ns.length->(∀t∈seen,t.Ok/\t.nodes<=ns.length)->Q (.ref r) H')->Fx K vs H Q
def yu(K:aB):Sp:=fun vs H Q _=>Fx K vs H Q
theorem MH{f0:Addr}{fd:bd}(F:bw K "_law_hidden" "_law_hidden" oA f0 fd)(T:Bi mg)(c__law_many_parts:aG P w K mg base 1 "_law_many_parts" ["_law_cell","_law_count"] xG)
 (c__law_leaf:aG P w K mg base 2 "_law_leaf" ["_law_cell"] uf) (c__law_head:aG P w K mg base 2 "_law_head" ["_law_cell"] xA) (c__law_called:aG P w K mg base 1 "_law_called" ["_law_k"] uD):
 be P w K mg base bh 3 f0 fd ["_law_cells","_law_many"] (yu K):=by
 refine F.ok fW (fun vs H Q E h=>?_) (fun cdv A outer s H vs Q E hr h=>?_)
 ·obtain⟨a,ns,m,rfl,_⟩:=h
  rfl
 obtain⟨a,ns,m,rfl,hS,hlen,hm,q⟩:=h
 have hun:=hr.un
 obtain⟨_,_,_,_,wrow,wend,_,_,_⟩:=Wd.lits
 apply aE;intro T1
 apply aE;intro T2
 apply aE;intro T3
 apply aE;intro T4
 apply aE;intro T5
 apply aE;intro T6
 apply aE;intro T7
 apply aE;intro T8
 apply aE;intro T9
 apply aE;intro T10
 apply aE;intro T11
 apply aE;intro T12
 apply aE;intro T13
 apply aE;intro T14
 apply aE;intro T15
 apply aE;intro T16
 apply aE;intro T17
 apply aE;intro T18
 apply aE;intro T19
 apply aE;intro T20
 apply aE;intro T21
 apply aE;intro T22
 refine⟨_,(aj (az (i:=2) fW.nd (ca af)) (aD T22 (aj (v6 (i:=3) fW.nd rfl (Or.inr rfl) (ca af)) (aD T21 (aj (dM cr rfl (fi (pv 0)) (cn (i:=4) fW.nd rfl (Or.inl rfl)) (aD T16 (aj (az (i:=7) fW.nd (aY c__law_many_parts (hr.mono (by decide)) (ad (pv 4) (ad (bc cm T.b_len cj (ad (pv 2) af)) af)))) (aD T15 (aj (az (i:=8) fW.nd (aY c__law_leaf (hr.mono (by decide)) (ad (aZ fI (pv 4) ax) af))) (aD T14 (aj (az (i:=9) fW.nd (ca (ad (pv 8) (ad (pv 8) (ad (pv 8) af))))) (aD T13 (aj (aK (jq (aF su (pv 7) ax (aC _)) (jp (aF GG (pv 7) (bc cm T.b_len cj (ad (pv 2) af)) (aC _)))).pt (aD T5 (aj (az (i:=12) fW.nd (aZ nu (bc cm T.b_len cj (ad (pv 2) af)) (pv 7))) (aD T4 (aj (az (i:=9) fW.nd (ca af)) (aD T3 (aj (dM cr rfl (kN rfl T.b_range (ad ax af)) (cn (i:=6) fW.nd rfl (Or.inr rfl)) (aD T2 (aj (CU (i:=13) (Nc:=["_law_one","_law_k"]) (k:=1) (js:=[6]) ⟨rfl,rfl,rfl,rfl,rfl,rfl⟩ fW.nd rfl (Or.inl rfl) (fi (fS gZ (pv 2) (fK (pv 12)) gj)) (fun _ _ _ _=>cn (i:=0) (show (["_law_one","_law_k"]:List ac).Nodup by decide +kernel) rfl (Or.inl rfl)) (fun _ _ _ _=>nE) (fun _ _ _ _=>(bG bV (pv 0) (pv 1) (fun _ _=>rfl)))) (aD T1 (al (cp (cE ce dk dl dg (pv 9) (ad (bN (ad aO (ad (aY c__law_head (hr.mono (by decide)) (ad (aZ fI (pv 4) ax) af)) (ad (gM nA T.b_tuple fM (ad (pv 13) af)) af)))) af)))))))) (al (az (i:=2) fW.nd (fS gZ (pv 2) gj (fK (pv 12))))))))))) aU) (aD T12 (aj (aK (aF qg (bG bV (pv 9) ax (fun _ _=>rfl)) (pv 3) (by with_unfolding_all rfl)) (aD T6 (al (cp (cE ce dk dl dg (pv 3) (ad (bG bV (pv 9) ax (fun _ _=>rfl)) af))))) aU) (aD T11 (aj (az (i:=10) fW.nd (bN (ad aO (ad (aY c__law_called (hr.mono (by decide)) (ad (aZ dG (cE ce zU zV CZ (pv 3) (ad (bG bV (pv 9) ax (fun _ _=>rfl)) af)) (pv 1)) af)) af)))) (aD T10 (aj (az (i:=11) fW.nd (aZ dG (aZ fI (pv 4) ax) ax)) (aD T9 (aj (aK (cv (aF bM (pv 11) ax (aC _)) (dF (aF bM (pv 11) ax (aC _)))).pt (al (v5 (pv 10) (AK (pv 9) ax Bu))) aU) (aD T8 (aj (aK (cv (aF bM (pv 11) ax (aC _)) (dF (aF bM (pv 11) ax (aC _)))).pt (al (v5 (pv 10) (AK (pv 9) ax Bu))) aU) (aD T7 (al (cp (cE ce dk dl dg (pv 2) (ad (pv 9) af)))))))))))))))))))))))) (aD T20 (aj (az (i:=5) fW.nd (ca af)) (aD T19 (aj (dM cr rfl (kN rfl T.b_range (ad ax af)) (cn (i:=6) fW.nd rfl (Or.inr rfl)) (aD T17 (al (cp (cE ce dk dl dg (pv 5) (ad (bN (ad aO (ad aO (ad (gM nA T.b_tuple fM (ad (aZ jS (kU (Nc:=["_law_one","_law_k"]) (k:=1) (js:=[6]) ⟨rfl,rfl,rfl,rfl,rfl,rfl⟩ (fi (pv 2)) (fun _ _ _ _=>cn (i:=0) (show (["_law_one","_law_k"]:List ac).Nodup by decide +kernel) rfl (Or.inl rfl)) (fun _ _ _ _=>nE) (fun _ _ _ _=>(bG bV (pv 0) (pv 1) (fun _ _=>rfl)))) (ca (ad (bN (ad aO (ad aO af))) af))) af)) af)))) af)))))) (aD T18 (al (ay (bN (ad (pv 5) (ad (kU (Nc:=["_law_k","_law_seen"]) (k:=1) (js:=[3]) ⟨rfl,rfl,rfl,rfl,rfl,rfl⟩ (kN rfl T.b_range (ad (bc cm T.b_len cj (ad (pv 3) af)) af)) (fun _ _ _ _=>cn (i:=0) (show (["_law_k","_law_seen"]:List ac).Nodup by decide +kernel) rfl (Or.inl rfl)) (fun _ _ _ _=>nE) (fun _ _ _ _=>(bN (ad (aY c__law_called (hr.mono (by decide)) (ad (pv 0) af)) (ad (bG bV (pv 1) (pv 0) (fun _ _=>rfl)) af))))) af))))))))))))))),?_⟩
 refine⟨dz,fun p0 hp0=>?_⟩
 generalize e_:ae H p0 (HO.lst [])=H1
 obtain⟨s1,x1⟩:=aM hp0 e_
 refine⟨dz,fun sn hsn1=>?_⟩
 have s2:=bz hsn1 (HO.lst [])
 have x2:ae H1 sn (HO.lst []) sn=some _:=au
 have n12:p0≠sn:=aN x1 hsn1
 have hsn:H sn=none:=s1.free hsn1
 generalize ae H1 sn (HO.lst [])=H2 at s2 x2 |-
 refine⟨_,rfl,a,rfl,⟨_,(s1.trans s2).seq hS⟩,let I1:Nat->L2.St->Hp->Prop:=(fun i σ H3=>∃(p:Addr)(us ss:List V)(ds:List cG)(seen:List Tm)(o4 o6 o7 o8 o9 o10 o11 o12 o13:Option V),
  σ=[some (.ref a),some (.int (m:Nat)),some (.ref p),some (.ref sn),o4,none,o6,o7,o8,o9,o10,o11,o12,o13]/\aq H H3/\H p=none/\p≠sn/\H3 p=some (.lst us)/\H3 sn=some (.lst ss)/\aT H3 ss seen/\gN H3 us ds/\fu p us/\fu sn us/\
   (∀d∈ds,eI m seen d)/\dO ds<=i/\seen.length<=i/\(∀t∈seen,t.Ok/\t.nodes<=i)/\i<=ns.length);iw (K:=K) (a:=a) (xs:=ns.map V.int) I1
  ⟨p0,[],[],[],[],none,none,none,none,none,none,none,none,none,rfl,s1.trans s2,hp0,n12,s2 _ _ x1,x2,aT.nil,.nil,(fun _ z=>nomatch z),(fun _ z=>nomatch z),(fun _ z=>nomatch z),aJ _,aJ _,(fun _ z=>nomatch z),cP _⟩
  (fun i σ H3 _ hI=>by obtain⟨_,_,_,_,_,_,_,_,_,_,_,_,_,_,_,s3,_⟩:=hI;exact s3.seq hS) ?_ ?_⟩
 ·rintro i y σ H3 hi ⟨p,us,ss,ds,seen,o4,o6,o7,o8,o9,o10,o11,o12,o13,rfl,s3,fp,npn,gp,gs,hss,hpl,ap,as,hds,htn,hsl,hso,hil⟩
  have hil':i<(ns.map V.int).length:=(bI.mp hi).1
  rw[zLM]at hil'
  obtain⟨c,rfl⟩:∃c,y=V.int c:=by
   rw[cV]at hi
   cases e:ns[i]? with
   |none=>rw[e]at hi;cases hi
   |some z=>rw[e]at hi;exact⟨z,(cQ hi).symm⟩
  have hpl_len:us.length=ds.length:=Paired.length hpl
  have htl:=w8 ds
  refine⟨_,rfl,_,rfl,p,us,rfl,.inl (ak.of gp),c,us.length,rfl,fun k H4 s4 hk=>?_⟩
  have hk0:0<=k:=by omega
  refine⟨_,rfl,_,_,rfl,rfl,⟨by decide,by decide⟩,_,rfl,fun v0 t0 H5 s5 hv0 hok0 hn0 hlf=>?_⟩
  have s35:=s4.trans s5
  refine⟨_,rfl,_,rfl,_,rfl,gv,fun tr0 htr0=>?_⟩
  have s6:=bz htr0 (HO.lst [v0,v0,v0])
  have x6:ae H5 tr0 (HO.lst [v0,v0,v0]) tr0=some _:=au
  have ft0:H3 tr0=none:=s35.free htr0
  generalize ae H5 tr0 (HO.lst [v0,v0,v0])=H6 at s6 x6 |-
  have s36:=s35.trans s6
  have hv6:aw H6 v0 t0:=hv0.mono (.of s6)
  show dE.nx _ _ _
  with_reducible show gh _ _ _ _ _
  refine let I2:L2.St->Hp->Prop:=(fun σ H7=>∃(p:Addr)(us:List V)(ds:List cG)(tr:Addr)(x0 x1 x2:V)(d:cG)(o6 o12 o13:Option V),
   σ=[some (.ref a),some (.int (m:Nat)),some (.ref p),some (.ref sn),some (.int c),none,o6,some (.int k),some v0,some (.ref tr),o10,o11,o12,o13]/\gu H m p sn tr us ss ds seen x0 x1 x2 d H7/\H p=none/\p≠sn/\BF.fu p us/\BF.fu sn us/\
   H tr=none/\tr≠p/\tr≠sn/\BF.fu tr us/\(∀d∈ds,eI m seen d)/\dO ds+d.2.2.nodes<=i+1);hJ I2 ?_ (fun key=>?_)
  rotate_left
  ·have gp6:=s36 _ _ gp
   have gs6:=s36 _ _ gs
   have hss6:=hss.mono (.of s36)
   have hpl6:=hpl.same s36
   have plain:∀p_,p_=p->∃(p:Addr)(us:List V)(ds:List cG)(tr:Addr)(x0 x1 x2:V)(d:cG)(o6' o12' o13':Option V),
    [some (.ref a),some (.int (m:Nat)),some (.ref p_),some (.ref sn),some (.int c),none,o6,some (.int k),some v0,some (.ref tr0),o10,o11,o12,o13]=[some (.ref a),some (.int (m:Nat)),some (.ref p),some (.ref sn),some (.int c),none,o6',some (.int k),some v0,some (.ref tr),o10,o11,o12',o13']/\gu H m p sn tr us ss ds seen x0 x1 x2 d H6/\H p=none/\p≠sn/\BF.fu p us/\BF.fu sn us/\
    H tr=none/\tr≠p/\tr≠sn/\BF.fu tr us/\(∀d∈ds,eI m seen d)/\dO ds+d.2.2.nodes<=i+1:=fun _ e=>e▸
        ⟨p,us,ds,tr0,v0,v0,v0,(t0,t0,t0),o6,o12,o13,rfl,⟨s3.trans s36,gp6,gs6,hss6,hpl6,x6,hv6,hv6,hv6,eI.leaf hlf hok0⟩,fp,npn,ap,as,s3.free ft0,(aN gp ft0).symm,(aN gs ft0).symm,hpl.apart ft0,hds,by show dO ds+t0.nodes<=i+1;omega⟩
   refine⟨_,rfl,_,_,rfl,rfl,_,rfl,bO (fun c1=>⟨_,rfl,_,rfl,p,us,rfl,.inl (ak.of gp6),_,_,rfl,rfl,_,rfl,bO (fun c2=>?_) (fun c2=>key _ _ (plain _ rfl))⟩) (fun c1=>bf (key _ _ (plain _ rfl)))⟩
   have c1':k>0:=of_decide_eq_true c1
   have c2':k<=us.length:=of_decide_eq_true c2
   have j0:0<=(us.length:Int) - k:=by omega
   have j1:(us.length:Int) - k<=us.length:=by omega
   obtain⟨st,est,hst⟩:∃st:Nat,((us.length:Int) - k).toNat=st/\st<us.length:=⟨_,rfl,by omega⟩
   refine⟨_,rfl,p,us,rfl,.inl (ak.of gp6),_,rfl,_,_,rfl,rfl,?_⟩
   refine⟨dz,fun tr ftr=>?_⟩
   generalize e_:ae H6 tr (HO.lst [])=H7
   obtain⟨s7,x7⟩:=aM ftr e_
   refine⟨3,rfl,by decide,by decide,let I3:Nat->L2.St->Hp->Prop:=(fun j σ H8=>∃(vs:List V)(wh:ac)(o6 o13:Option V),σ=[some (.ref a),some (.int (m:Nat)),some (.ref p),some (.ref sn),some (.int c),none,o6,some (.int k),some v0,some (.ref tr),o10,o11,some (.int ((us.length:Int) - k)),o13]/\aq H6 H8/\H8 tr=some (.lst vs)/\Wd wh/\(j=0\/HW (c / 6) wh)/\aT H8 vs ((jF j).map fun n=>dy n (fU wh (ds.drop st))));jO (lo:=0) (n:=3) I3
        ⟨[],"row",o6,o13,rfl,s7,x7,wrow,.inl rfl,aT.nil⟩ ?_ ?_⟩
   ·rintro j σ H8 hj ⟨vs,wh,o6',o13',rfl,s8,g8,hwh,hwj,hvs⟩
    have e0:(0:Int)+(j:Int)=((j:Nat):Int):=by omega
    rw[e0]
    refine⟨_,rfl,_,rfl,_,rfl,p,us,rfl,ak.of (s8 _ _ gp6),fun l fl=>?_⟩
    rw[qF us _ j0 j1,est]
    generalize e_:ae H8 l (HO.lst (us.drop st))=H9
    obtain⟨s9,x9⟩:=aM fl e_
    refine⟨l,rfl,⟨_,ak.of x9⟩,fun D hD _ _ _ _=>let I4:Nat->L2.St->Hp->Prop:=(fun n σ HA=>∃(o:Option V)(qs:List V),σ=[o,some (.int (j:Nat))]/\aq H9 HA/\HA D=some (.lst qs)/\aT HA qs (((ds.drop st).take n).map (dy j))/\qs.length<=n);qf (K:=K) (a:=l) (xs:=us.drop st) I4
     ⟨none,[],rfl,bz hD _,au,aT.nil,aJ _⟩ (fun n σ HA _ hI=>by obtain⟨_,_,_,sA,_⟩:=hI;exact sA.seq (ak.of x9)) ?_ ?_⟩
    ·rintro n x σ HA hx ⟨o,qs,rfl,sA,gA,hqs,hql⟩
     have hnl:=(bI.mp hx).1
     rw[dD]at hnl
     obtain⟨d,hd,htri⟩:=ql (Dz st ((hpl6.same s8).same s9)) n x hx
     obtain⟨ta,xs,v,rfl,hta,hat,hv⟩:=DA (htri.same sA) j hj
     refine⟨_,rfl,_,rfl,ta,xs,_,v,rfl,rfl,ak.of hta,hat,qs,gA,big (by omega),_,qs++[v],rfl,fun b ob z=>by rw[am (aN z hD)];exact sA _ _ z,au,?_,by rw[zLA];simp only[zLC,zLN];omega⟩
     rw[vv,hd,Ar,zMA]
     exact aT.mono (.lst gA) (hqs.app (.cons hv .nil))
    rintro σc HA ⟨o,qs,rfl,sA,gA,hqs,hql⟩
    rw[dL (by rw[dD,dD];omega)]at hqs
    have s8A:=s9.trans sA
    refine⟨_,rfl,.inl ⟨rfl,_,ak.of (s8A _ _ g8)⟩,_,rfl,_,_,rfl,rfl,⟨by decide,by decide⟩,_,rfl,fun x HB sB hx hw=>?_⟩
    refine⟨_,rfl,D,_,rfl,.inl ⟨ak.of (sB _ _ gA),fun b fb=>?_⟩⟩
    generalize e_:ae HB b (HO.tup qs)=HC
    obtain⟨sC,xC⟩:=aM fb e_
    refine⟨gv,fun g fg=>?_⟩
    generalize e_:ae HC g (HO.tup [.str "thing",.str x,.ref b])=HD
    obtain⟨sD,xD⟩:=aM fg e_
    have sAD:=sB.trans (sC.trans sD)
    have s8D:=s8A.trans sAD
    have hvl:=hvs.len
    rw[zLM,zA]at hvl
    refine⟨tr,_,_,rfl,rfl,s8D _ _ g8,big (by omega),?_⟩
    have kE:aV HD (ae HD tr (HO.lst (vs++[.ref g]))):= .lst (s8D _ _ g8)
    have ew:((jF j).map fun n=>dy n (fU wh (ds.drop st)))=((jF j).map fun n=>dy n (fU x (ds.drop st))):=by
     rcases hwj with rfl|z
     ·rfl
     ·rw[z.det hw]
    refine⟨vs++[.ref g],x,_,_,rfl,fun b' ob z=>by rw[am (aN z ftr)];exact s8D _ _ (s8 _ _ z),au,hx,.inr hw,?_⟩
    rw[zB,zMA,<-ew]
    refine aT.mono kE ((hvs.mono (.of s8D)).app (.cons ?_ .nil))
    show aw HD (.ref g) (dy j (fU x (ds.drop st)))
    rw[Dy]
    exact dr.mpr ⟨g,b,qs,rfl,xD,sD _ _ xC,hqs.mono (.of sAD)⟩
   rintro σ H8 ⟨vs,wh,o6',o13',rfl,s8,g8,hwh,hwj,hvs⟩
   simp only[show jF 3=[0,1,2]from rfl,bP,jk,aT,dq,bX]at hvs
   obtain⟨y0,_,rfl,h0,y1,_,rfl,h1,y2,_,rfl,h2,rfl⟩:=hvs
   refine⟨_,rfl,_,rfl,_,rfl,p,us,rfl,ak.of (s8 _ _ gp6),fun p' fp'=>?_⟩
   rw[ug us _ j0 j1,est]
   generalize e_:ae H8 p' (HO.lst (us.take st))=H9
   obtain⟨s9,x9⟩:=aM fp' e_
   have s69:=s8.trans s9
   have hth:=eI.th (m:=m) (seen:=seen) (w:=wh) (a:=ds.drop st) hwh (by intro z;have:=congrArg kz z;rw[dD]at this;simp only[zLN]at this;omega) (fun d hd=>hds d (vw hd))
   have hsp:=J5 ds st
   have f6:H p'=none:=(s3.trans (s36.trans s8)).free fp'
   exact key _ _ ⟨p',us.take st,ds.take st,tr,y0,y1,y2,fU wh (ds.drop st),_,_,_,rfl,⟨s3.trans (s36.trans s69),x9,s69 _ _ gs6,hss6.mono (.of s69),xa st (hpl6.same s69),s9 _ _ g8,aw.mono (.of s9) h0,aw.mono (.of s9) h1,aw.mono (.of s9) h2,hth.1⟩,
        f6,(aN (s8 _ _ gs6) fp').symm,gN.apart fp' (xa st (hpl6.same s8)),as.sub fun x hx=>mZ hx,(s3.trans s36).free ftr,aN g8 fp',(aN gs6 ftr).symm,(hpl6.apart ftr).sub fun x hx=>mZ hx,fun d hd=>hds d (mZ hd),by rw[hth.2];omega⟩
  rintro σ H7 ⟨p,us,ds,tr,x0,x1,x2,d,o6,o12,o13,rfl,M,fp,npn,ap,as,ftr,ntp,nts,atr,hds,htn⟩
  have hd22:=M.hd.2.2.2.2.1
  with_reducible show gh _ _ _ _ _
  refine let I5:L2.St->Hp->Prop:=(fun σ H8=>∃(ss':List V)(seen':List Tm),σ=[some (.ref a),some (.int (m:Nat)),some (.ref p),some (.ref sn),some (.int c),none,o6,some (.int k),some v0,some (.ref tr),o10,o11,o12,o13]/\gu H m p sn tr us ss' ds seen' x0 x1 x2 d H8/\(∀d∈ds,eI m seen' d)/\
   d.2.2∈seen'/\seen'.length<=i+1/\(∀t∈seen',t.Ok/\t.nodes<=i+1));hJ I5 ?_ (fun key=>?_)
  rotate_left
  ·refine⟨_,rfl,tr,_,_,_,rfl,rfl,ak.of M.gtr,rfl,_,rfl,d.2.2.dt,sn,ss,dq seen,M.h2,rfl,M.gs,M.hss,?_,fun b hb=>⟨_,rfl,bO (fun c3=>?_) (fun c3=>?_)⟩⟩
   ·intro e he
    rw[fj]at he
    obtain⟨t,ht,rfl⟩:=bL.mp he
    have h1:=t.dep_le
    have h2:=(hso t ht).2
    show (A.deeper _).units+1+_<cLine
    omega
   ·refine⟨_,rfl,.inl ⟨rfl,_,ak.of M.gs⟩,_,rfl,tr,_,_,_,rfl,rfl,ak.of M.gtr,rfl,sn,ss,x2,rfl,rfl,M.gs,big (by have:=M.hss.len;omega),?_⟩
    have k8:aV H7 (ae H7 sn (HO.lst (ss++[x2]))):= .lst M.gs
    refine key _ _ ⟨ss++[x2],seen++[d.2.2],rfl,⟨fun b ob z=>by rw[am (aN z hsn)];exact M.sm _ _ z,by rw[am npn];exact M.gp,au,aT.mono k8 (M.hss.app (.cons M.h2 .nil)),M.hpl.lst M.gs as,by rw[am nts];exact M.gtr,M.h0.mono k8,M.h1.mono k8,M.h2.mono k8,M.hd.app⟩,
     fun d' hd'=>(hds d' hd').app,by simp,by rw[zLA];simp only[zLC,zLN];omega,fun t ht=>?_⟩
    rcases bR.mp ht with z|z
    ·have:=hso t z
     exact⟨this.1,by omega⟩
    ·cases bZ.mp z
     exact⟨hd22,by omega⟩
   ·have hin:d.2.2∈seen:=by
     have:d.2.2.dt∈dq seen:=jn fun z=>c3 (hb.mpr z)
     rw[fj]at this
     obtain⟨t,ht,e⟩:=bL.mp this
     rw[<-Tm.dt_inj _ _ e]
     exact ht
    exact key _ _ ⟨ss,seen,rfl,M,hds,hin,by omega,fun t ht=>⟨(hso t ht).1,by have:=(hso t ht).2;omega⟩⟩
  rintro σ H8 ⟨ss',seen',rfl,M',hds',hin,hsl',hso'⟩
  obtain⟨j,hj,ej,hjm⟩:=DB (x:=d.2.2.dt) (l:=dq seen') (by rw[fj];exact bL.mpr ⟨_,hin,rfl⟩)
  have hj':seen'[j]?=some d.2.2:=by
   have e1:(dq seen')[j]?=some d.2.2.dt:=by rw[zGE hj,ej]
   rw[fj,cV]at e1
   cases e2:seen'[j]? with
   |none=>rw[e2]at e1;cases e1
   |some t=>
    rw[e2]at e1
    rw[Tm.dt_inj _ _ (cQ e1)]
  refine⟨_,rfl,.inl ⟨rfl,_,ak.of M'.gs⟩,_,rfl,tr,_,_,_,rfl,rfl,ak.of M'.gtr,rfl,sn,x2,ss',dq seen',_,j,rfl,rfl,M'.gs,M'.hss,M'.h2,?_,⟨hj,ej,hjm⟩,_,rfl,_,_,rfl,rfl,(show (0:Int)<(m:Int)by omega),j % m,rfl,fun xw hxw=>?_⟩
  ·intro e he
   rw[fj]at he
   obtain⟨t,ht,rfl⟩:=bL.mp he
   have h1:=t.dep_le
   have h2:=(hso' t ht).2
   show (A.deeper _).units+2+_<cLine
   omega
  refine⟨cq,fun gb fb=>?_⟩
  generalize e_:ae H8 gb (HO.tup [.str "blank",.str xw])=H9
  obtain⟨s9,x9⟩:=aM fb e_
  have M9:=M'.same s9
  have hgb:aw H9 (.ref gb) (.blank xw):=dU.mpr ⟨gb,rfl,x9⟩
  have hhid:cw m seen' d.2.2 (.blank xw):= .inn ⟨xw,j,rfl,hxw,hj'⟩
  have hbo:(Tm.blank xw).Ok:=by simp only[Tm.Ok];exact Du hxw
  have hbn:(Tm.blank xw).nodes<=d.2.2.nodes:=d.2.2.nodes_pos
  refine⟨_,rfl,_,_,rfl,rfl,⟨by decide,by decide⟩,_,_,rfl,rfl,(show (0:Int)<_ by decide),?_⟩
  show dE.nx _ _ _
  with_reducible show gh _ _ _ _ _
  refine let I6:L2.St->Hp->Prop:=(fun σ HA=>∃(y0:V)(t0:Tm),σ=[some (.ref a),some (.int (m:Nat)),some (.ref p),some (.ref sn),some (.int c),none,o6,some (.int k),some v0,some (.ref tr),some (.ref gb),some (.int (c / 7 % 6)),o12,o13]/\gu H m p sn tr us ss' ds seen' y0 x1 x2 (t0,d.2) HA/\aw HA (.ref gb) (.blank xw));hJ I6 ?_ (fun key=>?_)
  rotate_left
  ·have put:=key _ _ ⟨.ref gb,.blank xw,rfl,M9.put0 ftr ntp nts atr hgb hhid hbo hbn,hgb.mono (.lst M9.gtr)⟩
   refine⟨_,rfl,rfl,_,rfl,bO (fun _=>g9 ?_) (fun _=>⟨_,rfl,rfl,_,rfl,bO (fun _=>?_) (fun _=>key _ _ ⟨x0,d.1,rfl,M9,hgb⟩)⟩)⟩
   ·exact⟨_,rfl,_,rfl,tr,_,_,0,rfl,rfl,M9.gtr,rfl,put⟩
   ·exact⟨_,rfl,_,rfl,tr,_,_,0,rfl,rfl,M9.gtr,rfl,put⟩
  rintro σ HA ⟨y0,t0',rfl,MA,hgbA⟩
  with_reducible show gh _ _ _ _ _
  refine let I7:L2.St->Hp->Prop:=(fun σ HB=>∃(y1:V)(t1:Tm),σ=[some (.ref a),some (.int (m:Nat)),some (.ref p),some (.ref sn),some (.int c),none,o6,some (.int k),some v0,some (.ref tr),some (.ref gb),some (.int (c / 7 % 6)),o12,o13]/\gu H m p sn tr us ss' ds seen' y0 y1 x2 (t0',t1,d.2.2) HB);hJ I7 ?_ (fun key=>?_)
  rotate_left
  ·have put:=key _ _ ⟨.ref gb,.blank xw,rfl,gu.put1 (d:=(t0',d.2)) ftr ntp nts atr hgbA hhid hbo hbn MA⟩
   refine⟨_,rfl,rfl,_,rfl,bO (fun _=>g9 ?_) (fun _=>⟨_,rfl,rfl,_,rfl,bO (fun _=>?_) (fun _=>key _ _ ⟨x1,d.2.1,rfl,MA⟩)⟩)⟩
   ·exact⟨_,rfl,_,rfl,tr,_,_,1,rfl,rfl,MA.gtr,rfl,put⟩
   ·exact⟨_,rfl,_,rfl,tr,_,_,1,rfl,rfl,MA.gtr,rfl,put⟩
  rintro σ HB ⟨y1,t1,rfl,MB⟩
  have hul:=Paired.length MB.hpl
  have htl:=w8 ds
  refine⟨_,rfl,.inl ⟨rfl,_,ak.of MB.gp⟩,_,rfl,p,_,_,rfl,rfl,MB.gp,big (by omega),?_⟩
  have kC:aV HB (ae HB p (HO.lst (us++[.ref tr]))):= .lst MB.gp
  refine⟨p,us++[.ref tr],ss',ds++[(t0',t1,d.2.2)],seen',_,_,_,_,_,_,_,_,_,rfl,fun b ob z=>by rw[am (aN z fp)];exact MB.sm _ _ z,fp,npn,au,by rw[am npn.symm];exact MB.gs,MB.hss.mono kC,
   j6 (gN.lst MB.gp ap MB.hpl) ⟨tr,_,_,_,rfl,by rw[am ntp];exact MB.gtr,MB.h0.mono kC,MB.h1.mono kC,MB.h2.mono kC⟩,ap.snoc ntp,as.snoc nts,fun d' hd'=>?_,?_,hsl',hso',by omega⟩
  ·rcases bR.mp hd' with z|z
   ·exact hds' d' z
   ·cases bZ.mp z
    exact MB.hd
  ·rw[w6]
   simp only[dO]
   omega
 rintro σ H3 ⟨p,us,ss,ds,seen,o4,o6,o7,o8,o9,o10,o11,o12,o13,rfl,s3,fp,npn,gp,gs,hss,hpl,ap,as,hds,htn,hsl,hso,hil⟩
 rw[zLM]at htn hsl hso
 have hul:=Paired.length hpl
 have htl:=w8 ds
 have hsslen:=hss.len
 refine⟨dz,fun lf flf=>?_⟩
 generalize e_:ae H3 lf (HO.lst [])=H4
 obtain⟨s4,x4⟩:=aM flf e_
 refine⟨3,rfl,by decide,by decide,let I8:Nat->L2.St->Hp->Prop:=(fun j σ H5=>∃(vs:List V)(o6:Option V),σ=[some (.ref a),some (.int (m:Nat)),some (.ref p),some (.ref sn),o4,some (.ref lf),o6,o7,o8,o9,o10,o11,o12,o13]/\aq H3 H5/\H5 lf=some (.lst vs)/\aT H5 vs ((jF j).map fun n=>dy n (fU "row" (ds++[(.name "end",.name "end",.name "end")]))));jO (lo:=0) (n:=3) I8
  ⟨[],o6,rfl,s4,x4,aT.nil⟩ ?_ ?_⟩
 ·rintro j σ H5 hj ⟨vs,o6',rfl,s5,g5,hvs⟩
  have e0:(0:Int)+(j:Int)=((j:Nat):Int):=by omega
  rw[e0]
  have hvl:=hvs.len
  rw[zLM,zA]at hvl
  refine⟨_,rfl,.inl ⟨rfl,_,ak.of g5⟩,_,rfl,p,rfl,⟨_,ak.of (s5 _ _ gp)⟩,fun D hD _ _ _ _=>let I9:Nat->L2.St->Hp->Prop:=(fun n σ HA=>∃(o:Option V)(qs:List V),σ=[o,some (.int (j:Nat))]/\aq H5 HA/\HA D=some (.lst qs)/\aT HA qs ((ds.take n).map (dy j))/\qs.length<=n);qf (K:=K) (a:=p) (xs:=us) I9
   ⟨none,[],rfl,bz hD _,au,aT.nil,aJ _⟩ (fun n σ HA _ hI=>by obtain⟨_,_,_,sA,_⟩:=hI;exact sA.seq (ak.of (s5 _ _ gp))) ?_ ?_⟩
  ·rintro n x σ HA hx ⟨o,qs,rfl,sA,gA,hqs,hql⟩
   have hnl:=(bI.mp hx).1
   obtain⟨d,hd,htri⟩:=ql (hpl.same s5) n x hx
   obtain⟨ta,xs,v,rfl,hta,hat,hv⟩:=DA (htri.same sA) j hj
   refine⟨_,rfl,_,rfl,ta,xs,_,v,rfl,rfl,ak.of hta,hat,qs,gA,big (by omega),_,qs++[v],rfl,fun b ob z=>by rw[am (aN z hD)];exact sA _ _ z,au,?_,by rw[zLA];simp only[zLC,zLN];omega⟩
   rw[vv,hd,Ar,zMA]
   exact aT.mono (.lst gA) (hqs.app (.cons hv .nil))
  rintro σc HA ⟨o,qs,rfl,sA,gA,hqs,hql⟩
  rw[dL (by omega)]at hqs
  refine⟨cq,fun ge fe=>?_⟩
  generalize e_:ae HA ge (HO.tup [.str "name",.str "end"])=HB
  obtain⟨sB,xB⟩:=aM fe e_
  refine⟨gQ,fun le fl=>?_⟩
  generalize e_:ae HB le (HO.lst [.ref ge])=HC
  obtain⟨sC,xC⟩:=aM fl e_
  have sAC:=sB.trans sC
  refine⟨D,le,_,_,rfl,rfl,sAC _ _ gA,xC,eP (by simp only[zLC,zLN];omega),fun l4 f4=>?_⟩
  generalize e_:ae HC l4 (HO.lst (qs++[.ref ge]))=HD
  obtain⟨sD,xD⟩:=aM f4 e_
  refine⟨l4,_,rfl,.inl ⟨ak.of xD,fun b fb=>?_⟩⟩
  generalize e_:ae HD b (HO.tup (qs++[.ref ge]))=HE
  obtain⟨sE,xE⟩:=aM fb e_
  refine⟨gv,fun g fg=>?_⟩
  generalize e_:ae HE g (HO.tup [.str "thing",.str "row",.ref b])=HF
  obtain⟨sF,xF⟩:=aM fg e_
  have sBF:=sC.trans (sD.trans (sE.trans sF))
  have sAF:=sB.trans sBF
  have s5F:=sA.trans sAF
  refine⟨lf,_,_,rfl,rfl,s5F _ _ g5,big (by omega),?_⟩
  have kG:aV HF (ae HF lf (HO.lst (vs++[.ref g]))):= .lst (s5F _ _ g5)
  refine⟨vs++[.ref g],_,rfl,fun b' ob z=>by rw[am (aN z flf)];exact s5F _ _ (s5 _ _ z),au,?_⟩
  rw[zB,zMA]
  refine aT.mono kG ((hvs.mono (.of s5F)).app (.cons ?_ .nil))
  show aw HF (.ref g) (dy j (fU "row" (ds++[(.name "end",.name "end",.name "end")])))
  rw[Dy]
  refine dr.mpr ⟨g,b,_,rfl,xF,sF _ _ xE,?_⟩
  rw[zMA]
  refine(hqs.mono (.of sAF)).app (.cons ?_ .nil)
  have e1:dy j (Tm.name "end",Tm.name "end",Tm.name "end")=Tm.name "end":=by
   match j with
   |0=>rfl
   |1=>rfl
   |_+2=>rfl
  rw[e1]
  exact eD.mpr ⟨ge,rfl,sBF _ _ xB⟩
 rintro σ H5 ⟨vs,o6',rfl,s5,g5,hvs⟩
 simp only[show jF 3=[0,1,2]from rfl,bP,jk,aT,dq,bX]at hvs
 obtain⟨y0,_,rfl,h0,y1,_,rfl,h1,y2,_,rfl,h2,rfl⟩:=hvs
 have gs5:=s5 _ _ gs
 refine⟨_,rfl,_,rfl,sn,_,rfl,.inl (ak.of gs5),_,rfl,by omega,by omega,fun lp flp _ _ _ _=>let I10:Nat->L2.St->Hp->Prop:=(fun n σ H6=>∃(o:Option V)(pv:List V)(f:Fl),σ=[o,some (.ref sn)]/\aq H5 H6/\H6 lp=some (.lst pv)/\dW H6 pv f/\f.map (·.2)=seen.take n/\(∀i p,f[i]?=some p->p.1.cps.toList=eG i)/\pv.length=n);Jn (lo:=0) (n:=(((ss.length:Nat):Int)).toNat) I10
  ⟨none,[],[],rfl,bz flp _,au,.nil,rfl,fun i p z=>by simp at z,rfl⟩ ?_ ?_⟩
 ·rintro n σ H6 hn ⟨o,pv,f,rfl,s6,g6,hf,hfs,hfw,hpv⟩
  rw[gH]at hn
  have e0:(0:Int)+(n:Int)=((n:Nat):Int):=by omega
  rw[e0]
  have hat:dn ss ((n:Nat):Int)=some ss[n]:=dH (zGE hn)
  refine⟨_,rfl,n,rfl,fun xw hxw=>⟨_,rfl,_,rfl,sn,ss,_,_,rfl,rfl,ak.of (s6 _ _ gs5),hat,cq,fun g fg=>?_⟩⟩
  generalize e_:ae H6 g (HO.tup [.str xw,ss[n]])=H7
  obtain⟨s7,x7⟩:=aM fg e_
  have g7:=s7 _ _ g6
  have hfl:=hf.len
  have k8:aV H7 (ae H7 lp (HO.lst (pv++[.ref g]))):= .lst g7
  refine⟨pv,g7,big (by omega),_,pv++[.ref g],f++[(xw,seen[n]'(by omega))],rfl,fun b ob z=>by rw[am (aN z flp)];exact s7 _ _ (s6 _ _ z),au,?_,?_,fun i q' hq=>?_,by simp[hpv]⟩
  ·exact dW.mono k8 (j6 (hf.mono (.of s7)) ⟨g,_,rfl,x7,(hss.at n hn (by omega)).mono (.of (s5.trans (s6.trans s7)))⟩)
  ·rw[zMA,hfs,vv,zGE (by omega)]
   rfl
  ·by_cases c:i<f.length
   ·rw[kF c]at hq
    exact hfw i q' hq
   ·have hi:i=f.length:=by
     have:=(bI.mp hq).1
     rw[zLA]at this
     simp only[zLC,zLN]at this
     omega
    subst hi
    rw[mT (aJ _),Nat.sub_self]at hq
    cases hq
    rw[<-hfl,hpv]
    exact hxw
 rintro σc H6 ⟨o,pv,f,rfl,s6,g6,hf,hfs,hfw,hpv⟩
 rw[gH,dL (by omega)]at hfs
 have hend:eI m seen ((.name "end",.name "end",.name "end"):cG):=eI.leaf (by trivial) (by simp only[Tm.Ok];exact wend)
 have hth:=eI.th (m:=m) (seen:=seen) (w:="row") (a:=ds++[(.name "end",.name "end",.name "end")]) wrow (by simp) (fun d hd=>by
  rcases bR.mp hd with z|z
  ·exact hds d z
  ·cases bZ.mp z
   exact hend)
 refine⟨cq,fun r fr=>?_⟩
 have s7:=bz fr (HO.tup [.ref lf,.ref lp])
 have s57:=s6.trans s7
 refine q r lf lp y0 y1 y2 _ seen pv f _ (s3.trans (s5.trans s57)) au (s57 _ _ g5) (aw.mono (.of s57) h0) (aw.mono (.of s57) h1) (aw.mono (.of s57) h2) hth.1 ?_ (s7 _ _ g6) (hf.mono (.of s7)) hfs hfw hsl hso
 rw[hth.2,w6]
 simp only[dO,Tm.nodes]
 omega
end
end K07
namespace BF
open PySem
def qS(t:Tm):Prop:=t.nodes=1/\t.Ok/\∀x∈t.bl,x.cps.toList.length<=39
def RO(t:Tm):Prop:=qS t\/∃u,qS u/\t= .thing "f" [.num 0,u]
theorem MI:Wd (bT "f"):=by
 have e:(bT "f").cps.toList=[102]:=by decide +kernel
 unfold Wd
 rw[e]
 exact⟨by decide,by decide,fun c hc=>by simp at hc;subst hc;decide⟩
theorem MJ:Wd (bT "row"):=by
 have e:(bT "row").cps.toList=[114,111,119]:=by decide +kernel
 unfold Wd
 rw[e]
 exact⟨by decide,by decide,fun c hc=>by simp at hc;omega⟩
theorem MK:Wd (bT "end"):=by
 have e:(bT "end").cps.toList=[101,110,100]:=by decide +kernel
 unfold Wd
 rw[e]
 exact⟨by decide,by decide,fun c hc=>by simp at hc;omega⟩
theorem Fy{t:Tm}(h:qS t):t.rp=[t]/\hv wq t=0/\ig t=0:=by
 cases t with
 |num n=>exact⟨rfl,rfl,rfl⟩
 |name n=>exact⟨rfl,rfl,rfl⟩
 |blank n=>exact⟨rfl,rfl,rfl⟩
 |thing w ps=>
  have h1:=h.1
  have h2:=h.2.1
  simp only[Tm.nodes]at h1
  simp only[Tm.Ok]at h2
  have:=iD ps
  cases ps with
  |nil=>exact absurd rfl h2.2.1
  |cons p r=>simp only[zLC]at this;omega
theorem ML{t:Tm}(h:RO t):t.Ok/\t.nodes<=3/\∀x∈t.bl,x.cps.toList.length<=39:=by
 rcases h with h|⟨u,h,rfl⟩
 ·exact⟨h.2.1,by rw[h.1];decide,h.2.2⟩
 ·refine⟨?_,by simp only[Tm.nodes,aX,h.1];decide,fun x hx=>h.2.2 x (by simpa[Tm.bl,fq]using hx)⟩
  simp only[Tm.Ok,eA]
  exact⟨MI,by simp,⟨by decide,by decide⟩,h.2.1,trivial⟩
theorem Fz{t:Tm}(h:RO t):(t.rp.map (hv wq)).sum<=1/\∀u∈t.rp,ig u<=2:=by
 rcases h with h|⟨u,h,rfl⟩
 ·obtain⟨e,h1,h2⟩:=Fy h
  rw[e]
  simp[h1,h2]
 ·obtain⟨e,h1,h2⟩:=Fy h
  have hl:ig (Tm.thing (bT "f") [.num 0,u])<=2:=by
   show pC _ _<=2
   exact zC
  have hh:hv wq (Tm.thing (bT "f") [.num 0,u])<=1:=by
   show pC wq [.num 0,u]<=1
   simp only[vj,List.countP_nil]
   have:wq (.num 0)=false:=rfl
   rw[this]
   cases wq u<;>simp
  have hn:hv wq (.num 0)=0:=rfl
  have ln:ig (.num 0)=0:=rfl
  simp only[Tm.rp,cb,e]
  constructor
  ·simp[h1,hn];omega
  ·intro v hv'
   simp at hv'
   rcases hv' with z|z|z<;>(subst z;omega)
def dc(l:List Tm):Tm:= .thing "row" (l++[.name "end"])
theorem FA(l:List Tm):∀v∈(dc l).rp,v=dc l\/v= .name "end"\/∃t∈l,v∈t.rp:=by
 intro v hv'
 have key:∀l:List Tm,∀v∈cb l,∃t∈l,v∈t.rp:=by
  intro l
  induction l with
  |nil=>intro v hv';simp[cb]at hv'
  |cons a r ih=>
   intro v hv'
   simp only[cb,bR]at hv'
   rcases hv' with z|z
   ·obtain⟨t,h1,h2⟩:=ih v z
    exact⟨t,by simp[h1],h2⟩
   ·exact⟨a,by simp,z⟩
 unfold dc at hv' |-
 simp only[Tm.rp,bR,bF,fG,or_false]at hv'
 have fin:v∈cb (l++[.name "end"])->v= .name "end"\/∃t∈l,v∈t.rp:=fun z=>by
  obtain⟨t,h1,h2⟩:=key _ v z
  rcases bR.mp h1 with h1|h1
  ·exact .inr ⟨t,h1,h2⟩
  ·simp at h1;subst h1;simp[Tm.rp]at h2;exact .inl h2
 rcases hv' with z|z
 ·exact .inl z
 ·rcases fin z with z|z
  ·exact .inr (.inl z)
  ·exact .inr (.inr z)
theorem MM{l:List Tm}{b:Nat}(h:∀t∈l,(t.rp.map (hv wq)).sum<=b):((cb l).map (hv wq)).sum<=l.length * b:=by
 induction l with
 |nil=>simp[cb]
 |cons a r ih=>
  have h1:=h a (by simp)
  have h2:=ih fun t ht=>h t (by simp[ht])
  simp only[cb,zMA,mX,zLC,jB]
  omega
theorem MN(l:List Tm):hv wq (dc l)<=l.length:=by
 show pC wq (l++[.name "end"])<=l.length
 rw[zD]
 have h1:pC wq [Tm.name "end"]=0:=rfl
 have h2:=zC (p:=wq) (l:=l)
 omega
theorem FB(l:List Tm):hv wq (dc l)+ig (dc l)=l.length+1:=by
 rw[Fq]
 show (l++[Tm.name "end"]).length=_
 simp
theorem FC{l:List Tm}{b:Nat}(h:∀t∈l,(t.rp.map (hv wq)).sum<=b):((dc l).rp.map (hv wq)).sum<=hv wq (dc l)+l.length * b:=by
 have e:(dc l).rp=dc l::cb (l++[.name "end"]):=rfl
 rw[e,bP,jH,wO,zMA,mX]
 have h2:=MM h
 have h3:((cb [Tm.name "end"]).map (hv wq)).sum=0:=rfl
 omega
theorem MO{a b:List Tm}(ha:∀t∈a,∃x,t= .blank x/\Wd x/\x.cps.toList.length<=39)(hb:∀t∈b,RO t)(h1:a.length<=10)(h2:b.length<=10):Wt (dc a,dc b):=by
 have ka:∀t∈a,(t.rp.map (hv wq)).sum<=0/\∀u∈t.rp,ig u<=2:=fun t ht=>by
  obtain⟨x,rfl,_⟩:=ha t ht
  simp only[Tm.rp]
  exact⟨aJ _,fun u hu=>by simp at hu;subst hu;exact cP _⟩
 have ra:=FB a
 have rb:=FB b
 have hb':=MN b
 have ha':hv wq (dc a)=a.length:=by
  show pC wq (a++[.name "end"])=a.length
  rw[zD,List.countP_eq_length.mpr fun t ht=>by obtain⟨x,rfl,_⟩:=ha t ht;rfl]
  rfl
 refine⟨20+hv wq (dc b),2+(ig (dc b) - 2),?_,fun t ht=>?_,by omega⟩
 ·unfold bK
  rw[zMA,mX]
  have h3:=FC (l:=a) (b:=0) fun t ht=>(ka t ht).1
  have h4:=FC (l:=b) (b:=1) fun t ht=>(Fz (hb t ht)).1
  show ((dc a).rp.map (hv wq)).sum+((dc b).rp.map (hv wq)).sum<=_
  omega
 ·unfold bK at ht
  rcases bR.mp ht with ht|ht
  ·rcases FA a t ht with rfl|rfl|⟨u,hu,hv'⟩
   ·omega
   ·exact cP _
   ·have:=(ka u hu).2 t hv';omega
  ·rcases FA b t ht with rfl|rfl|⟨u,hu,hv'⟩
   ·omega
   ·exact cP _
   ·have:=(Fz (hb u hu)).2 t hv';omega
theorem FD{b:Nat}{l:List Tm}(h:∀t∈l,t.Ok/\t.nodes<=b/\∀x∈t.bl,x.cps.toList.length<=39):(dc l).Ok/\(dc l).nodes<=2+l.length * b/\∀x∈(dc l).bl,x.cps.toList.length<=39:=by
 have hn:aX l<=l.length * b:=by
  induction l with
  |nil=>simp[aX]
  |cons a r ih=>
   have h1:=(h a (by simp)).2.1
   have h2:=ih fun t ht=>h t (by simp[ht])
   simp only[aX,zLC,jB]
   omega
 have hb:∀l:List Tm,(∀t∈l,∀x∈t.bl,x.cps.toList.length<=39)->∀x∈fq l,x.cps.toList.length<=39:=by
  intro l
  induction l with
  |nil=>intro _ x hx;simp[fq]at hx
  |cons a r ih=>
   intro h x hx
   simp only[fq,bR]at hx
   rcases hx with hx|hx
   ·exact h a (by simp) x hx
   ·exact ih (fun t ht=>h t (by simp[ht])) x hx
 refine⟨?_,?_,?_⟩
 ·unfold dc
  simp only[Tm.Ok]
  refine⟨MJ,by simp,(ww _ _).mpr ⟨(pY _).mpr fun t ht=>(h t ht).1,?_⟩⟩
  simp only[eA,Tm.Ok]
  exact⟨MK,trivial⟩
 ·unfold dc
  simp only[Tm.nodes,iT,aX]
  omega
 ·unfold dc
  simp only[Tm.bl]
  refine hb _ fun t ht=>?_
  rcases bR.mp ht with ht|ht
  ·exact(h t ht).2.2
  ·simp at ht;subst ht;intro x hx;simp[Tm.bl]at hx
open PySem.Spec PyProof.Rows L2
open Sem (wp)
section
variable{prog:aP}{w:aH}{A:bx}{E:aa->ah->Prop}{s:ah}
end
section
variable{X:Cx}{e:Expr}{te:TE}{p p' pos pos':Pos}
end
end BF
namespace K07
open PySem L2 BF
section
variable{P:aP}{w:aH}{K:aB}{mg:ac->Option aa}{base:aA}
def RA(t:Tm):Prop:=∃x,t= .blank x/\Wd x/\x.cps.toList.length<=39
theorem yv{x:ac}{k:Nat}(h:x.cps.toList=eG k):Wd x/\x.cps.toList.length<=39:=by
 have h1:=Fs k
 exact⟨Du h,by rw[h];omega⟩
theorem MP{t:Tm}(h:qk t):∀x∈t.bl,x.cps.toList.length<=39:=fun x hx=>by
 cases t with
 |num n=>simp[Tm.bl]at hx
 |name n=>simp[Tm.bl]at hx
 |thing n ps=>exact absurd h (by simp[qk])
 |blank y=>
  simp[Tm.bl]at hx
  subst hx
  obtain⟨c,r,e,_,hl⟩:=(h:iZ x)
  rw[e,zLC]
  omega
inductive FE(K:aB)(vs:List V)(H:Hp)(Q:VK):Prop
 |mk:∀(a:Addr)(ns:List Int)(m:Int),(vs=[.ref a,.int m])->(ak K H a (ns.map V.int))->(ns.length<=10)->(∀(v1 v2:V)(t:Addr)(oa ob:List Tm)(H':Hp),aq H H'->H' t=some (.tup [v1,v2])->aw H' v1 (dc oa)->aw H' v2 (dc ob)->(∀t∈oa,RA t)->(∀t∈ob,RO t)->oa.length<=10->ob.length<=10->Q (.ref t) H')->FE K vs H Q
def yw(K:aB):Sp:=fun vs H Q _=>FE K vs H Q
theorem MQ{f0:Addr}{fd:bd}(F:bw K "_law_round" "_law_round" oO f0 fd)(T:Bi mg)(c__law_called:aG P w K mg base 1 "_law_called" ["_law_k"] uD)(c__law_leaf:aG P w K mg base 2 "_law_leaf" ["_law_cell"] uf):be P w K mg base bh 3 f0 fd ["_law_cells","_law_last"] (yw K):=by
 refine F.ok jz (fun vs H Q E h=>?_) (fun cdv A outer s H vs Q E hr h=>?_)
 ·obtain⟨_,_,_,rfl,_⟩:=h
  rfl
 obtain⟨a,ns,m,rfl,hS,hlen,q⟩:=h
 have hml:(ns.map V.int).length=ns.length:=zLM _
 refine⟨_,(aj (az (i:=2) jz.nd (ca af))
  (aj (az (i:=3) jz.nd (ca af))
  (aj (dM cr rfl (kN rfl T.b_range (ad (bc cm T.b_len cj (ad (pv 0) af)) af)) (cn (i:=4) jz.nd rfl (Or.inl rfl)) (aj (cp (cE ce dk dl dg (pv 2) (ad (bN (ad aO (ad (aY c__law_called (hr.mono (by decide)) (ad (pv 4) af)) af))) af)))
        (aj (az (i:=6) jz.nd (bN (ad aO (ad (aY c__law_called (hr.mono (by decide)) (ad (aZ dG (aZ kP (pv 4) ax) (bc cm T.b_len cj (ad (pv 0) af))) af)) af))))
        (aj (aK (jq (aF bM (aZ kP (pv 4) ax) (bc cm T.b_len cj (ad (pv 0) af)) (aC _)) (jp (aF bM (aZ dG (pv 1) ax) ax (aC _)))).pt (al (az (i:=6) jz.nd (aY c__law_leaf (hr.mono (by decide)) (ad (aZ fI (pv 1) ax) af)))) aU)
        (aj (aK (aF bM (aZ dG (bG bV (pv 0) (pv 4) (fun _ _=>rfl)) ax) ax (aC _)) (al (az (i:=6) jz.nd (bN (ad aO (ad aO (ad (bN (ad (bN (ad aO (ad ax af))) (ad (pv 6) af))) af)))))) aU)
        (al (cp (cE ce dk dl dg (pv 3) (ad (pv 6) af)))))))))
  (aj (az (i:=5) jz.nd (aZ dG (aZ fI (pv 1) ax) (aZ kP (bc cm T.b_len cj (ad (pv 0) af)) ax)))
  (aj (az (i:=2) jz.nd (aZ jS (aZ jS (fS gZ (pv 2) (fK (pv 5)) gj) (fS gZ (pv 2) gj (fK (pv 5)))) (ca (ad (bN (ad aO (ad aO af))) af))))
  (aj (az (i:=3) jz.nd (aZ jS (aZ jS (fS gZ (pv 3) (fK (pv 5)) gj) (fS gZ (pv 3) gj (fK (pv 5)))) (ca (ad (bN (ad aO (ad aO af))) af))))
  (al (ay (bN (ad (bN (ad aO (ad aO (ad (gM nA T.b_tuple fM (ad (pv 2) af)) af)))) (ad (bN (ad aO (ad aO (ad (gM nA T.b_tuple fM (ad (pv 3) af)) af)))) af))))))))))),?_⟩
 refine⟨dz,fun p1 f1=>?_⟩
 generalize e_:ae H p1 (HO.lst [])=H1
 obtain⟨s1,x1⟩:=aM f1 e_
 refine⟨dz,fun p2 f2=>?_⟩
 have s2:=bz f2 (HO.lst [])
 have x2:ae H1 p2 (HO.lst []) p2=some _:=au
 have n12:p1≠p2:=aN x1 f2
 have f2':H p2=none:=s1.free f2
 generalize ae H1 p2 (HO.lst [])=H2 at s2 x2 |-
 refine⟨_,rfl,a,_,rfl,.inl ((s1.trans s2).seq hS),_,rfl,by omega,by rw[zLM];omega,jO (lo:=0) (n:=((ns.map V.int).length:Int).toNat) (fun i σ H3=>∃(o4 o5 o6:Option V)(us1 us2:List V)(oa ob:List Tm),σ=[some (.ref a),some (.int m),some (.ref p1),some (.ref p2),o4,o5,o6]/\aq H H3/\H3 p1=some (.lst us1)/\H3 p2=some (.lst us2)/\aT H3 us1 oa/\aT H3 us2 ob/\(∀t∈oa,RA t)/\(∀t∈ob,RO t)/\oa.length=i/\ob.length=i)
  ⟨none,none,none,[],[],[],[],rfl,s1.trans s2,s2 _ _ x1,x2,aT.nil,aT.nil,by simp,by simp,rfl,rfl⟩ ?_ ?_⟩
 ·rintro i σ H3 hi ⟨o4,o5,o6,us1,us2,oa,ob,rfl,s3,g1,g2,ht1,ht2,ha,hb,hl1,hl2⟩
  have hi':i<ns.length:=by rw[hml]at hi;omega
  have hu1:=ht1.len
  have hu2:=ht2.len
  have e0:(0:Int)+(i:Int)=((i:Nat):Int):=by omega
  rw[e0]
  refine⟨_,rfl,.inl ⟨rfl,_,ak.of g1⟩,_,rfl,i,rfl,fun x hx=>⟨cq,fun b1 fb1=>?_⟩⟩
  generalize e_:ae H3 b1 (HO.tup [.str "blank",.str x])=H4
  obtain⟨s4,x4⟩:=aM fb1 e_
  refine⟨p1,_,_,rfl,rfl,s4 _ _ g1,big (by omega),?_⟩
  have k5:aV H4 (ae H4 p1 (HO.lst (us1++[.ref b1]))):= .lst (s4 _ _ g1)
  have y5:ae H4 p1 (HO.lst (us1++[.ref b1])) p1=some _:=au
  have z5:ae H4 p1 (HO.lst (us1++[.ref b1])) p2=some (.lst us2):=by rw[am n12.symm];exact s4 _ _ g2
  have s5:aq H (ae H4 p1 (HO.lst (us1++[.ref b1]))):=fun b ob z=>by rw[am (aN z f1)];exact s4 _ _ (s3 _ _ z)
  generalize ae H4 p1 (HO.lst (us1++[.ref b1]))=H5 at k5 y5 z5 s5 |-
  have ta5:aT H5 (us1++[.ref b1]) (oa++[.blank x]):=((ht1.mono (.of s4)).mono k5).app (.cons (dU.mpr ⟨b1,rfl,k5 _ _ x4⟩) .nil)
  have tb5:aT H5 us2 ob:=(ht2.mono (.of s4)).mono k5
  have ha5:∀t∈oa++[Tm.blank x],RA t:=fun t ht=>by
   rcases bR.mp ht with ht|ht
   ·exact ha t ht
   ·simp at ht;exact⟨x,ht,yv hx⟩
  have hS5:ak K H5 a (ns.map V.int):=s5.seq hS
  have hk:[V.int (((i:Nat):Int)+1)]=[V.int ((i+1:Nat):Int)]:=rfl
  have hmod:(((i:Nat):Int)+1) % ((ns.map V.int).length:Int)=(((i+1) % ns.length:Nat):Int):=by
   rw[hml,Ag]
   rfl
  refine⟨_,rfl,_,_,rfl,rfl,_,rfl,a,_,rfl,.inl hS5,_,_,rfl,rfl,(show (0:Int)<_ by rw[hml];omega),(i+1) % ns.length,congrArg (fun z=>[V.int z]) hmod,fun x6 hx6=>⟨cq,fun b2 fb2=>?_⟩⟩
  generalize e_:ae H5 b2 (HO.tup [.str "blank",.str x6])=H6
  obtain⟨s6,x6'⟩:=aM fb2 e_
  have tb2:aw H6 (.ref b2) (.blank x6):=dU.mpr ⟨b2,rfl,x6'⟩
  have r2:qS (.blank x6):=⟨rfl,(yv hx6).1,fun y hy=>by simp[Tm.bl]at hy;subst hy;exact(yv hx6).2⟩
  show dE.nx _ _ _
  with_reducible show gh _ _ _ _ _
  refine hJ (fun σ H7=>∃(tv:V)(t7:Tm),σ=[some (.ref a),some (.int m),some (.ref p1),some (.ref p2),some (.int (i:Nat)),o5,some tv]/\aq H5 H7/\aw H7 tv t7/\qS t7) ?_ (fun key=>?_)
  rotate_left
  ·refine⟨_,rfl,_,_,rfl,rfl,_,rfl,a,_,rfl,.inl (s6.seq hS5),rfl,_,rfl,bO (fun c1=>?_) (fun c1=>bf (key _ _ ⟨_,_,rfl,s6,tb2,r2⟩))⟩
   refine⟨_,rfl,_,_,rfl,rfl,(show (0:Int)<_ by decide),rfl,_,rfl,bO (fun c2=>?_) (fun c2=>key _ _ ⟨_,_,rfl,s6,tb2,r2⟩)⟩
   exact⟨_,rfl,_,_,rfl,rfl,⟨by decide,by decide⟩,_,rfl,fun v t H7 s7 ht hto htn hlx=>key _ _ ⟨v,t,rfl,s6.trans s7,ht,htn,hto,MP hlx⟩⟩
  rintro σ H7 ⟨tv,t7,rfl,s7,ht7,hr7⟩
  have hat:dn (ns.map V.int) ((i:Nat):Int)=some (.int ns[i]):=dH (by rw[cV,zGE hi'];rfl)
  show gh _ _ _ _ _
  refine hJ (fun σ H8=>∃(tv:V)(t8:Tm),σ=[some (.ref a),some (.int m),some (.ref p1),some (.ref p2),some (.int (i:Nat)),o5,some tv]/\aq H5 H8/\aw H8 tv t8/\RO t8) ?_ (fun key=>?_)
  rotate_left
  ·refine⟨_,rfl,_,rfl,a,_,_,_,rfl,rfl,s7.seq hS5,hat,_,_,rfl,rfl,(show (0:Int)<_ by decide),rfl,_,rfl,bO (fun c1=>?_) (fun c1=>key _ _ ⟨tv,t7,rfl,s7,ht7,.inl hr7⟩)⟩
   refine⟨cq,fun b3 fb3=>?_⟩
   generalize e_:ae H7 b3 (HO.tup [.str "number",.int 0])=H8
   obtain⟨s8,x8⟩:=aM fb3 e_
   refine⟨_,rfl,cq,fun b4 fb4=>?_⟩
   generalize e_:ae H8 b4 (HO.tup [.ref b3,tv])=H9
   obtain⟨s9,x9⟩:=aM fb4 e_
   refine⟨gv,fun b5 fb5=>key _ _ ⟨_,.thing "f" [.num 0,t7],rfl,s7.trans (s8.trans (s9.trans (bz fb5 _))),?_,.inr ⟨t7,hr7,rfl⟩⟩⟩
   have sA:=bz fb5 (HO.tup [.str "thing",.str "f",.ref b4])
   refine dr.mpr ⟨b5,b4,[.ref b3,tv],rfl,au,sA _ _ x9,.cons (fm.mpr ⟨b3,rfl,sA _ _ (s9 _ _ x8)⟩) (.cons (ht7.mono (.of (s8.trans (s9.trans sA)))) .nil)⟩
  rintro σ H8 ⟨tv8,t8,rfl,s8,ht8,hr8⟩
  have g2':=s8 _ _ z5
  refine⟨_,rfl,.inl ⟨rfl,_,ak.of g2'⟩,_,rfl,p2,_,_,rfl,rfl,g2',big (by omega),?_⟩
  have k9:aV H8 (ae H8 p2 (HO.lst (us2++[tv8]))):= .lst g2'
  refine⟨_,_,_,us1++[.ref b1],us2++[tv8],oa++[.blank x],ob++[t8],rfl,fun b ob' z=>?_,?_,au,((ta5.mono (.of s8)).mono k9),((tb5.mono (.of s8)).mono k9).app (.cons (ht8.mono k9) .nil),ha5,fun t ht=>?_,by rw[zLA,hl1];rfl,by rw[zLA,hl2];rfl⟩
  ·rw[am (aN z f2')];exact s8 _ _ (s5 _ _ z)
  ·rw[am n12];exact s8 _ _ y5
  ·rcases bR.mp ht with ht|ht
   ·exact hb t ht
   ·simp at ht;rw[ht];exact hr8
 ·rintro σ H3 ⟨o4,o5,o6,us1,us2,oa,ob,rfl,s3,g1,g2,ht1,ht2,ha,hb,hl1,hl2⟩
  have hnn:((ns.map V.int).length:Int).toNat=ns.length:=by rw[hml];omega
  rw[hnn]at hl1 hl2
  have hu1:=ht1.len
  have hu2:=ht2.len
  refine⟨_,rfl,_,_,rfl,rfl,⟨by decide,by decide⟩,_,rfl,a,_,rfl,.inl (s3.seq hS),_,_,rfl,rfl,_,_,rfl,rfl,(show (0:Int)<_ by rw[hml];omega),?_⟩
  obtain⟨j,hj⟩:=rT (show 0<=m / 5 % (((ns.map V.int).length:Int)+1)by exact na _ (by rw[hml];omega))
  have hjz:j<=ns.length:=by
   have:=ng (m / 5) (show (0:Int)<((ns.map V.int).length:Int)+1 by rw[hml];omega)
   rw[hml]at this hj
   omega
  have hj':m / 5 % (((ns.map V.int).length:Int)+1)=((j:Nat):Int):=hj
  show jM 5 (V.int (m / 5 % (((ns.map V.int).length:Int)+1))) _ _ _
  rw[hj']
  clear hj hj'
  refine⟨_,rfl,_,rfl,_,rfl,p1,us1,rfl,ak.of g1,fun c1 fc1=>?_⟩
  rw[qF us1 _ (by omega) (by omega)]
  have e1:(((j:Nat):Int)).toNat=j:=by omega
  rw[e1]
  generalize e_:ae H3 c1 (HO.lst (us1.drop j))=HC1
  obtain⟨sc1,xc1⟩:=aM fc1 e_
  refine⟨_,rfl,_,rfl,_,rfl,p1,us1,rfl,ak.of (sc1 _ _ g1),fun d1 fd1=>?_⟩
  rw[ug us1 _ (by omega) (by omega),e1]
  generalize e_:ae HC1 d1 (HO.lst (us1.take j))=HD1
  obtain⟨sd1,xd1⟩:=aM fd1 e_
  refine⟨c1,d1,_,_,rfl,rfl,sd1 _ _ xc1,xd1,by rw[dD,zLT];exact eP (by omega),fun e1' fe1=>?_⟩
  generalize e_:ae HD1 e1' (HO.lst (us1.drop j++us1.take j))=HE1
  obtain⟨se1,xe1⟩:=aM fe1 e_
  refine⟨cq,fun n1 fn1=>?_⟩
  generalize e_:ae HE1 n1 (HO.tup [.str "name",.str "end"])=HN1
  obtain⟨sn1,xn1⟩:=aM fn1 e_
  refine⟨gQ,fun m1 fm1=>?_⟩
  generalize e_:ae HN1 m1 (HO.lst [.ref n1])=HM1
  obtain⟨sm1,xm1⟩:=aM fm1 e_
  refine⟨e1',m1,_,_,rfl,rfl,(sn1.trans sm1) _ _ xe1,xm1,by rw[zLA,dD,zLT];exact eP (by simp only[zLC,zLN];omega),fun r1 fr1=>?_⟩
  generalize e_:ae HM1 r1 (HO.lst (us1.drop j++us1.take j++[.ref n1]))=HR1
  obtain⟨sr1,xr1⟩:=aM fr1 e_
  have sl1:aq H3 HR1:=sc1.trans (sd1.trans (se1.trans (sn1.trans (sm1.trans sr1))))
  have tt1:aT HR1 (us1.drop j++us1.take j++[.ref n1]) (oa.drop j++oa.take j++[.name "end"]):=(((ht1.mono (.of sl1)).dropN j).app ((ht1.mono (.of sl1)).takeN j)).app (.cons (eD.mpr ⟨n1,rfl,(sm1.trans sr1) _ _ xn1⟩) .nil)
  refine⟨_,rfl,_,rfl,_,rfl,p2,us2,rfl,ak.of (sl1 _ _ g2),fun c2 fc2=>?_⟩
  rw[qF us2 _ (by omega) (by omega)]
  have e2:(((j:Nat):Int)).toNat=j:=by omega
  rw[e2]
  generalize e_:ae HR1 c2 (HO.lst (us2.drop j))=HC2
  obtain⟨sc2,xc2⟩:=aM fc2 e_
  refine⟨_,rfl,_,rfl,_,rfl,p2,us2,rfl,ak.of (sc2 _ _ (sl1 _ _ g2)),fun d2 fd2=>?_⟩
  rw[ug us2 _ (by omega) (by omega),e2]
  generalize e_:ae HC2 d2 (HO.lst (us2.take j))=HD2
  obtain⟨sd2,xd2⟩:=aM fd2 e_
  refine⟨c2,d2,_,_,rfl,rfl,sd2 _ _ xc2,xd2,by rw[dD,zLT];exact eP (by omega),fun e2' fe2=>?_⟩
  generalize e_:ae HD2 e2' (HO.lst (us2.drop j++us2.take j))=HE2
  obtain⟨se2,xe2⟩:=aM fe2 e_
  refine⟨cq,fun n2 fn2=>?_⟩
  generalize e_:ae HE2 n2 (HO.tup [.str "name",.str "end"])=HN2
  obtain⟨sn2,xn2⟩:=aM fn2 e_
  refine⟨gQ,fun m2 fm2=>?_⟩
  generalize e_:ae HN2 m2 (HO.lst [.ref n2])=HM2
  obtain⟨sm2,xm2⟩:=aM fm2 e_
  refine⟨e2',m2,_,_,rfl,rfl,(sn2.trans sm2) _ _ xe2,xm2,by rw[zLA,dD,zLT];exact eP (by simp only[zLC,zLN];omega),fun r2 fr2=>?_⟩
  generalize e_:ae HM2 r2 (HO.lst (us2.drop j++us2.take j++[.ref n2]))=HR2
  obtain⟨sr2,xr2⟩:=aM fr2 e_
  have sl2:aq HR1 HR2:=sc2.trans (sd2.trans (se2.trans (sn2.trans (sm2.trans sr2))))
  have tt2:aT HR2 (us2.drop j++us2.take j++[.ref n2]) (ob.drop j++ob.take j++[.name "end"]):=((((ht2.mono (.of sl1)).mono (.of sl2)).dropN j).app (((ht2.mono (.of sl1)).mono (.of sl2)).takeN j)).app (.cons (eD.mpr ⟨n2,rfl,(sm2.trans sr2) _ _ xn2⟩) .nil)
  refine⟨_,rfl,r1,_,rfl,.inl ⟨ak.of (sl2 _ _ xr1),fun t1 ft1=>?_⟩⟩
  generalize e_:ae HR2 t1 (HO.tup (us1.drop j++us1.take j++[.ref n1]))=HT1
  obtain⟨st1,xt1⟩:=aM ft1 e_
  refine⟨gv,fun w1 fw1=>?_⟩
  generalize e_:ae HT1 w1 (HO.tup [.str "thing",.str "row",.ref t1])=HW1
  obtain⟨sw1,xw1⟩:=aM fw1 e_
  refine⟨_,rfl,r2,_,rfl,.inl ⟨ak.of ((st1.trans sw1) _ _ xr2),fun t2 ft2=>?_⟩⟩
  generalize e_:ae HW1 t2 (HO.tup (us2.drop j++us2.take j++[.ref n2]))=HT2
  obtain⟨st2,xt2⟩:=aM ft2 e_
  refine⟨gv,fun w2 fw2=>?_⟩
  generalize e_:ae HT2 w2 (HO.tup [.str "thing",.str "row",.ref t2])=HW2
  obtain⟨sw2,xw2⟩:=aM fw2 e_
  refine⟨cq,fun tt ftt=>?_⟩
  have sq:=bz ftt (HO.tup [.ref w1,.ref w2])
  have b1:aq HW1 (ae HW2 tt (HO.tup [.ref w1,.ref w2])):=st2.trans (sw2.trans sq)
  have b0:aq HR2 (ae HW2 tt (HO.tup [.ref w1,.ref w2])):=st1.trans (sw1.trans b1)
  refine q (.ref w1) (.ref w2) tt (oa.drop j++oa.take j) (ob.drop j++ob.take j) _ (s3.trans (sl1.trans (sl2.trans b0))) au ?_ ?_ (fun t ht=>?_) (fun t ht=>?_) (by rw[zLA,dD,zLT];omega) (by rw[zLA,dD,zLT];omega)
  ·exact dr.mpr ⟨w1,t1,_,rfl,b1 _ _ xw1,(sw1.trans b1) _ _ xt1,tt1.mono (.of (sl2.trans b0))⟩
  ·exact dr.mpr ⟨w2,t2,_,rfl,sq _ _ xw2,(sw2.trans sq) _ _ xt2,tt2.mono (.of b0)⟩
  ·rcases bR.mp ht with ht|ht
   ·exact ha t (vw ht)
   ·exact ha t (mZ ht)
  ·rcases bR.mp ht with ht|ht
   ·exact hb t (vw ht)
   ·exact hb t (mZ ht)
end
section
variable{P:aP}{w:aH}{K:aB}{mg:ac->Option aa}{base:aA}
inductive FF(K:aB)(vs:List V)(H:Hp)(Q:VK):Prop
 |mk:∀(a:Addr)(ns:List Int)(k:Nat),(vs=[.ref a,.int k])->(ak K H a (ns.map V.int))->(Q (.int (ns.getD k 0)) H)->FF K vs H Q
def yx(K:aB):Sp:=fun vs H Q _=>FF K vs H Q
theorem MR{f:Addr}{fd:bd}(F:bw K "_law_at" "_law_at" ol f fd)(T:Bi mg):be P w K mg base bh 1 f fd ["_law_script","_law_k"] (yx K):=by
 refine F.ok KI (fun vs H Q E h=>?_) (fun cdv A outer s H vs Q E hr h=>?_)
 ·obtain⟨_,_,_,rfl,_⟩:=h
  rfl
 obtain⟨a,ns,k,rfl,hS,q⟩:=h
 refine⟨_,(aj (aK (aF lN (pv 1) (bc cm T.b_len cj (ad (pv 0) af)) (aC _)) (al (ay (bG bV (pv 0) (pv 1) (fun _ _=>rfl)))) aU)
  (al (ay ax))),?_⟩
 refine⟨_,rfl,_,rfl,a,_,rfl,.inl hS,_,_,rfl,rfl,_,rfl,bO (fun c=>?_) (fun c=>?_)⟩
 ·have c':(k:Int)<((ns.map V.int).length:Int):=of_decide_eq_true c
  rw[zLM]at c'
  have hk:k<ns.length:=by omega
  have e:ns.getD k 0=ns[k]:=by rw[vt,zGE hk];rfl
  rw[e]at q
  refine⟨_,rfl,_,rfl,a,_,_,V.int ns[k],rfl,rfl,hS,dH ?_,q⟩
  rw[cV,zGE hk]
  rfl
 ·have c':¬(k:Int)<((ns.map V.int).length:Int):=of_decide_eq_false (fH.mpr c)
  rw[zLM]at c'
  have e:ns.getD k 0=0:=by rw[vt,vo (by omega)];rfl
  rw[e]at q
  exact q
end
section
variable{P:aP}{w:aH}{K:aB}{mg:ac->Option aa}{base:aA}
theorem FG(xs:List V)(i:Nat):eu xs none (some (i:Int))=xs.take i:=by
 unfold eu
 rw[HT.sIx_none,HT.sIx_nat]
 simp
theorem MS(xs:List V)(i:Nat):eu xs (some (i:Int)) none=xs.drop i:=by
 unfold eu
 rw[HT.sIx_none,HT.sIx_nat]
 rw[dL (by rw[dD];omega)]
 by_cases h:i<=xs.length
 ·rw[ze h]
 ·rw[Nat.min_eq_right (by omega),vf (aJ _),vf (by omega)]
inductive FH(K:aB)(vs:List V)(H:Hp)(Q:VK):Prop
 |mk:∀(a lc:Addr)(ns ms:List Int),(vs=[.ref a,.ref lc])->(ak K H a (ns.map V.int))->(H lc=some (.lst (ms.map V.int)))->(ms.length<=16)->(∀(t:Addr)(v1 v2:V)(g:Ln)(H':Hp),aq H H'->H' t=some (.tup [v1,v2])->aw H' v1 g.1->aw H' v2 g.2->g.1.Ok->g.2.Ok->g.1.nodes+g.2.nodes<=60->(∀x∈g.1.bl,x.cps.toList.length<=39)->(∀x∈g.2.bl,x.cps.toList.length<=39)->Wt g->(ns.getD 0 0 % 5=0->∃φ,j8 φ g)->Q (.ref t) H')->FH K vs H Q
def yy(K:aB):Sp:=fun vs H Q _=>FH K vs H Q
theorem MT{f0:Addr}{fd:bd}(F:bw K "_law_couple" "_law_couple" oP f0 fd)(T:Bi mg)(c__law_at:aG P w K mg base 1 "_law_at" ["_law_script","_law_k"] (yx K))(c__law_round:aG P w K mg base 3 "_law_round" ["_law_cells","_law_last"] (yw K))(c__law_hidden:aG P w K mg base 3 "_law_hidden" ["_law_cells","_law_many"] (yu K)):be P w K mg base bh 4 f0 fd ["_law_script","_law_cells"] (yy K):=by
 refine F.ok lm (fun vs H Q E h=>?_) (fun cdv A outer s H vs Q E hr h=>?_)
 ·obtain⟨_,_,_,_,rfl,_⟩:=h
  rfl
 obtain⟨a,lc,ns,ms,rfl,hS,hc,hml,q⟩:=h
 refine⟨_,(aj (az (i:=2) lm.nd (aZ dG (aY c__law_at (hr.mono (by decide)) (ad (pv 0) (ad ax af))) ax))
  (aj (aK (aF bM (pv 2) ax (aC _)) (al (ay (aY c__law_round (hr.mono (by decide)) (ad (fS gZ (pv 1) gj (fK ax)) (ad (aY c__law_at (hr.mono (by decide)) (ad (pv 0) (ad ax af))) af))))) aU)
  (aj (az (i:=3) lm.nd (bG bV (ca (ad ax (ad ax (ad ax (ad ax af))))) (pv 2) (fun _ _=>rfl)))
  (aj (az (i:=4) lm.nd (ao (aY c__law_hidden (hr.mono (by decide)) (ad (pv 1) (ad (pv 3) af)))))
  (aj (az (i:=5) lm.nd (bG bV (pv 4) ax (fun _ _=>rfl)))
  (aj (aK (jq (aF bM (pv 2) ax (aC _)) (jp (aF (sU hr.units0) (pv 1) (ca af) (aC _)))).pt (aj (az (i:=6) lm.nd (aZ dG (aY c__law_at (hr.mono (by decide)) (ad (pv 0) (ad ax af))) (bc cm T.b_len cj (ad (pv 1) af))))
        (aj (az (i:=7) lm.nd (aZ jS (aZ jS (fS gZ (pv 1) gj (fK (pv 6))) (ca (ad (aZ kP (bG bV (pv 1) (pv 6) (fun _ _=>rfl)) ax) af))) (fS gZ (pv 1) (fK (aZ kP (pv 6) ax)) gj)))
        (al (az (i:=5) lm.nd (bG bV (ao (aY c__law_hidden (hr.mono (by decide)) (ad (pv 7) (ad (pv 3) af)))) ax (fun _ _=>rfl)))))) aU)
  (al (ay (bN (ad (bG bV (pv 4) ax (fun _ _=>rfl)) (ad (pv 5) af))))))))))),?_⟩
 refine⟨_,rfl,a,ns,0,rfl,hS,_,_,rfl,rfl,(show (0:Int)<_ by decide),?_⟩
 have hw1:=na (ns.getD 0 0) (show (5:Int)≠0 by decide)
 have hw2:=ng (ns.getD 0 0) (show (0:Int)<5 by decide)
 refine⟨_,rfl,rfl,_,rfl,bO (fun c=>?_) (fun c=>?_)⟩
 ·have c':ns.getD 0 0 % 5=4:=by simpa using c
  refine⟨_,rfl,_,rfl,lc,_,rfl,ak.of hc,fun l hl=>?_⟩
  rw[show (10:Int)=((10:Nat):Int)from rfl,FG,<-vx]
  generalize e_:ae H l (HO.lst ((ms.take 10).map V.int))=H1
  obtain⟨s1,x1⟩:=aM hl e_
  refine⟨_,rfl,a,ns,1,rfl,s1.seq hS,l,ms.take 10,_,rfl,ak.of x1,by rw[zLT];omega,fun v1 v2 t oa ob H2 s2 ht h1 h2 ha hb l1 l2=>?_⟩
  have ka:=FD (b:=1) (l:=oa) fun u hu=>by
   obtain⟨x,rfl,hx1,hx2⟩:=ha u hu
   exact⟨hx1,aJ _,fun y hy=>by simp[Tm.bl]at hy;rw[hy];exact hx2⟩
  have kb:=FD (b:=3) (l:=ob) fun u hu=>ML (hb u hu)
  exact q t v1 v2 (dc oa,dc ob) H2 (s1.trans s2) ht h1 h2 ka.1 kb.1 (by have h3:=ka.2.1;have h4:=kb.2.1;show (dc oa).nodes+(dc ob).nodes<=60;omega) ka.2.2 kb.2.2 (MO ha hb l1 l2) (fun z=>by omega)
 have c':¬ns.getD 0 0 % 5=4:=by simpa using c
 show dE.nx _ _ _
 with_reducible show gh _ _ _ _ _
 refine hJ (fun σ H5=>∃m:Nat,0<m/\(ns.getD 0 0 % 5=0->m=40)/\σ=[some (.ref a),some (.ref lc),some (.int (ns.getD 0 0 % 5)),some (.int (m:Nat)),none,none,none,none]/\aq H H5) ?_ (fun key=>?_)
 rotate_left
 ·refine⟨D2,fun l0 fl0=>?_⟩
  generalize e_:ae H l0 (HO.lst [.int 40,.int 3,.int 40,.int 5])=H1
  obtain⟨t0,z0⟩:=aM fl0 e_
  obtain⟨k,hk,hk0,ek⟩:∃k:Nat,0<k/\(ns.getD 0 0 % 5=0->k=40)/\dn [V.int 40,V.int 3,V.int 40,V.int 5] (ns.getD 0 0 % 5)=some (V.int (k:Nat)):=by
   rcases(by omega:ns.getD 0 0 % 5=0\/ns.getD 0 0 % 5=1\/ns.getD 0 0 % 5=2\/ns.getD 0 0 % 5=3)with e|e|e|e<;>rw[e]
   ·exact⟨40,by decide,fun _=>rfl,dH (j:=0) rfl⟩
   ·exact⟨3,by decide,fun z=>absurd z (by decide),dH (j:=1) rfl⟩
   ·exact⟨40,by decide,fun _=>rfl,dH (j:=2) rfl⟩
   ·exact⟨5,by decide,fun z=>absurd z (by decide),dH (j:=3) rfl⟩
  exact⟨_,rfl,l0,_,_,_,rfl,rfl,ak.of z0,ek,key _ _ ⟨k,hk,hk0,rfl,t0⟩⟩
 rintro σ H2 ⟨m,hm,hm0,rfl,s01⟩
 have hS2:=s01.seq hS
 have x1:=s01 _ _ hc
 refine⟨_,rfl,_,rfl,lc,ms,m,rfl,ak.of x1,by omega,hm,fun rr lf lp y0 y1 y2 d seen pv fl H3 s3 hrr hlf hy0 hy1 hy2 hid hdn _ _ hseen hcall hsl _=>?_⟩
 have hS3:=s3.seq hS2
 have x3:=s3 _ _ x1
 obtain⟨hh0,hh1,ok0,ok1,ok2,hn0,hn1⟩:=hid
 have hfl:fl.length<=16:=by
  have:=congrArg kz hseen
  rw[zLM]at this
  omega
 refine⟨_,_,_,_,rfl,rfl,ag.of hrr,bD,_,rfl,lf,_,_,_,rfl,rfl,ak.of hlf,cx,?_⟩
 show dE.nx _ _ _
 with_reducible show gh _ _ _ _ _
 refine hJ (fun σ H6=>∃(yt:V)(t:Tm)(o8 o9:Option V),σ=[some (.ref a),some (.ref lc),some (.int (ns.getD 0 0 % 5)),some (.int (m:Nat)),some (.ref lf),some yt,o8,o9]/\aq H3 H6/\aw H6 yt t/\t.nodes<=18/\t.Ok/\(∀x∈t.bl,x.cps.toList.length<=39)/\(ns.getD 0 0 % 5=0->t=d.2.1)) ?_ (fun key=>?_)
 rotate_left
 ·refine⟨_,rfl,rfl,_,rfl,bO (fun c=>?_) (fun c=>bf (key _ _ ⟨y1,d.2.1,none,none,rfl,aq.refl _,hy1,by omega,ok1,uC d.2.2 d.2.1 hh1,fun _=>rfl⟩))⟩
  have c2':ns.getD 0 0 % 5=2:=by simpa using c
  refine⟨_,rfl,dz,fun e fe=>?_⟩
  generalize e_:ae H3 e (HO.lst [])=H4
  obtain⟨t4,z4⟩:=aM fe e_
  refine⟨lc,e,_,rfl,rfl,t4 _ _ x3,z4,_,rfl,bO (fun c2=>?_) (fun c2=>key _ _ ⟨y1,d.2.1,none,none,rfl,t4,hy1.mono (.of t4),by omega,ok1,uC d.2.2 d.2.1 hh1,fun _=>rfl⟩)⟩
  have hmp:0<ms.length:=by
   cases ms with
   |nil=>simp at c2
   |cons x r=>simp
  have hS4:=t4.seq hS3
  have x4:=t4 _ _ x3
  with_reducible show gh _ _ _ _ _
  refine hJ (fun σ H5=>∃sp:Nat,sp<ms.length/\σ=[some (.ref a),some (.ref lc),some (.int (ns.getD 0 0 % 5)),some (.int (m:Nat)),some (.ref lf),some y1,some (.int (sp:Nat)),none]/\H4=H5) ?_ (fun key2=>?_)
  rotate_left
  ·refine⟨_,rfl,a,ns,1,rfl,hS4,_,rfl,lc,_,rfl,.inl (ak.of x4),_,_,rfl,rfl,(show (0:Int)<_ by rw[zLM];omega),?_⟩
   generalize ns.getD 1 0=n1
   obtain⟨k,ek⟩:=rT (a:=n1 % ((ms.map V.int).length:Int)) (na _ (by rw[zLM];omega))
   have hb:n1 % ((ms.map V.int).length:Int)<((ms.map V.int).length:Int):=ng _ (by rw[zLM];omega)
   rw[zLM]at hb ek
   exact key2 _ _ ⟨k,by omega,congrArg (fun z:Int=>[some (V.ref a),some (.ref lc),some (.int (ns.getD 0 0 % 5)),some (.int (m:Nat)),some (.ref lf),some y1,some (.int z),none]) (by rw[zLM];exact ek),rfl⟩
  rintro σ H5 ⟨sp,hsp,rfl,e5⟩
  subst e5
  refine⟨_,rfl,_,rfl,_,rfl,lc,_,rfl,ak.of x4,fun p1 fp1=>?_⟩
  rw[FG]
  generalize e_:ae H4 p1 (HO.lst ((ms.map V.int).take sp))=H5
  obtain⟨t5,z5⟩:=aM fp1 e_
  refine⟨_,rfl,_,rfl,lc,_,_,.int ms[sp],rfl,rfl,ak.of (t5 _ _ x4),dH (by rw[cV,zGE hsp];rfl),_,_,rfl,rfl,gQ,fun p2 fp2=>?_⟩
  generalize e_:ae H5 p2 (HO.lst [.int (ms[sp]+6)])=H6
  obtain⟨t6,z6⟩:=aM fp2 e_
  refine⟨p1,p2,_,_,rfl,rfl,t6 _ _ z5,z6,dJ (show _<=100 by simp only[zLT,zLM,zLC,zLN];omega) (by decide),fun p3 fp3=>?_⟩
  generalize e_:ae H6 p3 (HO.lst ((ms.map V.int).take sp++[.int (ms[sp]+6)]))=H7
  obtain⟨t7,z7⟩:=aM fp3 e_
  refine⟨_,rfl,_,rfl,_,_,rfl,rfl,_,rfl,lc,_,rfl,ak.of ((t5.trans (t6.trans t7)) _ _ x4),fun p4 fp4=>?_⟩
  rw[show (sp:Int)+1=((sp+1:Nat):Int)from rfl,MS]
  generalize e_:ae H7 p4 (HO.lst ((ms.map V.int).drop (sp+1)))=H8
  obtain⟨t8,z8⟩:=aM fp4 e_
  refine⟨p3,p4,_,_,rfl,rfl,t8 _ _ z7,z8,dJ (show _<=200 by simp only[zLA,zLT,dD,zLM,zLC,zLN];omega) (by decide),fun p5 fp5=>?_⟩
  obtain⟨ms2,ems2,hms2⟩:∃ms2:List Int,(ms.map V.int).take sp++[V.int (ms[sp]+6)]++(ms.map V.int).drop (sp+1)=ms2.map V.int/\ms2.length=ms.length:=by
   refine⟨ms.take sp++[ms[sp]+6]++ms.drop (sp+1),by simp only[zMA,vx,vq,bP,jk],?_⟩
   simp only[zLA,zLT,dD,zLC,zLN]
   omega
  rw[ems2]
  generalize e_:ae H8 p5 (HO.lst (ms2.map V.int))=H9
  obtain⟨t9,z9⟩:=aM fp5 e_
  have s49:=t5.trans (t6.trans (t7.trans (t8.trans t9)))
  have hS9:=s49.seq hS4
  refine⟨_,rfl,_,rfl,p5,ms2,m,rfl,ak.of z9,by omega,hm,fun rr' lf' lp' w0 w1 w2 d' seen' pv' fl' HA sA hrr' hlf' hw0 hw1 hw2 hid' hdn' _ _ _ _ _ _=>?_⟩
  have hSA:=sA.seq hS9
  obtain⟨hh0',hh1',ok0',ok1',ok2',hn0',hn1'⟩:=hid'
  exact⟨_,_,_,_,rfl,rfl,ag.of hrr',bD,lf',_,_,_,rfl,rfl,ak.of hlf',cx,key _ _ ⟨w1,d'.2.1,_,_,rfl,t4.trans (s49.trans sA),hw1,by omega,ok1',uC d'.2.2 d'.2.1 hh1',fun z=>by omega⟩⟩
 rintro σ H6 ⟨yt,t,o8,o9,rfl,s6,ht,htn,hto,htw,hteq⟩
 refine⟨_,rfl,lf,_,_,_,rfl,rfl,ak.of (s6 _ _ hlf),bD,_,rfl,cq,fun tt ftt=>?_⟩
 have s7:=bz ftt (HO.tup [y0,yt])
 refine q tt y0 yt (d.1,t) _ (s01.trans (s3.trans (s6.trans s7))) au (hy0.mono (.of (s6.trans s7))) (ht.mono (.of s7)) ok0 hto (by show d.1.nodes+t.nodes<=60;omega) (uC d.2.2 d.1 hh0) htw (My (by show d.1.nodes+t.nodes<=36;omega)) fun z=>?_
 obtain rfl:=hteq z
 have hm40:=hm0 z
 subst hm40
 rw[<-hseen]at hh0 hh1
 have e0:=Fi (m:=40) (by omega) (by omega) hcall d.2.2 d.1 hh0
 have e1:=Fi (m:=40) (by omega) (by omega) hcall d.2.2 d.2.1 hh1
 exact⟨bJ fl,e0.trans e1.symm⟩
end
section
variable{P:aP}{w:aH}{K:aB}{mg:ac->Option aa}{base:aA}
inductive FI(vs:List V)(H:Hp)(Q:VK):Prop
 |mk:∀(d:Addr)(kvs:List (Key×V))(f:Fl),(vs=[.ref d])->(H d=some (.dK kvs))->(dw H kvs f)->((f.map (·.1)).Nodup)->(f.length<64)->((∀p∈f,p.2.dp<=90))->(∀(l:Addr)(ps:List V)(ss:List ac)(H':Hp),aq H H'->H l=none->H' l=some (.lst ps)->ss.Perm (f.map (·.1))->(ss.Pairwise fun a b=>a.cps.toList<b.cps.toList)->dW H' ps (cM f ss)->Q (.ref l) H')->FI vs H Q
def yz:Sp:=fun vs H Q _=>FI vs H Q
theorem MU{f0:Addr}{fd:bd}(F:bw K "filling_of" "filling_of" mt f0 fd)(TS:mg "sorted"=none):be P w K mg base bh 1 f0 fd ["terms"] yz:=by
 refine F.ok Ky (fun vs H Q E h=>?_) (fun cdv A outer s H vs Q E hr h=>?_)
 ·obtain⟨_,_,_,rfl,_⟩:=h
  rfl
 obtain⟨d,kvs,f,rfl,hd,hk,hnd,hlen,hsz,q⟩:=h
 have hun:=hr.un
 have hu:(A.deeper (gG "filling_of" (av mt) s.heap.objs.size f0 cdv)).units+1<cLine:=by omega
 refine⟨_,(al (ay (kU (Nc:=["word","terms"]) (k:=1) (js:=[0]) ⟨rfl,rfl,rfl,rfl,rfl,rfl⟩ (fi (bc (Jz rfl) TS JA (ad (pv 0) af))) (fun _ _ _ _=>cn (i:=0) (show (["word","terms"]:List ac).Nodup by decide +kernel) rfl (Or.inl rfl)) (fun _ _ _ _=>tu (aF Dr (nC hu (pv 1) (pv 0) (fun _ _=>rfl)) (bN (ad aO (ad (pv 0) af))) (aC _))) (fun _ _ _ _=>(bN (ad (pv 0) (ad (nC hu (pv 1) (pv 0) (fun _ _=>rfl)) af))))))),?_⟩
 refine⟨_,rfl,d,kvs,f.map (·.1),rfl,hd,hk.keys,by rw[zLM];exact hlen,fun ls ss hls hperm hpair=>?_⟩
 have hst:=JT hperm hnd hpair
 have hsl:ss.length=f.length:=by rw[hperm.length_eq,zLM]
 generalize e_:ae H ls (HO.lst (ss.map V.str))=H1
 obtain⟨s1,x1⟩:=aM hls e_
 refine⟨ls,rfl,⟨_,ak.of x1⟩,fun D hD C _ _ _=>wM (K:=K) (a:=ls) (xs:=ss.map V.str) (fun i σ H3=>∃(o:Option V)(qs:List V),σ=[o,some (.ref d)]/\aq H1 H3/\H3 D=some (.lst qs)/\dW H3 qs (cM f (ss.take i))/\qs.length<=i)
  ⟨none,[],rfl,bz hD _,au,.nil,aJ _⟩ (fun i σ H3 _ hI=>by obtain⟨_,_,_,s3,_⟩:=hI;exact s3.seq (ak.of x1)) ?_ ?_⟩
 ·rintro i x σ H3 hx ⟨o,qs,rfl,s3,g3,hf3,hql⟩
  have hi:i<ss.length:=by have:=(bI.mp hx).1;simpa using this
  have ex:x= .str ss[i]:=by
   rw[cV,zGE hi]at hx
   exact(cQ hx).symm
  subst ex
  have hmem:ss[i]∈f.map (·.1):=hperm.mem_iff.mp (zGM hi)
  obtain⟨t,ht⟩:=wV hmem
  have s13:=s1.trans s3
  obtain⟨v,hv,htv⟩:=((hk.mono (.of s13)).dof ss[i]).2 t ht
  have hd3:=s13 _ _ hd
  have hg3:db H3 d (.str ss[i]) (some v):=by
   have:=db.k (k:=Sum.inr ss[i]) hd3
   rw[hv]at this
   exact this
  have htn:=hsz _ (iH ht)
  refine⟨_,rfl,_,rfl,d,v,rfl,hg3,_,rfl,cq,fun g hg=>?_⟩
  generalize e_:ae H3 g (HO.tup [.str "blank",.str ss[i]])=H4
  obtain⟨s4,x4⟩:=aM hg e_
  have hd4:=s4 _ _ hd3
  have hg4:db H4 d (.str ss[i]) (some v):=by
   have:=db.k (k:=Sum.inr ss[i]) hd4
   rw[hv]at this
   exact this
  refine⟨t,.blank ss[i],htv.mono (.of s4),dU.mpr ⟨g,rfl,x4⟩,?_,fun b hb=>⟨_,rfl,bO (fun c=>?_) (fun c=>?_)⟩⟩
  ·have hdd:=tG t
   show (A.deeper _).units+t.dt.dep<cLine
   simp only at htn
   omega
  ·refine⟨_,rfl,_,rfl,_,rfl,d,v,rfl,hg4,cq,fun g2 hg2=>?_⟩
   generalize e_:ae H4 g2 (HO.tup [.str ss[i],v])=H5
   obtain⟨s5,x5⟩:=aM hg2 e_
   have s35:=s4.trans s5
   refine⟨_,s35 _ _ g3,big (by omega),?_⟩
   have k6:aV H5 (ae H5 D (HO.lst (qs++[.ref g2]))):= .lst (s35 _ _ g3)
   refine⟨_,_,rfl,fun b' ob z=>by rw[am (aN z hD)];exact s35 _ _ (s3 _ _ z),au,?_,by simp;omega⟩
   rw[zTS hi,wX,JR ht (hb.mp c)]
   exact dW.mono k6 ((hf3.mono (.of s35)).app ⟨g2,v,rfl,x5,htv.mono (.of s35)⟩)
  ·have et:t= .blank ss[i]:=jn fun z=>c (hb.mpr z)
   refine⟨_,qs,rfl,s3.trans s4,s4 _ _ g3,?_,by omega⟩
   rw[zTS hi,wX,JQ ht et,jG]
   exact hf3.mono (.of s4)
 ·rintro σ H3 ⟨o,qs,rfl,s3,g3,hf3,hql⟩
  rw[zLM,dL (aJ _)]at hf3
  exact q D qs ss H3 (s1.trans s3) (s1.free hD) g3 hperm hst hf3
end
section
variable{P:aP}{w:aH}{K:aB}{mg:ac->Option aa}{base:aA}{C:Addr}
inductive FJ(vs:List V)(H:Hp)(Q:VK):Prop
 |mk:∀(v1 v2:V)(g:Ln),(vs=[v1,v2])->(aw H v1 g.1)->(aw H v2 g.2)->(g.1.Ok)->(g.2.Ok)->(g.1.nodes+g.2.nodes<=60)->((∀(a lf lL ln:Addr)(ps ls:List V)(ns:List Nat)(f:Fl)(fs:List Lf)(H':Hp),aq H H'->H' a=some (.tup [.str "alike",.ref lf,.ref lL,.ref ln])->H' lf=some (.lst ps)->dW H' ps f->H' lL=some (.lst ls)->dX H' ls fs->H' ln=some (.lst (bE ns))->fz g f fs ns->eg g [] fs->(∀x∈fs,x.1.1∈bK g/\x.1.2∈bK g)->fs.length<=80000->Q (.ref a) H'))->((∀(a lL:Addr)(ls:List V)(m:Nat)(z:Lf)(fs:List Lf)(H':Hp),aq H H'->H' a=some (.tup [.str "clash",.ref lL,.int (m:Nat)])->H' lL=some (.lst ls)->dX H' ls fs->fs[m]?=some z->uj z.1.1 z.1.2->eg g [] fs->(∀x∈fs,x.1.1∈bK g/\x.1.2∈bK g)->fs.length<=80000->Q (.ref a) H'))->((∀(a lL ln:Addr)(ls:List V)(ns:List Nat)(R:List Ln)(fs:List Lf)(H':Hp),aq H H'->H' a=some (.tup [.str "ring",.ref lL,.ref ln])->H' lL=some (.lst ls)->dX H' ls fs->H' ln=some (.lst (bE ns))->ic fs ns R->tI R->ns.length<=1000->eg g [] fs->(∀x∈fs,x.1.1∈bK g/\x.1.2∈bK g)->fs.length<=80000->Q (.ref a) H'))->FJ vs H Q
def yA:Sp:=fun vs H Q _=>FJ vs H Q
theorem MV{f0:Addr}{fd:bd}(F:bw K "alike" "alike" mB f0 fd)(R:RG K C)(T:Bi mg)(n_Reckoning:wK P w K mg base 1 C "Reckoning" ["self","one","other"] (xM C))(m_work_out:cU P w K mg base 7 C "work_out" ["self"] (xT C))(c_lines_by_word:aG P w K mg base 5 "lines_by_word" ["reckoning","words"] (yf C))
 (c_blanks_of:aG P w K mg base 2 "blanks_of" ["term"] mK) (c_ends_by_word:aG P w K mg base 1 "ends_by_word" ["lines","numbers"] yi) (c_settled:aG P w K mg base 5 "settled" ["ends"] yl) (c_ring_of:aG P w K mg base 4 "ring_of" ["ends","terms"] ym) (c_filling_of:aG P w K mg base 1 "filling_of" ["terms"] yz):
 be P w K mg base bh 8 f0 fd ["one","other"] yA:=by
 refine F.ok oh (fun vs H Q E h=>?_) (fun cdv A outer s H vs Q E hr h=>?_)
 ·obtain⟨_,_,_,rfl,_⟩:=h
  rfl
 obtain⟨v1,v2,g,rfl,hv1,hv2,ho1,ho2,hsz,qA,qC,qR⟩:=h
 have hun:=hr.un
 have hu:(A.deeper (gG "alike" (av mB) s.heap.objs.size f0 cdv)).units+1<cLine:=by omega
 have hp1:=g.1.nodes_pos
 have hp2:=g.2.nodes_pos
 have hUl:(bK g).length<=60:=by unfold bK;rw[zLA,hV,hV];exact hsz
 apply aE;intro T1
 apply aE;intro T2
 apply aE;intro T3
 apply aE;intro T4
 apply aE;intro T5
 apply aE;intro T6
 apply aE;intro T7
 apply aE;intro T8
 apply aE;intro T9
 refine⟨_,(aj (az (i:=2) oh.nd (IW n_Reckoning (hr.mono (by decide)) (ad (pv 0) (ad (pv 1) af)))) (aD T9 (aj (cp (IV m_work_out (hr.mono (by decide)) (pv 2))) (aD T8 (aj (aK (aF nv (ef (pv 2) rfl) d9 (aC _)) (al (ay (bN (ad aO (ad (ef (pv 2) rfl) (ad (ef (pv 2) rfl) af)))))) aU) (aD T7 (aj (v6 (i:=3) oh.nd rfl (Or.inr rfl) (aY c_lines_by_word (hr.mono (by decide)) (ad (pv 2) (ad (aZ jS (aY c_blanks_of (hr.mono (by decide)) (ad (pv 0) af)) (aY c_blanks_of (hr.mono (by decide)) (ad (pv 1) af))) af)))) (aD T6 (aj (az (i:=4) oh.nd (aY c_ends_by_word (hr.mono (by decide)) (ad (ef (pv 2) rfl) (ad (pv 3) af)))) (aD T5 (aj (az (i:=5) oh.nd (aY c_settled (hr.mono (by decide)) (ad (pv 4) af))) (aD T4 (aj (aK (aF lN (bc BX T.b_len cj (ad (pv 5) af)) (bc BX T.b_len cj (ad (pv 4) af)) (aC _)) (aD T1 (al (ay (bN (ad aO (ad (ef (pv 2) rfl) (ad (kU (Nc:=["word","numbers"]) (k:=1) (js:=[3]) ⟨rfl,rfl,rfl,rfl,rfl,rfl⟩ (fi (aY c_ring_of (hr.mono (by decide)) (ad (pv 4) (ad (pv 5) af)))) (fun _ _ _ _=>cn (i:=0) (show (["word","numbers"]:List ac).Nodup by decide +kernel) rfl (Or.inl rfl)) (fun _ _ _ _=>nE) (fun _ _ _ _=>(nC hu (pv 1) (pv 0) (fun _ _=>rfl)))) af))))))) aU) (aD T3 (aj (az (i:=6) oh.nd (aY c_filling_of (hr.mono (by decide)) (ad (pv 5) af))) (aD T2 (al (ay (bN (ad aO (ad (pv 6) (ad (ef (pv 2) rfl) (ad (kU (Nc:=["pair","numbers"]) (k:=1) (js:=[3]) ⟨rfl,rfl,rfl,rfl,rfl,rfl⟩ (fi (pv 6)) (fun _ _ _ _=>cn (i:=0) (show (["pair","numbers"]:List ac).Nodup by decide +kernel) rfl (Or.inl rfl)) (fun _ _ _ _=>nE) (fun _ _ _ _=>(nC hu (pv 1) (ao (pv 0)) (fun _ _=>rfl)))) af))))))))))))))))))))))),?_⟩
 refine⟨_,rfl,_,rfl,fun p dx fp fdx ndx=>?_⟩
 have k0:∀b o,H b=some o->ae (ae H dx (HO.own p)) p (HO.ins C dx []) b=some o:=fun b o e=>by rw[am (aN e fp),am (aN e fdx)];exact e
 have s0:aq H (ae (ae H dx (HO.own p)) p (HO.ins C dx [])):=k0
 refine⟨p,dx,v1,v2,g,rfl,au,hv1.mono (.of s0),hv2.mono (.of s0),ho1,ho2,by omega,by omega,fun L O H1 fL fO kk hk=>⟨rfl,?_⟩⟩
 have s1:aq H H1:=fun b o e=>kk b o (s0 _ _ e) (aN e fp)
 have fL0:H L=none:=s0.free fL
 have fO0:H O=none:=s0.free fO
 clear kk fL fO s0 k0
 refine⟨_,rfl,p,dx,_,rfl,hk.self,dY (by decide +kernel) (by decide +kernel) (by decide +kernel),p,dx,L,O,g,rfl,hk,by omega,fun H2 fs on cl f2 k2 hst=>?_⟩
 have s2:aq H H2:=fun b o e=>f2 b o (s1 _ _ e) (aN e fp) (aN e fL0) (aN e fO0)
 rcases hst with⟨rfl,hinv⟩|⟨m,z,rfl,hz,hcl⟩
 rotate_left
 ·refine⟨_,rfl,p,C,dx,_,_,rfl,k2.self,R.cl,R.nc,tT,rfl,_,rfl,iV (by simp) ?_⟩
  refine⟨_,rfl,p,C,dx,_,_,rfl,k2.self,R.cl,R.nl,fP,_,rfl,p,C,dx,_,_,rfl,k2.self,R.cl,R.nc,tT,gv,fun a fa=>?_⟩
  have t3:=bz fa (HO.tup [.str "clash",.ref L,.int (m:Nat)])
  have k3:=k2.same t3
  obtain⟨ls,gL,hls⟩:=k3.ls
  exact qC a L ls m z fs _ (s2.trans t3) au gL hls hz hcl k3.st.snd k3.st.inU (by have:=k3.len;omega)
 refine⟨_,rfl,p,C,dx,_,_,rfl,k2.self,R.cl,R.nc,tT,rfl,_,rfl,fQ ?_⟩
 refine⟨_,rfl,_,rfl,v1,g.1,rfl,hv1.mono (.of s2),by omega,fun l1 H3 s3 g3=>⟨_,rfl,v2,g.2,rfl,hv2.mono (.of (s2.trans s3)),by omega,fun l2 H4 s4 g4=>?_⟩⟩
 have hb1:=mh g.1
 have hb2:=mh g.2
 have hf1:=qO g.1
 have hf2:=qO g.2
 refine⟨l1,l2,_,_,rfl,rfl,s4 _ _ g3,g4,eP (by simp only[zLM];omega),fun lw flw=>?_⟩
 rw[<-zMA]
 generalize e_:ae H4 lw (HO.lst ((g.1.firsts++g.2.firsts).map V.str))=H5
 obtain⟨t5,x5⟩:=aM flw e_
 have s25:=s3.trans (s4.trans t5)
 have k5:=k2.same s25
 have nlw:lw≠L:=fun y=>by
  obtain⟨ls,gL,_⟩:=(k2.same (s3.trans s4)).ls
  rw[y,gL]at flw
  cases flw
 have hwl:(g.1.firsts++g.2.firsts).length<=60:=by rw[zLA];omega
 have hmul:(g.1.firsts++g.2.firsts).length * (2 * (bK g).length)<=60 * 120:=Nat.mul_le_mul hwl (by omega)
 have hws:∀x,x∈g.1.firsts++g.2.firsts↔x∈g.1.bl\/x∈g.2.bl:=fun x=>by rw[bR,ld,ld]
 refine⟨p,dx,L,O,g,bK g,fs,on,.non,60000,lw,g.1.firsts++g.2.firsts,rfl,k5,x5,nlw,fun x hx=>yg.mpr ((hws x).mp hx),hinv.tot,by omega,by omega,fun d kvs ks H6 fs6 on6 f6 k6 hext hkeep fd0 gd hds hdom hval=>?_⟩
 have s6:aq H H6:=fun b o e=>f6 b o ((s2.trans s25) _ _ e) (aN e fp) (aN e fL0) (aN e fO0)
 have hinv6:=hkeep.inv _ hinv
 have hksl:ks.length<=60:=dJ (jb hds.nd fun x hx=>((hdom x).mp hx).1) hwl
 obtain⟨NE,hNE⟩:∃NE:ac->Nat×Tm,∀x,x∈ks->∃z k,bQ kvs (Sum.inr x)=some (.int ((NE x).1:Nat))/\fs6[(NE x).1]?=some z/\z.1=(.blank x,(NE x).2)/\a0 (bg fs on) k (.blank x) (NE x).2:=by
  have hq:∀x,∃ne:Nat×Tm,x∈ks->∃z k,bQ kvs (Sum.inr x)=some (.int (ne.1:Nat))/\fs6[ne.1]?=some z/\z.1=(.blank x,ne.2)/\a0 (bg fs on) k (.blank x) ne.2:=fun x=>by
   by_cases c:x∈ks
   ·obtain⟨n,z,e,k,h1,h2,h3,h4⟩:=hval x c
    exact⟨(n,e),fun _=>⟨z,k,h1,h2,h3,h4⟩⟩
   ·exact⟨(0,.num 0),fun h=>absurd h c⟩
  exact⟨fun x=>Classical.choose (hq x),fun x=>Classical.choose_spec (hq x)⟩
 have hEU:∀x∈ks,(NE x).2∈bK g:=fun x hx=>by
  obtain⟨z,k,_,h2,h3,_⟩:=hNE x hx
  have:=(k6.st.inU z (zMG h2)).2
  rw[h3]at this
  exact this
 have hEO:kj g (bg fs6 on6) ks (fun x=>(NE x).2):=by
  refine⟨hds.nd,fun x=>?_,fun x hx=>?_,hEU,fun x hx=>?_⟩
  ·rw[hdom x,hws x]
   exact and_congr_right fun _=>(not_congr (hkeep.non (.blank x))).symm
  ·obtain⟨z,k,_,_,_,h4⟩:=hNE x hx
   exact hkeep.rch _ _ _ h4
  ·cases y:bg fs6 on6 (.blank x)with
   |none=>exact absurd y hx
   |some u=>exact yg.mp (xl k6.st y).1
 obtain⟨ls,gL,hls⟩:=k6.ls
 refine⟨_,rfl,p,C,dx,_,_,rfl,k6.self,R.cl,R.nl,fP,_,rfl,L,ls,fs6,d,kvs,ks,fun x=>(NE x).2,rfl,gL,hls,gd,hds,fun x hx=>?_,by omega,fun de ke H7 s7 fde gde hke=>?_⟩
 ·obtain⟨z,k,h1,h2,h3,_⟩:=hNE x hx
  exact⟨_,z,h1,h2,by rw[h3]⟩
 have heA:mL H7 de ke (dZ ks fun x=>(NE x).2):=by
  refine⟨gde,hke,by rw[Mc];exact hds.nd,fun q hq=>?_,by simp[dZ];omega⟩
  obtain⟨x,hx,rfl⟩:=bL.mp hq
  exact(k6.ok _ (hEU x hx)).2
 refine⟨_,rfl,de,ke,_,rfl,heA,fun dt kt f H8 s8 fdt gdt hkt hst hrdy=>?_⟩
 have he8:=heA.same s8
 have s68:=s7.trans s8
 have k8:=k6.same s68
 have gd8:=s68 _ _ gd
 have nedt:de≠dt:=aN gde fdt
 have hel:(dZ ks fun x=>(NE x).2).length=ks.length:=by simp[dZ]
 have hkel:=he8.kv.len
 have hktl:=hkt.len
 have hin:=hst.inv
 have hfk:∀x∈f.map (·.1),x∈ks:=fun x hx=>by
  obtain⟨q,hq,rfl⟩:=bL.mp hx
  obtain⟨e,h1,_⟩:=hin.2 q hq
  rw[ki]at h1
  split at h1
  ·rename_i c;exact c
  ·cases h1
 obtain⟨ls8,gL8,hls8⟩:=k8.ls
 have hlenf:=k8.len
 refine⟨_,rfl,dt,kt,rfl,gdt,_,rfl,de,ke,rfl,he8.at',_,_,rfl,rfl,_,rfl,bO (fun c=>?_) (fun c=>?_)⟩
 ·have c':(kt.length:Int)<(ke.length:Int):=of_decide_eq_true c
  have hex:∃q∈dZ ks (fun x=>(NE x).2),look f q.1=none:=by
   refine jn fun hno=>?_
   have:ks.length<=(f.map (·.1)).length:=jb hds.nd fun x hx=>by
        refine qP.mp fun y=>hno ⟨(x,(NE x).2),bL.mpr ⟨x,hx,rfl⟩,y⟩
   rw[zLM]at this
   omega
  refine⟨_,rfl,p,C,dx,_,_,rfl,k8.self,R.cl,R.nl,fP,_,rfl,_,rfl,de,ke,_,dt,kt,f,rfl,he8,gdt,hkt,nedt,hrdy,hex,fun lr ws H9 s9 flr glr hring hwsl=>⟨lr,rfl,⟨_,ak.of glr⟩,fun D fD _ _ _ _=>?_⟩⟩
  have gd9:=s9 _ _ gd8
  have hws9:∀x∈ws,x∈ks:=fun x hx=>by
   obtain⟨i,hi,rfl⟩:=kI.mp hx
   obtain⟨e,h1,_⟩:=hring.2 i hi
   rw[ki]at h1
   split at h1
   ·rename_i c;exact c
   ·cases h1
  refine let I1:Nat->L2.St->Hp->Prop:=(fun n σ HX=>∃(o:Option V),σ=[o,some (.ref d)]/\aq H9 HX/\HX D=some (.lst (bE ((ws.take n).map fun x=>(NE x).1))));qf (K:=K) (a:=lr) (xs:=ws.map V.str) I1 ⟨none,rfl,bz fD _,au⟩ (fun n σ HX _ hI=>by obtain⟨_,_,sX,_⟩:=hI;exact sX.seq (ak.of glr)) ?_ ?_
  ·rintro n y σ HX hy ⟨o,rfl,sX,gD⟩
   have hi:n<ws.length:=by have:=(bI.mp hy).1;simpa using this
   have ey:y= .str ws[n]:=by
        rw[cV,zGE hi]at hy
        exact(cQ hy).symm
   subst ey
   obtain⟨z,k,h1,_⟩:=hNE _ (hws9 _ (zGM hi))
   have hget:db HX d (.str ws[n]) (some (.int ((NE ws[n]).1:Nat))):=by
        have:=db.k (k:=Sum.inr ws[n]) (sX _ _ gd9)
        rw[h1]at this
        exact this
   refine⟨_,rfl,_,rfl,d,_,rfl,hget,_,gD,big (by simp[bE];omega),?_⟩
   refine⟨_,rfl,fun b ob z=>by rw[am (aN z fD)];exact sX _ _ z,?_⟩
   rw[au,zTS hi]
   simp only[bE,zMA,bP,jk]
  ·rintro σ HX ⟨o,rfl,sX,gD⟩
   rw[zLM,dL (aJ _)]at gD
   refine⟨gv,fun a fa=>?_⟩
   have t9:=bz fa (HO.tup [.str "ring",.ref L,.ref D])
   have s8Z:=s9.trans (sX.trans t9)
   refine qR a L D ls8 (ws.map fun x=>(NE x).1) (ws.map fun x=>(.blank x,(NE x).2)) fs6 _ (s6.trans (s68.trans s8Z)) au (s8Z _ _ gL8) (dX.mono (.of s8Z) hls8) (t9 _ _ gD) ?_ (Mf hEO hring.1 hring.2) (by rw[zLM];exact hwsl) k8.st.snd k8.st.inU (by omega)
   have:∀l:List ac,(∀x∈l,x∈ks)->ic fs6 (l.map fun x=>(NE x).1) (l.map fun x=>(.blank x,(NE x).2)):=fun l hl=>by
        induction l with
        |nil=>exact .nil
        |cons x r ih=>
         obtain⟨z,k,_,h2,h3,_⟩:=hNE x (hl x (by simp))
         exact .cons ⟨z,h2,h3⟩ (ih fun y hy=>hl y (by simp[hy]))
   exact this ws hws9
 ·have c':¬(kt.length:Int)<(ke.length:Int):=fun z=>c (decide_eq_true z)
  have hall:∀x∈ks,x∈f.map (·.1):=fun x hx=>jn fun hno=>by
   have hnd:(x::f.map (·.1)).Nodup:=iN.mpr ⟨hno,hin.1⟩
   have:=jb hnd (m:=ks) fun y hy=>by
        rcases bF.mp hy with z|z
        ·rw[z];exact hx
        ·exact hfk y z
   simp only[zLC,zLM]at this
   omega
  have hcov:=hEO.cov hst hall
  have hfl:f.length<=60:=by
   have:=jb hin.1 hfk
   rw[zLM]at this
   omega
  refine⟨_,rfl,dt,kt,f,rfl,gdt,hkt,hin.1,by omega,fun q hq=>?_,fun lf ps ss H9 s9 flf glf hperm hrise hfill=>?_⟩
  ·obtain⟨e,h1,h2,_⟩:=hin.2 q hq
   have hx:=hfk q.1 (bL.mpr ⟨q,hq,rfl⟩)
   rw[ki,if_pos hx]at h1
   cases h1
   have:=hcov.deep (hEU _ hx)
   rw[h2,gP]
   omega
  have hA:=Me (num:=fun x=>(NE x).1) k6.st hinv6 hEO (fun x hx=>by
   obtain⟨z,k,_,h2,h3,_⟩:=hNE x hx
   exact⟨z,h2,h3⟩) hst hall hperm hrise
  have hfil:∀q∈cM f ss,q.1∈ks:=fun q hq=>hfk _ (hperm.mem_iff.mp (j4 hq).1)
  generalize cM f ss=ff at hfill hA hfil
  have hpl:=hfill.len
  have hff:ff.length<=60:=by
   have hnd:(ff.map (·.1)).Nodup:=by
        rw[rK,pA]
        exact hA.rise.imp fun h e=>by rw[e]at h;exact absurd h (vn _)
   have:=jb hnd (m:=ks) fun x hx=>by
        obtain⟨q,hq,rfl⟩:=bL.mp hx
        exact hfil q hq
   rw[zLM]at this
   omega
  have gd9:=s9 _ _ gd8
  refine⟨_,rfl,_,rfl,p,C,dx,_,_,rfl,(k8.same s9).self,R.cl,R.nl,fP,_,rfl,lf,rfl,⟨_,ak.of glf⟩,fun D fD _ _ _ _=>?_⟩
  refine let I2:Nat->L2.St->Hp->Prop:=(fun n σ HX=>∃(o:Option V),σ=[o,some (.ref d)]/\aq H9 HX/\HX D=some (.lst (bE ((ff.take n).map fun q=>(NE q.1).1))));qf (K:=K) (a:=lf) (xs:=ps) I2 ⟨none,rfl,bz fD _,au⟩ (fun n σ HX _ hI=>by obtain⟨_,_,sX,_⟩:=hI;exact sX.seq (ak.of glf)) ?_ ?_
  ·rintro n y σ HX hy ⟨o,rfl,sX,gD⟩
   obtain⟨hi,ey⟩:=bI.mp hy
   have hi':n<ff.length:=by omega
   obtain⟨b,v,eb,hb0,_⟩:=hfill.get n hi hi'
   rw[ey]at eb
   subst eb
   obtain⟨z,k,h1,_⟩:=hNE _ (hfil _ (zGM hi'))
   have hget:db HX d (.str ff[n].1) (some (.int ((NE ff[n].1).1:Nat))):=by
        have:=db.k (k:=Sum.inr ff[n].1) (sX _ _ gd9)
        rw[h1]at this
        exact this
   refine⟨_,rfl,_,rfl,_,_,_,_,rfl,rfl,ag.of (sX _ _ hb0),bD,d,_,rfl,hget,_,gD,big (by simp[bE];omega),?_⟩
   refine⟨_,rfl,fun b ob z=>by rw[am (aN z fD)];exact sX _ _ z,?_⟩
   rw[au,zTS hi']
   simp only[bE,zMA,bP,jk]
  ·rintro σ HX ⟨o,rfl,sX,gD⟩
   rw[dL (by omega)]at gD
   refine⟨D2,fun a fa=>?_⟩
   have t9:=bz fa (HO.tup [.str "alike",.ref lf,.ref L,.ref D])
   have s9Z:=sX.trans t9
   have s8Z:=s9.trans s9Z
   exact qA a lf L D ps ls8 _ ff fs6 _ (s6.trans (s68.trans s8Z)) au (s9Z _ _ glf) (hfill.mono (.of s9Z)) (s8Z _ _ gL8) (dX.mono (.of s8Z) hls8) (t9 _ _ gD) hA k8.st.snd k8.st.inU (by omega)
end
theorem MW(ns:List Int)(i j:Nat):∃ms:List Int,eu (ns.map V.int) (some (i:Int)) (some (j:Int))=ms.map V.int/\ms.length<=ns.length/\ms.length<=j - i:=by
 unfold eu
 rw[HT.sIx_nat,HT.sIx_nat]
 refine⟨(ns.drop (min i (ns.map V.int).length)).take (min j (ns.map V.int).length - min i (ns.map V.int).length),by rw[vx,vq],?_,?_⟩<;>rw[zLT,dD]<;>simp only[zLM]<;>omega
theorem MX{g:Ln}{f:Fl}{fs:List Lf}{ns:List Nat}(h:fz g f fs ns)(ok1:g.1.Ok)(ok2:g.2.Ok)(hn:g.1.nodes+g.2.nodes<=60)(hb:(g.1.fill f).nodes<=5000000):oW f/\(g.1.fill f).dp<=90/\f.length<=1000:=by
 refine⟨⟨fun p hp=>⟨(h.keys p hp).elim (Fm ok1 _) (Fm ok2 _),h.ok h.nodup (Ms ok1 ok2) hp,?_,?_,h.own p hp⟩,h.rise⟩,?_,?_⟩
 ·have:=(h.vals hp).1;omega
 ·have:=(h.vals hp).2;omega
 ·have:=h.deep1;omega
 ·have:=jb h.nodup (m:=g.1.bl++g.2.bl) fun x hx=>by
   obtain⟨p,hp,rfl⟩:=bL.mp hx
   exact bR.mpr (h.keys p hp)
  rw[zLM,zLA]at this
  have:=mh g.1
  have:=mh g.2
  omega
section
variable{P:aP}{w:aH}{K:aB}{mg:ac->Option aa}{base:aA}
theorem oZ{g:Ln}{t:Tm}(hn:g.1.nodes+g.2.nodes<=60)(h:t∈bK g):t.nodes<=80:=by
 rcases bR.mp h with z|z<;>have:=tJ z<;>omega
inductive FK(K:aB)(vs:List V)(H:Hp)(Q:VK):Prop
 |mk:∀(a:Addr)(ns:List Int),(vs=[.ref a])->(ak K H a (ns.map V.int))->(ns.length<=63)->(∀H',Q (.bl true) H')->FK K vs H Q
def uF(K:aB):Sp:=fun vs H Q _=>FK K vs H Q
theorem MY{f0:Addr}{fd:bd}(F:bw K "law" "law" kg f0 fd)(T:Bi mg)(c__law_couple:aG P w K mg base 4 "_law_couple" ["_law_script","_law_cells"] (yy K))(c__law_room:aG P w K mg base 1 "_law_room" ["_law_script","_law_most","_law_bound"] (yn K))(c_alike:aG P w K mg base 8 "alike" ["one","other"] yA)
 (c__law_asked_for:aG P w K mg base 6 "_law_asked_for" ["_law_found","_law_one","_law_other"] yq) (c_filled:aG P w K mg base 3 "filled" ["term","filling"] yr) (c__law_fill:aG P w K mg base 2 "_law_fill" ["_law_term","_law_pairs"] qL) (c__law_so:aG P w K mg base 1 "_law_so" ["_law_found","_law_due"] ux)
 (c__law_refusal:aG P w K mg base 4 "_law_refusal" ["_law_found","_law_one","_law_other"] yp):be P w K mg base bh 9 f0 fd ["_law_script"] (uF K):=by
 refine F.ok oT (fun vs H Q E h=>?_) (fun cdv A outer s H vs Q E hr h=>?_)
 ·obtain⟨a,ns,rfl,_⟩:=h
  rfl
 obtain⟨a,ns,rfl,hS,h63,q⟩:=h
 refine⟨_,(aj (az (i:=1) oT.nd (aY c__law_couple (hr.mono (by decide)) (ad (pv 0) (ad (fS gZ (pv 0) (fK ax) (fK (aZ kP ax (aY c__law_room (hr.mono (by decide)) (ad (pv 0) (ad ax (ad ax af))))))) af))))
  (aj (az (i:=2) oT.nd (aY c_alike (hr.mono (by decide)) (ad (ao (pv 1)) (ad (ao (pv 1)) af))))
  (aj (aK (cv (cK (cf (bc cW T.b_isinstance cT (ad (pv 2) (ad (cO T.b_tuple fM) af))))) (cv (aF lN (bc cm T.b_len cj (ad (pv 2) af)) ax (aC _)) (dF (cK (cf (bc cW T.b_isinstance cT (ad (ao (pv 2)) (ad (cO T.b_str jY) af)))))))).pt (al (ay bU)) aU)
  (aj (aK (aF bM (ao (pv 2)) aO (aC _)) (aj (aK (cv (aF eN (bc cm T.b_len cj (ad (pv 2) af)) ax (aC _)) (dF (cK (cf (aY c__law_asked_for (hr.mono (by decide)) (ad (pv 2) (ad (ao (pv 1)) (ad (ao (pv 1)) af)))))))).pt (al (ay bU)) aU)
        (aj (az (i:=3) oT.nd (aY c_filled (hr.mono (by decide)) (ad (ao (pv 1)) (ad (gM sL T.b_list gm (ad (ao (pv 2)) af)) af))))
        (aj (az (i:=4) oT.nd (aY c_filled (hr.mono (by decide)) (ad (ao (pv 1)) (ad (gM sL T.b_list gm (ad (ao (pv 2)) af)) af))))
        (aj (az (i:=5) oT.nd (aY c__law_fill (hr.mono (by decide)) (ad (ao (pv 1)) (ad (ao (pv 2)) af))))
        (al (ay (sh (aY c__law_so (hr.mono (by decide)) (ad (pv 3) (ad (pv 5) af))) (nq (aY c__law_so (hr.mono (by decide)) (ad (pv 4) (ad (pv 5) af))))))))))) aU)
  (al (ay (aY c__law_refusal (hr.mono (by decide)) (ad (pv 2) (ad (ao (pv 1)) (ad (ao (pv 1)) af)))))))))),?_⟩
 obtain⟨ms,ems,hms,hms'⟩:∃ms:List Int,eu (ns.map V.int) (some (2:Int)) (some ((2:Int)+16))=ms.map V.int/\ms.length<=ns.length/\ms.length<=18 - 2:=MW ns 2 18
 refine⟨_,rfl,_,rfl,_,rfl,_,rfl,a,ns,16,36,rfl,hS,h63,_,_,rfl,rfl,_,rfl,a,_,rfl,hS,fun lc hlc=>?_⟩
 rw[ems]
 generalize e_:ae H lc (HO.lst (ms.map V.int))=H1
 obtain⟨s1,x1⟩:=aM hlc e_
 refine⟨a,lc,ns,ms,rfl,s1.seq hS,x1,by omega,fun t v1 v2 g H2 s2 ht h1 h2 ok1 ok2 hn w1 w2 hwt hsol=>?_⟩
 refine⟨_,rfl,_,_,_,_,rfl,rfl,ag.of ht,bD,_,rfl,_,_,_,_,rfl,rfl,ag.of ht,cx,v1,v2,g,rfl,h1,h2,ok1,ok2,hn,?_,?_,?_⟩
 ·intro b lf lL ln ps ls ns' f fs H4 s4 hb hlf hfill hlL hls hln hA hsnd hinU hfsl
  have hbig:(g.1.fill f).nodes<=2600000:=by rw[gP];exact hA.big hwt Fj.1
  obtain⟨fok,dp,len⟩:=MX hA ok1 ok2 hn (by omega)
  refine⟨_,rfl,_,_,_,_,rfl,.tup hb,.tt,_,rfl,bf ⟨_,rfl,b,_,rfl,.inr (ag.of hb),_,_,rfl,rfl,_,rfl,fQ ⟨_,rfl,_,_,_,_,rfl,rfl,ag.of hb,bD,_,_,_,_,rfl,.str _,.ss,_,rfl,bf ?_⟩⟩⟩
  refine⟨_,rfl,_,_,_,_,rfl,rfl,ag.of hb,bD,rfl,_,rfl,cZ ?_⟩
  have ht4:=s4 _ _ ht
  refine⟨_,rfl,b,_,rfl,.inr (ag.of hb),rfl,_,rfl,fQ ?_⟩
  refine⟨_,rfl,_,rfl,_,_,_,_,rfl,rfl,ag.of ht4,bD,_,rfl,_,_,_,_,rfl,rfl,ag.of ht4,cx,b,lf,lL,ln,v1,v2,g,ps,ls,ns',f,fs,rfl,hb,h1.mono (.of s4),h2.mono (.of s4),hlf,hfill,hlL,hls,hln,hA,hsnd,hfsl,fun p hp=>⟨oZ hn (hinU p hp).1,oZ hn (hinU p hp).2⟩,hn,fok,dp,len,fun H5 s5=>⟨_,rfl,bf ?_⟩⟩
  have s25:=s4.trans s5
  refine⟨_,rfl,_,_,_,_,rfl,rfl,ag.of (s25 _ _ ht),bD,_,rfl,_,_,_,_,rfl,rfl,ag.of (s5 _ _ hb),cx,lf,ps,rfl,.inl (ak.of (s5 _ _ hlf)),fun l1 fl1=>?_⟩
  generalize e_:ae H5 l1 (HO.lst ps)=H6
  obtain⟨s6,x6⟩:=aM fl1 e_
  have s46:=s5.trans s6
  have s26:=s4.trans s46
  refine⟨v1,g.1,l1,ps,f,rfl,h1.mono (.of s26),by omega,x6,hfill.mono (.of s46),hA.nodup,len,fun m1 H7 s7 hm1=>?_⟩
  have s47:=s46.trans s7
  have s27:=s4.trans s47
  refine⟨_,rfl,_,_,_,_,rfl,rfl,ag.of (s27 _ _ ht),cx,_,rfl,_,_,_,_,rfl,rfl,ag.of (s47 _ _ hb),cx,lf,ps,rfl,.inl (ak.of (s47 _ _ hlf)),fun l2 fl2=>?_⟩
  generalize e_:ae H7 l2 (HO.lst ps)=H8
  obtain⟨s8,x8⟩:=aM fl2 e_
  have s48:=s47.trans s8
  have s28:=s4.trans s48
  refine⟨v2,g.2,l2,ps,f,rfl,h2.mono (.of s28),by omega,x8,hfill.mono (.of s48),hA.nodup,len,fun m2 H9 s9 hm2=>?_⟩
  rw[<-hA.same]at hm2
  have s49:=s48.trans s9
  have s29:=s4.trans s49
  refine⟨_,rfl,_,_,_,_,rfl,rfl,ag.of (s29 _ _ ht),bD,_,rfl,_,_,_,_,rfl,rfl,ag.of (s49 _ _ hb),cx,v1,g.1,lf,ps,f,rfl,h1.mono (.of s29),by omega,s49 _ _ hlf,hfill.mono (.of s49),hA.nodup,fun m3 HA sA hm3=>?_⟩
  have hsz:(g.1.fill f).dt.size<=11000000:=by have:=wS (g.1.fill f);omega
  refine⟨_,rfl,_,rfl,m1,m3,_,rfl,hm1.mono (.of (s8.trans (s9.trans sA))),hm3,hsz,fun HB sB=>⟨_,rfl,g9 ?_⟩⟩
  exact⟨_,rfl,_,rfl,m2,m3,_,rfl,hm2.mono (.of (sA.trans sB)),hm3.mono (.of sB),hsz,fun HC sC=>q _⟩
 ·intro b lL ls m z fs H4 s4 hb hlL hls hz hcl hsnd hinU hfsl
  have ht4:=s4 _ _ ht
  refine⟨_,rfl,_,_,_,_,rfl,.tup hb,.tt,_,rfl,bf ⟨_,rfl,b,_,rfl,.inr (ag.of hb),_,_,rfl,rfl,_,rfl,fQ ⟨_,rfl,_,_,_,_,rfl,rfl,ag.of hb,bD,_,_,_,_,rfl,.str _,.ss,_,rfl,bf ?_⟩⟩⟩
  refine⟨_,rfl,_,_,_,_,rfl,rfl,ag.of hb,bD,rfl,_,rfl,bj ?_⟩
  exact⟨_,rfl,_,rfl,_,_,_,_,rfl,rfl,ag.of ht4,bD,_,rfl,_,_,_,_,rfl,rfl,ag.of ht4,cx,b,lL,v1,v2,_,_,g,ls,fs,rfl,hb,h1.mono (.of s4),h2.mono (.of s4),hlL,hls,hsnd,hfsl,fun p hp=>⟨oZ hn (hinU p hp).1,oZ hn (hinU p hp).2⟩,.inl ⟨m,z,rfl,rfl,hz,hcl⟩,q⟩
 ·intro b lL ln ls ns' R fs H4 s4 hb hlL hls hln hnums hR hnl hsnd hinU hfsl
  have ht4:=s4 _ _ ht
  refine⟨_,rfl,_,_,_,_,rfl,.tup hb,.tt,_,rfl,bf ⟨_,rfl,b,_,rfl,.inr (ag.of hb),_,_,rfl,rfl,_,rfl,fQ ⟨_,rfl,_,_,_,_,rfl,rfl,ag.of hb,bD,_,_,_,_,rfl,.str _,.ss,_,rfl,bf ?_⟩⟩⟩
  refine⟨_,rfl,_,_,_,_,rfl,rfl,ag.of hb,bD,rfl,_,rfl,bj ?_⟩
  exact⟨_,rfl,_,rfl,_,_,_,_,rfl,rfl,ag.of ht4,bD,_,rfl,_,_,_,_,rfl,rfl,ag.of ht4,cx,b,lL,v1,v2,_,_,g,ls,fs,rfl,hb,h1.mono (.of s4),h2.mono (.of s4),hlL,hls,hsnd,hfsl,fun p hp=>⟨oZ hn (hinU p hp).1,oZ hn (hinU p hp).2⟩,.inr ⟨ln,ns',R,rfl,rfl,hln,hnums,hR,hnl⟩,q⟩
end
end K07
namespace PySem.W.Fast
def tw3037761674048680106:=0
def tw8593784074711963445:=0
def tw13541529194594978100:=0
def tw3805968753078051152:=0
def tw10078641912980249446:=0
def tw1639342029035053402:=0
def tw4149308585527566961:=0
def tw7920793401458674740:=0
def tw7221746675942538047:=0
def tw3786220053716747354:=0
def tw13933359221972632308:=0
def tw14326423990899671558:=0
def tw6947363270242151744:=0
def tw8394791422405280948:=0
def tw2591999981208316721:=0
def tw15923453814998084491:=0
def tw13812227416731297859:=0
def tw7358467094509851738:=0
def tw2334117729346239783:=0
def tw14170194103717943897:=0
def tw830742534373613108:=0
def tw17458207310912278629:=0
def tw2487731616884031666:=0
def tw10711556260488165472:=0
def tw1789269978426850827:=0
def tw1708359504613979188:=0
def tw4004769932142916051:=0
def tw3186338746833076514:=0
def tw16779621011665992109:=0
def tw11523029834492192802:=0
def tw2346244310443543319:=0
def tw15840262935831154227:=0
def tw18278182571490246408:=0
def tw18302140969827734087:=0
def tw1666665683049989912:=0
def tw13403850548220389814:=0
def tw8968033291196280531:=0
def tw1489395453430594764:=0
def tw14011577014307334057:=0
def tw1796784890495135648:=0
def tw1050647328450355998:=0
def tw10319606792151873679:=0
def tw4525223459504748209:=0
def tw8511186752876880557:=0
def tw15998299271237788669:=0
def tw1621270773265647251:=0
def tw1163962494119331929:=0
def tw4896785455588013620:=0
def tw7855740215603049410:=0
def tw11671359217147027864:=0
def tw862793920862141690:=0
def tw13129293924108073641:=0
def tw11730445344044661166:=0
def tw11607909124523575709:=0
def tw1818292343241829679:=0
def tw4516743140632677252:=0
def tw14699801011287338998:=0
def tw11170230519480201852:=0
def tw3748660996747646680:=0
def tw7299709779030871744:=0
def tw10310097235821541594:=0
def tw10269486298950564416:=0
def tw2399257087532309480:=0
def tw6156986846761404618:=0
def tw7973524867437062561:=0
def tw9649743699561187253:=0
def tw15551171648236687761:=0
def tw3806025495118980143:=0
def tw11595558951183803138:=0
def tw10475200534549159545:=0
def tw13198357925975403352:=0
def tw14077093058284815771:=0
def tw15518925150900406852:=0
def tw9760369488888966173:=0
def tw10772882411169693934:=0
def tw17032357108400139499:=0
def tw2260532742957696549:=0
def tw11818782140648967793:=0
def tw612983802319991972:=0
def tw10525698820823449613:=0
def tw6607679579349985703:=0
def tw7960275864920900927:=0
def tw7008599340637725456:=0
def tw18119778297880107393:=0
def tw1049066329423341632:=0
def tw5951341448440607347:=0
def tw9936808981170911773:=0
def tw5548411016733218109:=0
def tw5441004543829029919:=0
def tw12623598804969297690:=0
def tw5201422719385697664:=0
def tw3047869610196045665:=0
def tw12534668636307686092:=0
def tw8224613270220425442:=0
def tw7338411682291244868:=0
def tw6311626431173434272:=0
def tw7159417729345069205:=0
def tw10329353944916608593:=0
def tw12566161349464025511:=0
def tw17033513257634743280:=0
def tw12201158216858916210:=0
def tw4792008321467795289:=0
def tw12168954378627553166:=0
def tw9586262822364169006:=0
def tw5018127868675017399:=0
def tw8660133112903592021:=0
def tw15576489007956116795:=0
def tw18095180439766287124:=0
def tw4225395967211332113:=0
def tw17588710819990321534:=0
def tw1121117417786529141:=0
def tw3997645684821642601:=0
def tw16290513655539728088:=0
def tw3340003774313619024:=0
def tw15922812237311939394:=0
def tw13938454811015844697:=0
def tw18110013848594270964:=0
def tw4223146792274988477:=0
def tw12456833732399617435:=0
def tw17675112200597991393:=0
def tw16244084550223354374:=0
def tw13880337998400985361:=0
def tw16503768502607020064:=0
def tw1067411740539897589:=0
def tw8026587635662530464:=0
def tw11840627307740026800:=0
def tw11038712563010684740:=0
def tw14631366763183599294:=0
def tw14439876348333807924:=0
def tw16629963030241806460:=0
def tw4215792396881684305:=0
def tw9656834785911735463:=0
def tw11790421232995501216:=0
def tw2225364158494963747:=0
def tw6616234463145953460:=0
def tw10837069393312133306:=0
def tw3949819941307094839:=0
def tw7138196671795766315:=0
def tw5793797949363618297:=0
def tw16707020272489344807:=0
def tw1116896731519041969:=0
def tw15560118210599543531:=0
def tw14884426376305798636:=0
def tw8430756867375028623:=0
def tw16995466847677059714:=0
def tw9974589889808869512:=0
def tw10416718926856818233:=0
def tw4797703511673512596:=0
def tw12496339833345768494:=0
def tw8523106368357115167:=0
def tw1668052979434289926:=0
def tw10825915292827561051:=0
def tw4864356892637272999:=0
def tw5933756659797837136:=0
def tw9356743797946366010:=0
def tw16256606719231860204:=0
def tw3057804142878855622:=0
def tw14043170103107109095:=0
def tw12729028590703895520:=0
def tw15069511879500415918:=0
def tw3338620342181234929:=0
def tw17495120831139395214:=0
def tw15365494086322229455:=0
def tw3750780884768172344:=0
def tw12782479184800916840:=0
def tw17364756068304560481:=0
def tw1355099755811666518:=0
def tw2108453966348516617:=0
def tw5647869453054094270:=0
def tw16542478018489726548:=0
def tw8479913802114949323:=0
def tw3481255554989660941:=0
def tw17665348010062023790:=0
def tw9517091928053087870:=0
def tw16457098522804719848:=0
def tw996994688902269071:=0
def tw950634570530960021:=0
def tw982861343690030189:=0
def tw4419088419457286818:=0
def tw10268773338732249172:=0
def tw15886115608618150040:=0
def tw7802030918667040663:=0
def tw9412870328168657514:=0
def tw7844197975868175102:=0
def tw4082904342767614279:=0
def tw3242157391045048424:=0
def tw4298193422774764564:=0
def tw3937658135934948243:=0
def tw13657607017462344179:=0
def tw4911034908072330111:=0
def tw5995771641529223673:=0
def tw8878375620239620446:=0
def tw13887103334167201686:=0
def tw9742670992212948512:=0
def tw13941700556815275874:=0
def tw5169556190163954334:=0
def tw13396552128893655310:=0
end PySem.W.Fast
namespace K07
open PySem L2 BF
theorem MZ{l:uZ}{w:aH}{K:aB}{h:aA}{mg:ac->Option aa}{fa CReckoning f1 f2 f3 f4 f5 f6 f7 f8 f9 f10 f11 f12 f13 f14 f15 f16 f17 f18 f19 f20 f21 f22 f23 f24 f25 f26 f27 f28 f29 f30 f31 f32 f33 f34 f35 f36 f37 f38 f39 f40 f41 f42 f43 f44 f45 f46 f47 f48 f49 f50 f51 f52 f53 f54 f55 f56 f57 f58:Addr}(X:K.In h)(G:h.Ns mainGlobals mg)(hfa:mg "law"=some (.ref fa))
 {od1 an1 od2 an2 od3 an3 od4 an4 od5 an5 od6 an6 od7 an7 od8 an8 od9 an9 od10 an10 od11 an11 od12 an12 od13 an13 od14 an14 od15 an15 od16 an16 od17 an17 od18 an18 od19 an19 od20 an20 od21 an21 od22 an22 od23 an23 od24 an24 od25 an25 od26 an26 od27 an27 od28 an28 od29 an29 od30 an30 od31 an31 od32 an32 od33 an33 od34 an34 od35 an35 od36 an36 od37 an37 od38 an38 od39 an39 od40 an40 od41 an41 od42 an42 od43 an43 od44 an44 od45 an45 od46 an46 od47 an47 od48 an48 od49 an49 od50 an50 od51 an51 od52 an52 od53 an53 od54 an54 od55 an55 od56 an56 od57 an57 od58 an58:Option Addr} {sl1 sl2 sl3 sl4 sl5 sl6 sl7 sl8 sl9 sl10 sl11 sl12 sl13 sl14 sl15 sl16 sl17 sl18 sl19 sl20 sl21 sl22 sl23 sl24 sl25 sl26 sl27 sl28 sl29 sl30 sl31 sl32 sl33 sl34 sl35 sl36 sl37 sl38 sl39 sl40 sl41 sl42 sl43 sl44 sl45 sl46 sl47 sl48 sl49 sl50 sl51 sl52 sl53 sl54 sl55 sl56 sl57 sl58:Array (Option aa)} {oc1 kV1 dc1 pm1 cd1 ct1 oc2 kV2 dc2 pm2 cd2 ct2 oc3 kV3 dc3 pm3 cd3 ct3 oc4 kV4 dc4 pm4 cd4 ct4 oc5 kV5 dc5 pm5 cd5 ct5 oc6 kV6 dc6 pm6 cd6 ct6 oc7 kV7 dc7 pm7 cd7 ct7 oc8 kV8 dc8 pm8 cd8 ct8 oc9 kV9 dc9 pm9 cd9 ct9 oc10 kV10 dc10 pm10 cd10 ct10 oc11 kV11 dc11 pm11 cd11 ct11 oc12 kV12 dc12 pm12 cd12 ct12 oc13 kV13 dc13 pm13 cd13 ct13 oc14 kV14 dc14 pm14 cd14 ct14 oc15 kV15 dc15 pm15 cd15 ct15 oc16 kV16 dc16 pm16 cd16 ct16 oc17 kV17 dc17 pm17 cd17 ct17 oc18 kV18 dc18 pm18 cd18 ct18 oc19 kV19 dc19 pm19 cd19 ct19 oc20 kV20 dc20 pm20 cd20 ct20 oc21 kV21 dc21 pm21 cd21 ct21 oc22 kV22 dc22 pm22 cd22 ct22 oc23 kV23 dc23 pm23 cd23 ct23 oc24 kV24 dc24 pm24 cd24 ct24 oc25 kV25 dc25 pm25 cd25 ct25 oc26 kV26 dc26 pm26 cd26 ct26 oc27 kV27 dc27 pm27 cd27 ct27 oc28 kV28 dc28 pm28 cd28 ct28 oc29 kV29 dc29 pm29 cd29 ct29 oc30 kV30 dc30 pm30 cd30 ct30 oc31 kV31 dc31 pm31 cd31 ct31 oc32 kV32 dc32 pm32 cd32 ct32 oc33 kV33 dc33 pm33 cd33 ct33 oc34 kV34 dc34 pm34 cd34 ct34 oc35 kV35 dc35 pm35 cd35 ct35 oc36 kV36 dc36 pm36 cd36 ct36 oc37 kV37 dc37 pm37 cd37 ct37 oc38 kV38 dc38 pm38 cd38 ct38 oc39 kV39 dc39 pm39 cd39 ct39 oc40 kV40 dc40 pm40 cd40 ct40 oc41 kV41 dc41 pm41 cd41 ct41 oc42 kV42 dc42 pm42 cd42 ct42 oc43 kV43 dc43 pm43 cd43 ct43 oc44 kV44 dc44 pm44 cd44 ct44 oc45 kV45 dc45 pm45 cd45 ct45 oc46 kV46 dc46 pm46 cd46 ct46 oc47 kV47 dc47 pm47 cd47 ct47 oc48 kV48 dc48 pm48 cd48 ct48 oc49 kV49 dc49 pm49 cd49 ct49 oc50 kV50 dc50 pm50 cd50 ct50 oc51 kV51 dc51 pm51 cd51 ct51 oc52 kV52 dc52 pm52 cd52 ct52 oc53 kV53 dc53 pm53 cd53 ct53 oc54 kV54 dc54 pm54 cd54 ct54 oc55 kV55 dc55 pm55 cd55 ct55 oc56 kV56 dc56 pm56 cd56 ct56 oc57 kV57 dc57 pm57 cd57 ct57 oc58 kV58 dc58 pm58 cd58 ct58:aa}
 (aCReckoning:bB K mainGlobals "Reckoning"=some (some (.ref CReckoning)))
 (a1:dB K (.ref CReckoning) "__init__"=some (some (.ref f1)))
 (l1:K.lookup f1=some ⟨oc1,od1,.func (bo "__init__" "Reckoning.__init__" (bv nV) (bp nV) (av nV) .none kV1 dc1 pm1 an1 cd1 ct1),sl1⟩)
 (c1:bA K cd1 "Reckoning.__init__"=true)
 (k1:bn K (.ref f1)=true)
 (i1:ga K (.ref f1)=true)
 (a2:dB K (.ref CReckoning) "work_out"=some (some (.ref f2)))
 (l2:K.lookup f2=some ⟨oc2,od2,.func (bo "work_out" "Reckoning.work_out" (bv nW) (bp nW) (av nW) .none kV2 dc2 pm2 an2 cd2 ct2),sl2⟩)
 (c2:bA K cd2 "Reckoning.work_out"=true)
 (k2:bn K (.ref f2)=true)
 (i2:ga K (.ref f2)=true)
 (a3:dB K (.ref CReckoning) "led_together"=some (some (.ref f3)))
 (l3:K.lookup f3=some ⟨oc3,od3,.func (bo "led_together" "Reckoning.led_together" (bv nX) (bp nX) (av nX) .none kV3 dc3 pm3 an3 cd3 ct3),sl3⟩)
 (c3:bA K cd3 "Reckoning.led_together"=true)
 (k3:bn K (.ref f3)=true)
 (i3:ga K (.ref f3)=true)
 (a4:dB K (.ref CReckoning) "lead_on"=some (some (.ref f4)))
 (l4:K.lookup f4=some ⟨oc4,od4,.func (bo "lead_on" "Reckoning.lead_on" (bv mw) (bp mw) (av mw) .none kV4 dc4 pm4 an4 cd4 ct4),sl4⟩)
 (c4:bA K cd4 "Reckoning.lead_on"=true)
 (k4:bn K (.ref f4)=true)
 (i4:ga K (.ref f4)=true)
 (a5:dB K (.ref CReckoning) "line_on"=some (some (.ref f5)))
 (l5:K.lookup f5=some ⟨oc5,od5,.func (bo "line_on" "Reckoning.line_on" (bv mx) (bp mx) (av mx) .none kV5 dc5 pm5 an5 cd5 ct5),sl5⟩)
 (c5:bA K cd5 "Reckoning.line_on"=true)
 (k5:bn K (.ref f5)=true)
 (i5:ga K (.ref f5)=true)
 (a6:dB K (.ref CReckoning) "line_to_end"=some (some (.ref f6)))
 (l6:K.lookup f6=some ⟨oc6,od6,.func (bo "line_to_end" "Reckoning.line_to_end" (bv nY) (bp nY) (av nY) .none kV6 dc6 pm6 an6 cd6 ct6),sl6⟩)
 (c6:bA K cd6 "Reckoning.line_to_end"=true)
 (k6:bn K (.ref f6)=true)
 (i6:ga K (.ref f6)=true)
 (a7:dB K (.ref CReckoning) "end_of"=some (some (.ref f7)))
 (l7:K.lookup f7=some ⟨oc7,od7,.func (bo "end_of" "Reckoning.end_of" (bv nZ) (bp nZ) (av nZ) .none kV7 dc7 pm7 an7 cd7 ct7),sl7⟩)
 (c7:bA K cd7 "Reckoning.end_of"=true)
 (k7:bn K (.ref f7)=true)
 (i7:ga K (.ref f7)=true)
 (a8:dB K (.ref CReckoning) "between_ends"=some (some (.ref f8)))
 (l8:K.lookup f8=some ⟨oc8,od8,.func (bo "between_ends" "Reckoning.between_ends" (bv n0) (bp n0) (av n0) .none kV8 dc8 pm8 an8 cd8 ct8),sl8⟩)
 (c8:bA K cd8 "Reckoning.between_ends"=true)
 (k8:bn K (.ref f8)=true)
 (i8:ga K (.ref f8)=true)
 (a9:dB K (.ref CReckoning) "part_lines"=some (some (.ref f9)))
 (l9:K.lookup f9=some ⟨oc9,od9,.func (bo "part_lines" "Reckoning.part_lines" (bv n6) (bp n6) (av n6) .none kV9 dc9 pm9 an9 cd9 ct9),sl9⟩)
 (c9:bA K cd9 "Reckoning.part_lines"=true)
 (k9:bn K (.ref f9)=true)
 (i9:ga K (.ref f9)=true)
 (a10:dB K (.ref CReckoning) "turned"=some (some (.ref f10)))
 (l10:K.lookup f10=some ⟨oc10,od10,.func (bo "turned" "Reckoning.turned" (bv n8) (bp n8) (av n8) .none kV10 dc10 pm10 an10 cd10 ct10),sl10⟩)
 (c10:bA K cd10 "Reckoning.turned"=true)
 (k10:bn K (.ref f10)=true)
 (i10:ga K (.ref f10)=true)
 (a11:dB K (.ref CReckoning) "chained"=some (some (.ref f11)))
 (l11:K.lookup f11=some ⟨oc11,od11,.func (bo "chained" "Reckoning.chained" (bv n9) (bp n9) (av n9) .none kV11 dc11 pm11 an11 cd11 ct11),sl11⟩)
 (c11:bA K cd11 "Reckoning.chained"=true)
 (k11:bn K (.ref f11)=true)
 (i11:ga K (.ref f11)=true)
 (a12:dB K (.ref CReckoning) "added"=some (some (.ref f12)))
 (l12:K.lookup f12=some ⟨oc12,od12,.func (bo "added" "Reckoning.added" (bv og) (bp og) (av og) .none kV12 dc12 pm12 an12 cd12 ct12),sl12⟩)
 (c12:bA K cd12 "Reckoning.added"=true)
 (k12:bn K (.ref f12)=true)
 (i12:ga K (.ref f12)=true)
 (pgReckoning:pi K CReckoning ac.empty=true)
 (hdReckoning:rh K CReckoning=true)
 (poReckoning:uV K CReckoning=true)
 (saReckoning:dB K (.ref CReckoning) "__setattr__"=some (some (.builtin "object.__setattr__")))
 (mkReckoning:uX K CReckoning=true)
 (kcReckoning:bn K (.ref CReckoning)=true)
 (nReckoning_lines:dB K (.ref CReckoning) "lines"=some none)
 (nReckoning_onward:dB K (.ref CReckoning) "onward"=some none)
 (nReckoning_clash:dB K (.ref CReckoning) "clash"=some none)
 (a13:bB K mainGlobals "all_parts"=some (some (.ref f13)))
 (l13:K.lookup f13=some ⟨oc13,od13,.func (bo "all_parts" "all_parts" (bv nM) (bp nM) (av nM) .none kV13 dc13 pm13 an13 cd13 ct13),sl13⟩)
 (c13:bA K cd13 "all_parts"=true)
 (k13:bn K (.ref f13)=true)
 (a14:bB K mainGlobals "blanks_of"=some (some (.ref f14)))
 (l14:K.lookup f14=some ⟨oc14,od14,.func (bo "blanks_of" "blanks_of" (bv mq) (bp mq) (av mq) .none kV14 dc14 pm14 an14 cd14 ct14),sl14⟩)
 (c14:bA K cd14 "blanks_of"=true)
 (k14:bn K (.ref f14)=true)
 (a15:bB K mainGlobals "head"=some (some (.ref f15)))
 (l15:K.lookup f15=some ⟨oc15,od15,.func (bo "head" "head" (bv nN) (bp nN) (av nN) .none kV15 dc15 pm15 an15 cd15 ct15),sl15⟩)
 (c15:bA K cd15 "head"=true)
 (k15:bn K (.ref f15)=true)
 (a16:bB K mainGlobals "same"=some (some (.ref f16)))
 (l16:K.lookup f16=some ⟨oc16,od16,.func (bo "same" "same" (bv nO) (bp nO) (av nO) .none kV16 dc16 pm16 an16 cd16 ct16),sl16⟩)
 (c16:bA K cd16 "same"=true)
 (k16:bn K (.ref f16)=true)
 (a17:bB K mainGlobals "filled"=some (some (.ref f17)))
 (l17:K.lookup f17=some ⟨oc17,od17,.func (bo "filled" "filled" (bv nP) (bp nP) (av nP) .none kV17 dc17 pm17 an17 cd17 ct17),sl17⟩)
 (c17:bA K cd17 "filled"=true)
 (k17:bn K (.ref f17)=true)
 (a18:bB K mainGlobals "replaced"=some (some (.ref f18)))
 (l18:K.lookup f18=some ⟨oc18,od18,.func (bo "replaced" "replaced" (bv mr) (bp mr) (av mr) .none kV18 dc18 pm18 an18 cd18 ct18),sl18⟩)
 (c18:bA K cd18 "replaced"=true)
 (k18:bn K (.ref f18)=true)
 (a19:bB K mainGlobals "taken"=some (some (.ref f19)))
 (l19:K.lookup f19=some ⟨oc19,od19,.func (bo "taken" "taken" (bv nQ) (bp nQ) (av nQ) .none kV19 dc19 pm19 an19 cd19 ct19),sl19⟩)
 (c19:bA K cd19 "taken"=true)
 (k19:bn K (.ref f19)=true)
 (a20:bB K mainGlobals "filling_of"=some (some (.ref f20)))
 (l20:K.lookup f20=some ⟨oc20,od20,.func (bo "filling_of" "filling_of" (bv mt) (bp mt) (av mt) .none kV20 dc20 pm20 an20 cd20 ct20),sl20⟩)
 (c20:bA K cd20 "filling_of"=true)
 (k20:bn K (.ref f20)=true)
 (a21:bB K mainGlobals "shown"=some (some (.ref f21)))
 (l21:K.lookup f21=some ⟨oc21,od21,.func (bo "shown" "shown" (bv nR) (bp nR) (av nR) .none kV21 dc21 pm21 an21 cd21 ct21),sl21⟩)
 (c21:bA K cd21 "shown"=true)
 (k21:bn K (.ref f21)=true)
 (a22:bB K mainGlobals "push_parts"=some (some (.ref f22)))
 (l22:K.lookup f22=some ⟨oc22,od22,.func (bo "push_parts" "push_parts" (bv nT) (bp nT) (av nT) .none kV22 dc22 pm22 an22 cd22 ct22),sl22⟩)
 (c22:bA K cd22 "push_parts"=true)
 (k22:bn K (.ref f22)=true)
 (a23:bB K mainGlobals "shown_leaf"=some (some (.ref f23)))
 (l23:K.lookup f23=some ⟨oc23,od23,.func (bo "shown_leaf" "shown_leaf" (bv nU) (bp nU) (av nU) .none kV23 dc23 pm23 an23 cd23 ct23),sl23⟩)
 (c23:bA K cd23 "shown_leaf"=true)
 (k23:bn K (.ref f23)=true)
 (a24:bB K mainGlobals "alike"=some (some (.ref f24)))
 (l24:K.lookup f24=some ⟨oc24,od24,.func (bo "alike" "alike" (bv mB) (bp mB) (av mB) .none kV24 dc24 pm24 an24 cd24 ct24),sl24⟩)
 (c24:bA K cd24 "alike"=true)
 (k24:bn K (.ref f24)=true)
 (a25:bB K mainGlobals "lines_by_word"=some (some (.ref f25)))
 (l25:K.lookup f25=some ⟨oc25,od25,.func (bo "lines_by_word" "lines_by_word" (bv mC) (bp mC) (av mC) .none kV25 dc25 pm25 an25 cd25 ct25),sl25⟩)
 (c25:bA K cd25 "lines_by_word"=true)
 (k25:bn K (.ref f25)=true)
 (a26:bB K mainGlobals "ends_by_word"=some (some (.ref f26)))
 (l26:K.lookup f26=some ⟨oc26,od26,.func (bo "ends_by_word" "ends_by_word" (bv mD) (bp mD) (av mD) .none kV26 dc26 pm26 an26 cd26 ct26),sl26⟩)
 (c26:bA K cd26 "ends_by_word"=true)
 (k26:bn K (.ref f26)=true)
 (a27:bB K mainGlobals "settled"=some (some (.ref f27)))
 (l27:K.lookup f27=some ⟨oc27,od27,.func (bo "settled" "settled" (bv mE) (bp mE) (av mE) .none kV27 dc27 pm27 an27 cd27 ct27),sl27⟩)
 (c27:bA K cd27 "settled"=true)
 (k27:bn K (.ref f27)=true)
 (a28:bB K mainGlobals "ready_words"=some (some (.ref f28)))
 (l28:K.lookup f28=some ⟨oc28,od28,.func (bo "ready_words" "ready_words" (bv mF) (bp mF) (av mF) .none kV28 dc28 pm28 an28 cd28 ct28),sl28⟩)
 (c28:bA K cd28 "ready_words"=true)
 (k28:bn K (.ref f28)=true)
 (a29:bB K mainGlobals "words_ahead"=some (some (.ref f29)))
 (l29:K.lookup f29=some ⟨oc29,od29,.func (bo "words_ahead" "words_ahead" (bv mG) (bp mG) (av mG) .none kV29 dc29 pm29 an29 cd29 ct29),sl29⟩)
 (c29:bA K cd29 "words_ahead"=true)
 (k29:bn K (.ref f29)=true)
 (a30:bB K mainGlobals "ring_of"=some (some (.ref f30)))
 (l30:K.lookup f30=some ⟨oc30,od30,.func (bo "ring_of" "ring_of" (bv mH) (bp mH) (av mH) .none kV30 dc30 pm30 an30 cd30 ct30),sl30⟩)
 (c30:bA K cd30 "ring_of"=true)
 (k30:bn K (.ref f30)=true)
 (a31:bB K mainGlobals "_law_whole"=some (some (.ref f31)))
 (l31:K.lookup f31=some ⟨oc31,od31,.func (bo "_law_whole" "_law_whole" (bv oj) (bp oj) (av oj) .none kV31 dc31 pm31 an31 cd31 ct31),sl31⟩)
 (c31:bA K cd31 "_law_whole"=true)
 (k31:bn K (.ref f31)=true)
 (a32:bB K mainGlobals "_law_at"=some (some (.ref f32)))
 (l32:K.lookup f32=some ⟨oc32,od32,.func (bo "_law_at" "_law_at" (bv ol) (bp ol) (av ol) .none kV32 dc32 pm32 an32 cd32 ct32),sl32⟩)
 (c32:bA K cd32 "_law_at"=true)
 (k32:bn K (.ref f32)=true)
 (a33:bB K mainGlobals "_law_any_word"=some (some (.ref f33)))
 (l33:K.lookup f33=some ⟨oc33,od33,.func (bo "_law_any_word" "_law_any_word" (bv om) (bp om) (av om) .none kV33 dc33 pm33 an33 cd33 ct33),sl33⟩)
 (c33:bA K cd33 "_law_any_word"=true)
 (k33:bn K (.ref f33)=true)
 (a34:bB K mainGlobals "_law_leaf"=some (some (.ref f34)))
 (l34:K.lookup f34=some ⟨oc34,od34,.func (bo "_law_leaf" "_law_leaf" (bv oo) (bp oo) (av oo) .none kV34 dc34 pm34 an34 cd34 ct34),sl34⟩)
 (c34:bA K cd34 "_law_leaf"=true)
 (k34:bn K (.ref f34)=true)
 (a35:bB K mainGlobals "_law_head"=some (some (.ref f35)))
 (l35:K.lookup f35=some ⟨oc35,od35,.func (bo "_law_head" "_law_head" (bv oq) (bp oq) (av oq) .none kV35 dc35 pm35 an35 cd35 ct35),sl35⟩)
 (c35:bA K cd35 "_law_head"=true)
 (k35:bn K (.ref f35)=true)
 (a36:bB K mainGlobals "_law_many_parts"=some (some (.ref f36)))
 (l36:K.lookup f36=some ⟨oc36,od36,.func (bo "_law_many_parts" "_law_many_parts" (bv ou) (bp ou) (av ou) .none kV36 dc36 pm36 an36 cd36 ct36),sl36⟩)
 (c36:bA K cd36 "_law_many_parts"=true)
 (k36:bn K (.ref f36)=true)
 (a37:bB K mainGlobals "_law_called"=some (some (.ref f37)))
 (l37:K.lookup f37=some ⟨oc37,od37,.func (bo "_law_called" "_law_called" (bv ow) (bp ow) (av ow) .none kV37 dc37 pm37 an37 cd37 ct37),sl37⟩)
 (c37:bA K cd37 "_law_called"=true)
 (k37:bn K (.ref f37)=true)
 (a38:bB K mainGlobals "_law_steps"=some (some (.ref f38)))
 (l38:K.lookup f38=some ⟨oc38,od38,.func (bo "_law_steps" "_law_steps" (bv ox) (bp ox) (av ox) .none kV38 dc38 pm38 an38 cd38 ct38),sl38⟩)
 (c38:bA K cd38 "_law_steps"=true)
 (k38:bn K (.ref f38)=true)
 (a39:bB K mainGlobals "_law_fill"=some (some (.ref f39)))
 (l39:K.lookup f39=some ⟨oc39,od39,.func (bo "_law_fill" "_law_fill" (bv oy) (bp oy) (av oy) .none kV39 dc39 pm39 an39 cd39 ct39),sl39⟩)
 (c39:bA K cd39 "_law_fill"=true)
 (k39:bn K (.ref f39)=true)
 (a40:bB K mainGlobals "_law_blanks"=some (some (.ref f40)))
 (l40:K.lookup f40=some ⟨oc40,od40,.func (bo "_law_blanks" "_law_blanks" (bv oz) (bp oz) (av oz) .none kV40 dc40 pm40 an40 cd40 ct40),sl40⟩)
 (c40:bA K cd40 "_law_blanks"=true)
 (k40:bn K (.ref f40)=true)
 (a41:bB K mainGlobals "_law_hidden"=some (some (.ref f41)))
 (l41:K.lookup f41=some ⟨oc41,od41,.func (bo "_law_hidden" "_law_hidden" (bv oA) (bp oA) (av oA) .none kV41 dc41 pm41 an41 cd41 ct41),sl41⟩)
 (c41:bA K cd41 "_law_hidden"=true)
 (k41:bn K (.ref f41)=true)
 (a42:bB K mainGlobals "_law_letters"=some (some (.ref f42)))
 (l42:K.lookup f42=some ⟨oc42,od42,.func (bo "_law_letters" "_law_letters" (bv oB) (bp oB) (av oB) .none kV42 dc42 pm42 an42 cd42 ct42),sl42⟩)
 (c42:bA K cd42 "_law_letters"=true)
 (k42:bn K (.ref f42)=true)
 (a43:bB K mainGlobals "_law_small"=some (some (.ref f43)))
 (l43:K.lookup f43=some ⟨oc43,od43,.func (bo "_law_small" "_law_small" (bv oC) (bp oC) (av oC) .none kV43 dc43 pm43 an43 cd43 ct43),sl43⟩)
 (c43:bA K cd43 "_law_small"=true)
 (k43:bn K (.ref f43)=true)
 (a44:bB K mainGlobals "_law_is_term"=some (some (.ref f44)))
 (l44:K.lookup f44=some ⟨oc44,od44,.func (bo "_law_is_term" "_law_is_term" (bv oE) (bp oE) (av oE) .none kV44 dc44 pm44 an44 cd44 ct44),sl44⟩)
 (c44:bA K cd44 "_law_is_term"=true)
 (k44:bn K (.ref f44)=true)
 (a45:bB K mainGlobals "_law_is_filling"=some (some (.ref f45)))
 (l45:K.lookup f45=some ⟨oc45,od45,.func (bo "_law_is_filling" "_law_is_filling" (bv oF) (bp oF) (av oF) .none kV45 dc45 pm45 an45 cd45 ct45),sl45⟩)
 (c45:bA K cd45 "_law_is_filling"=true)
 (k45:bn K (.ref f45)=true)
 (a46:bB K mainGlobals "_law_reasoned"=some (some (.ref f46)))
 (l46:K.lookup f46=some ⟨oc46,od46,.func (bo "_law_reasoned" "_law_reasoned" (bv mI) (bp mI) (av mI) .none kV46 dc46 pm46 an46 cd46 ct46),sl46⟩)
 (c46:bA K cd46 "_law_reasoned"=true)
 (k46:bn K (.ref f46)=true)
 (a47:bB K mainGlobals "_law_clash"=some (some (.ref f47)))
 (l47:K.lookup f47=some ⟨oc47,od47,.func (bo "_law_clash" "_law_clash" (bv oG) (bp oG) (av oG) .none kV47 dc47 pm47 an47 cd47 ct47),sl47⟩)
 (c47:bA K cd47 "_law_clash"=true)
 (k47:bn K (.ref f47)=true)
 (a48:bB K mainGlobals "_law_follows"=some (some (.ref f48)))
 (l48:K.lookup f48=some ⟨oc48,od48,.func (bo "_law_follows" "_law_follows" (bv oH) (bp oH) (av oH) .none kV48 dc48 pm48 an48 cd48 ct48),sl48⟩)
 (c48:bA K cd48 "_law_follows"=true)
 (k48:bn K (.ref f48)=true)
 (a49:bB K mainGlobals "_law_reckoned"=some (some (.ref f49)))
 (l49:K.lookup f49=some ⟨oc49,od49,.func (bo "_law_reckoned" "_law_reckoned" (bv oJ) (bp oJ) (av oJ) .none kV49 dc49 pm49 an49 cd49 ct49),sl49⟩)
 (c49:bA K cd49 "_law_reckoned"=true)
 (k49:bn K (.ref f49)=true)
 (a50:bB K mainGlobals "_law_ring"=some (some (.ref f50)))
 (l50:K.lookup f50=some ⟨oc50,od50,.func (bo "_law_ring" "_law_ring" (bv oK) (bp oK) (av oK) .none kV50 dc50 pm50 an50 cd50 ct50),sl50⟩)
 (c50:bA K cd50 "_law_ring"=true)
 (k50:bn K (.ref f50)=true)
 (a51:bB K mainGlobals "_law_refusal"=some (some (.ref f51)))
 (l51:K.lookup f51=some ⟨oc51,od51,.func (bo "_law_refusal" "_law_refusal" (bv oN) (bp oN) (av oN) .none kV51 dc51 pm51 an51 cd51 ct51),sl51⟩)
 (c51:bA K cd51 "_law_refusal"=true)
 (k51:bn K (.ref f51)=true)
 (a52:bB K mainGlobals "_law_good"=some (some (.ref f52)))
 (l52:K.lookup f52=some ⟨oc52,od52,.func (bo "_law_good" "_law_good" (bv mJ) (bp mJ) (av mJ) .none kV52 dc52 pm52 an52 cd52 ct52),sl52⟩)
 (c52:bA K cd52 "_law_good"=true)
 (k52:bn K (.ref f52)=true)
 (a53:bB K mainGlobals "_law_round"=some (some (.ref f53)))
 (l53:K.lookup f53=some ⟨oc53,od53,.func (bo "_law_round" "_law_round" (bv oO) (bp oO) (av oO) .none kV53 dc53 pm53 an53 cd53 ct53),sl53⟩)
 (c53:bA K cd53 "_law_round"=true)
 (k53:bn K (.ref f53)=true)
 (a54:bB K mainGlobals "_law_couple"=some (some (.ref f54)))
 (l54:K.lookup f54=some ⟨oc54,od54,.func (bo "_law_couple" "_law_couple" (bv oP) (bp oP) (av oP) .none kV54 dc54 pm54 an54 cd54 ct54),sl54⟩)
 (c54:bA K cd54 "_law_couple"=true)
 (k54:bn K (.ref f54)=true)
 (a55:bB K mainGlobals "_law_asked_for"=some (some (.ref f55)))
 (l55:K.lookup f55=some ⟨oc55,od55,.func (bo "_law_asked_for" "_law_asked_for" (bv oQ) (bp oQ) (av oQ) .none kV55 dc55 pm55 an55 cd55 ct55),sl55⟩)
 (c55:bA K cd55 "_law_asked_for"=true)
 (k55:bn K (.ref f55)=true)
 (a56:bB K mainGlobals "_law_room"=some (some (.ref f56)))
 (l56:K.lookup f56=some ⟨oc56,od56,.func (bo "_law_room" "_law_room" (bv oR) (bp oR) (av oR) .none kV56 dc56 pm56 an56 cd56 ct56),sl56⟩)
 (c56:bA K cd56 "_law_room"=true)
 (k56:bn K (.ref f56)=true)
 (a57:bB K mainGlobals "_law_so"=some (some (.ref f57)))
 (l57:K.lookup f57=some ⟨oc57,od57,.func (bo "_law_so" "_law_so" (bv oS) (bp oS) (av oS) .none kV57 dc57 pm57 an57 cd57 ct57),sl57⟩)
 (c57:bA K cd57 "_law_so"=true)
 (k57:bn K (.ref f57)=true)
 (a58:bB K mainGlobals "law"=some (some (.ref f58)))
 (l58:K.lookup f58=some ⟨oc58,od58,.func (bo "law" "law" (bv kg) (bp kg) (av kg) .none kV58 dc58 pm58 an58 cd58 ct58),sl58⟩)
 (c58:bA K cd58 "law"=true)
 (k58:bn K (.ref f58)=true)
 (qzTZ:bB K mainGlobals "zip"=some none)
 (qzTE:bB K mainGlobals "enumerate"=some none)
 (qzTS:bB K mainGlobals "sorted"=some none)
 (qzTD:bB K mainGlobals "dict"=some none)
 (z_len:bB K mainGlobals "len"=some none)
 (z_abs:bB K mainGlobals "abs"=some none)
 (z_isinstance:bB K mainGlobals "isinstance"=some none)
 (z_int:bB K mainGlobals "int"=some none)
 (z_bool:bB K mainGlobals "bool"=some none)
 (z_str:bB K mainGlobals "str"=some none)
 (z_tuple:bB K mainGlobals "tuple"=some none)
 (z_list:bB K mainGlobals "list"=some none)
 (z_reversed:bB K mainGlobals "reversed"=some none)
 (z_range:bB K mainGlobals "range"=some none)
 :∃fd:bd,(∀(s:ah)(v:aa),BindsTo s fd ⟨[v],[]⟩ [("_law_script",v)])/\∀base:aA,K.In base->base.Ns mainGlobals mg->be l.prog w K mg base bh 9 fa fd ["_law_script"] (uF K):=by
 have e:=hfa.symm.trans (bS X G a58)
 cases e
 have F1:=bH (st:=nV) l1 c1 k1
 have b1:=F1.binds (ps:=["self","one","other"]) fun _ _ _ _ _ _=>lj fun _ _ _=>rfl
 have F2:=bH (st:=nW) l2 c2 k2
 have b2:=F2.binds (ps:=["self"]) fun _ _ _ _ _ _=>eW fun _=>rfl
 have F3:=bH (st:=nX) l3 c3 k3
 have b3:=F3.binds (ps:=["self","number"]) fun _ _ _ _ _ _=>dj fun _ _=>rfl
 have F4:=bH (st:=mw) l4 c4 k4
 have b4:=F4.binds (ps:=["self","number"]) fun _ _ _ _ _ _=>dj fun _ _=>rfl
 have F5:=bH (st:=mx) l5 c5 k5
 have b5:=F5.binds (ps:=["self","term"]) fun _ _ _ _ _ _=>dj fun _ _=>rfl
 have F6:=bH (st:=nY) l6 c6 k6
 have b6:=F6.binds (ps:=["self","term"]) fun _ _ _ _ _ _=>dj fun _ _=>rfl
 have F7:=bH (st:=nZ) l7 c7 k7
 have b7:=F7.binds (ps:=["self","term"]) fun _ _ _ _ _ _=>dj fun _ _=>rfl
 have F8:=bH (st:=n0) l8 c8 k8
 have b8:=F8.binds (ps:=["self","number"]) fun _ _ _ _ _ _=>dj fun _ _=>rfl
 have F9:=bH (st:=n6) l9 c9 k9
 have b9:=F9.binds (ps:=["self","number"]) fun _ _ _ _ _ _=>dj fun _ _=>rfl
 have F10:=bH (st:=n8) l10 c10 k10
 have b10:=F10.binds (ps:=["self","number"]) fun _ _ _ _ _ _=>dj fun _ _=>rfl
 have F11:=bH (st:=n9) l11 c11 k11
 have b11:=F11.binds (ps:=["self","number","further"]) fun _ _ _ _ _ _=>lj fun _ _ _=>rfl
 have F12:=bH (st:=og) l12 c12 k12
 have b12:=F12.binds (ps:=["self","one","other","reason"]) fun _ _ _ _ _ _=>D1 fun _ _ _ _=>rfl
 have F13:=bH (st:=nM) l13 c13 k13
 have b13:=F13.binds (ps:=["term"]) fun _ _ _ _ _ _=>eW fun _=>rfl
 have g13:=bS X G a13
 have F14:=bH (st:=mq) l14 c14 k14
 have b14:=F14.binds (ps:=["term"]) fun _ _ _ _ _ _=>eW fun _=>rfl
 have g14:=bS X G a14
 have F15:=bH (st:=nN) l15 c15 k15
 have b15:=F15.binds (ps:=["term"]) fun _ _ _ _ _ _=>eW fun _=>rfl
 have g15:=bS X G a15
 have F16:=bH (st:=nO) l16 c16 k16
 have b16:=F16.binds (ps:=["one","other"]) fun _ _ _ _ _ _=>dj fun _ _=>rfl
 have g16:=bS X G a16
 have F17:=bH (st:=nP) l17 c17 k17
 have b17:=F17.binds (ps:=["term","filling"]) fun _ _ _ _ _ _=>dj fun _ _=>rfl
 have g17:=bS X G a17
 have F18:=bH (st:=mr) l18 c18 k18
 have b18:=F18.binds (ps:=["term","terms"]) fun _ _ _ _ _ _=>dj fun _ _=>rfl
 have g18:=bS X G a18
 have F19:=bH (st:=nQ) l19 c19 k19
 have b19:=F19.binds (ps:=["made","count"]) fun _ _ _ _ _ _=>dj fun _ _=>rfl
 have g19:=bS X G a19
 have F20:=bH (st:=mt) l20 c20 k20
 have b20:=F20.binds (ps:=["terms"]) fun _ _ _ _ _ _=>eW fun _=>rfl
 have g20:=bS X G a20
 have F21:=bH (st:=nR) l21 c21 k21
 have b21:=F21.binds (ps:=["term"]) fun _ _ _ _ _ _=>eW fun _=>rfl
 have g21:=bS X G a21
 have F22:=bH (st:=nT) l22 c22 k22
 have b22:=F22.binds (ps:=["coming","parts"]) fun _ _ _ _ _ _=>dj fun _ _=>rfl
 have g22:=bS X G a22
 have F23:=bH (st:=nU) l23 c23 k23
 have b23:=F23.binds (ps:=["term"]) fun _ _ _ _ _ _=>eW fun _=>rfl
 have g23:=bS X G a23
 have F24:=bH (st:=mB) l24 c24 k24
 have b24:=F24.binds (ps:=["one","other"]) fun _ _ _ _ _ _=>dj fun _ _=>rfl
 have g24:=bS X G a24
 have F25:=bH (st:=mC) l25 c25 k25
 have b25:=F25.binds (ps:=["reckoning","words"]) fun _ _ _ _ _ _=>dj fun _ _=>rfl
 have g25:=bS X G a25
 have F26:=bH (st:=mD) l26 c26 k26
 have b26:=F26.binds (ps:=["lines","numbers"]) fun _ _ _ _ _ _=>dj fun _ _=>rfl
 have g26:=bS X G a26
 have F27:=bH (st:=mE) l27 c27 k27
 have b27:=F27.binds (ps:=["ends"]) fun _ _ _ _ _ _=>eW fun _=>rfl
 have g27:=bS X G a27
 have F28:=bH (st:=mF) l28 c28 k28
 have b28:=F28.binds (ps:=["ends","terms"]) fun _ _ _ _ _ _=>dj fun _ _=>rfl
 have g28:=bS X G a28
 have F29:=bH (st:=mG) l29 c29 k29
 have b29:=F29.binds (ps:=["ends","terms","word"]) fun _ _ _ _ _ _=>lj fun _ _ _=>rfl
 have g29:=bS X G a29
 have F30:=bH (st:=mH) l30 c30 k30
 have b30:=F30.binds (ps:=["ends","terms"]) fun _ _ _ _ _ _=>dj fun _ _=>rfl
 have g30:=bS X G a30
 have F31:=bH (st:=oj) l31 c31 k31
 have b31:=F31.binds (ps:=["_law_found"]) fun _ _ _ _ _ _=>eW fun _=>rfl
 have g31:=bS X G a31
 have F32:=bH (st:=ol) l32 c32 k32
 have b32:=F32.binds (ps:=["_law_script","_law_k"]) fun _ _ _ _ _ _=>dj fun _ _=>rfl
 have g32:=bS X G a32
 have F33:=bH (st:=om) l33 c33 k33
 have b33:=F33.binds (ps:=["_law_cell"]) fun _ _ _ _ _ _=>eW fun _=>rfl
 have g33:=bS X G a33
 have F34:=bH (st:=oo) l34 c34 k34
 have b34:=F34.binds (ps:=["_law_cell"]) fun _ _ _ _ _ _=>eW fun _=>rfl
 have g34:=bS X G a34
 have F35:=bH (st:=oq) l35 c35 k35
 have b35:=F35.binds (ps:=["_law_cell"]) fun _ _ _ _ _ _=>eW fun _=>rfl
 have g35:=bS X G a35
 have F36:=bH (st:=ou) l36 c36 k36
 have b36:=F36.binds (ps:=["_law_cell","_law_count"]) fun _ _ _ _ _ _=>dj fun _ _=>rfl
 have g36:=bS X G a36
 have F37:=bH (st:=ow) l37 c37 k37
 have b37:=F37.binds (ps:=["_law_k"]) fun _ _ _ _ _ _=>eW fun _=>rfl
 have g37:=bS X G a37
 have F38:=bH (st:=ox) l38 c38 k38
 have b38:=F38.binds (ps:=["_law_term"]) fun _ _ _ _ _ _=>eW fun _=>rfl
 have g38:=bS X G a38
 have F39:=bH (st:=oy) l39 c39 k39
 have b39:=F39.binds (ps:=["_law_term","_law_pairs"]) fun _ _ _ _ _ _=>dj fun _ _=>rfl
 have g39:=bS X G a39
 have F40:=bH (st:=oz) l40 c40 k40
 have b40:=F40.binds (ps:=["_law_term"]) fun _ _ _ _ _ _=>eW fun _=>rfl
 have g40:=bS X G a40
 have F41:=bH (st:=oA) l41 c41 k41
 have b41:=F41.binds (ps:=["_law_cells","_law_many"]) fun _ _ _ _ _ _=>dj fun _ _=>rfl
 have g41:=bS X G a41
 have F42:=bH (st:=oB) l42 c42 k42
 have b42:=F42.binds (ps:=["_law_found"]) fun _ _ _ _ _ _=>eW fun _=>rfl
 have g42:=bS X G a42
 have F43:=bH (st:=oC) l43 c43 k43
 have b43:=F43.binds (ps:=["_law_part"]) fun _ _ _ _ _ _=>eW fun _=>rfl
 have g43:=bS X G a43
 have F44:=bH (st:=oE) l44 c44 k44
 have b44:=F44.binds (ps:=["_law_found"]) fun _ _ _ _ _ _=>eW fun _=>rfl
 have g44:=bS X G a44
 have F45:=bH (st:=oF) l45 c45 k45
 have b45:=F45.binds (ps:=["_law_found"]) fun _ _ _ _ _ _=>eW fun _=>rfl
 have g45:=bS X G a45
 have F46:=bH (st:=mI) l46 c46 k46
 have b46:=F46.binds (ps:=["_law_reason","_law_number"]) fun _ _ _ _ _ _=>dj fun _ _=>rfl
 have g46:=bS X G a46
 have F47:=bH (st:=oG) l47 c47 k47
 have b47:=F47.binds (ps:=["_law_one","_law_other"]) fun _ _ _ _ _ _=>dj fun _ _=>rfl
 have g47:=bS X G a47
 have F48:=bH (st:=oH) l48 c48 k48
 have b48:=F48.binds (ps:=["_law_lines","_law_reason","_law_one","_law_other"]) fun _ _ _ _ _ _=>D1 fun _ _ _ _=>rfl
 have g48:=bS X G a48
 have F49:=bH (st:=oJ) l49 c49 k49
 have b49:=F49.binds (ps:=["_law_lines","_law_one","_law_other"]) fun _ _ _ _ _ _=>lj fun _ _ _=>rfl
 have g49:=bS X G a49
 have F50:=bH (st:=oK) l50 c50 k50
 have b50:=F50.binds (ps:=["_law_lines","_law_numbers"]) fun _ _ _ _ _ _=>dj fun _ _=>rfl
 have g50:=bS X G a50
 have F51:=bH (st:=oN) l51 c51 k51
 have b51:=F51.binds (ps:=["_law_found","_law_one","_law_other"]) fun _ _ _ _ _ _=>lj fun _ _ _=>rfl
 have g51:=bS X G a51
 have F52:=bH (st:=mJ) l52 c52 k52
 have b52:=F52.binds (ps:=["_law_filling","_law_one","_law_other"]) fun _ _ _ _ _ _=>lj fun _ _ _=>rfl
 have g52:=bS X G a52
 have F53:=bH (st:=oO) l53 c53 k53
 have b53:=F53.binds (ps:=["_law_cells","_law_last"]) fun _ _ _ _ _ _=>dj fun _ _=>rfl
 have g53:=bS X G a53
 have F54:=bH (st:=oP) l54 c54 k54
 have b54:=F54.binds (ps:=["_law_script","_law_cells"]) fun _ _ _ _ _ _=>dj fun _ _=>rfl
 have g54:=bS X G a54
 have F55:=bH (st:=oQ) l55 c55 k55
 have b55:=F55.binds (ps:=["_law_found","_law_one","_law_other"]) fun _ _ _ _ _ _=>lj fun _ _ _=>rfl
 have g55:=bS X G a55
 have F56:=bH (st:=oR) l56 c56 k56
 have b56:=F56.binds (ps:=["_law_script","_law_most","_law_bound"]) fun _ _ _ _ _ _=>lj fun _ _ _=>rfl
 have g56:=bS X G a56
 have F57:=bH (st:=oS) l57 c57 k57
 have b57:=F57.binds (ps:=["_law_found","_law_due"]) fun _ _ _ _ _ _=>dj fun _ _=>rfl
 have g57:=bS X G a57
 have F58:=bH (st:=kg) l58 c58 k58
 have T:Bi mg:=⟨gF X G z_len,gF X G z_abs,gF X G z_isinstance,gF X G z_int,gF X G z_bool,gF X G z_str,gF X G z_tuple,gF X G z_list,gF X G z_reversed,gF X G z_range⟩
 refine⟨bo "law" "law" (bv kg) (bp kg) (av kg) .none kV58 dc58 pm58 an58 cd58 ct58,fun s v=>.of_eq rfl,fun base _ _=>?_⟩
 have TZ:mg "zip"=none:=gF X G qzTZ
 have TE:mg "enumerate"=none:=gF X G qzTE
 have TS:mg "sorted"=none:=gF X G qzTS
 have TD:mg "dict"=none:=gF X G qzTD
 have R:RG K CReckoning:=⟨⟨pgReckoning,hdReckoning,poReckoning,saReckoning⟩,nReckoning_lines,nReckoning_onward,nReckoning_clash⟩
 have c__law_at:aG l.prog w K mg base 1 "_law_at" ["_law_script","_law_k"] (yx K):=⟨_,_,MR F32 T,b32,k32,g32⟩
 have c__law_called:aG l.prog w K mg base 1 "_law_called" ["_law_k"] uD:=⟨_,_,MG F37 T,b37,k37,g37⟩
 have c__law_any_word:aG l.prog w K mg base 1 "_law_any_word" ["_law_cell"] ue:=⟨_,_,KO F33 T,b33,k33,g33⟩
 have c__law_leaf:aG l.prog w K mg base 2 "_law_leaf" ["_law_cell"] uf:=⟨_,_,KP F34 T c__law_any_word,b34,k34,g34⟩
 have c__law_round:aG l.prog w K mg base 3 "_law_round" ["_law_cells","_law_last"] (yw K):=⟨_,_,MQ F53 T c__law_called c__law_leaf,b53,k53,g53⟩
 have c__law_many_parts:aG l.prog w K mg base 1 "_law_many_parts" ["_law_cell","_law_count"] xG:=⟨_,_,KR F36 T,b36,k36,g36⟩
 have c__law_head:aG l.prog w K mg base 2 "_law_head" ["_law_cell"] xA:=⟨_,_,KQ F35 T c__law_any_word,b35,k35,g35⟩
 have c__law_hidden:aG l.prog w K mg base 3 "_law_hidden" ["_law_cells","_law_many"] (yu K):=⟨_,_,MH F41 T c__law_many_parts c__law_leaf c__law_head c__law_called,b41,k41,g41⟩
 have c__law_couple:aG l.prog w K mg base 4 "_law_couple" ["_law_script","_law_cells"] (yy K):=⟨_,_,MT F54 T c__law_at c__law_round c__law_hidden,b54,k54,g54⟩
 have c__law_room:aG l.prog w K mg base 1 "_law_room" ["_law_script","_law_most","_law_bound"] (yn K):=⟨_,_,Mu F56 T,b56,k56,g56⟩
 have n_Reckoning:wK l.prog w K mg base 1 CReckoning "Reckoning" ["self","one","other"] (xM CReckoning):=⟨_,_,⟨mkReckoning,a1,i1,kcReckoning⟩,Lj F1 R,b1,bS X G aCReckoning⟩
 have c_head:aG l.prog w K mg base 1 "head" ["term"] ul:=⟨_,_,K2 F15 T,b15,k15,g15⟩
 have c_same:aG l.prog w K mg base 2 "same" ["one","other"] xJ:=⟨_,_,K3 F16 T TZ c_head,b16,k16,g16⟩
 have c_shown_leaf:aG l.prog w K mg base 1 "shown_leaf" ["term"] xK:=⟨_,_,K4 F23 T,b23,k23,g23⟩
 have c_push_parts:aG l.prog w K mg base 1 "push_parts" ["coming","parts"] (xL K):=⟨_,_,K5 F22 T,b22,k22,g22⟩
 have c_shown:aG l.prog w K mg base 2 "shown" ["term"] um:=⟨_,_,K6 F21 T c_shown_leaf c_push_parts,b21,k21,g21⟩
 have m_line_on:cU l.prog w K mg base 3 CReckoning "line_on" ["self","term"] (xN CReckoning):=⟨_,_,Lp F5 R c_shown,b5,⟨a5,i5,k5⟩,R.cl⟩
 have m_added:cU l.prog w K mg base 1 CReckoning "added" ["self","one","other","reason"] (qI CReckoning):=⟨_,_,Lk F12 R T,b12,⟨a12,i12,k12⟩,R.cl⟩
 have m_chained:cU l.prog w K mg base 2 CReckoning "chained" ["self","number","further"] (uq CReckoning):=⟨_,_,Lm F11 R m_added,b11,⟨a11,i11,k11⟩,R.cl⟩
 have m_lead_on:cU l.prog w K mg base 3 CReckoning "lead_on" ["self","number"] (ur CReckoning):=⟨_,_,Lo F4 R c_shown,b4,⟨a4,i4,k4⟩,R.cl⟩
 have m_line_to_end:cU l.prog w K mg base 4 CReckoning "line_to_end" ["self","term"] (qJ CReckoning):=⟨_,_,Lq F6 R T m_line_on m_chained m_lead_on,b6,⟨a6,i6,k6⟩,R.cl⟩
 have m_end_of:cU l.prog w K mg base 5 CReckoning "end_of" ["self","term"] (xO CReckoning):=⟨_,_,Lr F7 R m_line_to_end,b7,⟨a7,i7,k7⟩,R.cl⟩
 have m_turned:cU l.prog w K mg base 2 CReckoning "turned" ["self","number"] (uo CReckoning):=⟨_,_,Ll F10 R m_added,b10,⟨a10,i10,k10⟩,R.cl⟩
 have m_between_ends:cU l.prog w K mg base 5 CReckoning "between_ends" ["self","number"] (xP CReckoning):=⟨_,_,Ls F8 R m_line_to_end m_turned m_chained,b8,⟨a8,i8,k8⟩,R.cl⟩
 have m_part_lines:cU l.prog w K mg base 2 CReckoning "part_lines" ["self","number"] (xQ CReckoning):=⟨_,_,Lu F9 R T TZ TE m_added,b9,⟨a9,i9,k9⟩,R.cl⟩
 have m_led_together:cU l.prog w K mg base 6 CReckoning "led_together" ["self","number"] (xS CReckoning):=⟨_,_,Lv F3 R c_same c_head m_end_of m_between_ends m_lead_on m_turned m_part_lines,b3,⟨a3,i3,k3⟩,R.cl⟩
 have m_work_out:cU l.prog w K mg base 7 CReckoning "work_out" ["self"] (xT CReckoning):=⟨_,_,Lx F2 R m_led_together,b2,⟨a2,i2,k2⟩,R.cl⟩
 have c_lines_by_word:aG l.prog w K mg base 5 "lines_by_word" ["reckoning","words"] (yf CReckoning):=⟨_,_,L9 F25 m_line_to_end,b25,k25,g25⟩
 have c_all_parts:aG l.prog w K mg base 1 "all_parts" ["term"] uu:=⟨_,_,Ly F13 T,b13,k13,g13⟩
 have c_blanks_of:aG l.prog w K mg base 2 "blanks_of" ["term"] mK:=⟨_,_,LC F14 T c_all_parts,b14,k14,g14⟩
 have c_ends_by_word:aG l.prog w K mg base 1 "ends_by_word" ["lines","numbers"] yi:=⟨_,_,Mg F26,b26,k26,g26⟩
 have c_words_ahead:aG l.prog w K mg base 3 "words_ahead" ["ends","terms","word"] uA:=⟨_,_,Mh F29 c_blanks_of,b29,k29,g29⟩
 have c_ready_words:aG l.prog w K mg base 4 "ready_words" ["ends","terms"] yj:=⟨_,_,Mi F28 c_words_ahead,b28,k28,g28⟩
 have c_taken:aG l.prog w K mg base 1 "taken" ["made","count"] xU:=⟨_,_,Lz F19 T,b19,k19,g19⟩
 have c_replaced:aG l.prog w K mg base 2 "replaced" ["term","terms"] uv:=⟨_,_,LA F18 T c_all_parts c_taken,b18,k18,g18⟩
 have c_settled:aG l.prog w K mg base 5 "settled" ["ends"] yl:=⟨_,_,Ml F27 c_ready_words c_replaced,b27,k27,g27⟩
 have c_ring_of:aG l.prog w K mg base 4 "ring_of" ["ends","terms"] ym:=⟨_,_,Mo F30 c_words_ahead,b30,k30,g30⟩
 have c_filling_of:aG l.prog w K mg base 1 "filling_of" ["terms"] yz:=⟨_,_,MU F20 TS,b20,k20,g20⟩
 have c_alike:aG l.prog w K mg base 8 "alike" ["one","other"] yA:=⟨_,_,MV F24 R T n_Reckoning m_work_out c_lines_by_word c_blanks_of c_ends_by_word c_settled c_ring_of c_filling_of,b24,k24,g24⟩
 have c__law_letters:aG l.prog w K mg base 1 "_law_letters" ["_law_found"] qM:=⟨_,_,LH F42 T,b42,k42,g42⟩
 have c__law_whole:aG l.prog w K mg base 1 "_law_whole" ["_law_found"] oV:=⟨_,_,LI F31 T,b31,k31,g31⟩
 have c__law_small:aG l.prog w K mg base 2 "_law_small" ["_law_part"] xV:=⟨_,_,LJ F43 T c__law_whole c__law_letters,b43,k43,g43⟩
 have c__law_is_term:aG l.prog w K mg base 3 "_law_is_term" ["_law_found"] xW:=⟨_,_,LK F44 T c__law_small c__law_letters,b44,k44,g44⟩
 have c__law_is_filling:aG l.prog w K mg base 4 "_law_is_filling" ["_law_found"] xX:=⟨_,_,LL F45 T c__law_letters c__law_is_term,b45,k45,g45⟩
 have c__law_steps:aG l.prog w K mg base 1 "_law_steps" ["_law_term"] qK:=⟨_,_,LD F38 T,b38,k38,g38⟩
 have c__law_blanks:aG l.prog w K mg base 2 "_law_blanks" ["_law_term"] mK:=⟨_,_,LF F40 T c__law_steps,b40,k40,g40⟩
 have c__law_fill:aG l.prog w K mg base 2 "_law_fill" ["_law_term","_law_pairs"] qL:=⟨_,_,LG F39 T c__law_steps,b39,k39,g39⟩
 have c__law_good:aG l.prog w K mg base 5 "_law_good" ["_law_filling","_law_one","_law_other"] yo:=⟨_,_,Mv F52 T c__law_is_filling c__law_blanks c__law_fill,b52,k52,g52⟩
 have c__law_reasoned:aG l.prog w K mg base 2 "_law_reasoned" ["_law_reason","_law_number"] yb:=⟨_,_,LR F46 T c__law_whole,b46,k46,g46⟩
 have c__law_clash:aG l.prog w K mg base 1 "_law_clash" ["_law_one","_law_other"] uk:=⟨_,_,K1 F47 T,b47,k47,g47⟩
 have c__law_follows:aG l.prog w K mg base 2 "_law_follows" ["_law_lines","_law_reason","_law_one","_law_other"] yc:=⟨_,_,LS F48 T c__law_clash,b48,k48,g48⟩
 have c__law_so:aG l.prog w K mg base 1 "_law_so" ["_law_found","_law_due"] ux:=⟨_,_,LU F57 T,b57,k57,g57⟩
 have c__law_reckoned:aG l.prog w K mg base 3 "_law_reckoned" ["_law_lines","_law_one","_law_other"] uy:=⟨_,_,LY F49 T c__law_reasoned c__law_follows c__law_so,b49,k49,g49⟩
 have c__law_asked_for:aG l.prog w K mg base 6 "_law_asked_for" ["_law_found","_law_one","_law_other"] yq:=⟨_,_,ME F55 T c__law_good c__law_reckoned c__law_whole c__law_fill,b55,k55,g55⟩
 have c_filled:aG l.prog w K mg base 3 "filled" ["term","filling"] yr:=⟨_,_,MF F17 T TD c_replaced,b17,k17,g17⟩
 have c__law_ring:aG l.prog w K mg base 2 "_law_ring" ["_law_lines","_law_numbers"] xZ:=⟨_,_,LM F50 T c__law_steps,b50,k50,g50⟩
 have c__law_refusal:aG l.prog w K mg base 4 "_law_refusal" ["_law_found","_law_one","_law_other"] yp:=⟨_,_,MD F51 T c__law_reckoned c__law_whole c__law_ring c__law_clash,b51,k51,g51⟩
 exact MY F58 T c__law_couple c__law_room c_alike c__law_asked_for c_filled c__law_fill c__law_so c__law_refusal
theorem M0{l:uZ}{q:aP}{loose:List ac}{XP:(ac->Option aa)->aA->Prop}{YP:aH->aA->Prop}{d:DefRec}{K:Params->aB}(hn:l.most=some 63)(hdf:d.params.defaults=[])
 (hY:∀(w:aH)(h:aA),YP w h->(K w.params).In h)
 (F:∀(w:aH)(mg:ac->Option aa)(fa:Addr)(h:aA),(K w.params).In h->h.Ns mainGlobals mg->mg d.name=some (.ref fa)->
  ∃fd:bd,(∀(s:ah)(u:aa),BindsTo s fd ⟨[u],[]⟩ [("_law_script",u)])/\∀base:aA,(K w.params).In base->base.Ns mainGlobals mg->be l.prog w (K w.params) mg base bh 9 fa fd ["_law_script"] (uF (K w.params))):
 PySem.W.WalkO q loose XP YP l.row.toRowW d [] (fun f vs=>uK f vs):=
 L2.Ir (n:=63) (k:=9) (x:="_law_script") (CX:=fun _=>bh) (sp:=fun w=>uF (K w.params)) hn (by decide) hdf ⟨rfl,by decide,by decide⟩ hY F (fun _ _ a ns hl _ hS=>⟨a,ns,rfl,hS,hl,fun _=>rfl⟩) fun _ _ _ _ _ z=>z
end K07
open PySem PySem.W PyProof.Rows
set_option maxRecDepth 100000 in
set_option maxHeartbeats 0 in
theorem PySem.Challenge.cw_blankform_k07_whole_alike_or_shown_holds : PySem.Challenge.rw_blankform_k07_whole_alike_or_shown.Holds := by
 w_on;o_law;k_head;(case hw=>w_witness2)
 k_fill
 refine K07.M0 (l:=Az) rfl rfl (fun w h Y=>PySem.W.kIn_of Y) ?F
 case F=>
  intro w mg fa h KX G hmg
  refine' K07.MZ KX G hmg ?aCReckoning ?a1 ?l1 ?c1 ?k1 ?i1 ?a2 ?l2 ?c2 ?k2 ?i2 ?a3 ?l3 ?c3 ?k3 ?i3 ?a4 ?l4 ?c4 ?k4 ?i4 ?a5 ?l5 ?c5 ?k5 ?i5 ?a6 ?l6 ?c6 ?k6 ?i6 ?a7 ?l7 ?c7 ?k7 ?i7 ?a8 ?l8 ?c8 ?k8 ?i8 ?a9 ?l9 ?c9 ?k9 ?i9 ?a10 ?l10 ?c10 ?k10 ?i10 ?a11 ?l11 ?c11 ?k11 ?i11 ?a12 ?l12 ?c12 ?k12 ?i12 ?pgReckoning ?hdReckoning ?poReckoning ?saReckoning ?mkReckoning ?kcReckoning ?nReckoning_lines ?nReckoning_onward ?nReckoning_clash ?a13 ?l13 ?c13 ?k13 ?a14 ?l14 ?c14 ?k14 ?a15 ?l15 ?c15 ?k15 ?a16 ?l16 ?c16 ?k16 ?a17 ?l17 ?c17 ?k17 ?a18 ?l18 ?c18 ?k18 ?a19 ?l19 ?c19 ?k19 ?a20 ?l20 ?c20 ?k20 ?a21 ?l21 ?c21 ?k21 ?a22 ?l22 ?c22 ?k22 ?a23 ?l23 ?c23 ?k23 ?a24 ?l24 ?c24 ?k24 ?a25 ?l25 ?c25 ?k25 ?a26 ?l26 ?c26 ?k26 ?a27 ?l27 ?c27 ?k27 ?a28 ?l28 ?c28 ?k28 ?a29 ?l29 ?c29 ?k29 ?a30 ?l30 ?c30 ?k30 ?a31 ?l31 ?c31 ?k31 ?a32 ?l32 ?c32 ?k32 ?a33 ?l33 ?c33 ?k33 ?a34 ?l34 ?c34 ?k34 ?a35 ?l35 ?c35 ?k35 ?a36 ?l36 ?c36 ?k36 ?a37 ?l37 ?c37 ?k37 ?a38 ?l38 ?c38 ?k38 ?a39 ?l39 ?c39 ?k39 ?a40 ?l40 ?c40 ?k40 ?a41 ?l41 ?c41 ?k41 ?a42 ?l42 ?c42 ?k42 ?a43 ?l43 ?c43 ?k43 ?a44 ?l44 ?c44 ?k44 ?a45 ?l45 ?c45 ?k45 ?a46 ?l46 ?c46 ?k46 ?a47 ?l47 ?c47 ?k47 ?a48 ?l48 ?c48 ?k48 ?a49 ?l49 ?c49 ?k49 ?a50 ?l50 ?c50 ?k50 ?a51 ?l51 ?c51 ?k51 ?a52 ?l52 ?c52 ?k52 ?a53 ?l53 ?c53 ?k53 ?a54 ?l54 ?c54 ?k54 ?a55 ?l55 ?c55 ?k55 ?a56 ?l56 ?c56 ?k56 ?a57 ?l57 ?c57 ?k57 ?a58 ?l58 ?c58 ?k58 ?qzTZ ?qzTE ?qzTS ?qzTD ?z_len ?z_abs ?z_isinstance ?z_int ?z_bool ?z_str ?z_tuple ?z_list ?z_reversed ?z_range
  all_goals try (first|k_is|k_exc|kit_is|kts_exm)
#print axioms PySem.Challenge.cw_blankform_k07_whole_alike_or_shown_holds
