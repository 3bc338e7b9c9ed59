import PyProof.Rows.All
import Wide.All
import OpenK.AllK
import Wide.FinOn
import Lean
import PyProof.EqAt
import PyProof.EqKinds
import PyProof.TupleCall
import PySem.Challenge.RW_blankform_k09_whole_names_make_no_differ
theorem zLA.{u}{α:Type u}{as bs:List α}:(as++bs).length=as.length+bs.length:=List.length_append
theorem zLC.{u}{α:Type u}{a:α}{as:List α}:(a::as).length=as.length+1:=rfl
theorem zLN.{u}{α:Type u}:([]:List α).length=0:=rfl
theorem zLM.{u,v}{α:Type u}{β:Type v}{as:List α}(f:α->β):(as.map f).length=as.length:=List.length_map f
theorem zGE.{u}{α:Type u}{l:List α}{i:Nat}(h:i<l.length):l[i]?=some l[i]:=List.getElem?_eq_getElem h
theorem zTS.{u}{α:Type u}{i:Nat}{l:List α}(h:i<l.length):l.take (i+1)=l.take i++[l[i]]:=List.take_succ_eq_append_getElem h
theorem zMG.{u}{α:Type u}{l:List α}{i:Nat}{a:α}(e:l[i]?=some a):a∈l:=List.mem_of_getElem? e
theorem zLT.{u}{α:Type u}{i:Nat}{l:List α}:(l.take i).length=min i l.length:=List.length_take
theorem zMA.{u,v}{α:Type u}{β:Type v}{f:α->β}{l₁ l₂:List α}:(l₁++l₂).map f=l₁.map f++l₂.map f:=List.map_append
theorem zGM.{u}{α:Type u}{l:List α}{n:Nat}(h:n<l.length):l[n]∈l:=List.getElem_mem h
open PySem renaming Str->aa,Value->ac,wpAny_bind->ag,Shared->ah,Heap->az,Obj->aG,World->aH,wpAny_pure->aP,Program->aQ,FuncData->be,Around->bm,wpAny_field->cn,Builtin->dc,NameKind->dB,wpAny_of_eq->dJ,wpAny_call_entry->d4,wpAny_mono->eW,wpAny_ite_split->fm,wpAny_specialOf->fN,wpAny_callSpecial?_slot->gv,wpAny_newObj_type->gx,typeLookup_type->hG,builtinLookup_eq_fast->hJ,wpAny_attempt->hW,wpAny_setField_rec->iC,wpAny_holding->iU,isSubtype_type->iV,wpAny_rule->iW,wpAny_isInstance->ju,wpAny_seqItems->jv,Data->j4,Code->j5,wpAny_setField->j6,wpAny_truthy_bool->ly,wpAny_passesOwn->lz,wpAny_updateSeq->lA,mem_of_lookup->mQ,typeIs_str->mR,tupleKind_room_in1->mS,wpAny_mkInt->oR,wpAny_letGo->oS,Within->qy,wpAny_execs_nil->qz,sizeLine_eq->qB,codeAny_mono->qD,wpAny_Call_Name_kw->qE,call_meets->qF,call_meetsIn->qG,isSubtype_stop->qH,wpAny_pyIter_slot->qI,callType_new->qJ,plainId_quiet->qK,wpAny_Name->uh,wpAny_standAt->ui,wpAny_typeOf->uj,seqIndex_of->uk,seqIndex_neg->ul,call->um,entryFor_of_tree->uo,signature?_of->uq,wpAny_handled->ur,wpAny_throw->ut,wpAny_onRaise->uu,wpAny_newTuple->uv,wpAny_isTrue_Compare1->xP,wpAny_execs_cons->xQ,wpAny_assign_Name->xR,slot_list_getitem->xS,wpAny_Call_method0_late->xT,evalArgs_none->xU,wpAny_Call_method->xV,call_reversed_list->xW,wpAny_comprehension_free->xX,wpAny_pyIter_revIter->xY,wpAny_updateSeq_pair->xZ,codeAny_builtin->ya,wpAny_pyIter_enum->yb
open PySem.W renaming Frag->aA,keepIn->bv,fnOf->bw,codeIn->bC,nsIn->bF,mg_of->cc,findIn->df,isFn->fP,mg_none_of->gy,kia_one->iD,emptyDict->jw,instObj->j7,plainGet->oT,lookIn->qL,hasDictIn->qM,methodObj->uw,plainGet_of->ux,plainOver->uy,takerIn->uz,makesIn->uA,callWith_K->uB,OpenLaw->uC,KdkAt->uD,handedIn->yc,kitx_list->yd,kitx_dict->ye,methodCall_KW->yf,cellsFrom_some->yg,kdl_dict->yh
open Nat renaming le_refl->aE,le_trans->cO,zero_le->cQ,ne_of_lt->dg,mod_lt->d5,lt_of_lt_of_le->eX,ne_of_gt->iX,mul_le_mul_right->iY,add_mul->jx,mul_assoc->jy,lt_irrefl->j8,mul_comm->j9,le_of_lt->mT,mul_le_mul_left->mU,mul_left_comm->mV,pow_add->mW,toDigits->qN,lt_of_le_of_lt->qO,mod_eq_of_lt->qP,one_mul->qQ,le_of_eq->uE,lt_trans->uF,exists_eq_add_of_le->uG,lt_succ_of_lt->uH,pow_le_pow_left->uI,lt_succ_self->yi,toDigits_of_lt_base->yj,add_right_cancel_iff->yk,mod_add_mod->yl,le_of_mul_le_mul_left->ym,le_add_right->yn,min_eq_left->yo
open PySem.Heap renaming get?_push_of_some->bj,lt_size->bn,get?_push_size->bQ,SameBut->gf,size_push->iE,get?_update_self->iF,get?_update_other->jz,push->kc,get?_push_ne->qS,ExtBut->uJ
open List renaming mem_cons->bo,mem_append->br,mem_singleton->bx,getElem?_eq_some_iff->bI,mem_map->bK,map_cons->bM,size_toArray->bX,length_reverse->cR,getElem?_map->cW,length_drop->dh,mem_cons_of_mem->dC,take_of_length_le->dD,append_assoc->dL,mem_append_right->d6,mem_append_left->eu,cons_append->eA,not_mem_nil->eL,lookup_cons->eM,mem_cons_self->eY,reverse_cons->gz,length->iG,nil_append->iH,nodup_cons->iZ,map_nil->i0,mem_iff_getElem->ja,length_eq_zero_iff->jb,range->jA,append_nil->jB,find?_cons->jC,sum_cons->jD,getElem_map->jE,mem_filter->kg,getElem?_append_left->kh,getElem?_zip_eq_some->ki,map_map->kj,lookup->lB,all_eq_true->lC,reverse_append->lD,map_congr_left->lE,dropLast_concat->lF,getElem?_append_right->mX,mem_reverse->mY,flatMap_append->mZ,sum_append->m3,length_zip->m5,pairwise_iff_getElem->m6,filter_append->m7,filter_cons->m8,of_mem_zip->oU,any_cons->oV,getElem_drop->oW,getElem_take->oX,getElem_append_left->oY,getElem?_reverse->oZ,flatMap_cons->o0,forIn_cons->pb,getElem_zip->pe,mem_of_mem_take->pf,countP->pi,getElem_of_mem->qT,nodup_append->qU,forIn_nil->qV,take_length->qW,nodup_iff_pairwise_ne->qX,pairwise_map->qY,length_filter_le->qZ,filterMap_cons->uK,sizeOf_lt_of_mem->uL,ext_getElem->uM,getElem_toArray->uN,dropLast_concat_getLast->uO,any_eq_true->uP,not_lt->uQ,singleton_append->uR,countP_cons->uS,head?_cons->uT,map_fst_zip->uU,getElem?_eq_none->uV,drop_eq_getElem_cons->uW,take_succ->uX,mem_of_mem_drop->uY,lt_irrefl->uZ,map_take->u0,map_drop->u3,getElem_append_right->u4,getElem?_set_self->yp,getElem?_set_ne->yq,mem_filterMap->yr,getElem?_replicate->yu,getElem?_take_of_lt->yv,length_singleton->yw,takeWhile_cons->yx,mem_flatMap->yy,pairwise_singleton->yz,pairwise_cons->yA,getElem?_cons_succ->yB,zip_cons_cons->yC,zipIdx_cons->yD,zipIdx_nil->yE,getElem_reverse->yF,length_range->yG,range_succ->yH,length_pos_iff->yI,countP_le_length->yJ,countP_append->yK,getD_eq_getElem?_getD->yL,drop_of_length_le->yM
open PySem.Str renaming ofString->bL,join->rf
open PySem.F renaming plainAttrs_list->bY,slot_list_append->cX,type_list_append->cY,slot_zip_next->jF,slot_list_pop->kl,type_list_pop->km,slot_dict_get->m9,slot_list_extend->pj,type_list_extend->pk,entry_dict_get->rh,entry_zip_next->rj,args_zip_next_1->rk,slot_enumerate_next->rl,plain_extend_loop->u5,plain_extend_loop->u6,args_dict_get_2->yN,args_dict_get_3->yO,plainAttrs_dict->yP,type_dict_get->yQ,args_object_init_2->yR,called_list->yS,typeCall_list_1->yT,entry_list_init->yU,args_list_init_2->yV,slot_zip_iter->yW,entry_extend_loop->yX,plainAttrs_str->yY,slot_str_join->yZ,type_str_join->y8,entry_enumerate_next->y9,args_enumerate_next_1->za,slot_dict_itemiterator_iter->zb,slot_dict_items->zc,slot_list_index->zd,type_list_index->ze
open Option.some renaming inj->cv,injEq->lG
open PyProof.Rows renaming IsTup->cw,callWith_type1->gg,envOfC->gh,slot_tupleiter_next->rm,slot_tuple_getitem->u7,slot_tuple_getitem->u8,slot_str_getitem->u9,len_tuple->vc,subscriptTail_builtinR->zf,join_plain_closes->zg,entry_tupleiter_next->zh,args_tupleiter_next->zi
open PySem.PassesOwn renaming never->cx
open Bool renaming false_ne_true->cM,and_eq_true->h8,eq_false_iff->h9,false_eq_true->iI,eq_iff_iff->rn,or_false->rq,not_eq_true'->zj,not_eq_true->zl
open PySem.SeqAt renaming EqAt->dW,RcNeAt->vd,notIn_listAt->zm,eq_tupleAt->zn
open PySem.Obj renaming mapSeq->eB,data_mapFields->kn,isFreed_of_fields->pp,mapFields->rA
open Ne renaming symm->fQ
open PySem.Builtin.SmallTypes renaming nextOf->gj,ownedTupleIsFree->na,ownedTupleHandOut->rB,newClass->zo
open False renaming elim->gF
open PySem.Calls renaming spliced_cons->ia,spliced_nil->iJ,callWith_builtin->rC,evalArgs_plain->ve,Name_function_global->zp
open Classical renaming byContradiction->ic,axiomOfChoice->zq
open List.cons renaming injEq->jG
open PySem.Heap.SameBut renaming update->ko
open Sum.inr renaming inj->lH
open Array renaming length_toList->lI,ext'->vf,getElem?_toList->zr,getElem?_eq_some_iff->zt,getElem?_eq_getElem->zu,forIn_toList->zv
open Int renaming toNat_natCast->lJ,emod_nonneg->ng,emod_lt_of_pos->nh,eq_ofNat_of_zero_le->rD,mul_one->vg,pow_nonneg->vh,le_trans->vi,mul_le_mul_of_nonneg_right->zw
open PySem.Builtin.List renaming listTooLong->lK,listExtendWith->lM,listLengthHint->ni,listSameRef->rE,listItems->rF,listFitsIndex->rG,listUpdate->zx
open Option renaming map_some->nj,or_none->nk,getD_some->nn,none_or->pq,getD_none->rH,isSome_map->vj,isNone_iff_eq_none->vk,isSome_iff_exists->zy,map_eq_some_iff->zA,bind_some->zB,toList_some->zC
open PySem.Txt renaming join->pw
open PySem.Builtin.Slice renaming slicePlaces->rJ,sliceAdjust->vm,sliceApplied->zD
open LawfulBEq renaming eq_of_beq->rK
open PySem.Builtin.Tuple renaming tupleExact->rL
open PySem.Builtin.Str renaming occurrences->vn
open PySem.Around renaming under->vo,under_plainId->zE
open PySem.Code renaming isFrame->vp
open LawfulMonad renaming pure_bind->vq
open PySem.NumText renaming digitsVal->vt
open PySem.Shared renaming heap->vv
open Function renaming comp->vw,comp_def->zF
open PySem.SeqAt.EqAt renaming int_str->zG,str_int->zH
open PySem.Challenge renaming rw_blankform_k09_whole_names_make_no_differ->zI
set_option Elab.async false
set_option linter.all false
set_option maxRecDepth 100000
namespace L2
open PySem PySem.Spec PyProof.Rows
abbrev Key:=Sum Int aa
def nq:Key->ac->Bool
 |.inl k,v=>ac.isInt k v
 |.inr x,v=>ac.isStrOf x v
def EN(w:aH):Key->Int
 |.inl k=>hashInt k
 |.inr x=>hashStr w x
theorem jc:∀{k:Key}{v:ac},nq k v=true->(∃i t,k=Sum.inl i/\v=ac.int i t)\/(∃x t,k=Sum.inr x/\v=ac.str x t)
 |.inl i,v,h=>by
  obtain⟨t,e⟩:=ac.isInt_shape (k:=i) (v:=v) h
  exact .inl ⟨i,t,rfl,e⟩
 |.inr x,v,h=>by
  obtain⟨t,e⟩:=ac.isStrOf_shape (x:=x) (v:=v) h
  exact .inr ⟨x,t,rfl,e⟩
theorem EO(i:Int)(t:Tok):nq (.inl i) (.int i t)=true:=by simp[nq,ac.isInt]
theorem EQ(x:aa)(t:Tok):nq (.inr x) (.str x t)=true:=by simp[nq,ac.isStrOf]
theorem ER(a b:Int):decide ((Sum.inl a:Key)=Sum.inl b)=(a==b):=by
 by_cases e:a=b
 ·subst e;simp
 ·have h:¬(Sum.inl a:Key)=Sum.inl b:=fun q=>e (Sum.inl.inj q)
  rw[decide_eq_false h]
  exact(beq_eq_false_iff_ne.mpr e).symm
theorem ES(a b:aa):decide ((Sum.inr a:Key)=Sum.inr b)=decide (a=b):=by
 by_cases e:a=b
 ·subst e;simp
 ·have h:¬(Sum.inr a:Key)=Sum.inr b:=fun q=>e (lH q)
  rw[decide_eq_false h,decide_eq_false e]
theorem ET(a:Int)(b:aa):decide ((Sum.inl a:Key)=Sum.inr b)=false:=decide_eq_false (fun q=>nomatch q)
theorem EU(a:aa)(b:Int):decide ((Sum.inr a:Key)=Sum.inl b)=false:=decide_eq_false (fun q=>nomatch q)
def dn(prog:aQ)(w:aH):PySem.KeyKind prog w Key where
 is:=nq
 hash:=EN w
 inj:=fun v a b ha hb=>by
    rcases jc ha with⟨i,t,rfl,rfl⟩|⟨x,t,rfl,rfl⟩
    ·rcases jc hb with⟨j,u,rfl,e⟩|⟨y,u,rfl,e⟩
     ·injection e with e1 _;rw[e1]
     ·exact nomatch e
    ·rcases jc hb with⟨j,u,rfl,e⟩|⟨y,u,rfl,e⟩
     ·exact nomatch e
     ·injection e with e1 _;rw[e1]
 byValue:=fun k v h=>by
    rcases jc h with⟨i,t,rfl,rfl⟩|⟨x,t,rfl,rfl⟩<;>rfl
 pyHash:=fun hv h=>by
    rcases jc hv with⟨i,t,rfl,rfl⟩|⟨x,t,rfl,rfl⟩
    ·exact wpAny_pyHash_int h
    ·exact wpAny_pyHash_str h
 eqBool:=fun hu hv h=>by
    rcases jc hu with⟨i,t,rfl,rfl⟩|⟨x,t,rfl,rfl⟩
    ·rcases jc hv with⟨j,u,rfl,rfl⟩|⟨y,u,rfl,rfl⟩
     ·rw[ER]at h;exact wpAny_eqBool_int h
     ·rw[ET]at h;exact zG i t y u _ _ _ _ h
    ·rcases jc hv with⟨j,u,rfl,rfl⟩|⟨y,u,rfl,rfl⟩
     ·rw[EU]at h;exact zH x t j u _ _ _ _ h
     ·rw[ES]at h;exact wpAny_eqBool_str h
 «strs»:=fun k x t v h=>by
    rcases jc h with⟨i,u,rfl,e⟩|⟨y,u,rfl,e⟩
    ·exact nomatch e
    ·injection e with e1 _
     subst e1
     cases v<;>rfl
theorem EV(prog:aQ)(w:aH)(i:Int)(t:Tok):(dn prog w).is (.inl i) (.int i t)=true:=EO i t
theorem EW(prog:aQ)(w:aH)(x:aa)(t:Tok):(dn prog w).is (.inr x) (.str x t)=true:=EQ x t
inductive V where
 |non|bl (b:Bool)|int (i:Int)|str (x:aa)|byt (b:Array UInt8)|flt (b:UInt64)|ref (a:Addr)|ty (n:String)
 deriving DecidableEq
def aW:V->ac->Prop
 |.non,u=>u=ac.none
 |.bl b,u=>u=ac.bool b
 |.int i,u=>∃t,u=ac.int i t
 |.str x,u=>∃t,u=ac.str x t
 |.byt b,u=>∃t,u=ac.bytes b t
 |.flt b,u=>∃t,u=ac.float b t
 |.ref a,u=>u=ac.ref a
 |.ty n,u=>u=ac.type n
abbrev aL:List V->List ac->Prop:=Paired aW
theorem aL.length{xs:List V}{us:List ac}(r:aL xs us):xs.length=us.length:=Paired.length r
theorem aL.get:∀{xs:List V}{us:List ac}{i:Nat}{x:V},aL xs us->xs[i]?=some x->∃u,us[i]?=some u/\aW x u
 |_,_,_,_,.nil,e=>by simp at e
 |_,_,0,_,.cons r _,e=>by simp at e;subst e;exact⟨_,rfl,r⟩
 |_,_,i+1,x,.cons _ t,e=>by
  obtain⟨u,h1,h2⟩:=aL.get (i:=i) (x:=x) t (by simpa using e)
  exact⟨u,by simpa using h1,h2⟩
theorem aL.set{x:V}{u:ac}(r:aW x u):∀{xs:List V}{us:List ac}(i:Nat),aL xs us->aL (xs.set i x) (us.set i u)
 |_,_,_,.nil=>.nil
 |_,_,0,.cons _ t=>.cons r t
 |_,_,i+1,.cons q t=>.cons q (aL.set r i t)
theorem aL.append:∀{xs ys:List V}{us ws:List ac},aL xs us->aL ys ws->aL (xs++ys) (us++ws)
 |_,_,_,_,.nil,s=>s
 |_,_,_,_,.cons r t,s=>.cons r (aL.append t s)
theorem aL.take:∀{xs:List V}{us:List ac}(n:Nat),aL xs us->aL (xs.take n) (us.take n)
 |_,_,0,_=>.nil
 |_,_,_+1,.nil=>.nil
 |_,_,n+1,.cons r t=>.cons r (aL.take n t)
theorem aL.drop:∀{xs:List V}{us:List ac}(n:Nat),aL xs us->aL (xs.drop n) (us.drop n)
 |_,_,0,r=>r
 |_,_,_+1,.nil=>.nil
 |_,_,n+1,.cons _ t=>aL.drop n t
def eN:Option V->Option ac->Prop
 |some v,some u=>aW v u
 |none,none=>True
 |_,_=>False
def KV{κ:Type}:List (κ×V)->List (κ×ac)->Prop:=Paired fun (p:κ×V) (q:κ×ac)=>p.1=q.1/\aW p.2 q.2
def kV:Key->V
 |.inl i=>.int i
 |.inr x=>.str x
inductive HO where
 |lst (xs:List V)
 |tup (xs:List V)
 |dK (kvs:List (Key×V))|dT (kvs:List (List Key×V))
 |set (S:Int->Bool) (n:Nat)
 |ins (C dx:Addr) (fs:List (aa×V))
 |own (x:Addr)
 |xd (fs:List (aa×V))
 |met (f x:Addr)
 |rng (lo hi:Int)
 |frz (o:aG) (u:HO)
 |tbl (ps:Array ac)
 |ext (φ:az->Prop)
abbrev Hp:=Addr->Option HO
def ad(H:Hp)(a:Addr)(o:HO):Hp:=fun b=>if b=a then some o else H b
theorem au{H:Hp}{a:Addr}{o:HO}:ad H a o a=some o:=by unfold ad;rw[if_pos rfl]
theorem am{H:Hp}{a b:Addr}{o:HO}(h:b≠a):ad H a o b=H b:=by unfold ad;rw[if_neg h]
theorem rM{H:Hp}{a:Addr}{o u:HO}:ad (ad H a o) a u=ad H a u:=by
 funext b;unfold ad;split<;>rfl
theorem ce{H:Hp}{a b:Addr}{o u:HO}(h:H a=some o)(h':H b=some u)(d:o≠u):a≠b:=by
 intro e;subst e;rw[h]at h';exact d (cv h')
theorem aF{H:Hp}{a b:Addr}{o:HO}(h:H a=some o)(h':H b=none):a≠b:=by
 intro e;subst e;rw[h]at h';cases h'
section
variable(P:aQ)(w:aH)
def cF(H:Hp)(h:az)(a:Addr):HO->Prop
 |.lst xs=>xs.length<=sizeLine/\∃(its:List ac)(n:Nat),aL xs its/\h.get? a=some { cls:= .type "list",data:= .seq its.toArray n}
 |.tup xs=>xs.length<=sizeLine/\∃its:List ac,aL xs its/\cw h a its.toArray
 |.dK kvs=>kvs.length<=sizeLine/\(a==sysModules)=false/\∃vs,KV kvs vs/\h.DictOf (dn P w) a vs
 |.dT kvs=>kvs.length<=sizeLine/\(a==sysModules)=false/\∃xs:List (List Key×Addr×ac),
  Paired (fun (p:List Key×V) (q:List Key×Addr×ac)=>p.1=q.1/\H q.2.1=some (.tup (p.1.map kV))/\aW p.2 q.2.2) kvs xs/\
  ∃o es ep,h.get? a=some o/\o.ExactDict/\o.data= .dict es ep/\es.toList=xs.map (entryOfKey (tupleKind (dn P w)))/\(xs.map (·.1)).Nodup
 |.set S n=>h.SetOf (intKind P w) a S n
 |.ins C dx fs=>H dx=some (.own a)/\fs.length<=1000/\dx≠a/\h.get? a=some (j7 C dx)/\
  ∃mA,h.Ns1 dx mA/\(∀f,eN (fs.lookup f) (mA f))/\qy mA (fs.map (·.1))
 |.own _=>∃o,h.get? a=some o
 |.xd fs=>∃mA,h.Ns1 a mA/\∀f,eN (fs.lookup f) (mA f)
 |.rng lo hi=>∃t u v,h.get? a=some { cls:= .type "range",data:= .fields #[.int lo t,.int hi u,.int 1 v]}
 |.frz o u=>h.get? a=some o/\cF H h a u
 |.tbl ps=>h.get? a=some { cls:= .none,data:= .fields ps}
 |.met f x=>h.get? a=some (uw (.ref f) (.ref x))
 |.ext φ=>φ h/\(∃o,h.get? a=some o)/\∀h1 h2:az,φ h1->(∀o,h1.get? a=some o->h2.get? a=some o)->φ h2
def cy(H:Hp)(h:az):Prop:=∀a o,H a=some o->cF P w H h a o
end
section
variable{P:aQ}{w:aH}{H H':Hp}{h h':az}{a:Addr}{o:HO}
theorem cF.lt(x:cF P w H h a o):a<h.objs.size:=by
 cases o with
 |lst xs=>obtain⟨_,_,_,_,e⟩:=x;exact bn e
 |tup xs=>obtain⟨_,_,_,p⟩:=x;exact p.lt
 |dK kvs=>obtain⟨_,_,_,_,o,_,_,e,_⟩:=x;exact bn e
 |dT kvs=>obtain⟨_,_,_,_,o,_,_,e,_⟩:=x;exact bn e
 |set S n=>obtain⟨o,_,_,_,e,_⟩:=x;exact bn e
 |ins C dx fs=>obtain⟨_,_,_,e,_⟩:=x;exact bn e
 |own y=>obtain⟨_,e⟩:=x;exact bn e
 |xd fs=>obtain⟨_,⟨_,_,_,e,_⟩,_⟩:=x;exact bn e
 |rng lo hi=>obtain⟨_,_,_,e⟩:=x;exact bn e
 |frz ob u=>obtain⟨e,_⟩:=x;exact bn e
 |tbl ps=>exact bn (show h.get? a=some _ from x)
 |met f y=>exact bn (show h.get? a=some _ from x)
 |ext φ=>obtain⟨_,⟨_,e⟩,_⟩:=x;exact bn e
theorem Paired.mapP{α β:Type}{F G:α->β->Prop}:∀{l₁:List α}{l₂:List β},Paired F l₁ l₂->(∀a b,F a b->G a b)->Paired G l₁ l₂
 |_,_,.nil,_=>.nil
 |_,_,.cons r t,f=>.cons (f _ _ r) (Paired.mapP t f)
theorem Paired.imp'{α β:Type}{F G:α->β->Prop}(f:∀a b,F a b->G a b){l₁:List α}{l₂:List β}(r:Paired F l₁ l₂):Paired G l₁ l₂:=Paired.mapP r f
theorem cF.stay(x:cF P w H h a o)(k:∀b u,(b=a\/H b=some (.own a))->h.get? b=some u->h'.get? b=some u)
 (ho:∀b,H b=some (.own a)->H' b=some (.own a)) (ht:∀b xs,H b=some (.tup xs)->H' b=some (.tup xs)):cF P w H' h' a o:=by
 induction o with
 |lst xs=>obtain⟨z,its,n,r,e⟩:=x;exact⟨z,its,n,r,k _ _ (.inl rfl) e⟩
 |tup xs=>obtain⟨z,its,r,ob,e,c⟩:=x;exact⟨z,its,r,ob,k _ _ (.inl rfl) e,c⟩
 |dK kvs=>obtain⟨z,y,vs,r,ob,es,ep,e,c⟩:=x;exact⟨z,y,vs,r,ob,es,ep,k _ _ (.inl rfl) e,c⟩
 |dT kvs=>
  obtain⟨z,y,xs,r,ob,es,ep,e,c⟩:=x
  exact⟨z,y,xs,Paired.mapP r fun p q z=>⟨z.1,ht _ _ z.2.1,z.2.2⟩,ob,es,ep,k _ _ (.inl rfl) e,c⟩
 |set S n=>obtain⟨ob,es,ep,t,e,c⟩:=x;exact⟨ob,es,ep,t,k _ _ (.inl rfl) e,c⟩
 |ins C dx fs=>
  obtain⟨d,z,ne,e,mA,⟨od,es,ep,e2,c⟩,r⟩:=x
  exact⟨ho _ d,z,ne,k _ _ (.inl rfl) e,mA,⟨od,es,ep,k _ _ (.inr d) e2,c⟩,r⟩
 |own y=>obtain⟨ob,e⟩:=x;exact⟨ob,k _ _ (.inl rfl) e⟩
 |xd fs=>obtain⟨mA,⟨od,es,ep,e,c⟩,r⟩:=x;exact⟨mA,⟨od,es,ep,k _ _ (.inl rfl) e,c⟩,r⟩
 |rng lo hi=>obtain⟨t,u,v,e⟩:=x;exact⟨t,u,v,k _ _ (.inl rfl) e⟩
 |frz ob u ih=>obtain⟨e,q⟩:=x;exact⟨k _ _ (.inl rfl) e,ih q⟩
 |tbl ps=>
  have e:h.get? a=some { cls:= .none,data:= .fields ps}:=x
  show h'.get? a=some { cls:= .none,data:= .fields ps}
  exact k a _ (.inl rfl) e
 |met f y=>
  have e:h.get? a=some (uw (.ref f) (.ref y)):=x
  show h'.get? a=some (uw (.ref f) (.ref y))
  exact k a _ (.inl rfl) e
 |ext φ=>obtain⟨p,⟨o,e⟩,st⟩:=x;exact⟨st _ _ p fun o q=>k _ _ (.inl rfl) q,⟨o,k _ _ (.inl rfl) e⟩,st⟩
theorem cy.lt(x:cy P w H h)(e:H a=some o):a<h.objs.size:=(x a o e).lt
theorem cy.fresh(x:cy P w H h)(e:h.objs.size<=a):H a=none:=by
 cases q:H a with
 |none=>rfl
 |some u=>exact absurd (eX (x.lt q) e) (j8 _)
theorem cy.kept(x:cy P w H h)(k:∀b u,h.get? b=some u->h'.get? b=some u):cy P w H h':=fun a o e=>
 (x a o e).stay (fun b u _ q=>k b u q) (fun _ q=>q) fun _ _ q=>q
theorem cy.laid(x:cy P w H h)(k:∀b u,h.get? b=some u->h'.get? b=some u)(hp:h.objs.size<=a)(new:cF P w (ad H a o) h' a o):cy P w (ad H a o) h':=fun b u e=>by
 have hn:=x.fresh hp
 by_cases hb:b=a
 ·subst hb;rw[au]at e;cases e;exact new
 ·rw[am hb]at e
  exact(x b u e).stay (fun c v _ q=>k c v q) (fun c q=>by rw[am (aF q hn)];exact q) fun c xs q=>by rw[am (aF q hn)];exact q
end
def Rd(H:Hp)(a:Addr)(u:HO):Prop:=H a=some u\/∃o,H a=some (.frz o u)
theorem Rd.ok{P:aQ}{w:aH}{H:Hp}{h:az}{a:Addr}{u:HO}(r:Rd H a u)(x:cy P w H h):cF P w H h a u:=by
 rcases r with r|⟨o,r⟩
 ·exact x a u r
 ·obtain⟨_,q⟩:=x a _ r
  exact q
def px:Option HO->Prop
 |some (.lst _)=>True
 |some (.dK _)=>True
 |some (.dT _)=>True
 |some (.set _ _)=>True
 |some (.ins _ _ _)=>True
 |some (.ext _)=>True
 |_=>False
section
variable{P:aQ}{w:aH}{H:Hp}{h h':az}{x e:Addr}{o':HO}
theorem cy.write(ok:cy P w H h)(mu:px (H x))(he:e=x\/H e=some (.own x))(k:∀b u,b≠e->h.get? b=some u->h'.get? b=some u)(heo:∃u,h'.get? e=some u)
 (new:cF P w (ad H x o') h' x o'):cy P w (ad H x o') h':=fun b u q=>by
 have nown:∀c y,H c=some (.own y)->c≠x:=fun c y r z=>by subst z;rw[r]at mu;exact mu
 have ntup:∀c xs,H c=some (.tup xs)->c≠x:=fun c xs r z=>by subst z;rw[r]at mu;exact mu
 by_cases hb:b=x
 ·subst hb;rw[au]at q;cases q;exact new
 ·rw[am hb]at q
  by_cases hbe:b=e
  ·have q':H b=some (.own x):=by
        rcases he with z|z
        ·exact absurd (hbe.trans z) hb
        ·rw[hbe];exact z
   rw[q]at q';cases q'
   obtain⟨v,hv⟩:=heo
   exact⟨v,by rw[hbe];exact hv⟩
  ·refine(ok b u q).stay (fun c v hc r=>k c v ?_ r) (fun c r=>by rw[am (nown c b r)];exact r) fun c xs r=>by rw[am (ntup c xs r)];exact r
   rcases hc with rfl|hc
   ·exact hbe
   ·rintro rfl
    rcases he with z|z
    ·exact nown c b hc z
    ·rw[hc]at z;cases z;exact hb rfl
end
structure Un(fs ex:List Addr)(H H':Hp)(h h':az):Prop where
 keep:∀b o,h.get? b=some o->H b=none->b∉fs->b∉ex->h'.get? b=some o
 slot:∀b o,h.get? b=some o->H b=none->b∈fs->b∉ex->∃sl,h'.get? b=some { o with slots:=sl}
 free:∀b o,h.get? b=some o->H b=none->b∉ex->H' b=none
 there:∀b o,h.get? b=some o->b∉ex->∃o',h'.get? b=some o'
 tups:∀b xs,H b=some (.tup xs)->H' b=some (.tup xs)
 frzs:∀b o u,H b=some (.frz o u)->H' b=some (.frz o u)
 tbls:∀b ps,H b=some (.tbl ps)->∃more,H' b=some (.tbl (ps++more))
section
variable{fs fs' ex ex':List Addr}{H H1 H2:Hp}{h h1 h2 h':az}{a x e:Addr}{o:HO}
theorem Un.any(u:Un fs ex H H1 h h1){b:Addr}{ob:aG}(q:h.get? b=some ob)(n:H b=none)(hx:b∉ex):∃sl,h1.get? b=some { ob with slots:=sl}:=by
 by_cases hb:b∈fs
 ·exact u.slot b ob q n hb hx
 ·exact⟨ob.slots,u.keep b ob q n hb hx⟩
theorem Un.kept(k:∀b u,h.get? b=some u->h'.get? b=some u):Un fs ex H H h h':=
 ⟨fun b ob q _ _ _=>k b ob q,fun b ob q _ _ _=>⟨ob.slots,k b ob q⟩,fun _ _ _ n _=>n,fun b ob q _=>⟨ob,k b ob q⟩,fun _ _ q=>q,fun _ _ _ q=>q,fun _ ps q=>⟨#[],by rw[q];simp⟩⟩
theorem Un.refl:Un fs ex H H h h:=Un.kept fun _ _ q=>q
theorem Un.laid(k:∀b u,h.get? b=some u->h'.get? b=some u)(hp:h.objs.size<=a)(hn:H a=none):Un fs ex H (ad H a o) h h' where
 keep:=fun b u q _ _ _=>k b u q
 slot:=fun b u q _ _ _=>⟨u.slots,k b u q⟩
 free:=fun b u q n _=>by rw[am (dg (eX (bn q) hp))];exact n
 there:=fun b u q _=>⟨u,k b u q⟩
 tups:=fun b xs q=>by rw[am (aF q hn)];exact q
 frzs:=fun b u xs q=>by rw[am (aF q hn)];exact q
 tbls:=fun b ps q=>⟨#[],by rw[am (aF q hn),q];simp⟩
theorem Un.write(mu:px (H x))(he:e=x\/H e=some (.own x))(k:∀b u,b≠e->h.get? b=some u->h'.get? b=some u)(heo:∃u,h'.get? e=some u):Un fs ex H (ad H x o) h h':=by
 have hx:∀b,H b=none->b≠x:=fun b n z=>by subst z;rw[n]at mu;exact mu
 have hb:∀b,H b=none->b≠e:=fun b n z=>by
  subst z
  rcases he with r|r
  ·exact hx b n r
  ·rw[n]at r;cases r
 have hm:∀b u,H b=some u->¬px (some u)->b≠x:=fun b u q nm z=>by subst z;rw[q]at mu;exact nm mu
 refine⟨fun b u q n _ _=>k b u (hb b n) q,fun b u q n _ _=>⟨u.slots,k b u (hb b n) q⟩,fun b u q n _=>by rw[am (hx b n)];exact n,fun b u q _=>?_,
  fun b xs q=>by rw[am (hm b _ q fun z=>z)];exact q,fun b u xs q=>by rw[am (hm b _ q fun z=>z)];exact q,fun b ps q=>⟨#[],by rw[am (hm b _ q fun z=>z),q];simp⟩⟩
 by_cases hbe:b=e
 ·subst hbe;exact heo
 ·exact⟨u,k b u hbe q⟩
end
def rN(h:az)(H:Hp):List Addr:=(jA h.objs.size).filter fun a=>(H a).isSome
def jH(h:az)(H:Hp):az:=PySem.W.hideAll h (rN h H)
theorem EX(h:az)(H:Hp):(jH h H).objs.size=h.objs.size:=PySem.W.hideAll_size _ _
theorem EY{h:az}{H:Hp}{b:Addr}{o:aG}(e:h.get? b=some o)(n:H b=none):(jH h H).get? b=some o:=
 PySem.W.hideAll_get _ e fun hm=>by
  have q:(H b).isSome=true:=(kg.mp hm).2
  rw[n]at q;simp at q
theorem EZ{h:az}{H:Hp}{b:Addr}{o:aG}(e:(jH h H).get? b=some o):h.get? b=some o/\H b=none:=by
 have e':h.get? b=some o:=PySem.W.of_hideAll (rN h H) e
 refine⟨e',?_⟩
 cases q:H b with
 |none=>rfl
 |some x=>
  have hm:b∈rN h H:=kg.mpr ⟨List.mem_range.mpr (bn e'),by simp[q]⟩
  have z:(jH h H).get? b=none:=PySem.W.hideAll_none (rN h H) hm
  rw[z]at e;cases e
structure Mod(K:aA)(mg:aa->Option ac)(base:az):Prop where
 kin:K.In base
 glob:base.Ns mainGlobals mg
 blt:∃mb,base.Ns builtinsNs mb/\∀x:aa,x≠"__name__"->mb x=bootBuiltins x
 nolimit:base.NoLimit
structure Cx where
 prog:aQ
 w:aH
 K:aA
 mg:aa->Option ac
 base:az
 A:bm
 N:List aa
 s₀:ah
 H₀:Hp
 env:Env
 outer:List Env
 stack:List Env
 ex:List Addr
 fn:aa->Bool
 calm:Bool
 pn:List (Addr×aG)
 xe:ac->ah->Prop
def ie(l:List Env):List Addr:=l.filterMap (·.frame)
abbrev Cx.fs(X:Cx):List Addr:=ie X.outer
def vx(sc:Scope)(x:aa):Prop:=sc.names.lookup x=some .local\/sc.names.lookup x=some .cell\/sc.names.lookup x=some .free
def pz(sc:Scope)(x:aa):Prop:=sc.names.lookup x=some .local\/sc.names.lookup x=some .cell
def E1(env:Env)(h:az)(m:aa->Option ac)(x:aa)(u:ac):Prop:=
 (env.kindOf x=some .local/\m x=some u)\/((env.kindOf x=some .cell\/env.kindOf x=some .free)/\∃c,env.cells.lookup x=some c/\h.IsCell c (some u))
structure Cx.Ok(X:Cx):Prop where
 mod:Mod X.K X.mg X.base
 kind:X.env.scope.kind= .function
 glob:X.env.globals=mainGlobals
 blt:X.env.builtins=builtinsNs
 above:X.s₀.heap.objs.size<=X.env.locals
 inj:∀x y c,X.env.cells.lookup x=some c->X.env.cells.lookup y=some c->x=y
 has:∀x,(X.env.kindOf x=some .cell\/X.env.kindOf x=some .free)->∃c,X.env.cells.lookup x=some c
 cab:∀x c,X.fn x=true->X.env.cells.lookup x=some c->X.s₀.heap.objs.size<=c
 hd:X.calm=true->X.A.handled=none
 frames:X.A.frames=some X.stack
 stk:X.stack=X.outer\/(X.stack=X.env::X.outer/\X.env.frame=some X.env.locals)
 exf:∀b∈X.ex,b≠X.env.locals/\∀x c,X.env.cells.lookup x=some c->c≠b
 bs:∀b o,X.base.get? b=some o->X.s₀.heap.get? b=some o/\X.H₀ b=none
 bsz:X.base.objs.size<=X.s₀.heap.objs.size
 noex:∀b o,X.base.get? b=some o->b∉X.ex
 exfs:∀b∈X.ex,b∉X.fs
 funs:X.s₀.heap.FunFrames X.base X.outer
 frf:∀b∈X.fs,X.H₀ b=none
structure Inv(X:Cx)(pins:List (Addr×aG))(σ:List (Option V))(H:Hp)(s:ah):Prop where
 ok:X.Ok
 os:s.os=X.s₀.os
 bare:AllBare s.gens
 base:Un X.fs X.ex X.H₀ H X.s₀.heap s.heap
 loc:∃m,s.heap.Ns X.env.locals m/\∀(i:Nat)(x:aa)(v:V),X.N[i]?=some x->σ[i]?=some (some v)->vx X.env.scope x->∃u,aW v u/\E1 X.env s.heap m x u
 cell:∀x c,X.env.cells.lookup x=some c->∃v,s.heap.IsCell c v
 free:H X.env.locals=none
 freeC:∀x c,X.env.cells.lookup x=some c->H c=none
 pin:∀p∈X.pn++pins,s.heap.get? p.1=some p.2/\H p.1=none/\p.1≠X.env.locals/\p.1∉X.fs/\∀v,p.2.data≠ .cell v
 hok:cy X.prog X.w H s.heap
 len:σ.length=X.N.length
section
variable{X:Cx}{pins:List (Addr×aG)}{σ:List (Option V)}{H H':Hp}{s:ah}{h':az}
theorem Cx.Ok.nofr(ok:X.Ok){b:Addr}{o:aG}(e:X.base.get? b=some o):b∉X.fs:=fun hb=>by
 have:=(ok.funs.mem hb).1
 rw[e]at this;cases this
theorem Inv.bs(I:Inv X pins σ H s):∀b o,X.base.get? b=some o->s.heap.get? b=some o/\H b=none:=fun b o e=>
 ⟨I.base.keep b o (I.ok.bs b o e).1 (I.ok.bs b o e).2 (I.ok.nofr e) (I.ok.noex b o e),I.base.free b o (I.ok.bs b o e).1 (I.ok.bs b o e).2 (I.ok.noex b o e)⟩
theorem Inv.bk(I:Inv X pins σ H s):∀b o,X.base.get? b=some o->s.heap.get? b=some o:=fun b o e=>(I.bs b o e).1
theorem Inv.mod(I:Inv X pins σ H s):Mod X.K X.mg X.base:=I.ok.mod
theorem Inv.kIn(I:Inv X pins σ H s):X.K.In s.heap:=I.ok.mod.kin.keeps I.bk
theorem Inv.lt(I:Inv X pins σ H s):X.env.locals<s.heap.objs.size:=let ⟨_,hn,_⟩:=I.loc;hn.lt
theorem Inv.sz(I:Inv X pins σ H s):X.s₀.heap.objs.size<=s.heap.objs.size:=cO I.ok.above (mT I.lt)
theorem Inv.nofs(I:Inv X pins σ H s){a:Addr}(h:s.heap.objs.size<=a):a∉X.fs:=fun hb=>by
 obtain⟨_,o,ho,_⟩:=I.ok.funs.mem hb
 exact absurd (eX (bn ho) (cO I.sz h)) (j8 _)
theorem Inv.cne(I:Inv X pins σ H s):∀x c,X.env.cells.lookup x=some c->c≠X.env.locals:=fun x c e z=>by
 obtain⟨v,o,ho,hd⟩:=I.cell x c e
 obtain⟨m,⟨o',es,ep,ho',hd',_⟩,_⟩:=I.loc
 rw[z,ho']at ho;cases ho;rw[hd']at hd;cases hd
theorem Inv.funs(I:Inv X pins σ H s):s.heap.FunFrames X.base X.outer:=by
 have all:∀(l:List Env),(∀b∈ie l,b∈X.fs)->X.s₀.heap.FunFrames X.base l->s.heap.FunFrames X.base l:=by
  intro l
  induction l with
  |nil=>intro _ _;trivial
  |cons env r ih=>
   intro hs hl
   obtain⟨hk,⟨L,o,hf,hn,ho,hd⟩,hr⟩:=hl
   have hL:L∈X.fs:=hs L (by unfold ie;rw[uK,hf];exact eY)
   obtain⟨sl,e⟩:=I.base.slot L o ho (I.ok.frf L hL) hL fun z=>I.ok.exfs L z hL
   exact⟨hk,⟨L,_,hf,hn,e,hd⟩,ih (fun b hb=>hs b (by unfold ie;rw[uK,hf];exact dC _ hb)) hr⟩
 exact all X.outer (fun _ hb=>hb) I.ok.funs
theorem Inv.stack(I:Inv X pins σ H s):s.heap.FunFrames X.base X.stack:=by
 rcases I.ok.stk with e|⟨e,hf⟩
 ·rw[e];exact I.funs
 ·rw[e]
  obtain⟨m,hn,_⟩:=I.loc
  refine .cons (by rw[I.ok.kind];decide) hf hn ?_ I.funs
  exact az.get?_none_of_le (cO I.ok.bsz I.ok.above)
theorem Inv.stkSub(I:Inv X pins σ H s):∀b∈ie X.stack,b∈X.env.locals::X.fs:=fun b hb=>by
 rcases I.ok.stk with e|⟨e,hf⟩
 ·rw[e]at hb;exact dC _ hb
 ·rw[e]at hb
  unfold ie at hb
  rw[uK,hf]at hb
  exact hb
theorem Inv.stkFree(I:Inv X pins σ H s):∀b∈ie X.stack,H b=none:=fun b hb=>by
 rcases bo.mp (I.stkSub b hb)with e|hb
 ·rw[e];exact I.free
 ·obtain⟨_,o,ho,_⟩:=I.ok.funs.mem hb
  exact I.base.free b o ho (I.ok.frf b hb) fun z=>I.ok.exfs b z hb
theorem Inv.step{g':Array GenState}{t':Nat}{d':Drawn}{ch:List Addr}(I:Inv X pins σ H s)
 (hch:∀b∈ch,(b∈X.ex\/X.s₀.heap.objs.size<=b)/\b≠X.env.locals/\(∀x c,X.env.cells.lookup x=some c->c≠b)/\∀p∈X.pn++pins,p.1≠b)
 (keep:∀b o,b≠X.env.locals->b∉X.fs->b∉ch->s.heap.get? b=some o->H b=none->h'.get? b=some o)
 (slot:∀b o,b≠X.env.locals->b∈X.fs->b∉ch->s.heap.get? b=some o->H b=none->∃sl,h'.get? b=some { o with slots:=sl}) (free:∀b o,b∉ch->s.heap.get? b=some o->H b=none->H' b=none)
 (there:∀b o,b∉ch->s.heap.get? b=some o->∃o',h'.get? b=some o')
 (tups:∀b xs,H b=some (.tup xs)->H' b=some (.tup xs)) (frzs:∀b o u,H b=some (.frz o u)->H' b=some (.frz o u)) (tbls:∀b ps,H b=some (.tbl ps)->∃more,H' b=some (.tbl (ps++more)))
 (ns:∀m,s.heap.Ns X.env.locals m->h'.Ns X.env.locals m) (hok:cy X.prog X.w H' h') (hg:AllBare g'):
 Inv X pins σ H' { s with heap:=h',gens:=g',drawn:=d',toks:=t'}:=by
 have neL:∀b o,X.s₀.heap.get? b=some o->b≠X.env.locals:=fun b o e=>dg (eX (bn e) I.ok.above)
 have neC:∀b o,X.s₀.heap.get? b=some o->b∉X.ex->b∉ch:=fun b o e hx hb=>by
  rcases(hch b hb).1 with z|z
  ·exact hx z
  ·exact absurd (eX (bn e) z) (j8 _)
 have cellK:∀x c,X.env.cells.lookup x=some c->∀v,s.heap.IsCell c v->h'.IsCell c v:=fun x c e v ⟨o,ho,hd⟩=>by
  have nch:c∉ch:=fun z=>(hch c z).2.2.1 x c e rfl
  by_cases hc:c∈X.fs
  ·obtain⟨sl,q⟩:=slot c o (I.cne x c e) hc nch ho (I.freeC x c e)
   exact⟨_,q,hd⟩
  ·exact⟨o,keep c o (I.cne x c e) hc nch ho (I.freeC x c e),hd⟩
 refine⟨I.ok,I.os,hg,⟨fun b o e n hb hx=>?_,fun b o e n hb hx=>?_,fun b o e n hx=>?_,fun b o e hx=>?_,fun b xs e=>tups b xs (I.base.tups b xs e),fun b o xs e=>frzs b o xs (I.base.frzs b o xs e),fun b ps e=>?_⟩,?_,fun x c e=>?_,?_,fun x c e=>?_,fun p hp=>?_,hok,I.len⟩
 ·exact keep b o (neL b o e) hb (neC b o e hx) (I.base.keep b o e n hb hx) (I.base.free b o e n hx)
 ·obtain⟨sl,e1⟩:=I.base.slot b o e n hb hx
  obtain⟨sl',e2⟩:=slot b _ (neL b o e) hb (neC b o e hx) e1 (I.base.free b o e n hx)
  exact⟨sl',e2⟩
 ·obtain⟨o',e1⟩:=I.base.there b o e hx
  exact free b o' (neC b o e hx) e1 (I.base.free b o e n hx)
 ·obtain⟨o',e1⟩:=I.base.there b o e hx
  exact there b o' (neC b o e hx) e1
 ·obtain⟨m1,e1⟩:=I.base.tbls b ps e
  obtain⟨m2,e2⟩:=tbls b _ e1
  exact⟨m1++m2,by rw[e2,Array.append_assoc]⟩
 ·obtain⟨m,hn,hl⟩:=I.loc
  refine⟨m,ns m hn,fun i x v e1 e2 e3=>?_⟩
  obtain⟨u,r,l⟩:=hl i x v e1 e2 e3
  refine⟨u,r,?_⟩
  rcases l with l|⟨k,c,e,z⟩
  ·exact .inl l
  ·exact .inr ⟨k,c,e,cellK x c e _ z⟩
 ·obtain⟨v,z⟩:=I.cell x c e
  exact⟨v,cellK x c e v z⟩
 ·obtain⟨m,⟨o,_,_,ho,_⟩,_⟩:=I.loc
  exact free _ o (fun z=>(hch _ z).2.1 rfl) ho I.free
 ·obtain⟨v,o,ho,hd⟩:=I.cell x c e
  exact free c o (fun z=>(hch c z).2.2.1 x c e rfl) ho (I.freeC x c e)
 ·obtain⟨e,n,ne,nf,d⟩:=I.pin p hp
  have nch:p.1∉ch:=fun z=>(hch p.1 z).2.2.2 p hp rfl
  exact⟨keep p.1 p.2 ne nf nch e n,free p.1 p.2 nch e n,ne,nf,d⟩
theorem Inv.un{t':Nat}(I:Inv X pins σ H s)(u:Un X.fs [] H H' s.heap h')(hok:cy X.prog X.w H' h'):Inv X pins σ H' { s with heap:=h',toks:=t'}:=by
 obtain⟨m,⟨o,es,ep,ho,r⟩,_⟩:=id I.loc
 obtain⟨sl,hL⟩:=u.any ho I.free (by simp)
 exact I.step (g':=s.gens) (d':=s.drawn) (ch:=[]) (fun _ z=>nomatch z) (fun b o _ hb _ e n=>u.keep b o e n hb (by simp)) (fun b o _ hb _ e n=>u.slot b o e n hb (by simp)) (fun b o _ e n=>u.free b o e n (by simp)) (fun b o _ e=>u.there b o e (by simp)) u.tups u.frzs u.tbls (fun m' hm=>by
  obtain⟨o',es',ep',ho',r'⟩:=hm
  rw[ho]at ho';cases ho'
  exact⟨_,es',ep',hL,r'⟩) hok I.bare
theorem Inv.call{g':Array GenState}{t':Nat}{d':Drawn}{ch:List Addr}(I:Inv X pins σ H s)(u:Un (ie X.stack) ch H H' s.heap h')(hok:cy X.prog X.w H' h')(hg:AllBare g')
 (hch:∀b∈ch,(b∈X.ex\/X.s₀.heap.objs.size<=b)/\b≠X.env.locals/\(∀x c,X.env.cells.lookup x=some c->c≠b)/\∀p∈X.pn++pins,p.1≠b):
 Inv X pins σ H' { s with heap:=h',gens:=g',drawn:=d',toks:=t'}:=by
 obtain⟨m,⟨o,es,ep,ho,r⟩,_⟩:=id I.loc
 obtain⟨sl,hL⟩:=u.any ho I.free fun z=>(hch _ z).2.1 rfl
 exact I.step (ch:=ch) hch (fun b o hL hb hc e n=>u.keep b o e n (fun z=>(bo.mp (I.stkSub b z)).elim hL hb) hc) (fun b o _ _ hc e n=>u.any e n hc) (fun b o hc e n=>u.free b o e n hc) (fun b o hc e=>u.there b o e hc) u.tups u.frzs u.tbls (fun m' hm=>by
  obtain⟨o',es',ep',ho',r'⟩:=hm
  rw[ho]at ho';cases ho'
  exact⟨_,es',ep',hL,r'⟩) hok hg
theorem Inv.turned{t':Nat}{it:Addr}(I:Inv X pins σ H s)(k:∀b o,b≠it->s.heap.get? b=some o->h'.get? b=some o)(hn:H it=none)(hL:it≠X.env.locals)
 (h1:it∈X.ex\/X.s₀.heap.objs.size<=it) (h2:∀x c,X.env.cells.lookup x=some c->c≠it) (h3:∀p∈X.pn++pins,p.1≠it):Inv X pins σ H { s with heap:=h',toks:=t'}:=by
 have nit:∀b u,H b=some u->b≠it:=fun b u e z=>by rw[z,hn]at e;cases e
 refine I.step (g':=s.gens) (d':=s.drawn) (ch:=[it]) (fun b hb=>?_) (fun b o _ _ hc e _=>k b o (fun z=>hc (by simp[z])) e) (fun b o _ _ hc e _=>⟨o.slots,k b o (fun z=>hc (by simp[z])) e⟩) (fun _ _ _ _ n=>n)
  (fun b o hc e=>⟨o,k b o (fun z=>hc (by simp[z])) e⟩) (fun _ _ e=>e) (fun _ _ _ e=>e) (fun b ps e=>⟨#[],by rw[e];simp⟩) (fun m hm=>?_) (fun b u e=>?_) I.bare
 ·have e:b=it:=by simpa using hb
  subst e
  exact⟨h1,hL,h2,h3⟩
 ·obtain⟨o,es,ep,ho,r⟩:=hm
  exact⟨o,es,ep,k _ o (fQ hL) ho,r⟩
 ·refine(I.hok b u e).stay (fun c v hc q=>k c v ?_ q) (fun _ q=>q) fun _ _ q=>q
  rcases hc with z|z
  ·rw[z];exact nit b u e
  ·exact nit c _ z
theorem Inv.tok(I:Inv X pins σ H s)(t:Nat):Inv X pins σ H { s with toks:=t}:=I.un (h':=s.heap) (t':=t) Un.refl I.hok
theorem Inv.kept{t':Nat}(I:Inv X pins σ H s)(k:∀b u,s.heap.get? b=some u->h'.get? b=some u):Inv X pins σ H { s with heap:=h',toks:=t'}:=I.un (Un.kept k) (I.hok.kept k)
theorem Inv.laid{a:Addr}{o:HO}{t':Nat}(I:Inv X pins σ H s)(k:∀b u,s.heap.get? b=some u->h'.get? b=some u)(hp:s.heap.objs.size<=a)(new:cF X.prog X.w (ad H a o) h' a o):
 Inv X pins σ (ad H a o) { s with heap:=h',toks:=t'}:=I.un (Un.laid k hp (I.hok.fresh hp)) (I.hok.laid k hp new)
theorem Inv.write{x e:Addr}{o:HO}{t':Nat}(I:Inv X pins σ H s)(mu:px (H x))(he:e=x\/H e=some (.own x))(k:∀b u,b≠e->s.heap.get? b=some u->h'.get? b=some u)(heo:∃u,h'.get? e=some u)
 (new:cF X.prog X.w (ad H x o) h' x o):Inv X pins σ (ad H x o) { s with heap:=h',toks:=t'}:=I.un (Un.write mu he k heo) (I.hok.write mu he k heo new)
theorem Inv.pins_of{pins':List (Addr×aG)}(I:Inv X pins σ H s)(h:∀p∈pins',s.heap.get? p.1=some p.2/\H p.1=none/\p.1≠X.env.locals/\p.1∉X.fs/\∀v,p.2.data≠ .cell v):Inv X pins' σ H s:=
 ⟨I.ok,I.os,I.bare,I.base,I.loc,I.cell,I.free,I.freeC,fun p hp=>(br.mp hp).elim (fun z=>I.pin p (eu _ z)) (h p),I.hok,I.len⟩
theorem zK{N:List aa}(hN:N.Nodup){i j:Nat}{x:aa}(a:N[i]?=some x)(b:N[j]?=some x):i=j:=by
 obtain⟨h1,e1⟩:=bI.mp a
 obtain⟨h2,e2⟩:=bI.mp b
 exact(List.getElem_inj hN).mp (e1.trans e2.symm)
theorem zL{M:Model}{A:bm}{E:ac->ah->Prop}{i:Nat}{x:aa}{v:V}{u:ac}{Q:Unit->ah->Prop}(I:Inv X pins σ H s)(hN:X.N.Nodup)(hi:X.N[i]?=some x)(hx:pz X.env.scope x)(r:aW v u)
 (h:∀s',Inv X pins (σ.set i (some v)) H s'->(∃a,gf a s.heap s'.heap/\(a=X.env.locals\/X.env.cells.lookup x=some a))->Q () s') (hf:X.fn x=true\/X.env.scope.names.lookup x=some .local:=by first|exact .inl rfl|exact .inr rfl|assumption):wpAny M A (storeName X.env x u) Q E s:=by
 obtain⟨m,hn,hl⟩:=id I.loc
 have hcls:(X.env.scope.kind== .class||(X.env.scope.kind== .module&&X.env.locals != X.env.globals))=false:=by rw[I.ok.kind];rfl
 have hiσ:i<σ.length:=by rw[I.len];exact(bI.mp hi).1
 have cne:=I.cne
 have tracked:∀{a:Addr}{h':az},(∃o,s.heap.get? a=some o/\H a=none)->gf a s.heap h'->cy X.prog X.w H h':=fun {a h'} ha hs b ob e=>by
  obtain⟨_,_,hfree⟩:=ha
  refine(I.hok b ob e).stay (fun c w' hc q=>(hs.2 c ?_).trans q) (fun _ q=>q) fun _ _ q=>q
  rintro rfl
  rcases hc with rfl|hc
  ·rw[hfree]at e;cases e
  ·rw[hfree]at hc;cases hc
 rcases hx with hk|hk
 ·refine wpAny_storeName_local hk hn (fun h' hn' hs=>?_) hcls
  obtain⟨oL,_,_,hoL,_⟩:=id hn
  refine h _ ⟨I.ok,I.os,I.bare,⟨fun b o e n hb hx=>?_,fun b o e n hb hx=>?_,I.base.free,fun b o e hx=>?_,I.base.tups,I.base.frzs,I.base.tbls⟩,⟨_,hn',fun j y v' e1 e2 e3=>?_⟩,fun y c e=>?_,I.free,I.freeC,fun p hp=>?_,tracked ⟨oL,hoL,I.free⟩ hs,by simpa using I.len⟩ ⟨_,hs,.inl rfl⟩
  ·exact(hs.2 b (dg (eX (bn e) I.ok.above))).trans (I.base.keep b o e n hb hx)
  ·obtain⟨sl,e1⟩:=I.base.slot b o e n hb hx
   exact⟨sl,(hs.2 b (dg (eX (bn e) I.ok.above))).trans e1⟩
  ·obtain⟨o',e1⟩:=I.base.there b o e hx
   exact⟨o',(hs.2 b (dg (eX (bn e) I.ok.above))).trans e1⟩
  ·by_cases hj:j=i
   ·subst hj
    rw[hi]at e1;cases e1
    rw[yp hiσ]at e2
    cases e2
    exact⟨u,r,.inl ⟨hk,by simp⟩⟩
   ·rw[yq (fQ hj)]at e2
    obtain⟨u',r',q⟩:=hl j y v' e1 e2 e3
    refine⟨u',r',?_⟩
    rcases q with⟨k,e⟩|⟨k,c,e,z⟩
    ·refine .inl ⟨k,?_⟩
     have:y≠x:=fun e=>hj (zK hN e1 (e▸hi))
     simp[this,e]
    ·exact .inr ⟨k,c,e,z.sameBut hs (cne y c e)⟩
  ·obtain⟨w',z⟩:=I.cell y c e
   exact⟨w',z.sameBut hs (cne y c e)⟩
  ·obtain⟨e,n,ne,nf,d⟩:=I.pin p hp
   exact⟨(hs.2 p.1 ne).trans e,n,ne,nf,d⟩
 ·have hfn:X.fn x=true:=by
   rcases hf with z|z
   ·exact z
   ·rw[z]at hk;cases hk
  obtain⟨c,hc⟩:=I.ok.has x (.inl hk)
  obtain⟨w',z⟩:=I.cell x c hc
  refine wpAny_storeName_cell I.ok.kind hk hc z (fun h' hc' hs=>?_)
  obtain⟨oc,hoc,hocd⟩:=id z
  refine h { s with heap:=h'} ⟨I.ok,I.os,I.bare,⟨fun b o e n hb hx=>?_,fun b o e n hb hx=>?_,I.base.free,fun b o e hx=>?_,I.base.tups,I.base.frzs,I.base.tbls⟩,⟨m,hn.sameBut hs (fQ (cne x c hc)),fun j y v' e1 e2 e3=>?_⟩,fun y c' e=>?_,I.free,I.freeC,fun p hp=>?_,tracked ⟨oc,hoc,I.freeC x c hc⟩ hs,by simpa using I.len⟩ ⟨c,hs,.inr hc⟩
  ·exact(hs.2 b (dg (eX (bn e) (I.ok.cab x c hfn hc)))).trans (I.base.keep b o e n hb hx)
  ·obtain⟨sl,e1⟩:=I.base.slot b o e n hb hx
   exact⟨sl,(hs.2 b (dg (eX (bn e) (I.ok.cab x c hfn hc)))).trans e1⟩
  ·obtain⟨o',e1⟩:=I.base.there b o e hx
   exact⟨o',(hs.2 b (dg (eX (bn e) (I.ok.cab x c hfn hc)))).trans e1⟩
  ·by_cases hj:j=i
   ·subst hj
    rw[hi]at e1;cases e1
    rw[yp hiσ]at e2
    cases e2
    exact⟨u,r,.inr ⟨.inl hk,c,hc,hc'⟩⟩
   ·rw[yq (fQ hj)]at e2
    obtain⟨u',r',q⟩:=hl j y v' e1 e2 e3
    refine⟨u',r',?_⟩
    rcases q with q|⟨k,c',e,z'⟩
    ·exact .inl q
    ·refine .inr ⟨k,c',e,z'.sameBut hs ?_⟩
     rintro rfl
     exact hj (zK hN e1 (I.ok.inj _ _ _ e hc▸hi))
  ·by_cases hcc:c'=c
   ·subst hcc;exact⟨_,hc'⟩
   ·obtain⟨w2,z2⟩:=I.cell y c' e
    exact⟨w2,z2.sameBut hs hcc⟩
  ·obtain⟨e,n,ne,nf,d⟩:=I.pin p hp
   refine⟨(hs.2 p.1 ?_).trans e,n,ne,nf,d⟩
   intro q
   rw[q,hoc]at e
   have q':oc=p.2:=cv e
   exact d w' (by rw[<-q'];exact hocd)
theorem zM{M:Model}{A:bm}{E:ac->ah->Prop}{i:Nat}{x:aa}{v:V}{u:ac}{Q:Unit->ah->Prop}(I:Inv X pins σ H s)(hN:X.N.Nodup)(hi:X.N[i]?=some x)(hx:pz X.env.scope x)(r:aW v u)
 (h:∀s',Inv X pins (σ.set i (some v)) H s'->Q () s') (hf:X.fn x=true\/X.env.scope.names.lookup x=some .local:=by first|exact .inl rfl|exact .inr rfl|assumption):wpAny M A (storeName X.env x u) Q E s:=
 zL I hN hi hx r (fun s' I' _=>h s' I') hf
theorem Inv.call'{s':ah}{ch:List Addr}(I:Inv X pins σ H s)(ho:s'.os=s.os)(u:Un (ie X.stack) ch H H' s.heap s'.heap)(hok:cy X.prog X.w H' s'.heap)(hg:AllBare s'.gens)
 (hch:∀b∈ch,(b∈X.ex\/X.s₀.heap.objs.size<=b)/\b≠X.env.locals/\(∀x c,X.env.cells.lookup x=some c->c≠b)/\∀p∈X.pn++pins,p.1≠b):Inv X pins σ H' s':=by
 obtain⟨h',g',d',t',o'⟩:=s'
 have e:o'=s.os:=ho
 subst e
 exact I.call (g':=g') (t':=t') (d':=d') u hok hg hch
end
abbrev XK:=ac->Option Addr->Hp->Prop
abbrev St:=List (Option V)
abbrev VK:=V->Hp->Prop
abbrev TE:=St->Hp->VK->Prop
abbrev TT:=St->Hp->(Bool->Hp->Prop)->Prop
abbrev TA:=St->Hp->(List V->Hp->Prop)->Prop
structure cZ where
 nx:St->Hp->Prop
 rt:VK
 bk:St->Hp->Prop:=fun _ _=>False
 ct:St->Hp->Prop:=fun _ _=>False
abbrev TS:=cZ->St->Hp->Prop
def EP(X:Cx)(pins:List (Addr×aG))(σ:St)(Q:VK)(u:ac)(s':ah):Prop:=∃v H',Inv X pins σ H' s'/\aW v u/\Q v H'
def TP(X:Cx)(pins:List (Addr×aG))(σ:St)(Q:Bool->Hp->Prop)(b:Bool)(s':ah):Prop:=∃H',Inv X pins σ H' s'/\Q b H'
def AP(X:Cx)(pins:List (Addr×aG))(σ:St)(Q:List V->Hp->Prop)(us:List ac)(s':ah):Prop:=∃vs H',Inv X pins σ H' s'/\aL vs us/\Q vs H'
def SP(X:Cx)(pins:List (Addr×aG))(D:cZ)(f:Flow)(s':ah):Prop:=
 match f with
 |.next=>∃σ' H',Inv X pins σ' H' s'/\D.nx σ' H'
 |.brk=>∃σ' H',Inv X pins σ' H' s'/\D.bk σ' H'
 |.cont=>∃σ' H',Inv X pins σ' H' s'/\D.ct σ' H'
 |.ret u=>∃v σ' H',Inv X pins σ' H' s'/\aW v u/\D.rt v H'
def PE(X:Cx)(e:Expr)(t:TE):Prop:=
 ∀(pins:List (Addr×aG))(s:ah)(σ:St)(H:Hp)(Q:VK),Inv X pins σ H s->t σ H Q->wpAny (model X.prog X.w) X.A (eval e X.env) (EP X pins σ Q) X.xe s
def PT(X:Cx)(e:Expr)(t:TT):Prop:=
 ∀(pins:List (Addr×aG))(s:ah)(σ:St)(H:Hp)(Q:Bool->Hp->Prop),Inv X pins σ H s->t σ H Q->wpAny (model X.prog X.w) X.A (isTrue e X.env (eval e X.env)) (TP X pins σ Q) X.xe s
def PW(X:Cx)(e:Expr)(t:TT):Prop:=
 ∀(whole:Sem ac)(pins:List (Addr×aG))(s:ah)(σ:St)(H:Hp)(Q:Bool->Hp->Prop),Inv X pins σ H s->t σ H Q->wpAny (model X.prog X.w) X.A (isTrue e X.env whole) (TP X pins σ Q) X.xe s
theorem PW.pt{X:Cx}{e:Expr}{t:TT}(h:PW X e t):PT X e t:=h _
def PA(X:Cx)(es:List Expr)(t:TA):Prop:=
 ∀(pos:Pos)(pins:List (Addr×aG))(s:ah)(σ:St)(H:Hp)(Q:List V->Hp->Prop),Inv X pins σ H s->t σ H Q->wpAny (model X.prog X.w) X.A (spliced (backTo pos (starEach es X.env))) (AP X pins σ Q) X.xe s
def PS(X:Cx)(st:Stmt)(t:TS):Prop:=
 ∀(pins:List (Addr×aG))(s:ah)(σ:St)(H:Hp)(D:cZ),Inv X pins σ H s->t D σ H->wpAny (model X.prog X.w) X.A (exec st X.env) (SP X pins D) X.xe s
def fR(X:Cx)(st:List Stmt)(t:TS):Prop:=
 ∀(pins:List (Addr×aG))(s:ah)(σ:St)(H:Hp)(D:cZ),Inv X pins σ H s->t D σ H->wpAny (model X.prog X.w) X.A (execs st X.env) (SP X pins D) X.xe s
theorem aK{α:Type}{t:Sem α}{Q Q':α->ah->Prop}{M:Model}{A:bm}{E:ac->ah->Prop}{s:ah}(h:wpAny M A t Q E s)(hQ:∀a s,Q a s->Q' a s):wpAny M A t Q' E s:=eW h hQ fun _ _ x=>x
section
variable{X:Cx}
inductive zN(i:Nat)(σ:St)(H:Hp)(Q:VK):Prop
 |mk:∀v,(σ[i]?=some (some v))->(Q v H)->zN i σ H Q
def vy(i:Nat):TE:=fun σ H Q=>zN i σ H Q
def tC(v:V):TE:=fun _ H Q=>Q v H
theorem E2{i:Nat}{x:aa}{pos:Pos}(hN:X.N[i]?=some x)(hv:vx X.env.scope x)(hd:(x==("__debug__":aa))=false:=by decide)(hcd:(x==("__classdict__":aa))=false:=by decide):PE X (.Name x pos) (vy i):=by
 intro pins s σ H Q I h
 obtain⟨v,e,h⟩:=h
 obtain⟨m,hn,hl⟩:=I.loc
 obtain⟨u,r,l⟩:=hl i x v hN e hv
 have fin:EP X pins σ Q u s:=⟨v,H,I,r,h⟩
 rcases l with⟨hk,hm⟩|⟨hk,c,hc,hcell⟩
 ·exact uh (wpAny_loadName_local I.ok.kind hk hn hm fin) hd
 ·rcases hk with hk|hk
  ·exact uh (wpAny_loadName_cell I.ok.kind hk hc hcell fin) hd
  ·exact uh (wpAny_loadName_free I.ok.kind hk hc hcell fin hcd) hd
theorem ai{i j pos}:PE X (.Constant (.int i) j pos) (tC (.int i)):=fun _ _ _ H _ I h=>wpAny_Constant_int ⟨.int i,H,I.tok _,⟨_,rfl⟩,h⟩
theorem dq{b j pos}:PE X (.Constant (.bool b) j pos) (tC (.bl b)):=fun _ _ _ H _ I h=>Constant_bool ⟨.bl b,H,I,rfl,h⟩
theorem fS{j pos}:PE X (.Constant .none j pos) (tC .non):=fun _ _ _ H _ I h=>Constant_none ⟨.non,H,I,rfl,h⟩
theorem aS{x j pos}:PE X (.Constant (.str x) j pos) (tC (.str x)):=fun _ _ _ H _ I h=>Calls.Constant_str ⟨.str x,H,I.tok _,⟨_,rfl⟩,h⟩
def Gl(X:Cx)(x:aa):Prop:=X.env.kindOf x=some .globalImplicit
theorem zO{E:ac->ah->Prop}{pins:List (Addr×aG)}{s:ah}{σ:St}{H:Hp}{x:aa}{u:ac}{pos:Pos}{Q:ac->ah->Prop}(I:Inv X pins σ H s)(hg:Gl X x)(hm:X.mg x=some u)(h:Q u s)
 (hd:(x==("__debug__":aa))=false:=by decide):wpAny (model X.prog X.w) X.A (eval (.Name x pos) X.env) Q E s:=
 zp I.ok.kind hg (Calls.loadGlobal_global (by rw[I.ok.glob];exact I.mod.glob.keeps I.bk) hm h) hd
theorem fq{E:ac->ah->Prop}{pins:List (Addr×aG)}{s:ah}{σ:St}{H:Hp}{x:aa}{u:ac}{pos:Pos}{Q:ac->ah->Prop}(I:Inv X pins σ H s)(hg:Gl X x)(hm:X.mg x=none)(hv:bootBuiltins x=some u)(h:Q u s)
 (hn:x≠"__name__":=by decide) (hd:(x==("__debug__":aa))=false:=by decide):wpAny (model X.prog X.w) X.A (eval (.Name x pos) X.env) Q E s:=by
 obtain⟨mb,h1,h2⟩:=I.mod.blt
 exact zp I.ok.kind hg (Calls.loadGlobal_builtin (by rw[I.ok.glob];exact I.mod.glob.keeps I.bk) hm (by rw[I.ok.blt];exact h1.keeps I.bk) ((h2 x hn).trans hv) h) hd
theorem E3{x:aa}{v:V}{u:ac}{pos:Pos}(hg:Gl X x)(hm:X.mg x=none)(hv:bootBuiltins x=some u)(r:aW v u)(hn:x≠"__name__":=by decide)(hd:(x==("__debug__":aa))=false:=by decide):PE X (.Name x pos) (tC v):=
 fun _ _ _ H _ I h=>fq I hg hm hv ⟨v,H,I,r,h⟩ hn hd
variable{a b:Expr}{ta tb:TE}{pos:Pos}
def PC(X:Cx)(op:CmpOp)(a b:Expr)(t:TE):Prop:=
 ∀(pins:List (Addr×aG))(s:ah)(σ:St)(H:Hp)(Q:VK),Inv X pins σ H s->t σ H Q->
  wpAny (model X.prog X.w) X.A (eval a X.env) (fun v s₁=>wpAny (model X.prog X.w) X.A (eval b X.env) (fun u s₂=>wpAny (model X.prog X.w) X.A (compareOp op v u) (EP X pins σ Q) X.xe s₂) X.xe s₁) X.xe s
def tB(t:TE):TT:=fun σ H Q=>t σ H fun x H1=>∃c,x= .bl c/\Q c H1
theorem rO{op:CmpOp}{t:TE}(h:PC X op a b t)(h1:behindInMarks op b=false:=by first|exact nobehind _ (by decide) (by decide)|rfl):PT X (.Compare a [op] [b] pos) (tB t):=by
 intro pins s σ H Q I hw
 refine xP (aK (h pins s σ H _ I hw) fun v s1 h1=>aK h1 fun u s2 h2=>aK h2 fun c s3 ⟨x,H1,I1,r1,q1⟩=>?_) h1
 obtain⟨d,rfl,q⟩:=q1
 cases r1
 exact ly ⟨H1,I1,q⟩
theorem dX{e:Expr}{t:TE}(h:PE X e t)(he:∀whole,isTrue e X.env whole=(do let v <-whole;standAt e.pos;holding [v] (truthy v)):=by intro _;rfl):PT X e (tB t):=by
 intro pins s σ H Q I hw
 refine isTrue_plain (aK (h pins s σ H _ I hw) fun v s1 ⟨x,H1,I1,r1,q1⟩=>?_) (he _)
 obtain⟨d,rfl,q⟩:=q1
 cases r1
 exact ly ⟨H1,I1,q⟩
variable{tA tB':TT}{rest:List Expr}
def E4(t u:TT):TT:=fun σ H Q=>t σ H fun c H1=>if c=true then u σ H1 Q else Q false H1
def E5(t u:TT):TT:=fun σ H Q=>t σ H fun c H1=>if c=true then Q true H1 else u σ H1 Q
def E6(t:TT):TT:=fun σ H Q=>t σ H fun c H1=>Q (!c) H1
theorem kq(ha:PT X a tA):PW X (.BoolOp .And [a] pos) tA:=by
 intro wh pins s σ H Q I h
 refine isTrue_and (aK (ha pins s σ H Q I h) fun c s1 e=>?_)
 cases c with
 |true=>exact isTrue_and_nil e
 |false=>exact e
theorem gk(ha:PT X a tA):PW X (.BoolOp .Or [a] pos) tA:=by
 intro wh pins s σ H Q I h
 refine isTrue_or (aK (ha pins s σ H Q I h) fun c s1 e=>?_)
 cases c with
 |false=>exact isTrue_or_nil e
 |true=>exact e
theorem kr(ha:PT X a tA)(hb:PW X (.BoolOp .And (b::rest) pos) tB'):PW X (.BoolOp .And (a::b::rest) pos) (E4 tA tB'):=by
 intro wh pins s σ H Q I h
 refine isTrue_and (aK (ha pins s σ H _ I h) fun c s1 ⟨H1,I1,q1⟩=>?_)
 cases c with
 |true=>exact hb wh pins s1 σ H1 Q I1 q1
 |false=>exact⟨H1,I1,q1⟩
theorem eZ(ha:PT X a tA)(hb:PW X (.BoolOp .Or (b::rest) pos) tB'):PW X (.BoolOp .Or (a::b::rest) pos) (E5 tA tB'):=by
 intro wh pins s σ H Q I h
 refine isTrue_or (aK (ha pins s σ H _ I h) fun c s1 ⟨H1,I1,q1⟩=>?_)
 cases c with
 |true=>exact⟨H1,I1,q1⟩
 |false=>exact hb wh pins s1 σ H1 Q I1 q1
theorem e8(ha:PT X a tA):PT X (.UnaryOp .Not a pos) (E6 tA):=by
 intro pins s σ H Q I h
 exact isTrue_not (ha pins s σ H (fun c H1=>Q (!c) H1) I h)
inductive zP(tb:TE)(σ:St)(Q:VK)(x:V)(H1:Hp):Prop
 |mk:∀c,(x= .bl c)->(if c=true then tb σ H1 Q else Q (.bl false) H1)->zP tb σ Q x H1
def E7(ta tb:TE):TE:=fun σ H Q=>ta σ H fun x H1=>zP tb σ Q x H1
def E8(ta tb:TE):TE:=fun σ H Q=>ta σ H fun x H1=>∃c,x= .bl c/\if c=true then Q (.bl true) H1 else tb σ H1 Q
def E9(ta:TE):TE:=fun σ H Q=>ta σ H fun x H1=>∃c,x= .bl c/\Q (.bl (!c)) H1
theorem rP{op}{t:TE}(h:PE X a t):PE X (.BoolOp op [a] pos) t:=fun pins s σ H Q I hw=>BoolOp_one (h pins s σ H Q I hw)
theorem vz(ha:PE X a ta)(hb:PE X (.BoolOp .And (b::rest) pos) tb):PE X (.BoolOp .And (a::b::rest) pos) (E7 ta tb):=by
 intro pins s σ H Q I h
 refine BoolOp_and (aK (ha pins s σ H _ I h) fun v s1 ⟨x,H1,I1,r1,q1⟩=>?_)
 obtain⟨c,rfl,q1⟩:=q1
 cases r1
 refine ly ?_
 cases c with
 |true=>exact hb pins s1 σ H1 Q I1 q1
 |false=>exact⟨.bl false,H1,I1,rfl,q1⟩
theorem Fa(ha:PE X a ta)(hb:PE X (.BoolOp .Or (b::rest) pos) tb):PE X (.BoolOp .Or (a::b::rest) pos) (E8 ta tb):=by
 intro pins s σ H Q I h
 refine BoolOp_or (aK (ha pins s σ H _ I h) fun v s1 ⟨x,H1,I1,r1,q1⟩=>?_)
 obtain⟨c,rfl,q1⟩:=q1
 cases r1
 refine ly ?_
 cases c with
 |false=>exact hb pins s1 σ H1 Q I1 q1
 |true=>exact⟨.bl true,H1,I1,rfl,q1⟩
theorem Fb(ha:PE X a ta):PE X (.UnaryOp .Not a pos) (E9 ta):=by
 intro pins s σ H Q I h
 refine UnaryOp_ (aK (ha pins s σ H _ I h) fun v s1 ⟨x,H1,I1,r1,q1⟩=>?_)
 obtain⟨c,rfl,q1⟩:=q1
 cases r1
 exact not_of (ly ⟨.bl (!c),H1,I1,rfl,q1⟩)
def Fc(t:TT)(ta tb:TE):TE:=fun σ H Q=>t σ H fun c H1=>if c=true then ta σ H1 Q else tb σ H1 Q
theorem zQ{c:Expr}(hc:PT X c tA)(ha:PE X a ta)(hb:PE X b tb):PE X (.IfExp c a b pos) (Fc tA ta tb):=by
 intro pins s σ H Q I h
 refine wpAny_IfExp (aK (hc pins s σ H _ I h) fun d s1 ⟨H1,I1,q1⟩=>?_)
 cases d with
 |true=>exact ha pins s1 σ H1 Q I1 q1
 |false=>exact hb pins s1 σ H1 Q I1 q1
end
def ak(K:aA)(H:Hp)(a:Addr)(xs:List V):Prop:=
 Rd H a (.lst xs)\/
    ∃(o:aG)(its:Array ac)(n:Nat),K.lookup a=some o/\o.cls= .type "list"/\o.dict=none/\o.data= .seq its n/\its.size<=sizeLine/\aL xs its.toList
def aj(K:aA)(H:Hp)(a:Addr)(xs:List V):Prop:=
 Rd H a (.tup xs)\/
    ∃(o:aG)(its:Array ac)(n:Nat),K.lookup a=some o/\o.cls= .type "tuple"/\o.data= .seq its n/\its.size<=sizeLine/\aL xs its.toList
def Fd:ac->Option V
 |.none=>some .non
 |.bool b=>some (.bl b)
 |.int i _=>some (.int i)
 |.str x _=>some (.str x)
 |.bytes b _=>some (.byt b)
 |.float b _=>some (.flt b)
 |.ref a=>some (.ref a)
 |.type n=>some (.ty n)
 |_=>none
theorem aW.abs{x:V}{u:ac}(r:aW x u):Fd u=some x:=by
 cases x with
 |non=>cases r;rfl
 |bl _=>cases r;rfl
 |int _=>obtain⟨t,rfl⟩:=r;rfl
 |str _=>obtain⟨t,rfl⟩:=r;rfl
 |byt _=>obtain⟨t,rfl⟩:=r;rfl
 |flt _=>obtain⟨t,rfl⟩:=r;rfl
 |ref _=>cases r;rfl
 |ty _=>cases r;rfl
theorem aW.inj{x y:V}{u:ac}(r:aW x u)(q:aW y u):x=y:=cv (r.abs.symm.trans q.abs)
theorem aL.inj:∀{xs ys:List V}{us:List ac},aL xs us->aL ys us->xs=ys
 |_,_,_,.nil,.nil=>rfl
 |_,_,_,.cons r t,.cons r' t'=>by rw[r.inj r',aL.inj t t']
section
variable{X:Cx}{pins:List (Addr×aG)}{σ:St}{H:Hp}{s:ah}{a:Addr}{xs ys:List V}
theorem ak.of{K:aA}(h:H a=some (.lst xs)):ak K H a xs:= .inl (.inl h)
theorem aj.of{K:aA}(h:H a=some (.tup xs)):aj K H a xs:= .inl (.inl h)
theorem Inv.list(I:Inv X pins σ H s)(h:ak X.K H a xs):∃its:List ac,aL xs its/\PlainL s.heap a its.toArray/\xs.length<=sizeLine:=by
 rcases h with h|⟨o,its,n,hk,hc,hd,hs,hz,r⟩
 ·obtain⟨z,its,n,r,e⟩:=h.ok I.hok
  exact⟨its,r,⟨_,n,e,rfl,rfl,rfl⟩,z⟩
 ·refine⟨its.toList,r,⟨o,n,I.kIn a o hk,hc,hd,by simpa using hs⟩,?_⟩
  have e:=r.length
  simp only[lI]at e
  omega
theorem Inv.tuple(I:Inv X pins σ H s)(h:aj X.K H a xs):∃its:List ac,aL xs its/\cw s.heap a its.toArray/\xs.length<=sizeLine:=by
 rcases h with h|⟨o,its,n,hk,hc,hs,hz,r⟩
 ·obtain⟨z,its,r,p⟩:=h.ok I.hok
  exact⟨its,r,p,z⟩
 ·refine⟨its.toList,r,⟨o,I.kIn a o hk,hc,n,by simpa using hs⟩,?_⟩
  have e:=r.length
  simp only[lI]at e
  omega
theorem Inv.list_inj(I:Inv X pins σ H s)(h:ak X.K H a xs)(h':ak X.K H a ys):xs=ys:=by
 obtain⟨its,r,⟨o,n,e,_,_,d⟩,_⟩:=I.list h
 obtain⟨its',r',⟨o',n',e',_,_,d'⟩,_⟩:=I.list h'
 rw[e]at e';cases e'
 rw[d]at d'
 injection d' with d1 _
 have:its=its':=by simpa using congrArg Array.toList d1
 subst this
 exact r.inj r'
end
abbrev Cx.wish(X:Cx)(E:ac->ah->Prop):Cx:={ X with xe:=E}
abbrev Cx.nox(X:Cx):Cx:=X.wish fun _ _=>False
theorem Cx.Ok.wish{X:Cx}(ok:X.Ok)(E:ac->ah->Prop):(X.wish E).Ok:=
 ⟨ok.mod,ok.kind,ok.glob,ok.blt,ok.above,ok.inj,ok.has,ok.cab,ok.hd,ok.frames,ok.stk,ok.exf,ok.bs,ok.bsz,ok.noex,ok.exfs,ok.funs,ok.frf⟩
theorem Cx.Ok.unwish{X:Cx}{E:ac->ah->Prop}(ok:(X.wish E).Ok):X.Ok:=
 ⟨ok.mod,ok.kind,ok.glob,ok.blt,ok.above,ok.inj,ok.has,ok.cab,ok.hd,ok.frames,ok.stk,ok.exf,ok.bs,ok.bsz,ok.noex,ok.exfs,ok.funs,ok.frf⟩
section
variable{X:Cx}{pins:List (Addr×aG)}{σ:St}{H:Hp}{s:ah}{E:ac->ah->Prop}
theorem Inv.wish(I:Inv X pins σ H s)(E:ac->ah->Prop):Inv (X.wish E) pins σ H s:=⟨I.ok.wish E,I.os,I.bare,I.base,I.loc,I.cell,I.free,I.freeC,I.pin,I.hok,I.len⟩
theorem Inv.unwish(I:Inv (X.wish E) pins σ H s):Inv X pins σ H s:=⟨I.ok.unwish,I.os,I.bare,I.base,I.loc,I.cell,I.free,I.freeC,I.pin,I.hok,I.len⟩
theorem SP.unwish{D:cZ}{f:Flow}{s':ah}(h:SP (X.wish E) pins D f s'):SP X pins D f s':=by
 cases f with
 |next=>obtain⟨σ',H',I,q⟩:=h;exact⟨σ',H',I.unwish,q⟩
 |brk=>obtain⟨σ',H',I,q⟩:=h;exact⟨σ',H',I.unwish,q⟩
 |cont=>obtain⟨σ',H',I,q⟩:=h;exact⟨σ',H',I.unwish,q⟩
 |ret u=>obtain⟨v,σ',H',I,r,q⟩:=h;exact⟨v,σ',H',I.unwish,r,q⟩
theorem fR.nox{st:List Stmt}{t:TS}(h:fR X.nox st t):fR X st t:=fun pins s σ H D I hw=>
 eW (h pins s σ H D (I.wish _) hw) (fun _ _ q=>q.unwish) fun _ _ z=>gF z
end
section
variable{X:Cx}{st:Stmt}{rest:List Stmt}{t u:TS}{e:Expr}{te:TE}{pos:Pos}
def Fe:TS:=fun D σ H=>D.nx σ H
def fu(t u:TS):TS:=fun D σ H=>t { D with nx:=u D} σ H
theorem bg:fR X [] Fe:=fun _ _ σ H _ I h=>qz ⟨σ,H,I,h⟩
theorem al(h1:PS X st t)(h2:fR X rest u):fR X (st::rest) (fu t u):=by
 intro pins s σ H D I h
 refine xQ (aK (h1 pins s σ H { D with nx:=u D} I h) fun f s1 q=>?_)
 cases f with
 |next=>
  obtain⟨σ',H',I',q⟩:=q
  exact h2 pins s1 σ' H' D I' q
 |ret v=>exact q
 |brk=>exact q
 |cont=>exact q
theorem aq(h1:PS X st t):fR X [st] t:=by
 intro pins s σ H D I h
 refine xQ (aK (h1 pins s σ H D I h) fun f s1 q=>?_)
 cases f with
 |next=>exact qz q
 |ret v=>exact q
 |brk=>exact q
 |cont=>exact q
theorem Inv.quiet{pins:List (Addr×aG)}{σ:St}{H:Hp}{s:ah}(I:Inv X pins σ H s):interactive X.env=false:=by simp[interactive,I.ok.kind]
def Ff(te:TE):TS:=fun D σ H=>te σ H fun _ H1=>D.nx σ H1
theorem cj(he:PE X e te)(hs:swapsWith e none pos.line X.env=pure false:=by rfl):PS X (.Expr e pos) (Ff te):=by
 intro pins s σ H D I h
 exact wpAny_Expr_any (aK (he pins s σ H _ I h) fun v s1 ⟨x,H1,I1,r1,q1⟩=>⟨σ,H1,I1,q1⟩) I.quiet hs
def zR(te:TE):TS:=fun D σ H=>te σ H D.rt
theorem aM(he:PE X e te):PS X (.Return (some e) pos) (zR te):=by
 intro pins s σ H D I h
 exact wpAny_Return_some (aK (he pins s σ H _ I h) fun v s1 ⟨x,H1,I1,r1,q1⟩=>⟨x,σ,H1,I1,r1,q1⟩)
def Fg(c:TT)(t u:TS):TS:=fun D σ H=>c σ H fun b H1=>if b=true then t D σ H1 else u D σ H1
theorem aZ{c:Expr}{a b:List Stmt}{tc:TT}(hc:PT X c tc)(ha:fR X a t)(hb:fR X b u):PS X (.If c a b pos) (Fg tc t u):=by
 intro pins s σ H D I h
 refine wpAny_If (aK (hc pins s σ H _ I h) fun d s1 ⟨H1,I1,q1⟩=>?_)
 cases d with
 |true=>exact ha pins s1 σ H1 D I1 q1
 |false=>exact hb pins s1 σ H1 D I1 q1
end
abbrev TG:=V->St->Hp->(St->Hp->Prop)->Prop
abbrev lN:=List V->St->Hp->(St->Hp->Prop)->Prop
def PG(X:Cx)(target:Expr)(t:TG):Prop:=
 ∀(pins:List (Addr×aG))(s:ah)(σ:St)(H:Hp)(v:V)(u:ac)(Q:St->Hp->Prop),Inv X pins σ H s->aW v u->t v σ H Q->
  wpAny (model X.prog X.w) X.A (assign target X.env u) (fun _ s'=>∃σ' H',Inv X pins σ' H' s'/\Q σ' H') X.xe s
def rQ(X:Cx)(ts:List Expr)(t:lN):Prop:=
 ∀(pins:List (Addr×aG))(s:ah)(σ:St)(H:Hp)(vs:List V)(us:List ac)(Q:St->Hp->Prop),Inv X pins σ H s->aL vs us->t vs σ H Q->
  wpAny (model X.prog X.w) X.A (assignInOrder ((assignEach ts X.env).map (·.2)) us) (fun _ s'=>∃σ' H',Inv X pins σ' H' s'/\Q σ' H') X.xe s
abbrev vA:=V->V->V->Hp->(Hp->Prop)->Prop
def zT(X:Cx)(t:vA):Prop:=
 ∀(pins:List (Addr×aG))(s:ah)(σ:St)(H:Hp)(o i v:V)(ov iv u:ac)(Q:Hp->Prop),Inv X pins σ H s->aW o ov->aW i iv->aW v u->t o i v H Q->
  wpAny (model X.prog X.w) X.A (setItem ov iv u) (fun _ s'=>∃H',Inv X pins σ H' s'/\Q H') X.xe s
section
variable{X:Cx}{pos:Pos}
def ku(i:Nat):TG:=fun v σ H Q=>Q (σ.set i (some v)) H
theorem cz{i:Nat}{x:aa}(hN:X.N.Nodup)(hi:X.N[i]?=some x)(hx:pz X.env.scope x)(hf:X.fn x=true\/X.env.scope.names.lookup x=some .local:=by first|exact .inl rfl|exact .inr rfl|assumption):PG X (.Name x pos) (ku i):=by
 intro pins s σ H v u Q I r h
 exact xR (zM I hN hi hx r (fun s' I'=>⟨_,H,I',h⟩) hf)
def Fh:lN:=fun vs σ H Q=>vs=[]/\Q σ H
def Fi(t:TG)(u:lN):lN:=fun vs σ H Q=>∃v r,vs=v::r/\t v σ H fun σ' H'=>u r σ' H' Q
theorem zU:rQ X [] Fh:=by
 intro pins s σ H vs us Q I r h
 obtain⟨e,h⟩:=h
 subst e
 cases r
 exact assignInOrder_nil ⟨σ,H,I,h⟩
theorem rR{e:Expr}{es:List Expr}{t:TG}{u:lN}(h1:PG X e t)(h2:rQ X es u)
 (hs:(assignEach (e::es) X.env).map (·.2)=assign e X.env::(assignEach es X.env).map (·.2):=by rfl):rQ X (e::es) (Fi t u):=by
 intro pins s σ H vs us Q I r h
 obtain⟨v,vr,e1,h⟩:=h
 subst e1
 cases r with
 |cons r rr=>
  rw[hs]
  refine assignInOrder_cons (aK (h1 pins s σ H _ _ _ I r h) fun _ s1 ⟨σ1,H1,I1,q1⟩=>?_)
  exact h2 pins s1 σ1 H1 _ _ Q I1 rr q1
def Fj(K:aA)(n:Nat)(t:lN):TG:=fun v σ H Q=>∃a xs,v= .ref a/\aj K H a xs/\xs.length=n/\t xs σ H Q
theorem zV{es:List Expr}{k:Nat}{t:lN}{n:Nat}(hc:X.calm=true)(h:rQ X es t)
 (hn:(assignEach es X.env).length=n:=by rfl) (hst:(assignEach es X.env).findIdx? (·.1)=none:=by rfl):PG X (.Tuple es k pos) (Fj X.K n t):=by
 intro pins s σ H v u Q I r hw
 obtain⟨a,xs,e1,hq,hl,hw⟩:=hw
 subst e1
 cases r
 obtain⟨its,rv,ht,hz⟩:=I.tuple hq
 refine assign_Tuple_tuple (I.ok.hd hc) ht (by simp[hn,<-hl,rv.length]) hst fun h' hx=>?_
 have I1:Inv X pins σ H { s with heap:=h'}:=I.kept (t':=s.toks) fun b o e=>hx b o (dg (bn e)) e
 exact h pins _ σ H xs _ Q I1 (by simpa using rv) hw
def Fk(to ti:TE)(t:vA):TG:=fun v σ H Q=>to σ H fun o H1=>ti σ H1 fun i H2=>t o i v H2 fun H3=>Q σ H3
theorem zW{o i:Expr}{to ti:TE}{t:vA}(ho:PE X o to)(hi:PE X i ti)(hs:zT X t)
 (ha:∀v,assign (.Subscript o i pos) X.env v=(do
  let ov <-holding [v] (eval o X.env)
  let iv <-holding [v,ov] (eval i X.env)
  standAt pos
  holding [v,ov,iv] (setItem ov iv v)
  release [v,ov,iv] []):=by intro _;rfl):PG X (.Subscript o i pos) (Fk to ti t):=by
 intro pins s σ H v u Q I r h
 rw[ha]
 refine ag (iU (aK (ho pins s σ H _ I h) fun ov s1 ⟨x,H1,I1,r1,q1⟩=>?_))
 refine ag (iU (aK (hi pins s1 σ H1 _ I1 q1) fun iv s2 ⟨y,H2,I2,r2,q2⟩=>?_))
 refine ag (ui (ag (iU (aK (hs pins s2 σ H2 x y v ov iv u _ I2 r1 r2 r q2) fun _ s3 ⟨H3,I3,q3⟩=>?_))))
 exact wpAny_release ⟨σ,H3,I3,q3⟩
def vB(te:TE)(g:TG):TS:=fun D σ H=>te σ H fun x H1=>g x σ H1 D.nx
theorem zX{tg e:Expr}{te:TE}{g:TG}(he:PE X e te)(hg:PG X tg g)(hs:swapsWithSole [tg] e pos.line X.env=pure false:=by rfl)(hw:swappedStores [tg] e X.env=pure none:=by rfl)
 (h1:(assignEach [tg] X.env).map (·.2)=[assign tg X.env]:=by rfl):PS X (.Assign [tg] e pos) (vB te g):=by
 intro pins s σ H D I h
 refine wpAny_Assign_stores (aK (he pins s σ H _ I h) fun v s1 ⟨x,H1,I1,r1,q1⟩=>?_) hs hw
 rw[h1]
 exact aK (hg pins s1 σ H1 x v _ I1 r1 q1) fun _ s2 q=>q
theorem aB{i:Nat}{x:aa}{e:Expr}{te:TE}{pos':Pos}(hN:X.N.Nodup)(hi:X.N[i]?=some x)(hx:pz X.env.scope x)(he:PE X e te)(hs:swapsWith e (some (.Name x pos')) pos.line X.env=pure false:=by rfl)(hf:X.fn x=true\/X.env.scope.names.lookup x=some .local:=by first|exact .inl rfl|exact .inr rfl|assumption):
 PS X (.Assign [.Name x pos'] e pos) (vB te (ku i)):=by
 intro pins s σ H D I h
 refine wpAny_Assign_Name (aK (he pins s σ H _ I h) fun v s1 ⟨y,H1,I1,r1,q1⟩=>?_) hs
 exact zM I1 hN hi hx r1 (fun s2 I2=>⟨_,H1,I2,q1⟩) hf
def Fm(c:TT)(tb:TS):TS:=fun D σ H=>∃W:Nat->St->Hp->Prop,(∃m,W m σ H)/\∀m σ H,W m σ H->
 c σ H fun b H1=>if b=true then ∃N:St->Hp->Prop,(∀σ' H',N σ' H'->∃m',m'<m/\W m' σ' H')/\tb { D with nx:=N,ct:=N,bk:=D.nx} σ H1 else D.nx σ H1
theorem ig{c:Expr}{body:List Stmt}{tc:TT}{tb:TS}(hp:PassesOwn (model X.prog X.w) X.A X.env X.xe)(hc:PT X c tc)(hb:fR X body tb):PS X (.While c body [] pos) (Fm tc tb):=by
 intro pins s σ H D I h
 obtain⟨W,⟨m0,w0⟩,turn⟩:=h
 refine wpAny_While (codeAny_whileLoop (fun n s'=>∃σ' H',Inv X pins σ' H' s'/\W n σ' H') ?_ m0 ⟨σ,H,I,w0⟩)
 rintro n s1 ⟨σ1,H1,I1,w1⟩
 refine lz hp (aK (hc pins s1 σ1 H1 _ I1 (turn n σ1 H1 w1)) fun b s2 ⟨H2,I2,q2⟩=>?_)
 cases b with
 |true=>
  obtain⟨N,hN,q2⟩:=q2
  rw[if_pos rfl]
  refine lz hp (aK (hb pins s2 σ1 H2 _ I2 q2) fun f s3 q3=>?_)
  cases f with
  |next=>
   obtain⟨σ3,H3,I3,n3⟩:=q3
   obtain⟨m',hm,w3⟩:=hN σ3 H3 n3
   exact⟨m',hm,σ3,H3,I3,w3⟩
  |cont=>
   obtain⟨σ3,H3,I3,n3⟩:=q3
   obtain⟨m',hm,w3⟩:=hN σ3 H3 n3
   exact⟨m',hm,σ3,H3,I3,w3⟩
  |brk=>exact q3
  |ret v=>exact q3
 |false=>
  rw[if_neg cM]
  exact qz ⟨σ1,H2,I2,q2⟩
end
structure It where
 go:Nat->Hp->Prop
 yld:Nat->Hp->V->Hp->Prop
 stop:Nat->Hp->Prop
def dM(X:Cx)(pins:List (Addr×aG))(H:Hp)(b:Addr):Prop:=
 H b=none/\b≠X.env.locals/\b∉X.fs/\(b∈X.ex\/X.s₀.heap.objs.size<=b)/\(∀x c,X.env.cells.lookup x=some c->c≠b)/\∀p∈X.pn++pins,p.1≠b
theorem Inv.fpOk{X:Cx}{pins:List (Addr×aG)}{σ:St}{H H':Hp}{s:ah}{b:Addr}(I:Inv X pins σ H s)(hb:s.heap.objs.size<=b)(hn:H' b=none):dM X pins H' b:=by
 refine⟨hn,iX (eX I.lt hb),I.nofs hb,.inr (cO I.sz hb),fun x c e z=>?_,fun p hp z=>?_⟩
 ·obtain⟨v,q⟩:=I.cell x c e
  exact absurd (eX q.lt (by rw[z];exact hb)) (j8 _)
 ·exact absurd (eX (bn (I.pin p hp).1) (by rw[z];exact hb)) (j8 _)
structure jd(P:aQ)(w:aH)(K:aA)(tg:Expr)(J:It)(fp:List Addr)(it:Addr)(tn:Nat->az->Prop):Prop where
 mem:it∈fp
 obj:∀i h,tn i h->∀b∈fp,∃o,h.get? b=some o/\∀v,o.data≠ .cell v
 keep:∀i h h',tn i h->(∀b∈fp,∀o,h.get? b=some o->h'.get? b=some o)->tn i h'
 item:∀(X:Cx),X.prog=P->X.w=w->X.K=K->X.calm=true->∀(i:Nat)(pins:List (Addr×aG))(s:ah)(σ:St)(H:Hp)(E:ac->ah->Prop),Inv X pins σ H s->(∀b∈fp,dM X pins H b)->tn i s.heap->J.go i H->
  wpAny (model P w) X.A (pyNext (.ref it)) (fun r s1=>∃u,r=some u/\
   wpAny (model P w) X.A (letOwnedTupleGo tg (.ref it) u) (fun _ s2=>∃x H',Inv X pins σ H' s2/\aW x u/\J.yld i H x H'/\tn (i+1) s2.heap/\∀b∈fp,H' b=none) E s1) E s
 done:∀(X:Cx),X.prog=P->X.w=w->X.K=K->X.calm=true->∀(i:Nat)(pins:List (Addr×aG))(s:ah)(σ:St)(H:Hp)(E:ac->ah->Prop),Inv X pins σ H s->(∀b∈fp,dM X pins H b)->tn i s.heap->J.stop i H->
  wpAny (model P w) X.A (pyNext (.ref it)) (fun r s1=>r=none/\Inv X pins σ H s1) E s
 self:∀(A:bm)(i:Nat)(s:ah)(Q:ac->ah->Prop)(E:ac->ah->Prop),tn i s.heap->Q (.ref it) s->wpAny (model P w) A (pyIter (.ref it)) Q E s
abbrev TI:=St->Hp->(It->Hp->Prop)->Prop
def zY(X:Cx)(pins:List (Addr×aG))(σ:St)(tg:Expr)(R:It->Hp->Prop)(itv:ac)(s2:ah):Prop:=
 ∃(it:Addr)(fp:List Addr)(tn:Nat->az->Prop)(J:It)(H':Hp),itv= .ref it/\Inv X pins σ H' s2/\jd X.prog X.w X.K tg J fp it tn/\tn 0 s2.heap/\(∀b∈fp,dM X pins H' b)/\R J H'
def PI(X:Cx)(tg iter:Expr)(wi:TI):Prop:=
 ∀(pins:List (Addr×aG))(s:ah)(σ:St)(H:Hp)(R:It->Hp->Prop),Inv X pins σ H s->wi σ H R->
  wpAny (model X.prog X.w) X.A (eval iter X.env) (fun v s1=>wpAny (model X.prog X.w) X.A (pyIter v) (zY X pins σ tg R) X.xe s1) X.xe s
theorem pA{M:Model}{A:bm}{E:ac->ah->Prop}{s:ah}{tg:Expr}{it:Addr}{u:ac}{o:aG}{n:String}{vs:Array ac}{Q:Unit->ah->Prop}(ho:s.heap.get? it=some o)(hc:o.cls= .type n)(hd:o.data= .fields vs)
 (hn:["enumerate","zip","dict_itemiterator","dict_reverseitemiterator","odict_iterator","itertools.zip_longest","itertools.pairwise"].contains n=false) (hQ:Q () s):wpAny M A (letOwnedTupleGo tg (.ref it) u) Q E s:=by
 unfold letOwnedTupleGo
 cases tg<;>first
  |exact aP hQ
  |(cases u<;>first
       |exact aP hQ
       |(refine ag (wpAny_load ho ?_)
         rw[hc,hd]
         show wpAny M A (if (["enumerate","zip","dict_itemiterator","dict_reverseitemiterator","odict_iterator","itertools.zip_longest","itertools.pairwise"].contains n&&vs[0]?==some (rawInt _))=true then _ else _) Q E s
         rw[if_neg (by intro h;rw[hn,Bool.false_and]at h;cases h)]
         exact aP hQ))
def lO(K:aA)(a:Addr):It:=
 ⟨fun i H=>∃xs x,ak K H a xs/\xs[i]?=some x,fun i H x H'=>H'=H/\∀xs,ak K H a xs->xs[i]?=some x,fun i H=>∃xs,ak K H a xs/\xs.length<=i⟩
def kx(lo:Int)(n:Nat):It:=⟨fun i _=>i<n,fun i H x H'=>H'=H/\x= .int (lo+i),fun i _=>n<=i⟩
theorem Fo{P:aQ}{w:aH}{K:aA}{tg:Expr}(a it:Addr):jd P w K tg (lO K a) [it] it (fun i h=>h.IsListIter it a i) where
 mem:=by simp
 obj:=fun i h st b hb=>by
  have e:b=it:=by simpa using hb
  subst e
  obtain⟨o,e,c,d⟩:=st
  exact⟨o,e,fun v z=>by rw[d]at z;cases z⟩
 keep:=fun i h h' st k=>st.at fun o e=>k it (by simp) o e
 item:=by
  intro X hP hw hK hc i pins s σ H E I hf st hg
  subst hP hw hK
  obtain⟨xs,x,hq,hx⟩:=hg
  obtain⟨its,rv,p,hz⟩:=I.list hq
  obtain⟨u,hu,ru⟩:=rv.get hx
  obtain⟨f0,f1,f2,f3,f4,f5⟩:=hf it (by simp)
  refine wpAny_pyNext_list_item st p.isList (x:=u) (by simpa using hu) fun h' st' sb=>?_
  have I1:Inv X pins σ H { s with heap:=h'}:=I.turned (t':=s.toks) (fun b o hb e=>(sb.2 b hb).trans e) f0 f1 f3 f4 f5
  obtain⟨o,e,c,d⟩:=id st'
  exact⟨u,rfl,pA (s:={ s with heap:=h'}) e c d (by decide) ⟨x,H,I1,ru,⟨rfl,fun ys hy=>by rw[I.list_inj hy hq];exact hx⟩,st',fun b hb=>(hf b hb).1⟩⟩
 done:=by
  intro X hP hw hK hc i pins s σ H E I hf st hg
  subst hP hw hK
  obtain⟨xs,hq,hx⟩:=hg
  obtain⟨its,rv,p,hz⟩:=I.list hq
  obtain⟨f0,f1,f2,f3,f4,f5⟩:=hf it (by simp)
  have hl:=rv.length
  exact wpAny_pyNext_list_end (I.ok.hd hc) st p.isList (by simp;omega) fun h' eb=>⟨rfl,I.turned (t':=s.toks) (fun b o hb e=>eb b o hb e) f0 f1 f3 f4 f5⟩
 self:=fun _ _ _ _ _ st h=>wpAny_pyIter_listiter st h
theorem Fp{P:aQ}{w:aH}{K:aA}{tg:Expr}(it:Addr)(lo:Int)(n:Nat):jd P w K tg (kx lo n) [it] it (fun i h=>IsRangeIter h it (lo+(i:Nat) * 1) ((n:Int) - (i:Nat)) 1) where
 mem:=by simp
 obj:=fun i h st b hb=>by
  have e:b=it:=by simpa using hb
  subst e
  exact⟨_,st,fun v z=>by
    have z':j4.fields _=j4.cell v:=z
    cases z'⟩
 keep:=fun i h h' st k=>k it (by simp) _ st
 item:=by
  intro X hP hw hK hc i pins s σ H E I hf st hg
  subst hP hw hK
  obtain⟨f0,f1,f2,f3,f4,f5⟩:=hf it (by simp)
  have W:=Walks.range (prog:=X.prog) (w:=X.w) (I.ok.hd hc) it lo 1 n
  refine W.item i s _ _ hg st fun v h' tk hv st' kk=>?_
  obtain⟨t,rfl⟩:=hv
  have I1:Inv X pins σ H { s with heap:=h',toks:=tk}:=I.turned (fun b o hb e=>kk b o (by simpa using hb) e) f0 f1 f3 f4 f5
  refine⟨_,rfl,pA (s:={ s with heap:=h',toks:=tk}) (n:="range_iterator") st' rfl rfl (by decide) ⟨.int (lo+i),H,I1,⟨t,?_⟩,⟨rfl,rfl⟩,st',fun b hb=>(hf b hb).1⟩⟩
  rw[vg]
 done:=by
  intro X hP hw hK hc i pins s σ H E I hf st hg
  subst hP hw hK
  obtain⟨f0,f1,f2,f3,f4,f5⟩:=hf it (by simp)
  exact wpAny_pyNext_range_end (I.ok.hd hc) st (by have:n<=i:=hg;omega) fun h' eb=>⟨rfl,I.turned (t':=s.toks) (fun b o hb e=>eb b o hb e) f0 f1 f3 f4 f5⟩
 self:=fun _ _ _ _ _ st h=>wpAny_pyIter_rangeiter st h
section
variable{X:Cx}{tg:Expr}
def Fq(K:aA)(tl:TE):TI:=fun σ H R=>tl σ H fun x H1=>∃a,x= .ref a/\(∃xs,ak K H1 a xs)/\R (lO K a) H1
theorem eC{l:Expr}{tl:TE}(hl:PE X l tl):PI X tg l (Fq X.K tl):=by
 intro pins s σ H R I h
 refine aK (hl pins s σ H _ I h) fun v s1 ⟨x,H1,I1,r1,q1⟩=>?_
 obtain⟨a,e,⟨xs,hq⟩,q⟩:=q1
 subst e
 cases r1
 obtain⟨its,rv,p,hz⟩:=I1.list hq
 refine wpAny_pyIter_list p.isList ?_
 refine⟨s1.heap.objs.size,[s1.heap.objs.size],_,_,H1,rfl,I1.kept (t':=s1.toks) fun b o e=>bj _ e,Fo a _,⟨_,bQ _ rfl,rfl,rfl⟩,fun b hb=>?_,q⟩
 have e:b=s1.heap.objs.size:=by simpa using hb
 subst e
 exact I1.fpOk (aE _) (I1.hok.fresh (aE _))
theorem Fr{pins:List (Addr×aG)}{σ:St}{H:Hp}{s:ah}{R:It->Hp->Prop}{E:ac->ah->Prop}{lo hi:Int}{t u v:Tok}{tk:Nat}(I:Inv X pins σ H s)(h1: -(2 ^ 62)<=lo)(h2:lo<2 ^ 62)(h3: -(2 ^ 62)<=hi)(h4:hi<2 ^ 62)
 (q:R (kx lo (hi - lo).toNat) H):wpAny (model X.prog X.w) X.A (pyIter (.ref s.heap.objs.size)) (zY X pins σ tg R) E { s with heap:=s.heap.push { cls:= .type "range",data:= .fields #[.int lo t,.int hi u,.int 1 v]},toks:=tk}:=by
 refine wpAny_pyIter_range (IsRange.new ..) (small_one h1 h2 h3 h4) ?_
 have I1:Inv X pins σ H { s with heap:=s.heap.push { cls:= .type "range",data:= .fields #[.int lo t,.int hi u,.int 1 v]},toks:=tk}:=I.kept fun b o e=>bj _ e
 refine⟨(s.heap.push { cls:= .type "range",data:= .fields #[.int lo t,.int hi u,.int 1 v]}).objs.size,[(s.heap.push { cls:= .type "range",data:= .fields #[.int lo t,.int hi u,.int 1 v]}).objs.size],_,_,H,rfl,
  I1.kept (t':=tk) fun b o e=>bj _ e,Fp _ lo (hi - lo).toNat,?_,fun b hb=>?_,q⟩
 ·have e1:lo+((0:Nat):Int) * 1=lo:=by simp
  have e2:(((hi - lo).toNat:Nat):Int) - ((0:Nat):Int)=dc.Range.rangeSize lo hi 1:=by rw[rangeSize_one];split<;>omega
  show IsRangeIter _ _ (lo+((0:Nat):Int) * 1) ((((hi - lo).toNat:Nat):Int) - ((0:Nat):Int)) 1
  rw[e1,e2]
  exact bQ _ rfl
 ·have e:b=(s.heap.push { cls:= .type "range",data:= .fields #[.int lo t,.int hi u,.int 1 v]}).objs.size:=by simpa using hb
  subst e
  exact I1.fpOk (aE _) (I1.hok.fresh (aE _))
def Fs(ta:TA):TI:=fun σ H R=>ta σ H fun vs H1=>∃j:Int,vs=[.int j]/\ -(2 ^ 62)<=j/\j<2 ^ 62/\R (kx 0 j.toNat) H1
theorem pB{a:Expr}{ta:TA}{p pos:Pos}(hg:Gl X "range")(hm:X.mg "range"=none)(ha:PA X [a] ta)(hs:starEach [a] X.env=[(false,eval a X.env)]:=by rfl):PI X tg (.Call (.Name "range" p) [a] [] pos) (Fs ta):=by
 intro pins s σ H R I h
 refine Call_ (fq I hg hm boot_range (gg (aK (ha pos pins s σ H _ I h) fun us s1 ⟨vs,H1,I1,r1,q1⟩=>?_) hs rfl))
 obtain⟨j,e,q1,q2,q⟩:=q1
 subst e
 cases r1 with
 |cons r rr=>
  cases rr
  obtain⟨t,rfl⟩:=r
  exact call_range_1 (Fr I1 (by omega) (by omega) q1 q2 (by simpa using q))
def Ft(wi:TI)(g:TG)(tb:TS):TS:=fun D σ H=>wi σ H fun J H1=>∃W:Nat->Nat->St->Hp->Prop,(∃m,W 0 m σ H1)/\∀i m σ H,W i m σ H->
 (J.stop i H/\D.nx σ H)\/(J.go i H/\∃N:St->Hp->Prop,(∀σ' H',N σ' H'->∃m',m'<m/\W (i+1) m' σ' H')/\∀x H',J.yld i H x H'->g x σ H' fun σ2 H2=>tb { D with nx:=N,ct:=N,bk:=D.nx} σ2 H2)
def pC(fp:List Addr)(h:az):List (Addr×aG):=fp.filterMap fun b=>(h.get? b).map fun o=>(b,o)
theorem rT{fp:List Addr}{h:az}{b:Addr}{o:aG}(hb:b∈fp)(e:h.get? b=some o):(b,o)∈pC fp h:=yr.mpr ⟨b,hb,by rw[e];rfl⟩
theorem Fu{fp:List Addr}{h:az}{p:Addr×aG}(hp:p∈pC fp h):p.1∈fp/\h.get? p.1=some p.2:=by
 obtain⟨b,hb,e⟩:=yr.mp hp
 cases q:h.get? b with
 |none=>rw[q]at e;cases e
 |some o=>
  rw[q]at e
  have e':(b,o)=p:=cv e
  subst e'
  exact⟨hb,q⟩
theorem Inv.pinned{pins:List (Addr×aG)}{σ:St}{H:Hp}{s:ah}{fp:List Addr}(I:Inv X pins σ H s)(hf:∀b∈fp,dM X pins H b)(ho:∀b∈fp,∃o,s.heap.get? b=some o/\∀v,o.data≠ .cell v):Inv X (pins++pC fp s.heap) σ H s:=
 I.pins_of fun p hp=>(br.mp hp).elim (fun z=>I.pin p (d6 _ z)) fun z=>by
  obtain⟨hb,e⟩:=Fu z
  obtain⟨f0,f1,f2,_⟩:=hf p.1 hb
  obtain⟨o,e',d⟩:=ho p.1 hb
  rw[e]at e';cases e'
  exact⟨e,f0,f1,f2,d⟩
theorem Inv.unpinned{pins pl:List (Addr×aG)}{σ:St}{H:Hp}{s:ah}(I:Inv X (pins++pl) σ H s):Inv X pins σ H s:=I.pins_of fun p hp=>I.pin p (d6 _ (eu _ hp))
theorem dR{iter:Expr}{body:List Stmt}{wi:TI}{g:TG}{tb:TS}{pos:Pos}(hp:PassesOwn (model X.prog X.w) X.A X.env X.xe)(hc:X.calm=true)(hi:PI X tg iter wi)(hg:PG X tg g)(hb:fR X body tb)
 (hs:∀x,foldedSetIterable iter X.env x=pure x:=by intro _;rfl):PS X (.For tg iter body [] pos) (Ft wi g tb):=by
 intro pins s σ H D I h
 refine wpAny_For (aK (hi pins s σ H _ I h) fun v s1 h1=>aK h1 fun itv s2 h2=>?_) hs
 obtain⟨it,fp,tn,J,H2,e,I2,T,st2,f2,W,⟨m0,w0⟩,turn⟩:=h2
 subst e
 have stat:∀{H':Hp},(∀b∈fp,H' b=none)->∀b∈fp,dM X pins H' b:=fun hn b hb=>⟨hn b hb,(f2 b hb).2⟩
 refine codeAny_forLoop_any (fun n s'=>∃i σ' H',Inv X pins σ' H' s'/\tn i s'.heap/\(∀b∈fp,H' b=none)/\W i n σ' H') ?_ m0 ⟨0,σ,H2,I2,st2,fun b hb=>(f2 b hb).1,w0⟩
 rintro n s3 ⟨i,σ3,H3,I3,st3,fr3,w3⟩
 rcases turn i n σ3 H3 w3 with⟨stop,qn⟩|⟨go,N,hN,step⟩
 ·refine lz hp (aK (T.done X rfl rfl rfl hc i pins s3 σ3 H3 X.xe I3 (stat fr3) st3 stop) fun r s4 ⟨hr,I4⟩=>?_)
  subst hr
  exact qz ⟨σ3,H3,I4,qn⟩
 ·refine lz hp (aK (T.item X rfl rfl rfl hc i pins s3 σ3 H3 X.xe I3 (stat fr3) st3 go) fun r s4 ⟨u,hr,h4⟩=>?_)
  subst hr
  refine lz hp (aK h4 fun _ s5 ⟨x,H5,I5,r5,y5,st5,fr5⟩=>?_)
  have I5':=I5.pinned (stat fr5) (T.obj _ _ st5)
  refine lz hp (aK (hg _ s5 σ3 H5 x u _ I5' r5 (step x H5 y5)) fun _ s6 ⟨σ6,H6,I6,q6⟩=>?_)
  refine lz hp (aK (hb _ s6 σ6 H6 _ I6 q6) fun f s7 q7=>?_)
  have again:∀{σ7:St}{H7:Hp},Inv X (pins++pC fp s5.heap) σ7 H7 s7->N σ7 H7->∃m,m<n/\∃i σ' H',Inv X pins σ' H' s7/\tn i s7.heap/\(∀b∈fp,H' b=none)/\W i m σ' H':=fun {σ7 H7} I7 n7=>by
   obtain⟨m',hm,w7⟩:=hN σ7 H7 n7
   refine⟨m',hm,i+1,σ7,H7,I7.unpinned,T.keep _ _ _ st5 fun b hb o e=>(I7.pin (b,o) (d6 _ (d6 _ (rT hb e)))).1,fun b hb=>?_,w7⟩
   obtain⟨o,e,d⟩:=T.obj _ _ st5 b hb
   exact(I7.pin (b,o) (d6 _ (d6 _ (rT hb e)))).2.1
  cases f with
  |next=>obtain⟨σ7,H7,I7,n7⟩:=q7;exact again I7 n7
  |cont=>obtain⟨σ7,H7,I7,n7⟩:=q7;exact again I7 n7
  |brk=>obtain⟨σ7,H7,I7,q7⟩:=q7;exact⟨σ7,H7,I7.unpinned,q7⟩
  |ret v=>obtain⟨x7,σ7,H7,I7,r7,q7⟩:=q7;exact⟨x7,σ7,H7,I7.unpinned,r7,q7⟩
end
theorem ij{K:aA}{a:Addr}{xs:List V}{g:TG}{tb:TS}{D:cZ}{σ:St}{H:Hp}(Pv:Nat->St->Hp->Prop)(h0:Pv 0 σ H)(hl:∀i σ H,i<=xs.length->Pv i σ H->ak K H a xs)
 (hs:∀i x σ H,xs[i]?=some x->Pv i σ H->g x σ H fun σ2 H2=>tb { D with nx:=Pv (i+1),ct:=Pv (i+1),bk:=D.nx} σ2 H2) (hd:∀σ H,Pv xs.length σ H->D.nx σ H):
 ∃W:Nat->Nat->St->Hp->Prop,(∃m,W 0 m σ H)/\∀i m σ H,W i m σ H->
  ((lO K a).stop i H/\D.nx σ H)\/((lO K a).go i H/\∃N:St->Hp->Prop,(∀σ' H',N σ' H'->∃m',m'<m/\W (i+1) m' σ' H')/\∀x H',(lO K a).yld i H x H'->g x σ H' fun σ2 H2=>tb { D with nx:=N,ct:=N,bk:=D.nx} σ2 H2):=by
 refine⟨fun i m σ H=>m=xs.length - i/\i<=xs.length/\Pv i σ H,⟨xs.length,by simp,cQ _,h0⟩,?_⟩
 rintro i m σ H ⟨rfl,hi,p⟩
 have q:=hl i σ H hi p
 by_cases hlt:i<xs.length
 ·refine .inr ⟨⟨xs,xs[i],q,by simp[hlt]⟩,Pv (i+1),fun σ' H' p'=>⟨xs.length - (i+1),by omega,rfl,hlt,p'⟩,fun x H' y=>?_⟩
  obtain⟨e,y⟩:=y
  subst e
  exact hs i x σ _ (y xs q) p
 ·have e:i=xs.length:=by omega
  subst e
  exact .inl ⟨⟨xs,q,aE _⟩,hd σ H p⟩
theorem rU{lo:Int}{n:Nat}{g:TG}{tb:TS}{D:cZ}{σ:St}{H:Hp}(Pv:Nat->St->Hp->Prop)(h0:Pv 0 σ H)
 (hs:∀i σ H,i<n->Pv i σ H->g (.int (lo+i)) σ H fun σ2 H2=>tb { D with nx:=Pv (i+1),ct:=Pv (i+1),bk:=D.nx} σ2 H2) (hd:∀σ H,Pv n σ H->D.nx σ H):
 ∃W:Nat->Nat->St->Hp->Prop,(∃m,W 0 m σ H)/\∀i m σ H,W i m σ H->
  ((kx lo n).stop i H/\D.nx σ H)\/((kx lo n).go i H/\∃N:St->Hp->Prop,(∀σ' H',N σ' H'->∃m',m'<m/\W (i+1) m' σ' H')/\∀x H',(kx lo n).yld i H x H'->g x σ H' fun σ2 H2=>tb { D with nx:=N,ct:=N,bk:=D.nx} σ2 H2):=by
 refine⟨fun i m σ H=>m=n - i/\i<=n/\Pv i σ H,⟨n,by simp,cQ _,h0⟩,?_⟩
 rintro i m σ H ⟨rfl,hi,p⟩
 by_cases hlt:i<n
 ·refine .inr ⟨hlt,Pv (i+1),fun σ' H' p'=>⟨n - (i+1),by omega,rfl,hlt,p'⟩,fun x H' y=>?_⟩
  obtain⟨e,y⟩:=y
  subst e y
  exact hs i σ _ hlt p
 ·have e:i=n:=by omega
  subst e
  exact .inl ⟨aE _,hd σ H p⟩
abbrev R2:=V->V->Hp->VK->Prop
def cG(X:Cx)(f:ac->ac->Sem ac)(r:R2):Prop:=
 ∀(pins:List (Addr×aG))(s:ah)(σ:St)(H:Hp)(x y:V)(v u:ac)(Q:VK),Inv X pins σ H s->aW x v->aW y u->r x y H Q->
  wpAny (model X.prog X.w) X.A (f v u) (EP X pins σ Q) X.xe s
def gG(X:Cx)(f:ac)(r:List V->Hp->VK->Prop):Prop:=
 ∀(pins:List (Addr×aG))(s:ah)(σ:St)(H:Hp)(xs:List V)(us:List ac)(Q:VK),Inv X pins σ H s->aL xs us->r xs H Q->
  wpAny (model X.prog X.w) X.A (call f us) (EP X pins σ Q) X.xe s
def Fv(X:Cx)(r:V->Hp->(Bool->Hp->Prop)->Prop):Prop:=
 ∀(pins:List (Addr×aG))(s:ah)(σ:St)(H:Hp)(x:V)(v:ac)(Q:Bool->Hp->Prop),Inv X pins σ H s->aW x v->r x H Q->
  wpAny (model X.prog X.w) X.A (truthy v) (TP X pins σ Q) X.xe s
def nr(r:R2)(ta tb:TE):TE:=fun σ H Q=>ta σ H fun x H1=>tb σ H1 fun y H2=>r x y H2 Q
inductive zZ(C:Int->Int->Prop)(g:Int->Int->V)(x:V)(y:V)(H:Hp)(Q:VK):Prop
 |mk:∀i j,(x= .int i)->(y= .int j)->(C i j)->(Q (g i j) H)->zZ C g x y H Q
def rI(C:Int->Int->Prop)(g:Int->Int->V):R2:=fun x y H Q=>zZ C g x y H Q
inductive Aa(g:Int->Int->V)(x:V)(y:V)(H:Hp)(Q:VK):Prop
 |mk:∀i j,(x= .int i)->(y= .int j)->(Q (g i j) H)->Aa g x y H Q
def ky(g:Int->Int->V):R2:=fun x y H Q=>Aa g x y H Q
section
variable{X:Cx}{a b c:Expr}{ta tb tc:TE}{pos:Pos}
theorem vC(ha:PE X a ta)(hb:PE X b tb){pins:List (Addr×aG)}{s:ah}{σ:St}{H:Hp}{R:V->V->Hp->Prop}(I:Inv X pins σ H s)
 (h:ta σ H fun x H1=>tb σ H1 fun y H2=>R x y H2) {Q:ac->ah->Prop} {f:ac->ac->Sem ac}
 (hf:∀v u s2 x y H2,Inv X pins σ H2 s2->aW x v->aW y u->R x y H2->wpAny (model X.prog X.w) X.A (f v u) Q X.xe s2):
 wpAny (model X.prog X.w) X.A (eval a X.env) (fun v s₁=>wpAny (model X.prog X.w) X.A (eval b X.env) (fun u s₂=>wpAny (model X.prog X.w) X.A (f v u) Q X.xe s₂) X.xe s₁) X.xe s:=by
 refine aK (ha pins s σ H _ I h) fun v s1 ⟨x,H1,I1,r1,q1⟩=>?_
 refine aK (hb pins s1 σ H1 _ I1 q1) fun u s2 ⟨y,H2,I2,r2,q2⟩=>?_
 exact hf v u s2 x y H2 I2 r1 r2 q2
theorem aY{op:Operator}{r:R2}(ho:cG X (binaryOp op) r)(ha:PE X a ta)(hb:PE X b tb):PE X (.BinOp a op b pos) (nr r ta tb):=by
 intro pins s σ H Q I h
 exact wpAny_BinOp (vC ha hb I h fun v u s2 x y H2 I2 rx ry q=>ho pins s2 σ H2 x y v u Q I2 rx ry q)
theorem vD{f:ac->ac->Sem ac}{C:Int->Int->Prop}{g:Int->Int->Int}
 (rule:∀(i j:Int)(t u:Tok)(s:ah)(Q:ac->ah->Prop)(E:ac->ah->Prop),C i j->Q (.int (g i j) s.toks) { s with toks:=s.toks+1}->wpAny (model X.prog X.w) X.A (f (.int i t) (.int j u)) Q E s):
 cG X f (rI C fun i j=>.int (g i j)):=by
 intro pins s σ H x y v u Q I rx ry h
 obtain⟨i,j,rfl,rfl,hc,q⟩:=h
 obtain⟨t,rfl⟩:=rx
 obtain⟨t',rfl⟩:=ry
 exact rule i j t t' s _ _ hc ⟨.int (g i j),H,I.tok _,⟨_,rfl⟩,q⟩
theorem Ab{f:ac->ac->Sem ac}{g:Int->Int->Int}
 (rule:∀(i j:Int)(t u:Tok)(s:ah)(Q:ac->ah->Prop)(E:ac->ah->Prop),Q (.int (g i j) s.toks) { s with toks:=s.toks+1}->wpAny (model X.prog X.w) X.A (f (.int i t) (.int j u)) Q E s):
 cG X f (ky fun i j=>.int (g i j)):=by
 intro pins s σ H x y v u Q I rx ry h
 obtain⟨i,j,rfl,rfl,q⟩:=h
 obtain⟨t,rfl⟩:=rx
 obtain⟨t',rfl⟩:=ry
 exact rule i j t t' s _ _ ⟨.int (g i j),H,I.tok _,⟨_,rfl⟩,q⟩
theorem rV{f:ac->ac->Sem ac}{g:Int->Int->Bool}
 (rule:∀(i j:Int)(t u:Tok)(s:ah)(Q:ac->ah->Prop)(E:ac->ah->Prop),Q (.bool (g i j)) s->wpAny (model X.prog X.w) X.A (f (.int i t) (.int j u)) Q E s):
 cG X f (ky fun i j=>.bl (g i j)):=by
 intro pins s σ H x y v u Q I rx ry h
 obtain⟨i,j,rfl,rfl,q⟩:=h
 obtain⟨t,rfl⟩:=rx
 obtain⟨t',rfl⟩:=ry
 exact rule i j t t' s _ _ ⟨.bl (g i j),H,I,rfl,q⟩
def Fw(i j:Int):Prop:=0<j/\j<1073741824
def Fx(i j:Int):Prop:=0<=j/\j<=1000000/\i.natAbs<2 ^ 64
theorem nu:cG X (binaryOp .Add) (ky fun i j=>.int (i+j)):=Ab fun _ _ _ _ _ _ _ q=>add_int q
theorem nv:cG X (binaryOp .Sub) (ky fun i j=>.int (i - j)):=Ab fun _ _ _ _ _ _ _ q=>sub_int q
theorem e9:cG X (binaryOp .FloorDiv) (rI Fw fun i j=>.int (i / j)):=vD fun i j _ _ _ _ _ hc q=>by
 have h1:(0:Int)<j:=hc.1
 have h2:j<1073741824:=hc.2
 exact floordiv_int (by omega) (by rw[Int.fdiv_eq_ediv_of_nonneg i (by omega)];exact q) (.inl (PyProof.noPylong_small (by omega)))
theorem dj:cG X (binaryOp .Mod) (rI (fun _ j=>0<j) fun i j=>.int (i % j)):=vD fun i j _ _ _ _ _ hc q=>by
 have h1:(0:Int)<j:=hc
 exact mod_int' (by omega) (by rw[Int.fmod_eq_emod_of_nonneg i (by omega)];exact q)
theorem vE:cG X (binaryOp .Pow) (rI Fx fun i j=>.int (i ^ j.toNat)):=vD fun _ _ _ _ _ _ _ hc q=>pow_int_small hc.1 hc.2.1 hc.2.2 q
end
def Ac:V->V->Bool
 |.non,.non=>true|.non,.int _=>true|.int _,.non=>true|.non,.bl _=>true|.bl _,.non=>true|.non,.str _=>true|.str _,.non=>true
 |.int _,.int _=>true|.bl _,.bl _=>true|.str _,.str _=>true|.byt _,.byt _=>true
 |.int _,.str _=>true|.str _,.int _=>true|.bl _,.str _=>true|.str _,.bl _=>true
 |_,_=>false
def Fy:R2:=fun x y H Q=>Ac x y=true/\Q (.bl (decide (x=y))) H
def Fz:R2:=fun x y H Q=>Ac x y=true/\Q (.bl (!decide (x=y))) H
theorem Ad{i j:Int}:decide (V.int i=V.int j)=(i==j):=by
 rw[rn]
 simp
theorem Ae{i j:Bool}:decide (V.bl i=V.bl j)=(i==j):=by
 rw[rn]
 simp
theorem Af{i j:aa}:decide (V.str i=V.str j)=(i==j):=by
 rw[rn]
 simp
theorem Ag{i j:Array UInt8}:decide (V.byt i=V.byt j)=(i.toList==j.toList):=by
 rw[rn]
 cases i
 cases j
 simp
section
variable{X:Cx}{a b c:Expr}{ta tb tc:TE}{pos:Pos}
theorem cA{pins:List (Addr×aG)}{σ:St}{H:Hp}{s:ah}{Q:VK}{k k':Bool}(I:Inv X pins σ H s)(q:Q (.bl k) H)(e:k=k'):EP X pins σ Q (.bool k') s:=by
 subst e
 exact⟨.bl k,H,I,rfl,q⟩
theorem cf:cG X (compareOp .Eq) Fy:=by
 intro pins s σ H x y v u Q I rx ry h
 obtain⟨hs,q⟩:=h
 cases x with
 |non=>
  cases rx
  cases y with
  |non=>cases ry;exact PySem.EqNone.eq_none_none (cA I q (by simp))
  |bl j=>cases ry;exact PySem.EqNone.eq_none_bool (cA I q (by simp))
  |int j=>obtain⟨t',rfl⟩:=ry;exact PySem.EqNone.eq_none_int (cA I q (by simp))
  |str j=>obtain⟨t',rfl⟩:=ry;exact PySem.EqNone.eq_none_str (cA I q (by simp))
  |_=>exact absurd (show false=true from hs) cM
 |bl i=>
  cases rx
  cases y with
  |non=>cases ry;exact PySem.EqNone.eq_bool_none (cA I q (by simp))
  |bl j=>cases ry;exact eq_bool (cA I q Ae)
  |str j=>obtain⟨t',rfl⟩:=ry;exact PySem.EqMixed.eq_bool_str (cA I q (by simp))
  |_=>exact absurd (show false=true from hs) cM
 |int i=>
  obtain⟨t,rfl⟩:=rx
  cases y with
  |non=>cases ry;exact PySem.EqNone.eq_int_none (cA I q (by simp))
  |int j=>obtain⟨t',rfl⟩:=ry;exact eq_int (cA I q Ad)
  |str j=>obtain⟨t',rfl⟩:=ry;exact PySem.EqMixed.eq_int_str (cA I q (by simp))
  |_=>exact absurd (show false=true from hs) cM
 |str i=>
  obtain⟨t,rfl⟩:=rx
  cases y with
  |non=>cases ry;exact PySem.EqNone.eq_str_none (cA I q (by simp))
  |bl j=>cases ry;exact PySem.EqMixed.eq_str_bool (cA I q (by simp))
  |int j=>obtain⟨t',rfl⟩:=ry;exact PySem.EqMixed.eq_str_int (cA I q (by simp))
  |str j=>obtain⟨t',rfl⟩:=ry;exact eq_str (cA I q Af)
  |_=>exact absurd (show false=true from hs) cM
 |byt i=>
  obtain⟨t,rfl⟩:=rx
  cases y with
  |byt j=>obtain⟨t',rfl⟩:=ry;exact PySem.W.eq_bytes (cA I q Ag)
  |_=>exact absurd (show false=true from hs) cM
 |_=>cases y<;>exact absurd (show false=true from hs) cM
theorem gm:cG X (compareOp .NotEq) Fz:=by
 intro pins s σ H x y v u Q I rx ry h
 obtain⟨hs,q⟩:=h
 cases x with
 |non=>
  cases rx
  cases y with
  |non=>cases ry;exact PySem.EqNone.ne_none_none (cA I q (by simp))
  |bl j=>cases ry;exact PySem.EqNone.ne_none_bool (cA I q (by simp))
  |int j=>obtain⟨t',rfl⟩:=ry;exact PySem.EqNone.ne_none_int (cA I q (by simp))
  |str j=>obtain⟨t',rfl⟩:=ry;exact PySem.EqNone.ne_none_str (cA I q (by simp))
  |_=>exact absurd (show false=true from hs) cM
 |bl i=>
  cases rx
  cases y with
  |non=>cases ry;exact PySem.EqNone.ne_bool_none (cA I q (by simp))
  |bl j=>cases ry;exact ne_bool (cA I q (congrArg not Ae))
  |str j=>obtain⟨t',rfl⟩:=ry;exact PySem.EqMixed.ne_bool_str (cA I q (by simp))
  |_=>exact absurd (show false=true from hs) cM
 |int i=>
  obtain⟨t,rfl⟩:=rx
  cases y with
  |non=>cases ry;exact PySem.EqNone.ne_int_none (cA I q (by simp))
  |int j=>obtain⟨t',rfl⟩:=ry;exact ne_int (cA I q (congrArg not Ad))
  |str j=>obtain⟨t',rfl⟩:=ry;exact PySem.EqMixed.ne_int_str (cA I q (by simp))
  |_=>exact absurd (show false=true from hs) cM
 |str i=>
  obtain⟨t,rfl⟩:=rx
  cases y with
  |non=>cases ry;exact PySem.EqNone.ne_str_none (cA I q (by simp))
  |bl j=>cases ry;exact PySem.EqMixed.ne_str_bool (cA I q (by simp))
  |int j=>obtain⟨t',rfl⟩:=ry;exact PySem.EqMixed.ne_str_int (cA I q (by simp))
  |str j=>obtain⟨t',rfl⟩:=ry;exact ne_str (cA I q (congrArg not Af))
  |_=>exact absurd (show false=true from hs) cM
 |byt i=>
  obtain⟨t,rfl⟩:=rx
  cases y with
  |byt j=>obtain⟨t',rfl⟩:=ry;exact PySem.W.ne_bytes (cA I q (congrArg not Ag))
  |_=>exact absurd (show false=true from hs) cM
 |_=>cases y<;>exact absurd (show false=true from hs) cM
theorem rW:cG X (compareOp .Lt) (ky fun i j=>.bl (decide (i<j))):=rV fun _ _ _ _ _ _ _ q=>lt_int q
theorem FA:cG X (compareOp .LtE) (ky fun i j=>.bl (decide (i<=j))):=rV fun _ _ _ _ _ _ _ q=>le_int q
theorem vF:cG X (compareOp .Gt) (ky fun i j=>.bl (decide (j<i))):=rV fun _ _ _ _ _ _ _ q=>gt_int q
theorem FB:cG X (compareOp .GtE) (ky fun i j=>.bl (decide (j<=i))):=rV fun _ _ _ _ _ _ _ q=>ge_int q
theorem vG:cG X (compareOp .Is) (fun x y H Q=>y= .non/\Q (.bl (decide (x= .non))) H):=by
 intro pins s σ H x y v u Q I rx ry h
 obtain⟨rfl,q⟩:=h
 cases ry
 refine is_none_gen (cA I q ?_)
 cases x<;>first
  |(cases rx;rfl)
  |(obtain⟨t,rfl⟩:=rx;rfl)
theorem nw:cG X (compareOp .IsNot) (fun x y H Q=>y= .non/\Q (.bl (!decide (x= .non))) H):=by
 intro pins s σ H x y v u Q I rx ry h
 obtain⟨rfl,q⟩:=h
 cases ry
 refine isnot_none_gen (cA I q ?_)
 cases x<;>first
  |(cases rx;rfl)
  |(obtain⟨t,rfl⟩:=rx;rfl)
theorem FC:cG X (compareOp .NotIn) (fun x y H Q=>∃i j,x= .str i/\y= .str j/\Q (.bl (!(!(vn j i 0 j.length 1).isEmpty))) H):=by
 intro pins s σ H x y v u Q I rx ry h
 obtain⟨i,j,rfl,rfl,q⟩:=h
 obtain⟨t,rfl⟩:=rx
 obtain⟨t',rfl⟩:=ry
 exact notIn_str (cA I q rfl)
theorem aT(b:Expr){op:CmpOp}(h:op≠ .In:=by decide)(h2:op≠ .NotIn:=by decide):behindInMarks op b=false:=by
 have e1:(op==CmpOp.In)=false:=by cases op<;>first|rfl|exact absurd rfl h
 have e2:(op==CmpOp.NotIn)=false:=by cases op<;>first|rfl|exact absurd rfl h2
 cases b<;>simp[behindInMarks,e1,e2]
theorem lP{op:CmpOp}{r:R2}(ho:cG X (compareOp op) r)(ha:PE X a ta)(hb:PE X b tb)(hm:behindInMarks op b=false):PE X (.Compare a [op] [b] pos) (nr r ta tb):=by
 intro pins s σ H Q I h
 exact wpAny_Compare1 (vC ha hb I h fun v u s2 x y H2 I2 rx ry q=>ho pins s2 σ H2 x y v u Q I2 rx ry q) hm
inductive Ah(Q:Bool->Hp->Prop)(x:V)(H':Hp):Prop
 |mk:∀k,(x= .bl k)->(Q k H')->Ah Q x H'
def FD(t:TE):TT:=fun σ H Q=>t σ H fun x H'=>Ah Q x H'
theorem aU{op:CmpOp}{r:R2}(ho:cG X (compareOp op) r)(ha:PE X a ta)(hb:PE X b tb)(hm:behindInMarks op b=false):PT X (.Compare a [op] [b] pos) (FD (nr r ta tb)):=by
 intro pins s σ H Q I h
 refine xP (aK (ha pins s σ H _ I h) fun v s1 ⟨x,H1,I1,r1,q1⟩=>aK (hb pins s1 σ H1 _ I1 q1) fun u s2 ⟨y,H2,I2,r2,q2⟩=>
  aK (ho pins s2 σ H2 x y v u _ I2 r1 r2 q2) fun c s3 ⟨z,H3,I3,r3,k,e,q3⟩=>?_) hm
 subst e
 cases r3
 exact ly ⟨H3,I3,q3⟩
def Ai(K:aA)(x:V)(H:Hp)(k:Bool):Prop:=
 match x with
 |.non=>k=false
 |.bl b=>k=b
 |.int i=>k=(i != 0)
 |.str y=>y.length<=sizeLine/\k=((y.length:Int) != 0)
 |.byt y=>y.size<=sizeLine/\k=((y.size:Int) != 0)
 |.ref p=>(∃xs,ak K H p xs/\k= !xs.isEmpty)\/(∃xs,aj K H p xs/\k= !xs.isEmpty)\/∃kvs,H p=some (.dK kvs)/\k= !kvs.isEmpty
 |_=>False
theorem FE{κ:Type}{kvs:List (κ×V)}{vs:List (κ×ac)}(r:KV kvs vs):(!vs.isEmpty)= !kvs.isEmpty:=by
 cases r<;>rfl
theorem Aj{xs:List V}{its:List ac}(r:aL xs its):(!its.toArray.isEmpty)= !xs.isEmpty:=by
 cases r<;>simp
theorem fw:(sizeLine:Nat)<2 ^ 63:=by rw[qB];decide
theorem FF:Fv X (fun x H Q=>∃k,Ai X.K x H k/\Q k H):=by
 intro pins s σ H x v Q I rx h
 obtain⟨k,e,q⟩:=h
 have hl:=fw
 have hs:sizeLine=16777216:=qB
 cases x with
 |non=>
  cases rx
  have e':k=false:=e
  subst e'
  exact truthy_none ⟨H,I,q⟩
 |bl b=>
  cases rx
  have e':k=b:=e
  subst e'
  exact ly ⟨H,I,q⟩
 |int i=>
  obtain⟨t,rfl⟩:=rx
  have e':k=(i != 0):=e
  subst e'
  exact PySem.P.truthy_int ⟨H,I,q⟩
 |str y=>
  obtain⟨t,rfl⟩:=rx
  obtain⟨hy,e'⟩:y.length<=sizeLine/\k=((y.length:Int) != 0):=e
  subst e'
  exact PySem.P.truthy_str (by omega) ⟨H,I.tok _,q⟩
 |byt y=>
  obtain⟨t,rfl⟩:=rx
  obtain⟨hy,e'⟩:y.size<=sizeLine/\k=((y.size:Int) != 0):=e
  subst e'
  exact PySem.W.truthy_bytes (by omega) ⟨H,I.tok _,q⟩
 |ref p=>
  cases rx
  have e':(∃xs,ak X.K H p xs/\k= !xs.isEmpty)\/(∃xs,aj X.K H p xs/\k= !xs.isEmpty)\/∃kvs,H p=some (.dK kvs)/\k= !kvs.isEmpty:=e
  rcases e' with⟨xs,hx,e'⟩|⟨xs,hx,e'⟩|⟨kvs,hx,e'⟩
  ·subst e'
   obtain⟨its,r,pl,hz⟩:=I.list hx
   have hlen:=r.length
   exact wpAny_truthy_list pl.isList (by simp only[bX];omega) ⟨H,I.tok _,by rw[Aj r];exact q⟩
  ·subst e'
   obtain⟨its,r,pl,hz⟩:=I.tuple hx
   have hlen:=r.length
   exact truthy_tuple pl (by simp only[bX];omega) ⟨H,I.tok _,by rw[Aj r];exact q⟩
  ·subst e'
   obtain⟨hz,hS,vs,r,m⟩:kvs.length<=sizeLine/\(p==sysModules)=false/\∃vs,KV kvs vs/\s.heap.DictOf (dn X.prog X.w) p vs:=I.hok p _ hx
   have hlen:kvs.length=vs.length:=Paired.length r
   exact wpAny_truthy_dict hS m (by omega) ⟨H,I.tok _,by rw[FE r];exact q⟩
 |_=>exact(show False from e).elim
theorem ny(ha:PE X a ta)(he:∀whole,isTrue a X.env whole=(do let v <-whole;standAt a.pos;holding [v] (truthy v))):
 PT X a (fun σ H Q=>ta σ H fun x H'=>∃k,Ai X.K x H' k/\Q k H'):=by
 intro pins s σ H Q I h
 exact isTrue_plain (aK (ha pins s σ H _ I h) fun v s1 ⟨x,H1,I1,r1,q1⟩=>FF pins s1 σ H1 x v Q I1 r1 q1) (he _)
inductive Ak(x:V)(y:V)(H:Hp)(Q:VK):Prop
 |mk:∀i j,(x= .str i)->(y= .str j)->(i.length+j.length<=sizeLine)->(Q (.str (i++j)) H)->Ak x y H Q
theorem kz:cG X (binaryOp .Add) (fun x y H Q=>Ak x y H Q):=by
 intro pins s σ H x y v u Q I rx ry h
 obtain⟨i,j,rfl,rfl,hz,q⟩:=h
 obtain⟨t,rfl⟩:=rx
 obtain⟨t',rfl⟩:=ry
 exact add_str (fun t' tk=>⟨.str (i++j),H,I.tok _,⟨_,rfl⟩,q⟩) hz
theorem je{x:V}{us:List ac}(r:aL [x] us):∃u,us=[u]/\aW x u:=by
 cases r with
 |cons r1 r2=>cases r2;exact⟨_,rfl,r1⟩
theorem vH{x y:V}{us:List ac}(r:aL [x,y] us):∃u w',us=[u,w']/\aW x u/\aW y w':=by
 cases r with
 |cons r1 r2=>
  cases r2 with
  |cons r3 r4=>cases r4;exact⟨_,_,rfl,r1,r3⟩
inductive Al(xs:List V)(H:Hp)(Q:VK):Prop
 |mk:∀i,(xs=[.int i])->(Q (.int (if i<0 then -i else i)) H)->Al xs H Q
theorem FG:gG X (.builtin "abs") (fun xs H Q=>Al xs H Q):=by
 intro pins s σ H xs us Q I r h
 obtain⟨i,rfl,q⟩:=h
 obtain⟨u,rfl,t,rfl⟩:=je r
 exact call_abs_int fun u tk=>⟨.int (if i<0 then -i else i),H,I.tok _,⟨_,rfl⟩,q⟩
theorem FH:gG X (.type "str") (fun xs H Q=>∃i,xs=[.int i]/\i.natAbs.log2<1920/\Q (.str (toString i)) H):=by
 intro pins s σ H xs us Q I r h
 obtain⟨i,rfl,hz,q⟩:=h
 obtain⟨u,rfl,t,rfl⟩:=je r
 exact PySem.P.str_of_int hz ⟨.str _,H,I.tok _,⟨_,rfl⟩,q⟩
end
structure lQ(h:az)(x dx C:Addr)(mA:aa->Option ac):Prop where
 obj:h.get? x=some (j7 C dx)
 ns:h.Ns1 dx mA
 ne:dx≠x
theorem FI{h:az}{dx:Addr}{mA:aa->Option ac}(n:h.Ns1 dx mA):∃od,h.get? dx=some od/\∀name,qL name od=some (mA name):=by
 obtain⟨o,es,ep,ho,hd,hk,_,hm⟩:=n
 refine⟨o,ho,fun name=>?_⟩
 have e:=hm name
 unfold nsFind findBy at e
 rw[<-Array.find?_toList]at e
 unfold qL
 rw[hd]
 dsimp only
 split
 ·rename_i y q
  rw[q]at e
  exact congrArg some e
 ·rename_i q
  rw[q]at e
  have a:es.toList.any (·.refKey)=false:=by
   rw[List.any_eq_false]
   intro y hy
   obtain⟨z,t,hkey⟩:=hk y (Array.mem_toList_iff.mp hy)
   simp[DictEntry.refKey,hkey]
  have a':¬es.toList.any (·.refKey)=true:=by rw[a];exact cM
  rw[if_neg a']
  exact congrArg some e
theorem lQ.look{h:az}{x dx C:Addr}{mA:aa->Option ac}(I:lQ h x dx C mA):∃od,PySem.W.InstAt h x (j7 C dx) C (some od)/\∀name,qL name od=some (mA name):=
 let ⟨od,ho,hl⟩:=FI I.ns
 ⟨od,⟨I.obj,rfl,rfl,ho⟩,hl⟩
section
variable{prog:aQ}{w:aH}{A:bm}{E:ac->ah->Prop}{s:ah}{K:aA}{x dx C f:Addr}{mA:aa->Option ac}{name:aa}{v:ac}
theorem FJ{expr:Bool}{Q:ac->ah->Prop}(X:K.In s.heap)(I:lQ s.heap x dx C mA)(hg:oT K C name=true)(hh:qM K C=true)
 (ha:df K (.ref C) name=some none) (hv:mA name=some v) (hv':yc v=true) (h:Q v { s with toks:=s.toks+1}):
 wpAny (model prog w) A (getAttr (.ref x) name expr) Q E s:=by
 obtain⟨od,J,hl⟩:=I.look
 exact PySem.W.get_value X J (ux hg).1 (PySem.W.findObj_own hh ha rfl (by rw[hl,hv])) hv' h
theorem FK{pl:Sem Bool}{Q:ac×List ac->ah->Prop}(X:K.In s.heap)(I:lQ s.heap x dx C mA)(hg:oT K C name=true)
 (hf:df K (.ref C) name=some (some (.ref f))) (ht:fP K (.ref f)=true) (hv:mA name=none) (h:Q (.ref f,[.ref x]) s):
 wpAny (model prog w) A (getMethod (.ref x) name pl) Q E s:=by
 obtain⟨od,J,hl⟩:=I.look
 exact PySem.W.method_fn X J (ux hg).1 (ux hg).2 hf (beq_iff_eq.mp ht) (by show (qL name od).map (·.isSome)=some false;rw[hl,hv];rfl) h
theorem FL{ns:List aa}{Q:Unit->ah->Prop}(X:K.In s.heap)(I:lQ s.heap x dx C mA)
 (hs:df K (.ref C) "__setattr__"=some (some (.builtin "object.__setattr__"))) (hp:uy K C=true) (ht:uz K C name=some none) (hh:qM K C=true)
 (hw:qy mA ns) (hsz:ns.length<=sizeLine)
 (h:∀h',lQ h' x dx C (fun y=>if y=name then some v else mA y)->gf dx s.heap h'->Q () { s with heap:=h',toks:=s.toks+2}):
 wpAny (model prog w) A (setAttr (.ref x) name v) Q E s:=by
 obtain⟨od,J,hl⟩:=I.look
 refine PySem.W.set_plain X J hs (PySem.W.osa_open (s:={ s with toks:=s.toks+1}) (r:=none) X J hp ht fun b=>?_)
 obtain⟨cd,hc,hd'⟩:=PySem.W.any_some hh
 have hx:s.heap.get? x=some ⟨.ref C,some dx,.plain,#[]⟩:=I.obj
 refine ag (aP (ag (ag (wpAny_loadPart hx (ag (PySem.W.Looks.here (s:={ s with toks:=s.toks+1}) (PySem.W.looks_clsIn X hc) ?_))))))
 rw[hd']
 refine aP (a:=some dx) (ag (aP (ag ?_)))
 refine wpAny_nsSet1 (s:={ s with toks:=s.toks+1}) I.ns fun h' hn2 hs2=>?_
 obtain⟨oD,esD,epD,hoD,hdD,hcD⟩:=hn2.count (qy.cons name v hw)
 refine ag (wpAny_lookBehind hoD (by rw[hdD];exact pastItsLine_dict (cO hcD (by rw[zLC];omega))) ?_)
 exact aP (h _ ⟨(hs2.2 _ (fQ I.ne)).trans I.obj,hn2,I.ne⟩ hs2)
theorem FM{R:Result->ah->Prop}{vs:List ac}{kw:List (aa×ac)}(X:K.In s.heap)(hm:uA K C=true)
 (hi:df K (.ref C) "__init__"=some (some (.ref f))) (hf:PySem.W.typeIn K (.ref f)=some (.type "function"))
 (h:codeAny (model prog w) (A.under (.builtin "type.__call__" ⟨.ref C::vs,kw⟩)) (.call (.ref f) ⟨.ref (s.heap.objs.size+1)::vs,kw⟩) (PySem.W.InitBack (s.heap.objs.size+1) R)
  { s with heap:=(s.heap.push jw).push (j7 C s.heap.objs.size)}):
 codeAny (model prog w) A (.call (.ref C) ⟨vs,kw⟩) R s:=by
 obtain⟨hh,g,d,t,os⟩:=s
 exact PySem.W.make_core (PySem.W.makes_of X hm) (PySem.W.looks_findIn X hi) (fun self=>PySem.W.bind_fn X self hf) (.inl rfl) h
end
def bZ(f:aa)(v:V):List (aa×V)->List (aa×V)
 |[]=>[(f,v)]
 |(g,x)::r=>if g=f then (g,v)::r else (g,x)::bZ f v r
theorem Am(f g:aa)(v:V):∀fs:List (aa×V),(bZ f v fs).lookup g=if g=f then some v else fs.lookup g
 |[]=>by
  show lB g [(f,v)]=_
  by_cases h:g=f
  ·have hb:(g==f)=true:=beq_iff_eq.mpr h
   simp only[lB,hb,if_pos h]
  ·have hb:(g==f)=false:=beq_eq_false_iff_ne.mpr h
   simp only[lB,hb,if_neg h]
 |(k,x)::r=>by
  have ih:=Am f g v r
  rw[show bZ f v ((k,x)::r)=(if k=f then (k,v)::r else (k,x)::bZ f v r)from rfl]
  by_cases hk:k=f
  ·rw[if_pos hk]
   by_cases h:g=k
   ·have hb:(g==k)=true:=beq_iff_eq.mpr h
    simp only[lB,hb,if_pos (h.trans hk)]
   ·have hb:(g==k)=false:=beq_eq_false_iff_ne.mpr h
    simp only[lB,hb,if_neg (fun e:g=f=>h (e.trans hk.symm))]
  ·rw[if_neg hk]
   by_cases h:g=k
   ·have hb:(g==k)=true:=beq_iff_eq.mpr h
    simp only[lB,hb,if_neg (fun e:g=f=>hk (h.symm.trans e))]
   ·have hb:(g==k)=false:=beq_eq_false_iff_ne.mpr h
    simp only[lB,hb]
    exact ih
theorem vI(f:aa)(v:V):∀fs:List (aa×V),f∈(bZ f v fs).map (·.1)/\∀g,g∈fs.map (·.1)->g∈(bZ f v fs).map (·.1)
 |[]=>⟨by simp[bZ],fun g h=>by simp at h⟩
 |(k,x)::r=>by
  obtain⟨i1,i2⟩:=vI f v r
  rw[show bZ f v ((k,x)::r)=(if k=f then (k,v)::r else (k,x)::bZ f v r)from rfl]
  by_cases hk:k=f
  ·rw[if_pos hk]
   subst hk
   exact⟨by simp,fun g h=>by simpa using h⟩
  ·rw[if_neg hk]
   refine⟨?_,fun g h=>?_⟩
   ·rw[bM]
    exact dC _ i1
   ·rw[bM]at h |-
    rcases bo.mp h with e|e
    ·exact bo.mpr (.inl e)
    ·exact dC _ (i2 g e)
theorem pD(f:aa)(v:V):∀fs:List (aa×V),(bZ f v fs).length<=fs.length+1
 |[]=>by simp[bZ]
 |(k,x)::r=>by
  have ih:=pD f v r
  rw[show bZ f v ((k,x)::r)=(if k=f then (k,v)::r else (k,x)::bZ f v r)from rfl]
  by_cases hk:k=f
  ·rw[if_pos hk,zLC,zLC];omega
  ·rw[if_neg hk,zLC,zLC];omega
theorem eN.some_of{v:V}{o:Option ac}(r:eN (some v) o):∃u,o=some u/\aW v u:=by
 cases o with
 |none=>exact(show False from r).elim
 |some u=>exact⟨u,rfl,r⟩
theorem eN.none_of{o:Option ac}(r:eN none o):o=none:=by
 cases o with
 |none=>rfl
 |some u=>exact(show False from r).elim
theorem FN{v:V}{u:ac}(r:aW v u):yc u=true:=by
 cases v with
 |non=>cases (show u=ac.none from r);rfl
 |bl b=>cases (show u=ac.bool b from r);rfl
 |int i=>obtain⟨t,e⟩:=(show ∃t,u=ac.int i t from r);cases e;rfl
 |str x=>obtain⟨t,e⟩:=(show ∃t,u=ac.str x t from r);cases e;rfl
 |byt b=>obtain⟨t,e⟩:=(show ∃t,u=ac.bytes b t from r);cases e;rfl
 |flt b=>obtain⟨t,e⟩:=(show ∃t,u=ac.float b t from r);cases e;rfl
 |ref a=>cases (show u=ac.ref a from r);rfl
 |ty n=>cases (show u=ac.type n from r);rfl
section
variable{P:aQ}{w:aH}{H H':Hp}{h h':az}{a C dx:Addr}{fs fs':List (aa×V)}
theorem rX(hok:cy P w H h)(e:H a=some (.ins C dx fs)):∃mA,lQ h a dx C mA/\(∀f,eN (fs.lookup f) (mA f))/\qy mA (fs.map (·.1))/\fs.length<=1000/\H dx=some (.own a):=by
 obtain⟨d,z,ne,ob,mA,n,r,q⟩:=(show cF P w H h a (.ins C dx fs)from hok a _ e)
 exact⟨mA,⟨ob,n,ne⟩,r,q,z,d⟩
end
structure ik(K:aA)(C:Addr):Prop where
 pg:oT K C aa.empty=true
 hd:qM K C=true
 po:uy K C=true
 sa:df K (.ref C) "__setattr__"=some (some (.builtin "object.__setattr__"))
theorem ik.get{K:aA}{C:Addr}(c:ik K C)(f:aa):oT K C f=true:=c.pg
def jI(K:aA)(C:Addr)(f:aa):Prop:=df K (.ref C) f=some none
theorem jI.taker{K:aA}{C:Addr}{f:aa}(n:jI K C f):uz K C f=some none:=by
 unfold uz
 rw[show df K (.ref C) f=some none from n]
 rfl
structure rY(K:aA)(C:Addr)(m:aa)(f:Addr):Prop where
 at_:df K (.ref C) m=some (some (.ref f))
 fn:fP K (.ref f)=true
 kp:bv K (.ref f)=true
section
variable{X:Cx}{pins:List (Addr×aG)}{σ:St}{H:Hp}{s:ah}{a C dx:Addr}{fs:List (aa×V)}{f:aa}{v:V}{A:bm}{E:ac->ah->Prop}
theorem FO{b:Bool}{Q:ac->ah->Prop}(I:Inv X pins σ H s)(e:H a=some (.ins C dx fs))(c:ik X.K C)(n:jI X.K C f)(l:fs.lookup f=some v)
 (h:∀u s',Inv X pins σ H s'->aW v u->Q u s'):wpAny (model X.prog X.w) A (getAttr (.ref a) f b) Q E s:=by
 obtain⟨mA,O,r,_,_,_⟩:=rX I.hok e
 obtain⟨u,hu,ru⟩:=eN.some_of (v:=v) (o:=mA f) (by rw[<-l];exact r f)
 exact FJ I.kIn O (c.get f) c.hd n hu (FN ru) (h u _ (I.tok _) ru)
theorem An{m:aa}{g:Addr}{pl:Sem Bool}{Q:ac×List ac->ah->Prop}(I:Inv X pins σ H s)(e:H a=some (.ins C dx fs))(c:ik X.K C)(k:rY X.K C m g)(l:fs.lookup m=none)
 (h:Q (.ref g,[.ref a]) s):wpAny (model X.prog X.w) A (getMethod (.ref a) m pl) Q E s:=by
 obtain⟨mA,O,r,_,_,_⟩:=rX I.hok e
 have hn:mA m=none:=eN.none_of (by rw[<-l];exact r m)
 exact FK I.kIn O (c.get m) k.at_ k.fn hn h
theorem FP{y:V}{u:ac}{Q:Unit->ah->Prop}(I:Inv X pins σ H s)(e:H a=some (.ins C dx fs))(c:ik X.K C)(n:jI X.K C f)(hl:fs.length<1000)(ry:aW y u)
 (h:∀s',Inv X pins σ (ad H a (.ins C dx (bZ f y fs))) s'->Q () s'):wpAny (model X.prog X.w) A (setAttr (.ref a) f u) Q E s:=by
 obtain⟨mA,O,r,wi,_,ho⟩:=rX I.hok e
 have hz:(fs.map (·.1)).length<=sizeLine:=by rw[zLM,qB];omega
 refine FL I.kIn O c.sa c.po n.taker c.hd wi hz fun h' O' sb=>h _ ?_
 have hd:∃o,h'.get? dx=some o:=let ⟨o,_,_,e',_⟩:=O'.ns;⟨o,e'⟩
 refine I.write (x:=a) (e:=dx) (by rw[e];exact True.intro) (.inr ho) (fun b q hb z=>(sb.2 b hb).trans z) hd ?_
 refine⟨by rw[am O.ne];exact ho,?_,O.ne,O'.obj,_,O'.ns,fun g=>?_,fun g hg=>?_⟩
 ·have:=pD f y fs;omega
 ·show eN ((bZ f y fs).lookup g) (if g=f then some u else mA g)
  rw[Am]
  by_cases q:g=f
  ·rw[if_pos q,if_pos q];exact ry
  ·rw[if_neg q,if_neg q];exact r g
 ·by_cases q:g=f
  ·rw[q];exact(vI f y fs).1
  ·refine(vI f y fs).2 g (wi g fun z=>hg ?_)
   show (if g=f then some u else mA g)=none
   rw[if_neg q];exact z
theorem Inv.made(I:Inv X pins σ H s):Inv X pins σ (ad (ad H s.heap.objs.size (.own (s.heap.objs.size+1))) (s.heap.objs.size+1) (.ins C s.heap.objs.size []))
 { s with heap:=(s.heap.push jw).push (j7 C s.heap.objs.size)}:=by
 have e1:(s.heap.push jw).get? s.heap.objs.size=some jw:=bQ s.heap rfl
 have e2:((s.heap.push jw).push (j7 C s.heap.objs.size)).get? (s.heap.objs.size+1)=some (j7 C s.heap.objs.size):=by
  have:=bQ (s.heap.push jw) (o:=j7 C s.heap.objs.size) rfl
  rwa [iE]at this
 have e3:(s.heap.push jw).Ns s.heap.objs.size (fun _=>none):=⟨jw,#[],_,e1,rfl,(fun e he=>absurd he (by simp)),fun _=>rfl⟩
 have I1:=I.laid (a:=s.heap.objs.size) (o:= .own (s.heap.objs.size+1)) (h':=s.heap.push jw) (t':=s.toks) (fun b u q=>bj _ q) (aE _) ⟨_,e1⟩
 refine I1.laid (a:=s.heap.objs.size+1) (o:= .ins C s.heap.objs.size []) (t':=s.toks) (fun b u q=>bj _ q) (uE (iE _ _)) ?_
 have ne:s.heap.objs.size≠s.heap.objs.size+1:=dg (yi _)
 refine⟨by rw[am ne,au],cQ _,ne,e2,fun _=>none,(az.Ns1.of_empty e3).at fun o q=>bj _ q,fun _=>True.intro,fun y hy=>absurd rfl hy⟩
theorem FQ{prog:aQ}{w:aH}{env:Env}{e:Expr}{f:aa}{pos:Pos}{s:ah}{Q:ac->ah->Prop}(hb:attributeBase e f env (eval e env)=eval e env)
 (h:wpAny (model prog w) A (eval e env) (fun o s₁=>wpAny (model prog w) A (getAttr o f true) Q E s₁) E s):wpAny (model prog w) A (eval (.Attribute e f pos) env) Q E s:=
 Attribute_any_ h (by rw[arm_eval_Attribute,hb])
end
inductive Ao(K:aA)(f:aa)(Q:VK)(x:V)(H1:Hp):Prop
 |mk:∀a C dx fs v,(x= .ref a)->(H1 a=some (.ins C dx fs))->(ik K C)->(jI K C f)->(fs.lookup f=some v)->(Q v H1)->Ao K f Q x H1
def FR(K:aA)(ta:TE)(f:aa):TE:=fun σ H Q=>ta σ H fun x H1=>Ao K f Q x H1
inductive Ap(K:aA)(f:aa)(D:cZ)(σ:St)(y:V)(x:V)(H2:Hp):Prop
 |mk:∀a C dx fs,(x= .ref a)->(H2 a=some (.ins C dx fs))->(ik K C)->(jI K C f)->(fs.length<1000)->(D.nx σ (ad H2 a (.ins C dx (bZ f y fs))))->Ap K f D σ y x H2
def FS(K:aA)(ta tv:TE)(f:aa):TS:=fun D σ H=>tv σ H fun y H1=>ta σ H1 fun x H2=>Ap K f D σ y x H2
section
variable{X:Cx}{o e value:Expr}{f:aa}{pos pos' tpos:Pos}{ta tv:TE}
theorem dS(he:PE X e ta)(hb:attributeBase e f X.env (eval e X.env)=eval e X.env):PE X (.Attribute e f pos) (FR X.K ta f):=by
 intro pins s σ H Q I h
 refine FQ hb (aK (he pins s σ H _ I h) fun u s1 ⟨x,H1,I1,rx,a,C,dx,fs,v,ex,ea,c,n,l,q⟩=>?_)
 subst ex
 obtain rfl:u=ac.ref a:=rx
 exact FO I1 ea c n l fun u' s2 I2 ru=>⟨v,H1,I2,ru,q⟩
theorem rZ(ha:PE X o ta)(hv:PE X value tv)(hs:swapsWith value (some (.Attribute o f pos')) pos.line X.env=pure false):PS X (.Assign [.Attribute o f pos'] value pos) (FS X.K ta tv f):=by
 intro pins s σ H D I h
 refine plainObj_wpAny_Assign_Attribute (aK (hv pins s σ H _ I h) fun u s1 ⟨y,H1,I1,ry,q⟩=>aK (ha pins s1 σ H1 _ I1 q) fun ov s2 ⟨x,H2,I2,rx,a,C,dx,fs,ex,ea,c,n,l,q2⟩=>?_) hs
 subst ex
 obtain rfl:ov=ac.ref a:=rx
 exact FP I2 ea c n l ry fun s3 I3=>⟨σ,_,I3,q2⟩
end
section
variable{X:Cx}{pins:List (Addr×aG)}{σ:St}{H:Hp}{s:ah}{A:bm}{E:ac->ah->Prop}{Q:ac->ah->Prop}{c:ac}{b:Bool}
inductive gH(K:aA)(H:Hp):V->ac->Prop where
 |non:gH K H .non (.type "NoneType")
 |bl (x:Bool):gH K H (.bl x) (.type "bool")
 |int (i:Int):gH K H (.int i) (.type "int")
 |str (x:aa):gH K H (.str x) (.type "str")
 |flt (x:UInt64):gH K H (.flt x) (.type "float")
 |lst {a:Addr} {xs:List V} (e:H a=some (.lst xs)):gH K H (.ref a) (.type "list")
 |frz {a:Addr} {o:aG} {xs:List V} (e:H a=some (.frz o (.lst xs))):gH K H (.ref a) (.type "list")
 |tup {a:Addr} {xs:List V} (e:H a=some (.tup xs)):gH K H (.ref a) (.type "tuple")
 |dK {a:Addr} {kvs:List (Key×V)} (e:H a=some (.dK kvs)):gH K H (.ref a) (.type "dict")
 |dT {a:Addr} {kvs:List (List Key×V)} (e:H a=some (.dT kvs)):gH K H (.ref a) (.type "dict")
 |ins {a C dx:Addr} {fs:List (aa×V)} (e:H a=some (.ins C dx fs)) (cl:ik K C) (ha:df K (.ref C) "__class__"=some (some (.builtin "object.__class__")))
  (hn:PySem.W.specialIn K (.builtin "object.__class__") "__get__"=some (some (.builtin "getset_descriptor.__get__"))) (htk:PySem.W.takesIn K (.builtin "object.__class__")=some true)
  (hm:PySem.W.mroIn K C (.type "object")=some true):gH K H (.ref a) (.ref C)
theorem FT{x:V}{u t:ac}(I:Inv X pins σ H s)(rx:aW x u)(ty:gH X.K H x t)(e:PySem.W.kitOne X.K t c=some b)(h:∀tk,Q (.bool b) { s with toks:=tk}):
 wpAny (model X.prog X.w) A (call (.builtin "isinstance") [u,c]) Q E s:=by
 cases ty with
 |non=>cases (show u=ac.none from rx);exact iD PySem.W.kitx_none I.kIn True.intro e (fun z=>nomatch z) h
 |bl y=>cases (show u=ac.bool y from rx);exact iD PySem.W.kitx_bool I.kIn True.intro e (fun z=>nomatch z) h
 |int i=>obtain⟨t,q⟩:=(show ∃t,u=ac.int i t from rx);cases q;exact iD PySem.W.kitx_int I.kIn True.intro e (fun z=>nomatch z) h
 |str y=>obtain⟨t,q⟩:=(show ∃t,u=ac.str y t from rx);cases q;exact iD PySem.W.kitx_str I.kIn True.intro e (fun z=>nomatch z) h
 |flt y=>obtain⟨t,q⟩:=(show ∃t,u=ac.float y t from rx);cases q;exact iD PySem.W.kitx_float I.kIn True.intro e (fun z=>nomatch z) h
 |@lst a xs ea=>
  cases (show u=ac.ref a from rx)
  obtain⟨_,_,n,_,h1⟩:=(show cF X.prog X.w H s.heap a (.lst xs)from I.hok a _ ea)
  exact iD yd I.kIn ⟨_,h1,rfl⟩ e (fun z=>nomatch z) h
 |@frz a ob xs ea=>
  cases (show u=ac.ref a from rx)
  obtain⟨_,_,_,n,_,h1⟩:=(show cF X.prog X.w H s.heap a (.frz ob (.lst xs))from I.hok a _ ea)
  exact iD yd I.kIn ⟨_,h1,rfl⟩ e (fun z=>nomatch z) h
 |@tup a xs ea=>
  cases (show u=ac.ref a from rx)
  obtain⟨_,_,_,p⟩:=(show cF X.prog X.w H s.heap a (.tup xs)from I.hok a _ ea)
  obtain⟨o,h1,h2,_⟩:=p
  exact iD PySem.W.kitx_tuple I.kIn ⟨o,h1,h2⟩ e (fun z=>nomatch z) h
 |@dK a kvs ea=>
  cases (show u=ac.ref a from rx)
  obtain⟨_,_,vs,_,p⟩:=(show cF X.prog X.w H s.heap a (.dK kvs)from I.hok a _ ea)
  obtain⟨o,es,ep,h1,h2,_⟩:=p
  exact iD ye I.kIn ⟨o,h1,h2.1⟩ e (fun z=>nomatch z) h
 |@dT a kvs ea=>
  cases (show u=ac.ref a from rx)
  obtain⟨_,_,xs,_,o,es,ep,h1,h2,_⟩:=(show cF X.prog X.w H s.heap a (.dT kvs)from I.hok a _ ea)
  exact iD ye I.kIn ⟨o,h1,h2.1⟩ e (fun z=>nomatch z) h
 |@ins a C dx fs ea cl ha hn htk hm=>
  cases (show u=ac.ref a from rx)
  obtain⟨mA,O,_⟩:=rX I.hok ea
  obtain⟨od,J,_⟩:=O.look
  exact iD (PySem.W.kitx_own (cl.get _) cl.hd ha hn htk hm) I.kIn J e (fun z=>nomatch z) h
end
structure cS(k:Nat)(A:bm):Prop where
 hd:A.handled=none
 dp:A.depth+3 * k+5<recursionLimit
 un:A.units+16 * k+200<cLine
theorem cS.mono{j k:Nat}{A:bm}(r:cS k A)(h:j<=k):cS j A:=⟨r.hd,by have:=r.dp;omega,by have:=r.un;omega⟩
theorem cS.deeper{k:Nat}{A:bm}(r:cS (k+1) A)(env:Env):cS k (A.deeper env):=
 ⟨r.hd,by have:=r.dp;show A.depth+1+3 * k+5<_;omega,by have:=r.un;show A.units+3+16 * k+200<_;omega⟩
theorem FU{A:bm}{C:Addr}{us:List ac}{kw:List (aa×ac)}:(A.under (.builtin "type.__call__" ⟨.ref C::us,kw⟩)).depth=A.depth+1:=by
 first|rfl|simp[vo,j5.weight,j5.isCreation,j5.isGuard,j5.isCaller,j5.frames,vp,guardIds]
theorem FV{A:bm}{C:Addr}{us:List ac}{kw:List (aa×ac)}:(A.under (.builtin "type.__call__" ⟨.ref C::us,kw⟩)).units=A.units+1:=by
 first|rfl|simp[vo,j5.cUnits,j5.frames,vp]
theorem cS.make{k:Nat}{A:bm}(r:cS (k+1) A)(C:Addr)(us:List ac)(kw:List (aa×ac)):cS k (A.under (.builtin "type.__call__" ⟨.ref C::us,kw⟩)):=
 ⟨r.hd,by have:=r.dp;rw[FU];omega,by have:=r.un;rw[FV];omega⟩
theorem cS.depth{k:Nat}{A:bm}(r:cS k A):A.depth<recursionLimit:=by have:=r.dp;omega
theorem cS.units0{k:Nat}{A:bm}(r:cS k A):A.units<cLine:=by have:=r.un;omega
def r6:TA:=fun _ H Q=>Q [] H
def lR(ta:TE)(tr:TA):TA:=fun σ H Q=>ta σ H fun x H1=>tr σ H1 fun xs H2=>Q (x::xs) H2
section
variable{X:Cx}{e:Expr}{es:List Expr}{te:TE}{t:TA}{pos:Pos}
theorem af:PA X [] r6:=fun _ _ _ _ H Q I h=>iJ ⟨[],H,I,.nil,h⟩
theorem ae(ha:PE X e te)(hr:PA X es t)(hs:starEach (e::es) X.env=(false,eval e X.env)::starEach es X.env:=by rfl):PA X (e::es) (lR te t):=by
 intro pos pins s σ H Q I h
 rw[hs]
 show wpAny _ _ (spliced ((false,eval e X.env)::backTo pos (starEach es X.env))) _ _ s
 refine ia (aK (ha pins s σ H _ I h) fun u s1 ⟨x,H1,I1,r1,q1⟩=>?_)
 exact aK (hr pos pins s1 σ H1 _ I1 q1) fun us s2 ⟨xs,H2,I2,r2,q2⟩=>⟨x::xs,H2,I2,.cons r1 r2,q2⟩
def FW(t:TA):TE:=fun σ H Q=>t σ H fun xs H1=>xs.length<=sizeLine/\∀p,H1 p=none->Q (.ref p) (ad H1 p (.tup xs))
def Aq(t:TA):TE:=fun σ H Q=>t σ H fun xs H1=>xs.length<=sizeLine/\∀p,H1 p=none->Q (.ref p) (ad H1 p (.lst xs))
theorem bO{x1}(h:PA X es t):PE X (.Tuple es x1 pos) (FW t):=by
 intro pins s σ H Q I hq
 refine wpAny_Tuple_spliced (aK (h pos pins s σ H _ I hq) fun us s1 ⟨xs,H1,I1,r,z,q⟩=>⟨by rw[<-r.length];exact z,?_⟩)
 have hf:H1 s1.heap.objs.size=none:=I1.hok.fresh (aE _)
 refine⟨.ref s1.heap.objs.size,ad H1 s1.heap.objs.size (.tup xs),I1.laid (t':=s1.toks) (fun b u e=>bj _ e) (aE _) ?_,rfl,q _ hf⟩
 exact⟨z,us,r,⟨_,bQ _ rfl,rfl,_,rfl⟩⟩
theorem bR(h:PA X es t):PE X (.List es pos) (Aq t):=by
 intro pins s σ H Q I hq
 refine wpAny_List_spliced (aK (h pos pins s σ H _ I hq) fun us s1 ⟨xs,H1,I1,r,z,q⟩=>⟨by rw[<-r.length];exact z,?_⟩)
 have hf:H1 s1.heap.objs.size=none:=I1.hok.fresh (aE _)
 refine⟨.ref s1.heap.objs.size,ad H1 s1.heap.objs.size (.lst xs),I1.laid (t':=s1.toks) (fun b u e=>bj _ e) (aE _) ?_,rfl,q _ hf⟩
 exact⟨z,us,0,r,bQ _ rfl⟩
end
abbrev Sp:=List V->Hp->VK->XK->Prop
abbrev iK:=List Env->Hp->ah->XK->ac->ah->Prop
structure lS(P:aQ)(w:aH)(K:aA)(mg:aa->Option ac)(base:az)(A:bm)(outer:List Env)(s:ah)(H:Hp):Prop where
 frames:A.frames=some outer
 mod:Mod K mg base
 bs:∀b o,base.get? b=some o->s.heap.get? b=some o/\H b=none
 bsz:base.objs.size<=s.heap.objs.size
 funs:s.heap.FunFrames base outer
 frf:∀b∈ie outer,H b=none
 hok:cy P w H s.heap
 bare:AllBare s.gens
def CE(outer:List Env)(P:aQ)(w:aH)(H:Hp)(s:ah)(Q:VK)(u:ac)(s':ah):Prop:=
 ∃v H',s'.os=s.os/\AllBare s'.gens/\Un (ie outer) [] H H' s.heap s'.heap/\cy P w H' s'.heap/\aW v u/\Q v H'
def CR(CX:iK)(outer:List Env)(P:aQ)(w:aH)(H:Hp)(s:ah)(Q:VK)(E:XK)(r:Result)(s':ah):Prop:=
 match r with
 |.ok (.ret u)=>CE outer P w H s Q u s'
 |.ok _=>False
 |.error e=>CX outer H s E e s'
structure bf(P:aQ)(w:aH)(K:aA)(mg:aa->Option ac)(base:az)(CX:iK)(k:Nat)(f:Addr)(fd:be)(ps:List aa)(sp:Sp):Prop where
 len:∀vs H Q E,sp vs H Q E->vs.length=ps.length
 run:∀(A:bm)(outer:List Env)(s:ah)(H:Hp)(args:Args)(us:List ac)(vs:List V)(Q:VK)(E:XK),cS k A->lS P w K mg base A outer s H->BindsTo s fd args (ps.zip us)->aL vs us->sp vs H Q E->
  codeAny (model P w) A (.call (.ref f) args) (CR CX outer P w H s Q E) s
theorem lS.make{P:aQ}{w:aH}{K:aA}{mg:aa->Option ac}{base:az}{A:bm}{outer:List Env}{s:ah}{H:Hp}(e:lS P w K mg base A outer s H)(C:Addr)(us:List ac)(kw:List (aa×ac)):
 lS P w K mg base (A.under (.builtin "type.__call__" ⟨.ref C::us,kw⟩)) outer s H:=⟨by first|exact e.frames|(simpa[vo,j5.envs,vp,pushEnvs]using e.frames),e.mod,e.bs,e.bsz,e.funs,e.frf,e.hok,e.bare⟩
section
variable{X:Cx}{pins:List (Addr×aG)}{σ:St}{H:Hp}{s s':ah}
theorem Inv.env0(I:Inv X pins σ H s):lS X.prog X.w X.K X.mg X.base X.A X.stack s H:=
 ⟨I.ok.frames,I.ok.mod,I.bs,cO I.ok.bsz I.sz,I.stack,I.stkFree,I.hok,I.bare⟩
theorem Inv.after{Q:VK}{u:ac}(I:Inv X pins σ H s)(h:CE X.stack X.prog X.w H s Q u s'):EP X pins σ Q u s':=by
 obtain⟨v,H',os,bare,un,hok,r,q⟩:=h
 obtain⟨hh,g,d,t,os'⟩:=s'
 obtain rfl:os'=s.os:=os
 exact⟨v,H',I.call (h':=hh) (g':=g) (d':=d) (t':=t) (ch:=[]) un hok bare (fun b z=>absurd z (by simp)),r,q⟩
end
def Ar(sp:Sp)(dvs:List V)(E:XK)(t:TA):TE:=fun σ H Q=>t σ H fun vs H1=>sp (vs++dvs) H1 Q E
inductive As(C:Addr)(m:aa)(sp:Sp)(dvs:List V)(E:XK)(t:TA)(σ:St)(Q:VK)(x:V)(H1:Hp):Prop
 |mk:∀a dx fs,(x= .ref a)->(H1 a=some (.ins C dx fs))->(fs.lookup m=none)->(t σ H1 fun vs H2=>sp (x::(vs++dvs)) H2 Q E)->As C m sp dvs E t σ Q x H1
def r8(C:Addr)(m:aa)(sp:Sp)(dvs:List V)(E:XK)(ta:TE)(t:TA):TE:=fun σ H Q=>ta σ H fun x H1=>As C m sp dvs E t σ Q x H1
def At(C:Addr)(sp:Sp)(dvs:List V)(E:XK)(t:TA):TE:=fun σ H Q=>t σ H fun vs H1=>∀x dx,H1 x=none->H1 dx=none->dx≠x->
 sp (.ref x::(vs++dvs)) (ad (ad H1 dx (.own x)) x (.ins C dx [])) (fun v H2=>v= .non/\Q (.ref x) H2) E
def im(K:aA)(fd:be)(ps:List aa)(ds:List ac):Prop:=
 ∀(s:ah)(us:List ac),K.In s.heap->(us++ds).length=ps.length->BindsTo s fd ⟨us,[]⟩ (ps.zip (us++ds))
theorem im.all{K:aA}{fd:be}{ps:List aa}(h:∀us:List ac,us.length=ps.length->bindArgs fd ⟨us,[]⟩=pure (ps.zip us)):im K fd ps []:=fun s us _ hl=>by
 rw[jB]at hl |-
 exact .of_eq (h us hl)
def lT(CX:iK)(X:Cx)(E:XK):Prop:=∀(pins:List (Addr×aG))(σ:St)(H:Hp)(s:ah)(e:ac)(s':ah),Inv X pins σ H s->CX X.stack H s E e s'->X.xe e s'
section
variable{X:Cx}{CX:iK}{k:Nat}{f C:Addr}{fd:be}{ps:List aa}{sp:Sp}{dvs:List V}{ds:List ac}{E:XK}{x m:aa}{p pos apos:Pos}{e o:Expr}{es:List Expr}{ta:TE}{t:TA}
theorem vJ{pins:List (Addr×aG)}{σ:St}{H:Hp}{s:ah}{Q:VK}{us:List ac}{vs:List V}(F:bf X.prog X.w X.K X.mg X.base CX k f fd ps sp)(hr:cS k X.A)(hb:im X.K fd ps ds)(hd:aL dvs ds)(hx:lT CX X E)
 (I:Inv X pins σ H s) (r:aL vs us) (h:sp (vs++dvs) H Q E):wpAny (model X.prog X.w) X.A (call (.ref f) us) (EP X pins σ Q) X.xe s:=by
 have r2:aL (vs++dvs) (us++ds):=r.append hd
 have hl:(us++ds).length=ps.length:=by rw[<-r2.length];exact F.len _ _ _ _ h
 refine wpAny_call (qD (F.run X.A X.stack s H ⟨us,[]⟩ (us++ds) (vs++dvs) Q E hr I.env0 (hb s us I.kIn hl) r2 h) fun r s' hq=>?_)
 cases r with
 |error e=>exact hx pins σ H s e s' I hq
 |ok fl=>
  cases fl with
  |ret u=>exact I.after hq
  |next=>exact gF hq
  |brk=>exact gF hq
  |cont=>exact gF hq
theorem FX(F:bf X.prog X.w X.K X.mg X.base CX k f fd ps sp)(hr:cS k X.A)(hg:Gl X x)(hm:X.mg x=some (.ref f))(hk:bv X.K (.ref f)=true)(hb:im X.K fd ps ds)(hd:aL dvs ds)(hx:lT CX X E)
 (ha:PA X (e::es) t) (hdb:(x==("__debug__":aa))=false:=by decide) (he:starEach (e::es) X.env=(false,eval e X.env)::starEach es X.env:=by rfl) (hpl:(backTo pos (starEach es X.env)).any (·.1)=false:=by rfl):
 PE X (.Call (.Name x p) (e::es) [] pos) (Ar sp dvs E t):=by
 intro pins s σ H Q I h
 refine qE (zO I hg hm ?_ hdb)
 refine uB (h₀:=X.base) I.ok.mod.kin hk (aK (ha pos pins s σ H _ I h) fun us s1 ⟨vs,H1,I1,r,q⟩=>⟨I1.kIn,?_⟩) he hpl
 exact vJ F hr hb hd hx I1 r q
theorem FY{pl:Sem Bool}(he:PE X o ta)(c:ik X.K C)(hm:rY X.K C m f)(F:bf X.prog X.w X.K X.mg X.base CX k f fd ps sp)(hr:cS k X.A)(hb:im X.K fd ps ds)(hd:aL dvs ds)(hx:lT CX X E)(ha:PA X (e::es) t)
 (hst:starEach (e::es) X.env=(false,eval e X.env)::starEach es X.env:=by rfl) (hpl:(backTo pos (starEach es X.env)).any (·.1)=false:=by rfl)
 (ht:eval (.Call (.Attribute o m apos) (e::es) [] pos) X.env=(do
  let ov <-eval o X.env
  standAt apos.atName
  let (f,first) <-holding [ov] (getMethod ov m pl)
  callWith pos f first (backTo pos (starEach (e::es) X.env)) (backToKw pos (keywordEach [] X.env))):=by rfl):
 PE X (.Call (.Attribute o m apos) (e::es) [] pos) (r8 C m sp dvs E ta t):=by
 intro pins s σ H Q I h
 refine yf (pl:=pl) (aK (he pins s σ H _ I h) fun u s1 ⟨x,H1,I1,rx,a,dx,fs,ex,ea,l,q⟩=>?_) ht
 subst ex
 obtain rfl:u=ac.ref a:=rx
 refine An I1 ea c hm l ?_
 refine uB (first:=[.ref a]) (h₀:=X.base) I.ok.mod.kin hm.kp (aK (ha pos pins s1 σ H1 _ I1 q) fun us s2 ⟨vs,H2,I2,r,q2⟩=>⟨I2.kIn,?_⟩) hst hpl
 exact vJ (us:= .ref a::us) (vs:= .ref a::vs) F hr hb hd hx I2 (.cons rfl r) q2
theorem FZ{pl:Sem Bool}(he:PE X o ta)(c:ik X.K C)(hm:rY X.K C m f)(F:bf X.prog X.w X.K X.mg X.base CX k f fd ps sp)(hr:cS k X.A)(hb:im X.K fd ps ds)(hd:aL dvs ds)(hx:lT CX X E)
 (ht:eval (.Call (.Attribute o m apos) [] [] pos) X.env=(do
  let ov <-eval o X.env
  standAt apos.atName
  let (f,first) <-holding [ov] (getMethod ov m pl)
  callWith pos f first (backTo pos (starEach [] X.env)) (backToKw pos (keywordEach [] X.env))):=by rfl):
 PE X (.Call (.Attribute o m apos) [] [] pos) (r8 C m sp dvs E ta r6):=by
 intro pins s σ H Q I h
 refine yf (pl:=pl) (aK (he pins s σ H _ I h) fun u s1 ⟨x,H1,I1,rx,a,dx,fs,ex,ea,l,q⟩=>?_) ht
 subst ex
 obtain rfl:u=ac.ref a:=rx
 refine An I1 ea c hm l ?_
 exact PySem.W.callWith_K0 (first:=[.ref a]) I1.kIn hm.kp (vJ (us:=[.ref a]) (vs:=[.ref a]) F hr hb hd hx I1 (.cons rfl .nil) q)
structure Mk(K:aA)(C f:Addr):Prop where
 makes:uA K C=true
 init:df K (.ref C) "__init__"=some (some (.ref f))
 fn:fP K (.ref f)=true
 kp:bv K (.ref C)=true
theorem F0{pins:List (Addr×aG)}{σ:St}{H:Hp}{s:ah}{Q:VK}{us:List ac}{vs:List V}(M:Mk X.K C f)(F:bf X.prog X.w X.K X.mg X.base CX k f fd ps sp)(hr:cS (k+1) X.A)(hb:im X.K fd ps ds)(hd:aL dvs ds)
 (hx:lT CX X E) (I:Inv X pins σ H s) (r:aL vs us)
 (h:∀x dx,H x=none->H dx=none->dx≠x->sp (.ref x::(vs++dvs)) (ad (ad H dx (.own x)) x (.ins C dx [])) (fun v H2=>v= .non/\Q (.ref x) H2) E):
 wpAny (model X.prog X.w) X.A (call (.ref C) us) (EP X pins σ Q) X.xe s:=by
 have hq:=h (s.heap.objs.size+1) s.heap.objs.size (I.hok.fresh (Nat.le_succ _)) (I.hok.fresh (aE _)) (dg (yi _))
 have I2:=Inv.made (C:=C) I
 have r2:aL (V.ref (s.heap.objs.size+1)::(vs++dvs)) (ac.ref (s.heap.objs.size+1)::(us++ds)):= .cons rfl (r.append hd)
 have hl:(ac.ref (s.heap.objs.size+1)::us++ds).length=ps.length:=by
  have e:=r2.length
  rw[F.len _ _ _ _ hq]at e
  exact e.symm
 refine wpAny_call (FM (f:=f) I.kIn M.makes M.init (beq_iff_eq.mp M.fn) (qD (F.run _ X.stack _ _ ⟨ac.ref (s.heap.objs.size+1)::us,[]⟩ (ac.ref (s.heap.objs.size+1)::(us++ds)) _ _ E (hr.make C us [])
  (I2.env0.make C us []) (hb _ (ac.ref (s.heap.objs.size+1)::us) I2.kIn hl) r2 hq) fun r s' hq'=>?_))
 cases r with
 |error e=>exact hx pins σ _ _ e s' I2 hq'
 |ok fl=>
  cases fl with
  |ret u=>
   obtain⟨v,H',I3,rv,ev,q3⟩:=I2.after hq'
   subst ev
   exact⟨rv,⟨V.ref (s.heap.objs.size+1),H',I3,rfl,q3⟩⟩
  |next=>exact gF hq'
  |brk=>exact gF hq'
  |cont=>exact gF hq'
theorem Ga(M:Mk X.K C f)(F:bf X.prog X.w X.K X.mg X.base CX k f fd ps sp)(hr:cS (k+1) X.A)(hg:Gl X x)(hm:X.mg x=some (.ref C))(hb:im X.K fd ps ds)(hd:aL dvs ds)(hx:lT CX X E)
 (ha:PA X (e::es) t) (hdb:(x==("__debug__":aa))=false:=by decide) (he:starEach (e::es) X.env=(false,eval e X.env)::starEach es X.env:=by rfl) (hpl:(backTo pos (starEach es X.env)).any (·.1)=false:=by rfl):
 PE X (.Call (.Name x p) (e::es) [] pos) (At C sp dvs E t):=by
 intro pins s σ H Q I h
 refine qE (zO I hg hm ?_ hdb)
 refine uB (h₀:=X.base) I.ok.mod.kin M.kp (aK (ha pos pins s σ H _ I h) fun us s1 ⟨vs,H1,I1,r,q⟩=>⟨I1.kIn,?_⟩) he hpl
 exact F0 M F hr hb hd hx I1 r q
end
section
variable{X:Cx}{CX:iK}{k:Nat}{f C:Addr}{fd:be}{ps ks:List aa}{sp:Sp}{E:XK}{x m:aa}{p pos apos kpos:Pos}{e o:Expr}{es:List Expr}{kws:List Keyword}{te ta:TE}{t tk:TA}{nm:Option aa}
variable{g:List ac->List ac->List ac}{gV:List V->List V->List V}
end
structure bD(N P:List aa)(sc:Scope):Prop where
 kind:sc.kind= .function
 co:sc.isCoroutine=false
 gen:sc.isGenerator=false
 nd:N.Nodup
 pre:N.take P.length=P
 par:∀x∈P,sc.names.lookup x=some .local\/sc.names.lookup x=some .cell
 nofree:∀y∈sc.names,y.2≠ .free
theorem Au{kindOf:aa->Option dB}{x:aa}:∀{binds:List (aa×ac)}{m:aa->Option ac},(∀v,(x,v)∉binds)->bindL kindOf binds m x=m x
 |[],_,_=>rfl
 |(n,v)::r,m,h=>by
  unfold bindL
  rw[Au fun w hw=>h w (dC _ hw)]
  split
  ·have:x≠n:=by rintro rfl;exact h v eY
   simp[this]
  ·rfl
theorem Av{kindOf:aa->Option dB}{x:aa}:∀{binds:List (aa×ac)}{m:aa->Option ac},(∀v,(x,v)∉binds)->bindC kindOf binds m x=m x
 |[],_,_=>rfl
 |(n,v)::r,m,h=>by
  unfold bindC
  rw[Av fun w hw=>h w (dC _ hw)]
  split
  ·rfl
  ·have:x≠n:=by rintro rfl;exact h v eY
   simp[this]
theorem Aw{kindOf:aa->Option dB}{x:aa}{v:ac}:∀{P:List aa}{vs:List ac}{i:Nat}{m:aa->Option ac},P.Nodup->P[i]?=some x->vs[i]?=some v->kindOf x=some .local->
 bindL kindOf (P.zip vs) m x=some v
 |[],_,_,_,_,h,_,_=>by simp at h
 |_::_,[],_,_,_,_,h,_=>by simp at h
 |p::P,w::vs,0,m,nd,h1,h2,hk=>by
  simp at h1 h2;subst h1;subst h2
  show bindL kindOf ((p,w)::P.zip vs) m p=_
  unfold bindL
  rw[Au fun v hv=>(iZ.mp nd).1 (oU hv).1,if_pos hk]
  simp
 |p::P,w::vs,i+1,m,nd,h1,h2,hk=>by
  show bindL kindOf ((p,w)::P.zip vs) m x=_
  unfold bindL
  exact Aw (i:=i) (iZ.mp nd).2 (by simpa using h1) (by simpa using h2) hk
theorem Ax{kindOf:aa->Option dB}{x:aa}{v:ac}:∀{P:List aa}{vs:List ac}{i:Nat}{m:aa->Option ac},P.Nodup->P[i]?=some x->vs[i]?=some v->kindOf x≠some .local->
 bindC kindOf (P.zip vs) m x=some v
 |[],_,_,_,_,h,_,_=>by simp at h
 |_::_,[],_,_,_,_,h,_=>by simp at h
 |p::P,w::vs,0,m,nd,h1,h2,hk=>by
  simp at h1 h2;subst h1;subst h2
  show bindC kindOf ((p,w)::P.zip vs) m p=_
  unfold bindC
  rw[Av fun v hv=>(iZ.mp nd).1 (oU hv).1,if_neg hk]
  simp
 |p::P,w::vs,i+1,m,nd,h1,h2,hk=>by
  show bindC kindOf ((p,w)::P.zip vs) m x=_
  unfold bindC
  exact Ax (i:=i) (iZ.mp nd).2 (by simpa using h1) (by simpa using h2) hk
def start(N:List aa)(vs:List V):St:=vs.map some++List.replicate (N.length - vs.length) none
def nA(CX:iK)(P:aQ)(w:aH)(K:aA)(mg:aa->Option ac)(base:az)(N:List aa)(qual:aa)(scope:Scope)(f:Addr)(cd:ac)(A:bm)(outer:List Env)(s:ah)(H:Hp)(E:XK):Cx where
 prog:=P
 w:=w
 K:=K
 mg:=mg
 base:=base
 A:=A.deeper (envOfC qual scope s.heap.objs.size f cd)
 N:=N
 s₀:=s
 H₀:=H
 env:=envOfC qual scope s.heap.objs.size f cd
 outer:=outer
 stack:=envOfC qual scope s.heap.objs.size f cd::outer
 ex:=[]
 calm:=true
 fn:=fun _=>true
 pn:=[]
 xe:=fun e s'=>wpAny (model P w) (A.deeper (envOfC qual scope s.heap.objs.size f cd)) (leaving (envOfC qual scope s.heap.objs.size f cd) e) (fun _ s''=>CX outer H s E e s'') (fun e' s''=>CX outer H s E e' s'') s'
theorem Ay{sc:Scope}{n:Nat}{x:aa}(h:sc.names.lookup x=some .cell):∃c,(cellsFrom n sc.names []).lookup x=some c:=by
 have q:=yg sc.names n [] (.inl h)
 exact zy.mp q
theorem Gb{CX:iK}{P:aQ}{w:aH}{K:aA}{mg:aa->Option ac}{base:az}{N ps:List aa}{qual:aa}{scope:Scope}{f:Addr}{cd:ac}{A:bm}{outer:List Env}{s s1:ah}{H:Hp}{E:XK}{us:List ac}{vs:List V}
 (S:bD N ps scope) (hd:A.handled=none) (e0:lS P w K mg base A outer s H) (hl:vs.length=ps.length) (r:aL vs us)
 (x:InCallC s s.heap.objs.size (bindL (envOfC qual scope s.heap.objs.size f cd).kindOf (ps.zip us) fun _=>none) (cellsFrom (s.heap.objs.size+1) scope.names []) (bindC (envOfC qual scope s.heap.objs.size f cd).kindOf (ps.zip us) fun _=>none) s1):
 Inv (nA CX P w K mg base N qual scope f cd A outer s H E) [] (start N vs) H s1:=by
 have hpl:ps.length<=N.length:=by have:=congrArg iG S.pre;rw[zLT]at this;omega
 obtain⟨h1,tk,rfl,hk⟩:=x.done
 have noA:∀b:Addr,b∉(nA CX P w K mg base N qual scope f cd A outer s H E).ex:=fun b z=>absurd (show b∈([]:List Addr)from z) (by simp)
 refine⟨⟨e0.mod,S.kind,rfl,rfl,aE _,fun y z c h1 h2=>?_,fun y hy=>?_,fun y c _ h=>?_,fun _=>hd,bm.frames_deeper e0.frames,.inr ⟨rfl,rfl⟩,fun b z=>absurd z (noA b),e0.bs,e0.bsz,fun b _ _=>noA b,fun b z=>absurd z (noA b),e0.funs,e0.frf⟩,
  rfl,e0.bare,Un.kept hk,⟨_,x.toInCall.ns,fun i y v h1 h2 h3=>?_⟩,fun y c h=>⟨_,x.cell y c h⟩,e0.hok.fresh (aE _),fun y c h=>?_,fun p hp=>absurd (show p∈([]:List (Addr×aG))from hp) (by simp),e0.hok.kept hk,?_⟩
 ·exact name_of_addr x.apart (mQ h1) (mQ h2)
 ·have hy:scope.names.lookup y=some .cell\/scope.names.lookup y=some .free:=hy
  rcases hy with hy|hy
  ·exact Ay hy
  ·exact absurd rfl (S.nofree _ (mQ hy))
 ·exact mT (x.above y c (mQ h))
 ·have hi:i<vs.length:=by
   unfold start at h2
   by_cases hi:i<vs.length
   ·exact hi
   ·rw[mX (by simpa using hi)]at h2
    rw[yu]at h2
    split at h2<;>cases h2
  have ha:vs[i]?=some v:=by
   unfold start at h2
   rw[kh (by simpa using hi),cW]at h2
   cases e:vs[i]? with
   |none=>rw[e]at h2;cases h2
   |some a=>rw[e]at h2;cases h2;rfl
  obtain⟨u,hu,rv⟩:=r.get ha
  have hp:ps[i]?=some y:=by
   rw[<-S.pre,yv (by omega)];exact h1
  have ndP:ps.Nodup:=by rw[<-S.pre];exact S.nd.sublist (List.take_sublist _ _)
  refine⟨u,rv,?_⟩
  rcases S.par y (zMG hp)with k|k
  ·exact .inl ⟨k,Aw ndP hp hu k⟩
  ·obtain⟨c,e⟩:=Ay (n:=s.heap.objs.size+1) k
   refine .inr ⟨.inl k,c,e,?_⟩
   have q:=x.cell y c e
   rw[Ax ndP hp hu (by show scope.names.lookup y≠_;rw[k];decide)]at q
   exact q
 ·exact e0.hok.fresh (mT (x.above y c (mQ h)))
 ·unfold start
  show _=N.length
  rw[zLA,zLM,List.length_replicate]
  omega
theorem Gc{CX:iK}{P:aQ}{w:aH}{K:aA}{mg:aa->Option ac}{base:az}{k:Nat}{f:Addr}{name qual:aa}{params:Arguments}{body:List Stmt}{scope:Scope}{dV kV doc pm cdv ct oc:ac}{an od:Option Addr}
 {osl:Array (Option ac)} {N ps:List aa} {sp:Sp} (lk:K.lookup f=some ⟨oc,od,.func (bw name qual params body scope dV kV doc pm an cdv ct),osl⟩) (hcd:bC K cdv qual=true) (S:bD N ps scope)
 (len:∀vs H Q E,sp vs H Q E->vs.length=ps.length)
 (hbody:∀(A:bm)(outer:List Env)(s:ah)(H:Hp)(vs:List V)(Q:VK)(E:XK),cS k (A.deeper (envOfC qual scope s.heap.objs.size f cdv))->sp vs H Q E->
  ∃t,fR (nA CX P w K mg base N qual scope f cdv A outer s H E) body t/\t { nx:=fun _ H'=>Q .non H',rt:=Q} (start N vs) H):
 bf P w K mg base CX (k+1) f (bw name qual params body scope dV kV doc pm an cdv ct) ps sp:=by
 refine⟨len,fun A outer s H args us vs Q E hr e0 hb r hsp=>?_⟩
 have hl:=len _ _ _ _ hsp
 have KX:K.In s.heap:=e0.mod.kin.keeps fun b o e=>(e0.bs b o e).1
 have lim:s.heap.NoLimit:=e0.mod.nolimit.keeps fun b o e=>(e0.bs b o e).1
 have hkind:∀y∈ps.zip us,scope.names.lookup y.1=some .local\/(scope.names.lookup y.1=some .cell/\((cellsFrom (s.heap.objs.size+1) scope.names []).lookup y.1).isSome=true):=fun⟨n,v⟩ hy=>by
  rcases S.par n (oU hy).1 with q|q
  ·exact .inl q
  ·exact .inr ⟨q,yg _ _ _ (.inl q)⟩
 refine codeAny_call_function hr.depth (KX _ _ lk) rfl S.co S.gen rfl (PySem.W.codeRec_of KX hcd) (hb _ _ _ _ ?_)
 refine wpAny_newFunctionEnv_cells S.kind hkind fun env he s1 x=>?_
 subst he
 refine⟨lim.keeps x.toInCall.keep,codeAny_func ?_⟩
 obtain⟨t,ht,hq⟩:=hbody A outer s H vs Q E (hr.deeper _) hsp
 have I:Inv (nA CX P w K mg base N qual scope f cdv A outer s H E) [] (start N vs) H s1:=Gb S hr.hd e0 hl r x
 refine eW (ht [] s1 (start N vs) H _ I hq) (fun fl s' hs=>?_) fun e s' hs=>hs
 have fin:∀{σ':St}{H':Hp}{v:V}{u:ac},Inv (nA CX P w K mg base N qual scope f cdv A outer s H E) [] σ' H' s'->aW v u->Q v H'->CE outer P w H s Q u s':=
  fun {σ' H' v u} J rv q=>⟨v,H',J.os,J.bare,J.base,J.hok,rv,q⟩
 cases fl with
 |ret u=>
  obtain⟨v,σ',H',J,rv,q⟩:=hs
  exact fin J rv q
 |next=>
  obtain⟨σ',H',J,q⟩:=hs
  exact fin (v:=V.non) (u:=ac.none) J rfl q
 |brk=>
  obtain⟨_,_,_,q⟩:=hs
  exact gF q
 |cont=>
  obtain⟨_,_,_,q⟩:=hs
  exact gF q
section
variable{X:Cx}{x:aa}{p pos:Pos}{e:Expr}{es:List Expr}{t:TA}{id T:String}{r:List V->Hp->VK->Prop}
def pE(r:List V->Hp->VK->Prop)(t:TA):TE:=fun σ H Q=>t σ H fun vs H1=>r vs H1 Q
theorem Ge(hc:gG X (.builtin id) r)(hg:Gl X x)(hm:X.mg x=none)(hv:bootBuiltins x=some (.builtin id))(ha:PA X (e::es) t)(hn:x≠"__name__":=by decide)(hdb:(x==("__debug__":aa))=false:=by decide)
 (he:starEach (e::es) X.env=(false,eval e X.env)::starEach es X.env:=by rfl) (hpl:(backTo pos (starEach es X.env)).any (·.1)=false:=by rfl):PE X (.Call (.Name x p) (e::es) [] pos) (pE r t):=by
 intro pins s σ H Q I h
 refine qE (fq I hg hm hv ?_ hn hdb)
 exact PyProof.Rows.callWith_builtin1 (aK (ha pos pins s σ H _ I h) fun us s1 ⟨vs,H1,I1,r1,q1⟩=>hc pins s1 σ H1 vs us Q I1 r1 q1) he hpl
theorem Gf(hc:gG X (.type T) r)(hg:Gl X x)(hm:X.mg x=none)(hv:bootBuiltins x=some (.type T))(ha:PA X (e::es) t)(hn:x≠"__name__":=by decide)(hdb:(x==("__debug__":aa))=false:=by decide)
 (he:starEach (e::es) X.env=(false,eval e X.env)::starEach es X.env:=by rfl) (hpl:(backTo pos (starEach es X.env)).any (·.1)=false:=by rfl):PE X (.Call (.Name x p) (e::es) [] pos) (pE r t):=by
 intro pins s σ H Q I h
 refine qE (fq I hg hm hv ?_ hn hdb)
 exact gg (aK (ha pos pins s σ H _ I h) fun us s1 ⟨vs,H1,I1,r1,q1⟩=>hc pins s1 σ H1 vs us Q I1 r1 q1) he hpl
end
end L2
namespace HT
open PySem PyProof.Rows
section
open PySem.SeqAt
open PySem.AutoSeq1 (wpAny_loadPart')
open PySem.MeetsSeq PySem.MeetsSeq2 PySem.MeetsSeq3
end
section
variable{prog:aQ}{w:aH}{A:bm}{E:ac->ah->Prop}{s:ah}
def sIx(n d:Nat):Option Int->Nat
 |none=>d
 |some v=>if v<0 then (v+(n:Int)).toNat else min v.toNat n
theorem sIx_none(n d:Nat):sIx n d none=d:=rfl
theorem sIx_nat(n d k:Nat):sIx n d (some (k:Int))=min k n:=by
 show (if (k:Int)<0 then ((k:Int)+(n:Int)).toNat else min (k:Int).toNat n)=min k n
 rw[if_neg (by omega),lJ]
theorem Gg(n d:Nat)(hd:d<=n)(o:Option Int):sIx n d o<=n:=by
 cases o with
 |none=>exact hd
 |some v=>
  show (if v<0 then (v+(n:Int)).toNat else min v.toNat n)<=n
  by_cases hv:v<0
  ·rw[if_pos hv];omega
  ·rw[if_neg hv];exact Nat.min_le_right _ _
theorem Az(v:Int)(n d:Nat):(if v<0 then max (v+(n:Int)) 0 else min v (n:Int))=((sIx n d (some v):Nat):Int):=by
 show (if v<0 then max (v+(n:Int)) 0 else min v (n:Int))=(((if v<0 then (v+(n:Int)).toNat else min v.toNat n):Nat):Int)
 by_cases hv:v<0
 ·simp only[if_pos hv];omega
 ·simp only[if_neg hv];omega
theorem Gh(lo hi:Option Int)(n:Nat):vm lo hi 1 (n:Int)=(((sIx n 0 lo:Nat):Int),((sIx n n hi:Nat):Int)):=by
 have h1:¬((1:Int)<0):=by omega
 unfold vm
 simp only[h1,if_false]
 refine Prod.ext ?_ ?_
 ·cases lo with
  |none=>rfl
  |some v=>exact Az v n 0
 ·cases hi with
  |none=>rfl
  |some v=>exact Az v n n
theorem Gi(i j:Nat):rJ (i:Int) (j:Int) 1=j - i:=by
 unfold rJ
 have h1:(1:Int)>0:=by omega
 simp only[h1,if_true,Int.ediv_one]
 split<;>omega
theorem AA{v:ac}{o:Option Int}{Q:Option Int->ah->Prop}(p:IsPart v o)(h:Q o s):wpAny (model prog w) A (dc.Slice.slicePartIndex v) Q E s:=by
 cases p with
 |none=>exact slicePart_none h
 |int i t=>exact slicePart_int h
theorem Gj{sl:Addr}{vl vu:ac}{lo hi:Option Int}{n:Nat}{Q:Int×Int×Nat->ah->Prop}(hs:s.heap.IsSliceOf sl vl vu .none)(pl:IsPart vl lo)(pu:IsPart vu hi)
 (h:Q (((sIx n 0 lo:Nat):Int),1,sIx n n hi - sIx n 0 lo) s):wpAny (model prog w) A (zD (.ref sl) (pure (n:Int))) Q E s:=by
 obtain⟨os,hos,hcs,hds⟩:=id hs
 unfold zD dc.Slice.sliceFields
 refine ag (ag (cn hos hds (x:=vl) rfl (ag (cn hos hds (x:=vu) rfl (ag (cn hos hds (x:= .none) rfl (aP ?_)))))))
 refine ag (slicePart_none ?_)
 show wpAny _ _ (if ((1:Int)==0)=true then _ else _) _ _ s
 rw[if_neg (by decide)]
 refine ag (AA pl (ag (AA pu (ag (aP ?_)))))
 show wpAny _ _ (match vm lo hi 1 (n:Int)with|(lo,hi)=>pure (lo,(1:Int),rJ lo hi 1)) _ _ s
 rw[Gh lo hi n]
 show wpAny _ _ (pure (((sIx n 0 lo:Nat):Int),(1:Int),rJ ((sIx n 0 lo:Nat):Int) ((sIx n n hi:Nat):Int) 1)) _ _ s
 rw[Gi]
 exact aP h
theorem Gk(xs:Array ac)(i k:Nat):((jA k).filterMap fun (m:Nat)=>xs[((i:Int)+(m:Int) * 1).toNat]?).toArray=((xs.toList.drop i).take k).toArray:=by
 have e:(fun (m:Nat)=>xs[((i:Int)+(m:Int) * 1).toNat]?)=fun m=>xs[i+m]?:=by
  funext m
  have:((i:Int)+(m:Int) * 1).toNat=i+m:=by omega
  rw[this]
 rw[e]
 have:=pick_run xs i k
 rw[List.filterMap_map]at this
 have e2:((fun x=>xs[x]?)∘fun x=>i+x)=fun m=>xs[i+m]?:=rfl
 rw[e2]at this
 rw[this]
theorem getItem_tuple_cut{t sl:Addr}{items:Array ac}{vl vu:ac}{lo hi:Option Int}{Q:ac->ah->Prop}(ht:cw s.heap t items)(hs:s.heap.IsSliceOf sl vl vu .none)(pl:IsPart vl lo)(pu:IsPart vu hi)
 (hw:¬(sIx items.size 0 lo=0/\sIx items.size items.size hi=items.size))
 (h:Q (.ref s.heap.objs.size) { s with heap:=s.heap.push { cls:= .type "tuple",data:= .seq ((items.toList.drop (sIx items.size 0 lo)).take (sIx items.size items.size hi - sIx items.size 0 lo)).toArray}})
 (hsz:items.size<=sizeLine):wpAny (model prog w) A (getItem (.ref t) (.ref sl)) Q E s:=by
 have htake:sizeOk (.seq ((items.toList.drop (sIx items.size 0 lo)).take (sIx items.size items.size hi - sIx items.size 0 lo)).toArray):=by
  show ((items.toList.drop (sIx items.size 0 lo)).take (sIx items.size items.size hi - sIx items.size 0 lo)).toArray.size<=sizeLine
  rw[bX,zLT,dh,lI]
  omega
 have hj:sIx items.size items.size hi<=items.size:=Gg _ _ (aE _) hi
 obtain⟨os,hos,hcs,hds⟩:=id hs
 have hTs:s.TypeIs (.ref sl) "slice":=⟨os,hos,hcs⟩
 unfold getItem
 try with_reducible refine iU ?_
 first|refine ag (aP ?_)|skip
 refine ag (wpAny_sequenceKey ht.typeIs (by decide) ?_)
 refine ag (gv (name:=bL "__getitem__") ht.typeIs u7
  (d4 u7 ht.typeIs entry_tuple_getitem ?_ (args_tuple_getitem _ _)))
 show wpAny _ _ (dc.Tuple.tupleItemsOf (.ref t) >>= _) _ _ s
 refine ag (tupleItemsOf_ ht ?_)
 refine ag (uj hTs ?_)
 rw[if_pos (by decide)]
 refine ag (Gj hs pl pu ?_)
 have hno:¬((((sIx items.size 0 lo:Nat):Int)==0&&(1:Int)==1&&(sIx items.size items.size hi - sIx items.size 0 lo)==items.size)=true):=by
  intro q
  rw[h8,h8]at q
  have q1:((sIx items.size 0 lo:Nat):Int)=0:=rK q.1.1
  have q2:sIx items.size items.size hi - sIx items.size 0 lo=items.size:=rK q.2
  exact hw ⟨by omega,by omega⟩
 show wpAny _ _ (if (((sIx items.size 0 lo:Nat):Int)==0&&(1:Int)==1&&(sIx items.size items.size hi - sIx items.size 0 lo)==items.size)=true then _ else _) _ _ s
 rw[if_neg hno,Gk]
 first
  |exact ag (m:=rL _) (gx (aP ⟨_,rfl,aP h⟩) htake)
  |exact ag (m:=rL _) (gx (ag (aP (aP ⟨_,rfl,aP h⟩))) htake)
  |exact ag (ag (m:=rL _) (gx (aP (aP ⟨_,rfl,aP h⟩)) htake))
  |exact ag (ag (m:=rL _) (gx (aP ⟨_,rfl,aP h⟩) htake))
end
end HT
namespace L2
open PySem PySem.Spec PyProof.Rows
abbrev TO:=St->Hp->(Option Int->Hp->Prop)->Prop
def PO(X:Cx)(e:Option Expr)(t:TO):Prop:=
 ∀(pins:List (Addr×aG))(s:ah)(σ:St)(H:Hp)(Q:Option Int->Hp->Prop),Inv X pins σ H s->t σ H Q->
  wpAny (model X.prog X.w) X.A (evalPart e X.env) (fun u s'=>∃o H',Inv X pins σ H' s'/\IsPart u o/\Q o H') X.xe s
def Gm:TO:=fun _ H Q=>Q none H
inductive AB(Q:Option Int->Hp->Prop)(x:V)(H1:Hp):Prop
 |mk:∀i,(x= .int i)->(Q (some i) H1)->AB Q x H1
def Gn(t:TE):TO:=fun σ H Q=>t σ H fun x H1=>AB Q x H1
section
variable{X:Cx}{e:Expr}{te:TE}{lo hi:Option Expr}{tl th:TO}{pos p2:Pos}
theorem gI:PO X none Gm:=by
 intro pins s σ H Q I h
 rw[evalPart_none]
 exact aP ⟨none,H,I,.none,h⟩
theorem fT(h:PE X e te):PO X (some e) (Gn te):=by
 intro pins s σ H Q I hw
 rw[evalPart_some]
 refine aK (h pins s σ H _ I hw) fun u s1 ⟨x,H1,I1,r1,q1⟩=>?_
 obtain⟨i,rfl,q⟩:=q1
 obtain⟨t,rfl⟩:=r1
 exact⟨some i,H1,I1,.int i t,q⟩
def vK(X:Cx)(r:V->Option Int->Option Int->Hp->VK->Prop):Prop:=
 ∀(pins:List (Addr×aG))(s:ah)(σ:St)(H:Hp)(x:V)(v vl vu:ac)(lo hi:Option Int)(sl:Addr)(Q:VK),Inv X pins σ H s->aW x v->s.heap.IsSliceOf sl vl vu .none->IsPart vl lo->IsPart vu hi->r x lo hi H Q->
  ∃T id,typeLookup (.type T) "__getitem__"=pure (some (.builtin id))/\s.TypeIs v T/\wpAny (model X.prog X.w) X.A (getItem v (.ref sl)) (EP X pins σ Q) X.xe s
def Go(r:V->Option Int->Option Int->Hp->VK->Prop)(te:TE)(tl th:TO):TE:=fun σ H Q=>te σ H fun x H1=>tl σ H1 fun l H2=>th σ H2 fun u H3=>r x l u H3 Q
theorem gn{r:V->Option Int->Option Int->Hp->VK->Prop}(hr:vK X r)(he:PE X e te)(hl:PO X lo tl)(hu:PO X hi th):PE X (.Subscript e (.Slice lo hi none p2) pos) (Go r te tl th):=by
 intro pins s σ H Q I h
 refine Subscript_ (aK (he pins s σ H _ I h) fun v s1 ⟨x,H1,I1,r1,q1⟩=>?_)
 refine wpAny_Slice (aK (hl pins s1 σ H1 _ I1 q1) fun vl s2 ⟨l,H2,I2,pl,q2⟩=>aK (hu pins s2 σ H2 _ I2 q2) fun vu s3 ⟨u,H3,I3,pu,q3⟩=>?_)
 rw[evalPart_none]
 refine aP ?_
 have I4:Inv X pins σ H3 { s3 with heap:=s3.heap.push { cls:= .type "slice",data:= .fields #[vl,vu,.none]}}:=I3.kept (t':=s3.toks) fun b ob q=>bj _ q
 obtain⟨T,id,hT,ht,hg⟩:=hr pins { s3 with heap:=s3.heap.push { cls:= .type "slice",data:= .fields #[vl,vu,.none]}} σ H3 x v vl vu l u s3.heap.objs.size Q I4 r1 (az.IsSliceOf.new ..) pl pu q3
 show wpAny (model X.prog X.w) X.A (subscriptTail e (.Slice lo hi none p2) v (.ref s3.heap.objs.size)) (EP X pins σ Q) X.xe { s3 with heap:=s3.heap.push { cls:= .type "slice",data:= .fields #[vl,vu,.none]}}
 exact tail_any (ops:=[.ref s3.heap.objs.size,v]) ht hT hg (by with_unfolding_all rfl)
def d7(xs:List V)(lo hi:Option Int):List V:=(xs.drop (HT.sIx xs.length 0 lo)).take (HT.sIx xs.length xs.length hi - HT.sIx xs.length 0 lo)
theorem AC(xs:List V)(lo hi:Option Int):(d7 xs lo hi).length<=xs.length:=by
 unfold d7
 rw[zLT,dh]
 omega
inductive AD(K:aA)(x:V)(lo:Option Int)(hi:Option Int)(H:Hp)(Q:VK):Prop
 |mk:∀a xs,(x= .ref a)->(aj K H a xs)->(¬(HT.sIx xs.length 0 lo=0/\HT.sIx xs.length xs.length hi=xs.length))->(∀p,H p=none->Q (.ref p) (ad H p (.tup (d7 xs lo hi))))->AD K x lo hi H Q
def Gp(K:aA):V->Option Int->Option Int->Hp->VK->Prop:=fun x lo hi H Q=>AD K x lo hi H Q
theorem Gq:vK X (Gp X.K):=by
 intro pins s σ H x v vl vu lo hi sl Q I rx hs pl pu h
 obtain⟨a,xs,rfl,hx,hw,q⟩:=h
 cases rx
 obtain⟨its,r,ht,hz⟩:=I.tuple hx
 have hlen:its.toArray.size=xs.length:=by rw[bX];exact r.length.symm
 refine⟨"tuple",_,u7.lookup,ht.typeIs,?_⟩
 refine HT.getItem_tuple_cut ht hs pl pu (by rw[hlen];exact hw) ?_ (by rw[hlen];exact hz)
 rw[hlen]
 refine⟨.ref s.heap.objs.size,_,I.laid (t':=s.toks) (o:= .tup (d7 xs lo hi)) (fun b ob q=>bj _ q) (aE _) ?_,rfl,q _ (I.hok.fresh (aE _))⟩
 exact⟨cO (AC xs lo hi) hz,_,(r.drop (HT.sIx xs.length 0 lo)).take (HT.sIx xs.length xs.length hi - HT.sIx xs.length 0 lo),cw.new _ _⟩
end
def lU(n:Nat)(i:Int):Option Nat:=if 0<=i then (if i<n then some i.toNat else none)else if -(n:Int)<=i then some (i+n).toNat else none
def dU{α:Type}(xs:List α)(i:Int):Option α:=(lU xs.length i).bind fun j=>xs[j]?
theorem AE{n:Nat}{i:Int}{j:Nat}(h:lU n i=some j):seqIndex? i n=some j/\j<n/\ -(n:Int)<=i/\i<n:=by
 unfold lU at h
 by_cases h0:0<=i
 ·rw[if_pos h0]at h
  by_cases h1:i<n
  ·rw[if_pos h1]at h
   have e:i.toNat=j:=cv h
   exact⟨by rw[uk h0 h1,e],by omega,by omega,h1⟩
  ·rw[if_neg h1]at h;cases h
 ·rw[if_neg h0]at h
  by_cases h1: -(n:Int)<=i
  ·rw[if_pos h1]at h
   have e:(i+n).toNat=j:=cv h
   exact⟨by rw[ul (by omega) h1,e],by omega,h1,by omega⟩
  ·rw[if_neg h1]at h;cases h
theorem vL{α:Type}{xs:List α}{i:Int}{v:α}(h:dU xs i=some v):∃j,seqIndex? i xs.length=some j/\xs[j]?=some v/\j<xs.length/\ -(xs.length:Int)<=i/\i<xs.length:=by
 unfold dU at h
 cases e:lU xs.length i with
 |none=>rw[e]at h;cases h
 |some j=>
  rw[e]at h
  obtain⟨h1,h2,h3,h4⟩:=AE e
  exact⟨j,h1,h,h2,h3,h4⟩
theorem eO{α:Type}{xs:List α}{j:Nat}{v:α}(h:xs[j]?=some v):dU xs (j:Int)=some v:=by
 have hj:j<xs.length:=(bI.mp h).1
 have e:lU xs.length (j:Int)=some j:=by
  unfold lU
  rw[if_pos (by omega),if_pos (by omega)];simp
 unfold dU;rw[e];exact h
def Gr(b:Expr):Prop:=∀o i,subscripted b false o i=operate [o,i] (getItem o i)
def r9(X:Cx)(r:R2):Prop:=
 ∀(value slice:Expr)(pins:List (Addr×aG))(s:ah)(σ:St)(H:Hp)(x y:V)(v u:ac)(Q:VK),Inv X pins σ H s->aW x v->aW y u->r x y H Q->
  subscripted slice false v u=operate [v,u] (getItem v u)->wpAny (model X.prog X.w) X.A (subscriptTail value slice v u) (EP X pins σ Q) X.xe s
def sd(X:Cx)(id:String)(r:V->List V->Hp->VK->Prop):Prop:=
 ∀(pins:List (Addr×aG))(s:ah)(σ:St)(H:Hp)(x:V)(xs:List V)(v:ac)(us:List ac)(Q:VK),Inv X pins σ H s->aW x v->aL xs us->r x xs H Q->
  wpAny (model X.prog X.w) X.A (call (.builtin id) (v::us)) (EP X pins σ Q) X.xe s
section
variable{X:Cx}{a b:Expr}{ta tb:TE}{pos:Pos}
theorem ao{r:R2}(hr:r9 X r)(ha:PE X a ta)(hb:PE X b tb)(hs:Gr b):PE X (.Subscript a b pos) (nr r ta tb):=by
 intro pins s σ H Q I h
 exact Subscript_ (vC ha hb I h fun v u s2 x y H2 I2 rx ry q=>hr a b pins s2 σ H2 x y v u Q I2 rx ry q (hs _ _))
inductive AF(K:aA)(x:V)(y:V)(H:Hp)(Q:VK):Prop
 |mk:∀p xs i v,(x= .ref p)->(y= .int i)->(ak K H p xs)->(dU xs i=some v)->(Q v H)->AF K x y H Q
def AG(K:aA):R2:=fun x y H Q=>AF K x y H Q
inductive AH(K:aA)(x:V)(y:V)(H:Hp)(Q:VK):Prop
 |mk:∀p xs i v,(x= .ref p)->(y= .int i)->(aj K H p xs)->(dU xs i=some v)->(Q v H)->AH K x y H Q
def Gs(K:aA):R2:=fun x y H Q=>AH K x y H Q
inductive AI(x:V)(y:V)(H:Hp)(Q:VK):Prop
 |mk:∀z i c,(x= .str z)->(y= .int i)->(z.length<=sizeLine)->(dU z.cps.toList i=some c)->(Q (.str ⟨#[c]⟩) H)->AI x y H Q
def Gu:R2:=fun x y H Q=>AI x y H Q
theorem cI:r9 X (AG X.K):=by
 intro value slice pins s σ H x y v u Q I rx ry h hs
 obtain⟨p,xs,i,z,rfl,rfl,hq,he,q⟩:=h
 cases rx
 obtain⟨t,rfl⟩:=ry
 obtain⟨its,r,pl,hz⟩:=I.list hq
 obtain⟨j,h1,h2,h3,h4,h5⟩:=vL he
 obtain⟨w,ew,rw'⟩:=r.get h2
 have hl:=r.length
 have hn:=fw
 have fin:EP X pins σ Q w s:=⟨z,H,I,rw',q⟩
 by_cases h0:0<=i
 ·have hj:i.toNat=j:=by
   rw[uk h0 h5]at h1
   exact cv h1
  exact item_listR pl.isList h0 (by omega) (by rw[hj];simpa using ew) fin hs
 ·have hj:(i+(its.toArray.size:Int)).toNat=j:=by
   rw[ul (by omega) h4]at h1
   rw[bX,<-hl]
   exact cv h1
  exact zf (x:=w) pl.isList.typeIs xS.lookup
   (wpAny_getItem_list_neg (Q:=fun r s'=>r=w/\EP X pins σ Q r s') pl.isList (by omega) (by rw[bX]<;>omega) (by omega) (by rw[hj];simpa using ew) ⟨rfl,fin⟩) hs
theorem aw:r9 X (Gs X.K):=by
 intro value slice pins s σ H x y v u Q I rx ry h hs
 obtain⟨p,xs,i,z,rfl,rfl,hq,he,q⟩:=h
 cases rx
 obtain⟨t,rfl⟩:=ry
 obtain⟨its,r,pl,hz⟩:=I.tuple hq
 obtain⟨j,h1,h2,h3,h4,h5⟩:=vL he
 obtain⟨w,ew,rw'⟩:=r.get h2
 have hl:=r.length
 have hn:=fw
 have fin:EP X pins σ Q w s:=⟨z,H,I,rw',q⟩
 exact zf (x:=w) pl.typeIs u8.lookup
  (getItem_tuple (j:=j) (Q:=fun r s'=>r=w/\EP X pins σ Q r s') pl (by omega) (by omega) (by rw[bX,<-hl];exact h1) (by simpa using ew) ⟨rfl,fin⟩) hs
theorem nB:r9 X Gu:=by
 intro value slice pins s σ H x y v u Q I rx ry h hs
 obtain⟨z,i,c,rfl,rfl,hz,he,q⟩:=h
 obtain⟨t,rfl⟩:=rx
 obtain⟨t',rfl⟩:=ry
 obtain⟨j,h1,h2,h3,h4,h5⟩:=vL he
 have hl:z.cps.toList.length=z.length:=by simp[aa.length]
 rw[hl]at h1 h4 h5
 have hn:=fw
 exact tail_any (mR s z t) u9.lookup (getItem_str (c:=c) (by
  have e1:decide (i< -(2 ^ 63:Int))=false:=decide_eq_false (by omega)
  have e2:decide (i>=2 ^ 63)=false:=decide_eq_false (by omega)
  rw[e1,e2,rq]) (by rw[h1];simpa using h2) ⟨.str ⟨#[c]⟩,H,I.tok _,⟨_,rfl⟩,q⟩) hs
theorem Gv(its:List ac)(n j:Nat)(u:ac):eB (·.setIfInBounds j u) { cls:= .type "list",data:= .seq its.toArray n}={ cls:= .type "list",data:= .seq (its.set j u).toArray n}:=by
 simp[eB]
theorem Inv.lst{pins:List (Addr×aG)}{σ:St}{H:Hp}{s:ah}{p:Addr}{xs:List V}(I:Inv X pins σ H s)(h:H p=some (.lst xs)):
 ∃(its:List ac)(n:Nat),aL xs its/\s.heap.get? p=some { cls:= .type "list",data:= .seq its.toArray n}/\xs.length<=sizeLine:=by
 obtain⟨z,its,n,r,e⟩:=I.hok p _ h
 exact⟨its,n,r,e,z⟩
theorem Inv.lstUpd{pins:List (Addr×aG)}{σ:St}{H:Hp}{s:ah}{p:Addr}{xs ys:List V}{its its':List ac}{n n':Nat}{f:aG->aG}(I:Inv X pins σ H s)(h:H p=some (.lst xs))
 (ho:s.heap.get? p=some { cls:= .type "list",data:= .seq its.toArray n}) (hf:f { cls:= .type "list",data:= .seq its.toArray n}={ cls:= .type "list",data:= .seq its'.toArray n'}) (r:aL ys its') (hz:ys.length<=sizeLine) (t:Nat):
 Inv X pins σ (ad H p (.lst ys)) { s with heap:=s.heap.update p f,toks:=t}:=by
 have e:(s.heap.update p f).get? p=some { cls:= .type "list",data:= .seq its'.toArray n'}:=by
  rw[iF f ho (by rw[hf]<;>rfl),hf]
 refine I.write (x:=p) (e:=p) (by rw[h];trivial) (.inl rfl) (fun b u hb q=>(jz _ _ (fQ hb)).trans q) ⟨_,e⟩ ?_
 exact⟨hz,its',n',r,e⟩
inductive AJ(o:V)(i:V)(v:V)(H:Hp)(Q:Hp->Prop):Prop
 |mk:∀p xs k j,(o= .ref p)->(i= .int k)->(H p=some (.lst xs))->(lU xs.length k=some j)->(Q (ad H p (.lst (xs.set j v))))->AJ o i v H Q
def Gw:V->V->V->Hp->(Hp->Prop)->Prop:=fun o i v H Q=>AJ o i v H Q
theorem AK:zT X Gw:=by
 intro pins s σ H o i v ov iv u Q I ro ri rv h
 obtain⟨p,xs,k,j,rfl,rfl,hp,hj,q⟩:=h
 cases ro
 obtain⟨t,rfl⟩:=ri
 obtain⟨its,n,r,ho,hz⟩:=I.lst hp
 obtain⟨h1,h2,h3,h4⟩:=AE hj
 have hl:=r.length
 have hn:=fw
 have I':Inv X pins σ (ad H p (.lst (xs.set j v))) { s with heap:=s.heap.update p (eB (·.setIfInBounds j u))}:=
  I.lstUpd hp ho (Gv its n j u) (r.set rv j) (by rw[List.length_set];exact hz) s.toks
 by_cases h0:0<=k
 ·have hk:k.toNat=j:=by
   rw[uk h0 h4]at h1
   exact cv h1
  exact PySem.W.ki_setAt ho h0 (by omega) (by rw[bX,<-hl];exact h4) (by rw[hk];exact⟨_,I',q⟩)
 ·have hk:(k+(its.toArray.size:Int)).toNat=j:=by
   rw[ul (by omega) h3]at h1
   rw[bX,<-hl]
   exact cv h1
  exact PySem.W.ki_setBack ho (by omega) (by rw[bX,<-hl];exact h3) (by omega) (by rw[hk];exact⟨_,I',q⟩)
theorem Gx(lo hi:Option Int)(n:Nat):(sliceBounds lo hi none n).1=((HT.sIx n 0 lo:Nat):Int)/\(sliceBounds lo hi none n).2.1=((HT.sIx n n hi:Nat):Int)/\(sliceBounds lo hi none n).2.2=1:=by
 refine⟨?_,?_,rfl⟩
 ·cases lo with
  |none=>simp[sliceBounds,HT.sIx]
  |some i=>
   simp only[sliceBounds,HT.sIx,rH,show (1:Int)>0 by decide,if_true]
   by_cases h:i<0
   ·simp only[h,if_true]<;>omega
   ·simp only[h,if_false]<;>omega
 ·cases hi with
  |none=>simp[sliceBounds,HT.sIx]
  |some i=>
   simp only[sliceBounds,HT.sIx,rH,show (1:Int)>0 by decide,if_true]
   by_cases h:i<0
   ·simp only[h,if_true]<;>omega
   ·simp only[h,if_false]<;>omega
theorem Gy(its:List ac)(lo hi:Option Int):slicePick its.toArray lo hi none=((its.drop (HT.sIx its.length 0 lo)).take (HT.sIx its.length its.length hi - HT.sIx its.length 0 lo)).toArray:=by
 obtain⟨h1,h2,h3⟩:=Gx lo hi its.toArray.size
 unfold slicePick
 rw[h1,h2,h3]
 simp only[sliceRange_one,pick_run,bX]<;>rfl
inductive AL(K:aA)(x:V)(lo:Option Int)(hi:Option Int)(H:Hp)(Q:VK):Prop
 |mk:∀a xs,(x= .ref a)->(ak K H a xs)->(∀p,H p=none->Q (.ref p) (ad H p (.lst (d7 xs lo hi))))->AL K x lo hi H Q
def Gz(K:aA):V->Option Int->Option Int->Hp->VK->Prop:=fun x lo hi H Q=>AL K x lo hi H Q
theorem gJ:vK X (Gz X.K):=by
 intro pins s σ H x v vl vu lo hi sl Q I rx hs pl pu h
 obtain⟨a,xs,rfl,hx,q⟩:=h
 cases rx
 obtain⟨its,r,ht,hz⟩:=I.list hx
 have hlen:=r.length
 refine⟨"list",_,xS.lookup,ht.isList.typeIs,?_⟩
 refine wpAny_getItem_list_slice ht.isList hs pl pu .none (by simp) ?_ (by rw[bX]<;>omega)
 rw[Gy,<-hlen]
 refine⟨.ref s.heap.objs.size,_,I.laid (t':=s.toks) (o:= .lst (d7 xs lo hi)) (fun b ob q=>bj _ q) (aE _) ?_,rfl,q _ (I.hok.fresh (aE _))⟩
 exact⟨cO (AC xs lo hi) hz,_,0,(r.drop (HT.sIx xs.length 0 lo)).take (HT.sIx xs.length xs.length hi - HT.sIx xs.length 0 lo),bQ _ rfl⟩
def jf:V->Bool
 |.non=>true
 |.bl _=>true
 |.int _=>true
 |.str _=>true
 |_=>false
def iL:V->V->Bool
 |.non,.non=>true
 |.bl a,.bl b=>a==b
 |.bl a,.int b=>(if a then 1 else 0)==b
 |.int a,.bl b=>a==(if b then 1 else 0)
 |.int a,.int b=>a==b
 |.str a,.str b=>a==b
 |_,_=>false
theorem GA{A:bm}{s:ah}{y x:V}{u v:ac}(ry:aW y u)(rx:aW x v)(fy:jf y=true)(fx:jf x=true):dW A s u v (iL y x):=by
 cases y with
 |non=>
  cases ry
  cases x with
  |non=>cases rx;exact dW.same _
  |bl b=>cases rx;exact dW.none_bool b
  |int b=>obtain⟨t,rfl⟩:=rx;exact dW.none_int b t
  |str b=>obtain⟨t,rfl⟩:=rx;exact dW.none_str b t
  |_=>exact absurd (show false=true from fx) cM
 |bl a=>
  cases ry
  cases x with
  |non=>cases rx;exact dW.bool_none a
  |bl b=>cases rx;exact dW.bool_bool a b
  |int b=>obtain⟨t,rfl⟩:=rx;exact dW.bool_int a b t
  |str b=>obtain⟨t,rfl⟩:=rx;exact dW.bool_str a b t
  |_=>exact absurd (show false=true from fx) cM
 |int a=>
  obtain⟨t',rfl⟩:=ry
  cases x with
  |non=>cases rx;exact dW.int_none a t'
  |bl b=>cases rx;exact dW.int_bool a t' b
  |int b=>obtain⟨t,rfl⟩:=rx;exact dW.int_int a t' b t
  |str b=>obtain⟨t,rfl⟩:=rx;exact zG a t' b t
  |_=>exact absurd (show false=true from fx) cM
 |str a=>
  obtain⟨t',rfl⟩:=ry
  cases x with
  |non=>cases rx;exact dW.str_none a t'
  |bl b=>cases rx;exact dW.str_bool a t' b
  |int b=>obtain⟨t,rfl⟩:=rx;exact zH a t' b t
  |str b=>obtain⟨t,rfl⟩:=rx;exact dW.str_str a t' b t
  |_=>exact absurd (show false=true from fx) cM
 |_=>exact absurd (show false=true from fy) cM
def jJ(x:V)(u:ac):Bool:=match u with
 |.none=>iL .non x
 |.bool b=>iL (.bl b) x
 |.int i _=>iL (.int i) x
 |.str z _=>iL (.str z) x
 |_=>false
theorem AM{x y:V}{u:ac}(r:aW y u)(f:jf y=true):jJ x u=iL y x:=by
 cases y with
 |non=>cases r;rfl
 |bl b=>cases r;rfl
 |int i=>obtain⟨t,rfl⟩:=r;rfl
 |str z=>obtain⟨t,rfl⟩:=r;rfl
 |_=>exact absurd (show false=true from f) cM
theorem vM{x:V}:∀{xs:List V}{us:List ac},aL xs us->xs.all jf=true->us.any (jJ x)=xs.any fun y=>iL y x
 |_,_,.nil,_=>rfl
 |y::xs,u::us,.cons r t,f=>by
  rw[List.all_cons,h8]at f
  rw[oV,oV,AM r f.1,vM t f.2]
theorem vN{A:bm}{s:ah}{x:V}{v:ac}(rx:aW x v)(fx:jf x=true):∀{xs:List V}{us:List ac},aL xs us->xs.all jf=true->∀u∈us,dW A s u v (jJ x u)
 |_,_,.nil,_=>fun u hu=>by cases hu
 |y::xs,u::us,.cons r t,f=>fun u' hu=>by
  rw[List.all_cons,h8]at f
  rcases bo.mp hu with rfl|hu
  ·rw[AM r f.1];exact GA r rx f.1 fx
  ·exact vN rx fx t f.2 u' hu
def pF(x:V)(xs:List V):Bool:=xs.any fun y=>iL y x
def GB(K:aA)(neg:Bool):R2:=fun x y H Q=>∃p xs,y= .ref p/\(ak K H p xs\/aj K H p xs)/\jf x=true/\xs.all jf=true/\Q (.bl (if neg then !pF x xs else pF x xs)) H
theorem GC:cG X (compareOp .NotIn) (GB X.K true):=by
 intro pins s σ H x y v u Q I rx ry h
 obtain⟨p,xs,rfl,hq,fx,fs,q⟩:=h
 cases ry
 rcases hq with hq|hq
 ·obtain⟨its,r,pl,hz⟩:=I.list hq
  refine zm (jJ x) pl.isList (fun w hw=>vN rx fx r fs w (by simpa using hw)) ⟨.bl _,H,I,rfl,?_⟩
  rw[show its.toArray.any (jJ x)=its.any (jJ x)by simp,vM r fs]
  exact q
 ·obtain⟨its,r,pl,hz⟩:=I.tuple hq
  refine SeqAt.notIn_tupleAt (jJ x) pl (fun w hw=>vN rx fx r fs w (by simpa using hw)) ⟨.bl _,H,I,rfl,?_⟩
  rw[show its.toArray.any (jJ x)=its.any (jJ x)by simp,vM r fs]
  exact q
inductive AN(X:Cx)(xs:List V)(H:Hp)(Q:VK):Prop
 |mk:∀p ys,(xs=[.ref p])->((ak X.K H p ys\/aj X.K H p ys))->(Q (.int ys.length) H)->AN X xs H Q
theorem dk:gG X (.builtin "len") (fun xs H Q=>AN X xs H Q):=by
 intro pins s σ H xs us Q I r h
 obtain⟨p,ys,rfl,hq,q⟩:=h
 obtain⟨u,rfl,rx⟩:=je r
 cases rx
 have hn:=fw
 rcases hq with hq|hq
 ·obtain⟨its,r',pl,hz⟩:=I.list hq
  have hlen:=r'.length
  exact Calls.call_len_list pl.isList (by simp only[bX]<;>omega) ⟨.int ys.length,H,I.tok _,⟨s.toks+1,by rw[bX,hlen]⟩,q⟩
 ·obtain⟨its,r',pl,hz⟩:=I.tuple hq
  have hlen:=r'.length
  exact vc pl (by simp only[bX]<;>omega) ⟨.int ys.length,H,I.tok _,⟨s.toks+1,by rw[bX,hlen]⟩,q⟩
inductive AO(X:Cx)(xs:List V)(H:Hp)(Q:VK):Prop
 |mk:∀p ys,(xs=[.ref p])->((ak X.K H p ys\/aj X.K H p ys))->(∀l,H l=none->Q (.ref l) (ad H l (.lst ys)))->AO X xs H Q
theorem AQ:gG X (.type "list") (fun xs H Q=>AO X xs H Q):=by
 intro pins s σ H xs us Q I r h
 obtain⟨p,ys,rfl,hq,q⟩:=h
 obtain⟨u,rfl,rx⟩:=je r
 cases rx
 have fin:∀(its:List ac),aL ys its->ys.length<=sizeLine->∀(h':az)(c':Nat),(∀b o',s.heap.get? b=some o'->h'.get? b=some o')->
  h'.get? s.heap.objs.size=some { cls:= .type "list",dict:=none,data:= .seq its.toArray c',slots:=#[]}->EP X pins σ Q (.ref s.heap.objs.size) { s with heap:=h'}:=fun its r' hz h' c' kp e=>
  ⟨.ref s.heap.objs.size,_,I.laid (t':=s.toks) kp (aE _) (show cF X.prog X.w _ h' _ (.lst ys)from ⟨hz,its,c',r',e⟩),rfl,q _ (I.hok.fresh (aE _))⟩
 rcases hq with hq|hq
 ·obtain⟨its,r',pl,hz⟩:=I.list hq
  have hlen:=r'.length
  obtain⟨o,ho,hc,n,hd⟩:=pl.isList
  exact call_list_seq p (.inl rfl) ho hc hd (fun h' c' kp e=>fin its r' hz h' c' kp e) (by simp only[bX]<;>omega)
 ·obtain⟨its,r',pl,hz⟩:=I.tuple hq
  have hlen:=r'.length
  obtain⟨o,ho,hc,n,hd⟩:=pl
  exact call_list_seq p (.inr rfl) ho hc hd (fun h' c' kp e=>fin its r' hz h' c' kp e) (by simp only[bX]<;>omega)
theorem nC:gG X (.type "tuple") (fun xs H Q=>∃p ys,xs=[.ref p]/\((ak X.K H p ys/\∀l,H l=none->Q (.ref l) (ad H l (.tup ys)))\/(aj X.K H p ys/\Q (.ref p) H))):=by
 intro pins s σ H xs us Q I r h
 obtain⟨p,ys,rfl,h⟩:=h
 obtain⟨u,rfl,rx⟩:=je r
 cases rx
 rcases h with⟨hq,q⟩|⟨hq,q⟩
 ·obtain⟨its,r',pl,hz⟩:=I.list hq
  have hlen:=r'.length
  refine call_tuple_list pl.isList (fun h' kp=>?_) (by simp only[bX]<;>omega)
  have I1:Inv X pins σ H { s with heap:=h'}:=I.kept (t':=s.toks) kp
  have I2:Inv X pins σ (ad H h'.objs.size (.tup ys)) { s with heap:=h'.push { cls:= .type "tuple",data:= .seq its.toArray}}:=
   I1.laid (t':=s.toks) (fun b o e=>bj _ e) (aE _) (show cF X.prog X.w _ _ _ (.tup ys)from ⟨hz,its,r',cw.new _ _⟩)
  exact⟨.ref h'.objs.size,_,I2,rfl,q _ (I1.hok.fresh (aE _))⟩
 ·obtain⟨its,r',pl,hz⟩:=I.tuple hq
  exact call_tuple_same pl ⟨.ref p,H,I,rfl,q⟩
def vO(K:aA)(T:String)(x:V)(H:Hp):Prop:=match x with
 |.str _=>T="str"
 |.int _=>T="int"
 |.ref p=>(T="list"/\∃xs,ak K H p xs)\/(T="tuple"/\∃o,K.lookup p=some o/\o.cls= .type "tuple"/\o.dict=none)\/
  (T="dict"/\((∃kvs,H p=some (.dK kvs))\/∃kvs,H p=some (.dT kvs)))\/(T="set"/\∃S n,H p=some (.set S n))
 |_=>False
theorem AR{pins:List (Addr×aG)}{σ:St}{H:Hp}{s:ah}{T:String}{x:V}{v:ac}(I:Inv X pins σ H s)(r:aW x v)(ty:vO X.K T x H):
 s.TypeIs v T/\∀a,v= .ref a->∃ob,s.heap.get? a=some ob/\ob.dict=none:=by
 cases x with
 |str z=>
  obtain⟨t,rfl⟩:=r
  cases (show T="str" from ty)
  exact⟨mR s z t,fun _ e=>nomatch e⟩
 |int i=>
  obtain⟨t,rfl⟩:=r
  cases (show T="int" from ty)
  exact⟨typeIs_int s i t,fun _ e=>nomatch e⟩
 |ref p=>
  cases r
  rcases ty with⟨rfl,xs,hq⟩|⟨rfl,o,hk,hc,hd⟩|⟨rfl,hk⟩|⟨rfl,S,n,hk⟩
  ·obtain⟨its,_,pl,_⟩:=I.list hq
   refine⟨pl.isList.typeIs,fun a e=>?_⟩
   cases e
   obtain⟨o,n,e,c,hd,_⟩:=pl
   exact⟨o,e,hd⟩
  ·refine⟨⟨o,I.kIn p o hk,hc⟩,fun a e=>?_⟩
   cases e
   exact⟨o,I.kIn _ o hk,hd⟩
  ·have z:∃o,s.heap.get? p=some o/\o.ExactDict:=by
      rcases hk with⟨kvs,hk⟩|⟨kvs,hk⟩
      ·obtain⟨_,_,_,_,o,_,_,e,ex,_⟩:=I.hok p _ hk
       exact⟨o,e,ex⟩
      ·obtain⟨_,_,_,_,o,_,_,e,ex,_⟩:=I.hok p _ hk
       exact⟨o,e,ex⟩
   obtain⟨o,e,ex⟩:=z
   refine⟨⟨o,e,ex.1⟩,fun a e2=>?_⟩
   cases e2
   exact⟨o,e,ex.2.1⟩
  ·obtain⟨o,_,_,_,e,ex,_⟩:=I.hok p _ hk
   refine⟨⟨o,e,ex.1⟩,fun a e2=>?_⟩
   cases e2
   exact⟨o,e,ex.2.1⟩
 |_=>exact gF ty
def GD(K:aA)(T:String)(r:V->List V->Hp->VK->Prop)(to:TE):TE:=fun σ H Q=>to σ H fun x H1=>vO K T x H1/\r x [] H1 Q
def GE(K:aA)(T:String)(r:V->List V->Hp->VK->Prop)(to:TE)(t:TA):TE:=fun σ H Q=>to σ H fun x H1=>vO K T x H1/\t σ H1 fun xs H2=>r x xs H2 Q
variable{o e:Expr}{es:List Expr}{to:TE}{t:TA}{name:aa}{apos cpos:Pos}{T id:String}{r:V->List V->Hp->VK->Prop}
theorem kF(pa:PlainAttrs T)(slot:Slot T name id)(hty:typeOf (.builtin id)=pure (.type "method_descriptor"))(hm:sd X id r)(ho:PE X o to)
 (hbase:attributeBase o name X.env (eval o X.env)=eval o X.env:=by rfl) (hline:(apos.endLine==cpos.line)=true:=by rfl):PE X (.Call (.Attribute o name apos) [] [] cpos) (GD X.K T r to):=by
 intro pins s σ H Q I h
 refine xT hbase hline (aK (ho pins s σ H _ I h) fun v s1 ⟨x,H1,I1,r1,ty,q1⟩=>?_)
 obtain⟨h1,h2⟩:=AR I1 r1 ty
 exact⟨T,id,pa,slot,hty,h1,h2,rC rfl (xU (hm pins s1 σ H1 x [] v [] Q I1 r1 .nil q1))⟩
theorem cp(pa:PlainAttrs T)(slot:Slot T name id)(hty:typeOf (.builtin id)=pure (.type "method_descriptor"))(hm:sd X id r)(ho:PE X o to)(ha:PA X (e::es) t)
 (hbase:attributeBase o name X.env (eval o X.env)=eval o X.env:=by rfl)
 (hfew:((backTo cpos (starEach (e::es) X.env)).all (fun x=> !x.1)&&(backToKw cpos (keywordEach [] X.env)).all (fun x=>x.1.isSome)
  &&decide ((e::es).length+([]:List Keyword).length+(if ([]:List Keyword).isEmpty then 0 else 1)<30))=true:=by rfl)
 (hline:(apos.endLine==cpos.line)=true:=by rfl) (hs:starEach (e::es) X.env=(false,eval e X.env)::starEach es X.env:=by rfl) (hplain:(backTo cpos (starEach es X.env)).any (·.1)=false:=by rfl):
 PE X (.Call (.Attribute o name apos) (e::es) [] cpos) (GE X.K T r to t):=by
 intro pins s σ H Q I h
 refine wpAny_Call_method_late hbase hfew hline rfl (aK (ho pins s σ H _ I h) fun v s1 ⟨x,H1,I1,r1,ty,q1⟩=>?_)
 obtain⟨h1,h2⟩:=AR I1 r1 ty
 refine⟨T,id,pa,slot,hty,h1,h2,?_⟩
 have hA:=ha cpos pins s1 σ H1 _ I1 q1
 rw[hs]at hA |-
 refine rC (by show (false||(backTo cpos (starEach es X.env)).any (·.1))=false;rw[hplain]<;>rfl) (ve ?_)
 exact aK hA fun us s2 ⟨vs,H2,I2,r2,q2⟩=>hm pins s2 σ H2 x vs v us Q I2 r1 r2 q2
end
def vP(X:Cx)(id:String)(r:V->List V->Hp->VK->Prop):Prop:=
 ∀(pins:List (Addr×aG))(s:ah)(σ:St)(H:Hp)(x:V)(xs:List V)(v:ac)(us:List ac)(Q:VK),Inv X pins σ H s->aW x v->aL xs us->r x xs H Q->
  wpAny (model X.prog X.w) X.A (call (.builtin id) (v::us)) (EP X pins σ Q) X.xe s
theorem aL.one:∀{x:V}{us:List ac},aL [x] us->∃u,us=[u]/\aW x u
 |_,_,.cons r .nil=>⟨_,rfl,r⟩
theorem aL.zero:∀{us:List ac},aL [] us->us=[]
 |_,.nil=>rfl
theorem aL.dropLast{xs:List V}{us:List ac}(h:aL xs us):aL xs.dropLast us.dropLast:=by
 induction h with
 |nil=>exact .nil
 |cons r t ih=>
  cases t with
  |nil=>exact .nil
  |cons q t'=>exact .cons r ih
theorem GF{α:Type}(l:List α):l.eraseIdx (l.length - 1)=l.dropLast:=by
 induction l with
 |nil=>rfl
 |cons a r ih=>
  cases r with
  |nil=>rfl
  |cons b r=>
   have e:(a::b::r).length - 1=((b::r).length - 1)+1:=by
        have h1:(a::b::r).length=r.length+2:=rfl
        have h2:(b::r).length=r.length+1:=rfl
        omega
   rw[e,List.eraseIdx_cons_succ,ih]
   all_goals rfl
section
variable{X:Cx}{pins:List (Addr×aG)}{σ:St}{H:Hp}{s:ah}{l b:Addr}{xs ys zs:List V}
theorem Inv.lset{its its':List ac}{n:Nat}{f:Array ac->Array ac}{t':Nat}(I:Inv X pins σ H s)(hH:H l=some (.lst xs))
 (e:s.heap.get? l=some { cls:= .type "list",data:= .seq its.toArray n}) (hf:f its.toArray=its'.toArray) (hv:aL ys its') (hz:ys.length<=sizeLine):
 Inv X pins σ (ad H l (.lst ys)) { s with heap:=s.heap.update l (eB f),toks:=t'}:=by
 have q:=PySem.IsL.update e f
 rw[hf]at q
 refine I.write (x:=l) (e:=l) (by rw[hH];exact trivial) (.inl rfl) (fun b' u hb hu=>(jz s.heap (eB f) (fQ hb)).trans hu) ⟨_,q⟩ ?_
 exact⟨hz,its',_,hv,q⟩
theorem Inv.lnew{its:List ac}{t':Nat}(I:Inv X pins σ H s)(hv:aL ys its)(hz:ys.length<=sizeLine):
 Inv X pins σ (ad H s.heap.objs.size (.lst ys)) { s with heap:=s.heap.push { cls:= .type "list",data:= .seq its.toArray},toks:=t'}:=
 I.laid (fun _ _ q=>bj _ q) (aE _) ⟨hz,its,0,hv,bQ _ rfl⟩
theorem Inv.fresh(I:Inv X pins σ H s):H s.heap.objs.size=none:=I.hok.fresh (aE _)
theorem Inv.lstM(I:Inv X pins σ H s)(hH:H l=some (.lst xs)):xs.length<=sizeLine/\∃(its:List ac)(n:Nat),aL xs its/\xs.length=its.length/\s.heap.get? l=some { cls:= .type "list",data:= .seq its.toArray n}:=by
 obtain⟨z,its,n,r,e⟩:=I.hok l _ hH
 exact⟨z,its,n,r,r.length,e⟩
theorem GG{n:Nat}(h:n<=sizeLine):lK n=false:=by
 unfold lK
 exact decide_eq_false (by omega)
end
section
variable{X:Cx}
inductive AS(x:V)(vs:List V)(H:Hp)(Q:VK):Prop
 |mk:∀l xs y,(x= .ref l)->(vs=[y])->(H l=some (.lst xs))->(xs.length<sizeLine)->(Q .non (ad H l (.lst (xs++[y]))))->AS x vs H Q
def AT:V->List V->Hp->VK->Prop:=fun x vs H Q=>AS x vs H Q
theorem cT:vP X "list.append" AT:=by
 intro pins s σ H x vs v us Q I rx rv h
 obtain⟨l,xs,y,rfl,rfl,hH,hz,q⟩:=h
 cases rx
 obtain⟨u,rfl,ru⟩:=rv.one
 obtain⟨z,its,n,r,hl,e⟩:=I.lstM hH
 refine qF F.slot_list_append ⟨_,e,rfl⟩ F.entry_list_append (F.args_list_append_2 _ _) (PySem.list_append l its.toArray n u (by rw[bX];omega)) ⟨e,?_⟩
 refine⟨.non,_,I.lset (its':=its++[u]) hH e (by simp) (r.append (.cons ru .nil)) ?_,rfl,q⟩
 rw[zLA,yw]
 omega
inductive AU(x:V)(vs:List V)(H:Hp)(Q:VK):Prop
 |mk:∀l b xs zs,(x= .ref l)->(vs=[.ref b])->(H l=some (.lst xs))->(H b=some (.lst zs))->(xs.length+zs.length<=sizeLine)->(Q .non (ad H l (.lst (xs++zs))))->AU x vs H Q
def GH:V->List V->Hp->VK->Prop:=fun x vs H Q=>AU x vs H Q
theorem pG:vP X "list.extend" GH:=by
 intro pins s σ H x vs v us Q I rx rv h
 obtain⟨l,b,xs,zs,rfl,rfl,hH,hB,hz,q⟩:=h
 cases rx
 obtain⟨u,rfl,ru⟩:=rv.one
 cases ru
 obtain⟨z,its,n,r,hl,e⟩:=I.lstM hH
 obtain⟨z2,its2,n2,r2,hl2,e2⟩:=I.lstM hB
 have hsz:its.toArray.size+its2.toArray.size<=sizeLine:=by rw[bX,bX];omega
 have hlong:¬(!its.toArray.isEmpty&&lK (its.toArray.size+its2.toArray.size))=true:=by
  rw[GG hsz,Bool.and_false]
  exact cM
 refine qF F.slot_list_extend ⟨_,e,rfl⟩ F.entry_list_extend (F.args_list_extend_2 _ _)
  (AutoSeq1.list_extend_list_list_0 l its.toArray n b its2.toArray n2 hlong (by rw[bX];omega) (by omega)) ⟨e,e2,?_⟩
 refine⟨.non,_,I.lset (its':=its++its2) hH e (by simp) (r.append r2) ?_,rfl,q⟩
 rw[zLA]
 omega
inductive AV(x:V)(vs:List V)(H:Hp)(Q:VK):Prop
 |mk:∀l xs y,(x= .ref l)->(vs=[])->(H l=some (.lst xs))->(xs[xs.length - 1]?=some y)->(Q y (ad H l (.lst xs.dropLast)))->AV x vs H Q
def GI:V->List V->Hp->VK->Prop:=fun x vs H Q=>AV x vs H Q
theorem kH:vP X "list.pop" GI:=by
 intro pins s σ H x vs v us Q I rx rv h
 obtain⟨l,xs,y,rfl,rfl,hH,hy,q⟩:=h
 cases rx
 have hus:=rv.zero
 subst hus
 obtain⟨z,its,n,r,hl,e⟩:=I.lstM hH
 obtain⟨u,hu,ru⟩:=r.get hy
 have hy':its.toArray[its.toArray.size - 1]?=some u:=by
  show its.toArray[its.length - 1]?=some u
  rw[<-zr,<-hl]
  exact hu
 refine qF F.slot_list_pop ⟨_,e,rfl⟩ F.entry_list_pop (F.args_list_pop_1 _) (MeetsSeq.list_pop_last l its.toArray n u hy' (by rw[bX];omega)) ⟨e,?_⟩
 refine⟨y,_,I.lset (its':=its.dropLast) hH e ?_ r.dropLast ?_,ru,q⟩
 ·show its.toArray.eraseIdxIfInBounds (its.toArray.size - 1)=its.dropLast.toArray
  rw[bX,List.eraseIdxIfInBounds_toArray,GF]
 ·rw[List.length_dropLast]
  omega
inductive AW(x:V)(y:V)(H:Hp)(Q:VK):Prop
 |mk:∀l b xs zs,(x= .ref l)->(y= .ref b)->(H l=some (.lst xs))->(H b=some (.lst zs))->(xs.length+zs.length<=sizeLine)->(∀p,H p=none->Q (.ref p) (ad H p (.lst (xs++zs))))->AW x y H Q
def GJ:R2:=fun x y H Q=>AW x y H Q
theorem jK:cG X (binaryOp .Add) GJ:=by
 intro pins s σ H x y v u Q I rx ry h
 obtain⟨l,b,xs,zs,rfl,rfl,hH,hB,hz,q⟩:=h
 cases rx
 cases ry
 obtain⟨z,its,n,r,hl,e⟩:=I.lstM hH
 obtain⟨z2,its2,n2,r2,hl2,e2⟩:=I.lstM hB
 refine PySem.P.add_list e e2 ?_ (by rw[bX,bX];omega)
 have ea:its.toArray++its2.toArray=(its++its2).toArray:=by simp
 rw[ea]
 exact⟨.ref _,_,I.lnew (t':=s.toks) (r.append r2) (by rw[zLA];omega),rfl,q _ I.fresh⟩
end
section
variable{prog:aQ}{w:aH}{A:bm}{E:ac->ah->Prop}{s:ah}
end
section
variable{X:Cx}
end
section
variable{κ:Type}[DecidableEq κ]
def ck(kvs:List (κ×V))(k:κ):Option V:=(kvs.find? fun kv=>decide (kv.1=k)).map (·.2)
def bS(kvs:List (κ×V))(k:κ)(v:V):List (κ×V):=
 if (kvs.any fun kv=>decide (kv.1=k))=true then kvs.map (fun kv=>if kv.1=k then (kv.1,v)else kv)else kvs++[(k,v)]
theorem io{p:κ×V}{r:List (κ×V)}{k:κ}(e:p.1=k):ck (p::r) k=some p.2:=by simp[ck,jC,e]
theorem ip{p:κ×V}{r:List (κ×V)}{k:κ}(e:¬p.1=k):ck (p::r) k=ck r k:=by simp[ck,jC,e]
theorem pH(k:κ):∀kvs:List (κ×V),(kvs.any fun kv=>decide (kv.1=k))=(ck kvs k).isSome
 |[]=>rfl
 |p::r=>by
  rw[oV]
  by_cases e:p.1=k
  ·simp only[io e,decide_eq_true e,Bool.true_or,Option.isSome_some]
  ·rw[ip e,decide_eq_false e,Bool.false_or];exact pH k r
theorem AX(k j:κ)(y:V):∀kvs:List (κ×V),ck (kvs.map fun kv=>if kv.1=k then (kv.1,y)else kv) j=(ck kvs j).map fun x=>if j=k then y else x
 |[]=>rfl
 |p::r=>by
  have ih:=AX k j y r
  rw[bM]
  by_cases h:p.1=k
  ·rw[if_pos h]
   by_cases e:p.1=j
   ·rw[io (p:=(p.1,y)) e,io e,nj,if_pos (e.symm.trans h)]
   ·rw[ip (p:=(p.1,y)) e,ip e,ih]
  ·rw[if_neg h]
   by_cases e:p.1=j
   ·rw[io (p:=p) e,io e,nj,if_neg (fun z=>h (e.trans z))]
   ·rw[ip (p:=p) e,ip e,ih]
theorem AY(k j:κ)(y:V):∀kvs:List (κ×V),ck kvs k=none->ck (kvs++[(k,y)]) j=if j=k then some y else ck kvs j
 |[],_=>by
  by_cases e:k=j
  ·rw[if_pos e.symm];exact io (p:=(k,y)) e
  ·rw[if_neg (fun z=>e z.symm)];exact ip (p:=(k,y)) e
 |p::r,hn=>by
  rw[eA]
  have hk:¬p.1=k:=fun z=>by rw[io z]at hn;cases hn
  rw[ip hk]at hn
  have ih:=AY k j y r hn
  by_cases e:p.1=j
  ·rw[io e,io e,if_neg (fun z=>hk (e.trans z))]
  ·rw[ip e,ip e,ih]
theorem se(kvs:List (κ×V))(k j:κ)(y:V):ck (bS kvs k y) j=if j=k then some y else ck kvs j:=by
 unfold bS
 by_cases a:(kvs.any fun kv=>decide (kv.1=k))=true
 ·rw[if_pos a,AX]
  rw[pH]at a
  by_cases e:j=k
  ·obtain⟨x,hx⟩:=zy.mp a
   rw[if_pos e,e,hx,nj,if_pos rfl]
  ·rw[if_neg e]
   cases ck kvs j with
   |none=>rfl
   |some x=>rw[nj,if_neg e]
 ·rw[if_neg a]
  refine AY k j y kvs ?_
  rw[pH]at a
  cases q:ck kvs k with
  |none=>rfl
  |some x=>rw[q]at a;exact(a rfl).elim
theorem nD(kvs:List (κ×V))(k:κ)(v:V):(bS kvs k v).length<=kvs.length+1:=by
 unfold bS
 split
 ·rw[zLM];omega
 ·rw[zLA,zLC,zLN];omega
theorem AZ{kvs:List (κ×V)}{k:κ}(v:V)(h:ck kvs k=none):bS kvs k v=kvs++[(k,v)]:=by
 unfold bS
 rw[pH,h]
 exact if_neg (by decide)
theorem eN.isSome_eq{o:Option V}{u:Option ac}(r:eN o u):o.isSome=u.isSome:=by
 cases o with
 |none=>cases u with
  |none=>rfl
  |some _=>exact(show False from r).elim
 |some _=>cases u with
  |none=>exact(show False from r).elim
  |some _=>rfl
theorem eN.getD{o:Option V}{u:Option ac}{d:V}{d':ac}(r:eN o u)(rd:aW d d'):aW (o.getD d) (u.getD d'):=by
 cases o with
 |none=>cases u with
  |none=>exact rd
  |some _=>exact(show False from r).elim
 |some _=>cases u with
  |none=>exact(show False from r).elim
  |some _=>exact r
theorem KV.val{kvs:List (κ×V)}{vs:List (κ×ac)}(r:KV kvs vs)(k:κ):eN (ck kvs k) (valueAt vs k):=by
 unfold KV at r
 induction r with
 |nil=>exact True.intro
 |@cons p q ps qs h t ih=>
  obtain⟨h1,h2⟩:=h
  by_cases e:p.1=k
  ·have e':q.1=k:=h1.symm.trans e
   have b:valueAt (q::qs) k=some q.2:=by simp[valueAt,jC,e']
   rw[io e,b];exact h2
  ·have e':¬q.1=k:=fun z=>e (h1.trans z)
   have b:valueAt (q::qs) k=valueAt qs k:=by simp[valueAt,jC,e']
   rw[ip e,b];exact ih
theorem KV.any{kvs:List (κ×V)}{vs:List (κ×ac)}(r:KV kvs vs)(k:κ):(kvs.any fun kv=>decide (kv.1=k))=vs.any fun kv=>decide (kv.1=k):=by
 unfold KV at r
 induction r with
 |nil=>rfl
 |cons h t ih=>rw[oV,oV,ih,h.1]
theorem KV.repl{kvs:List (κ×V)}{vs:List (κ×ac)}(r:KV kvs vs)(k:κ){y:V}{u:ac}(ry:aW y u):
 KV (kvs.map fun kv=>if kv.1=k then (kv.1,y)else kv) (vs.map fun kv=>if kv.1=k then (kv.1,u)else kv):=by
 unfold KV at r |-
 induction r with
 |nil=>exact .nil
 |@cons p q ps qs h t ih=>
  rw[bM,bM]
  refine .cons ?_ ih
  obtain⟨h1,h2⟩:=h
  by_cases e:p.1=k
  ·rw[if_pos e,if_pos (h1.symm.trans e)];exact⟨h1,ry⟩
  ·rw[if_neg e,if_neg (fun z=>e (h1.trans z))];exact⟨h1,h2⟩
theorem KV.put{kvs:List (κ×V)}{vs:List (κ×ac)}(r:KV kvs vs)(k:κ){y:V}{u:ac}(ry:aW y u):KV (bS kvs k y) (stored vs k u):=by
 unfold bS stored
 rw[r.any k]
 by_cases e:(vs.any fun kv=>decide (kv.1=k))=true
 ·rw[if_pos e,if_pos e];exact r.repl k ry
 ·rw[if_neg e,if_neg e];exact Paired.snoc r ⟨rfl,ry⟩
theorem KV.keys{kvs:List (κ×V)}{vs:List (κ×ac)}(r:KV kvs vs):kvs.map (·.1)=vs.map (·.1):=by
 unfold KV at r
 induction r with
 |nil=>rfl
 |cons h t ih=>rw[bM,bM,ih,h.1]
theorem KV.length{kvs:List (κ×V)}{vs:List (κ×ac)}(r:KV kvs vs):kvs.length=vs.length:=Paired.length r
end
theorem lV{P:aQ}{w:aH}{k:Key}{u:ac}(r:aW (kV k) u):(dn P w).is k u=true:=by
 cases k with
 |inl i=>obtain⟨t,e⟩:=(show ∃t,u=ac.int i t from r);subst e;exact EV P w i t
 |inr x=>obtain⟨t,e⟩:=(show ∃t,u=ac.str x t from r);subst e;exact EW P w x t
theorem A0{P:aQ}{w:aH}:∀{ks:List Key}{us:List ac},aL (ks.map kV) us->ItemsAre (dn P w) ks us
 |[],_,r=>by rw[i0]at r;cases r;exact .nil
 |k::ks,_,r=>by
  rw[bM]at r
  cases r with
  |cons h t=>exact .cons (lV h) (A0 t)
abbrev KT(H:Hp):List (List Key×V)->List (List Key×Addr×ac)->Prop:=Paired fun p q=>p.1=q.1/\H q.2.1=some (.tup (p.1.map kV))/\aW p.2 q.2.2
theorem KT.val{H:Hp}{kvs:List (List Key×V)}{xs:List (List Key×Addr×ac)}(r:KT H kvs xs)(k:List Key):eN (ck kvs k) ((atKey xs k).map (·.2)):=by
 induction r with
 |nil=>exact True.intro
 |@cons p q ps qs h t ih=>
  obtain⟨h1,_,h2⟩:=h
  by_cases e:p.1=k
  ·have e':q.1=k:=h1.symm.trans e
   have b:atKey (q::qs) k=some q.2:=by simp[atKey,jC,e']
   rw[io e,b];exact h2
  ·have e':¬q.1=k:=fun z=>e (h1.trans z)
   have b:atKey (q::qs) k=atKey qs k:=by simp[atKey,jC,e']
   rw[ip e,b];exact ih
theorem KT.repl{H:Hp}{kvs:List (List Key×V)}{xs:List (List Key×Addr×ac)}(r:KT H kvs xs)(k:List Key){y:V}{u:ac}(ry:aW y u):
 KT H (kvs.map fun kv=>if kv.1=k then (kv.1,y)else kv) (xs.map (putAt k u)):=by
 induction r with
 |nil=>exact .nil
 |@cons p q ps qs h t ih=>
  rw[bM,bM]
  refine .cons ?_ ih
  obtain⟨h1,h2,h3⟩:=h
  unfold putAt
  by_cases e:p.1=k
  ·rw[if_pos e,if_pos (h1.symm.trans e)];exact⟨h1,h2,ry⟩
  ·rw[if_neg e,if_neg (fun z=>e (h1.trans z))];exact⟨h1,h2,h3⟩
theorem KT.put{H:Hp}{kvs:List (List Key×V)}{xs:List (List Key×Addr×ac)}(r:KT H kvs xs)(k:List Key){b:Addr}{y:V}{u:ac}(hb:H b=some (.tup (k.map kV)))(ry:aW y u):
 KT H (bS kvs k y) (storedH xs k b u):=by
 have e:(kvs.any fun kv=>decide (kv.1=k))=(atKey xs k).isSome:=by
  rw[pH,(r.val k).isSome_eq,vj]
 unfold bS storedH
 rw[e]
 by_cases q:(atKey xs k).isSome=true
 ·rw[if_pos q,if_pos q];exact r.repl k ry
 ·rw[if_neg q,if_neg q];exact Paired.snoc r ⟨rfl,hb,ry⟩
theorem KT.keeps{H H':Hp}{kvs:List (List Key×V)}{xs:List (List Key×Addr×ac)}(r:KT H kvs xs)(ht:∀b ys,H b=some (.tup ys)->H' b=some (.tup ys)):KT H' kvs xs:=
 Paired.mapP r fun _ _ z=>⟨z.1,ht _ _ z.2.1,z.2.2⟩
section
variable{P:aQ}{w:aH}{H:Hp}{h:az}{a:Addr}
theorem A1{u:HO}(ok:cy P w H h)(e:Rd H a u):cF P w H h a u:=e.ok ok
theorem jL{kvs:List (Key×V)}(ok:cy P w H h)(e:Rd H a (.dK kvs)):kvs.length<=sizeLine/\(a==sysModules)=false/\∃vs,KV kvs vs/\h.DictOf (dn P w) a vs:=
 show cF P w H h a (.dK kvs)from A1 ok e
theorem sf{kvs:List (Key×V)}(ok:cy P w H h)(e:H a=some (.dK kvs)):kvs.length<=sizeLine/\(a==sysModules)=false/\∃vs,KV kvs vs/\h.DictOf (dn P w) a vs:=jL ok (.inl e)
theorem lW{ks:List Key}(ok:cy P w H h)(e:H a=some (.tup (ks.map kV))):(tupleKind (dn P w)).is h ks a:=by
 obtain⟨_,its,r,o,h1,h2,n,h3⟩:=(show cF P w H h a (.tup (ks.map kV))from ok a _ e)
 exact⟨o,its.toArray,n,h1,h2,h3,by simpa using A0 r⟩
theorem kI{kvs:List (List Key×V)}(ok:cy P w H h)(e:Rd H a (.dT kvs)):kvs.length<=sizeLine/\(a==sysModules)=false/\
 ∃xs,KT H kvs xs/\h.DictOfH (tupleKind (dn P w)) a xs:=by
 obtain⟨z,y,xs,r,o,es,ep,h1,h2,h3,h4,h5⟩:=(show cF P w H h a (.dT kvs)from A1 ok e)
 refine⟨z,y,xs,r,o,es,ep,h1,h2,h3,h4,fun x hx=>?_,h5⟩
 have all:∀{l:List (List Key×V)}{m:List (List Key×Addr×ac)},KT H l m->∀x∈m,(tupleKind (dn P w)).is h x.1 x.2.1:=by
  intro l m q
  induction q with
  |nil=>intro x hx;exact nomatch hx
  |@cons p q ps qs hq t ih=>
   intro x hx
   rcases bo.mp hx with e|hx
   ·subst e
    exact lW ok (by rw[<-hq.1];exact hq.2.1)
   ·exact ih x hx
 exact all r x hx
theorem GK{kvs:List (List Key×V)}(ok:cy P w H h)(e:H a=some (.dT kvs)):kvs.length<=sizeLine/\(a==sysModules)=false/\
 ∃xs,KT H kvs xs/\h.DictOfH (tupleKind (dn P w)) a xs:=kI ok (.inl e)
end
def bT(H:Hp)(a:Addr)(y:V)(r:Option V):Prop:=
 (∃kvs k,Rd H a (.dK kvs)/\y=kV k/\r=ck kvs k)\/∃kvs k b,Rd H a (.dT kvs)/\y= .ref b/\H b=some (.tup (k.map kV))/\r=ck kvs k
def gK(H:Hp)(a:Addr)(y v:V)(H':Hp):Prop:=
 (∃kvs k,H a=some (.dK kvs)/\y=kV k/\kvs.length<sizeLine/\H'=ad H a (.dK (bS kvs k v)))\/
 ∃kvs k b,H a=some (.dT kvs)/\y= .ref b/\H b=some (.tup (k.map kV))/\kvs.length<sizeLine/\H'=ad H a (.dT (bS kvs k v))
theorem bT.k{H:Hp}{a:Addr}{kvs:List (Key×V)}{k:Key}(e:H a=some (.dK kvs)):bT H a (kV k) (ck kvs k):= .inl ⟨kvs,k,.inl e,rfl,rfl⟩
theorem gK.k{H:Hp}{a:Addr}{kvs:List (Key×V)}{k:Key}{v:V}(e:H a=some (.dK kvs))(hl:kvs.length<sizeLine):gK H a (kV k) v (ad H a (.dK (bS kvs k v))):= .inl ⟨kvs,k,e,rfl,hl,rfl⟩
section
variable{X:Cx}{pins:List (Addr×aG)}{σ:St}{H:Hp}{s:ah}{a:Addr}{y v:V}{u r:ac}{o:Option V}{A:bm}{E:ac->ah->Prop}
theorem Inv.big(I:Inv X pins σ H s):sysModules<s.heap.objs.size:=by
 have h:mainGlobals<s.heap.objs.size:=(I.mod.glob.keeps I.bk).lt
 exact uF (by decide) h
theorem GL{Q:ac->ah->Prop}(hu:A.units+1<cLine)(I:Inv X pins σ H s)(g:bT H a y (some v))(ry:aW y u)(h:∀w' s',Inv X pins σ H s'->aW v w'->Q w' s'):
 wpAny (model X.prog X.w) A (getItem (.ref a) u) Q E s:=by
 rcases g with⟨kvs,k,e,ey,l⟩|⟨kvs,k,b,e,ey,eb,l⟩
 ·subst ey
  obtain⟨z,hd,vs,rel,dd⟩:=jL I.hok e
  obtain⟨w',hw,rw'⟩:=eN.some_of (v:=v) (o:=valueAt vs k) (by rw[l];exact rel.val k)
  exact wpAny_getItem_of (lV ry) dd.mapOf hw (h w' _ (I.tok _) rw')
 ·subst ey
  cases (show u=ac.ref b from ry)
  obtain⟨z,hd,xs,rel,dd⟩:=kI I.hok e
  obtain⟨w',hw,rw'⟩:=eN.some_of (v:=v) (o:=(atKey xs k).map (·.2)) (by rw[l];exact rel.val k)
  obtain⟨p,hp,hp2⟩:=zA.mp hw
  refine wpAny_getItem_heap (mS hu) (lW I.hok eb) dd hp ?_
  rw[hp2]
  exact h w' _ (I.tok _) rw'
theorem GM{Q:ac->ah->Prop}(hu:A.units+1<cLine)(I:Inv X pins σ H s)(g:bT H a y o)(ry:aW y u)(h:∀s',Inv X pins σ H s'->Q (.bool o.isSome) s'):
 wpAny (model X.prog X.w) A (compareOp .In u (.ref a)) Q E s:=by
 rcases g with⟨kvs,k,e,ey,l⟩|⟨kvs,k,b,e,ey,eb,l⟩
 ·subst ey
  obtain⟨z,hd,vs,rel,dd⟩:=jL I.hok e
  refine wpAny_in_of (lV ry) hd dd.mapOf ?_
  rw[<-(rel.val k).isSome_eq,<-l]
  exact h _ (I.tok _)
 ·subst ey
  cases (show u=ac.ref b from ry)
  obtain⟨z,hd,xs,rel,dd⟩:=kI I.hok e
  refine wpAny_in_heap (mS hu) (lW I.hok eb) hd dd ?_
  have q:=(rel.val k).isSome_eq
  rw[vj]at q
  rw[<-q,<-l]
  exact h _ (I.tok _)
theorem GN{Q:ac->ah->Prop}(hu:A.units+1<cLine)(I:Inv X pins σ H s)(g:bT H a y o)(ry:aW y u)(h:∀s',Inv X pins σ H s'->Q (.bool (!o.isSome)) s'):
 wpAny (model X.prog X.w) A (compareOp .NotIn u (.ref a)) Q E s:=by
 rcases g with⟨kvs,k,e,ey,l⟩|⟨kvs,k,b,e,ey,eb,l⟩
 ·subst ey
  obtain⟨z,hd,vs,rel,dd⟩:=jL I.hok e
  refine wpAny_notIn_of (lV ry) hd dd.mapOf ?_
  rw[<-(rel.val k).isSome_eq,<-l]
  exact h _ (I.tok _)
 ·subst ey
  cases (show u=ac.ref b from ry)
  obtain⟨z,hd,xs,rel,dd⟩:=kI I.hok e
  refine wpAny_notIn_heap (mS hu) (lW I.hok eb) hd dd ?_
  have q:=(rel.val k).isSome_eq
  rw[vj]at q
  rw[<-q,<-l]
  exact h _ (I.tok _)
theorem A2{h':az}{t':Nat}{ob:HO}(I:Inv X pins σ H s)(mu:px (H a))(hs:gf a s.heap h')(he:∃q,h'.get? a=some q)(new:cF X.prog X.w (ad H a ob) h' a ob):
 Inv X pins σ (ad H a ob) { s with heap:=h',toks:=t'}:=
 I.write (x:=a) (e:=a) mu (.inl rfl) (fun b q hb z=>(hs.2 b hb).trans z) he new
theorem GO{P:aQ}{w:aH}{H':Hp}{h':az}{kvs:List (Key×V)}{vs:List (Key×ac)}(z:kvs.length<=sizeLine)(hd:(a==sysModules)=false)(rel:KV kvs vs)(dd:h'.DictOf (dn P w) a vs):
 cF P w H' h' a (.dK kvs):=⟨z,hd,vs,rel,dd⟩
theorem GP{H':Hp}{Q:Unit->ah->Prop}(hu:A.units+1<cLine)(I:Inv X pins σ H s)(g:gK H a y v H')(ry:aW y u)(rv:aW v r)(h:∀s',Inv X pins σ H' s'->Q () s'):
 wpAny (model X.prog X.w) A (setItem (.ref a) u r) Q E s:=by
 rcases g with⟨kvs,k,e,ey,l,eH⟩|⟨kvs,k,b,e,ey,eb,l,eH⟩
 ·subst ey eH
  obtain⟨z,hd,vs,rel,dd⟩:=sf I.hok e
  have hz:vs.length<=sizeLine:=by rw[<-rel.length];exact z
  have hl:(bS kvs k v).length<=sizeLine:=by have:=nD kvs k v;omega
  refine wpAny_setItem_pairs (hsz:=hz) (lV ry) dd fun h' dd' hs=>h _ ?_
  have he:∃q,h'.get? a=some q:=let ⟨q,_,_,hq,_⟩:=dd';⟨q,hq⟩
  exact A2 I (by rw[e];exact True.intro) hs he (GO hl hd (rel.put k rv) dd')
 ·subst ey eH
  cases (show u=ac.ref b from ry)
  obtain⟨z,hd,xs,rel,dd⟩:=GK I.hok e
  have hz:xs.length<=sizeLine:=by rw[<-Paired.length rel];exact z
  have hl:(bS kvs k v).length<=sizeLine:=by have:=nD kvs k v;omega
  refine wpAny_setItem_heap (hsz:=hz) (mS hu) (lW I.hok eb) dd fun h' dd' hs=>h _ ?_
  obtain⟨q,es,ep,hq,h2,h3,h4,_,h5⟩:=dd'
  refine A2 I (by rw[e];exact True.intro) hs ⟨q,hq⟩ ⟨hl,hd,_,(rel.put k eb rv).keeps fun c ys ec=>?_,q,es,ep,hq,h2,h3,h4,h5⟩
  rw[am (ce ec e (fun z=>nomatch z))]
  exact ec
end
section
variable{X:Cx}{pins:List (Addr×aG)}{σ:St}{H:Hp}{s:ah}{a:Addr}{kvs:List (Key×V)}{k:Key}{u:ac}{A:bm}{E:ac->ah->Prop}
theorem GQ{Q:ac->ah->Prop}(I:Inv X pins σ H s)(e:Rd H a (.dK kvs))(h:∀t s',Inv X pins σ H s'->Q (.int kvs.length t) s'):wpAny (model X.prog X.w) A (call (.builtin "len") [.ref a]) Q E s:=by
 obtain⟨z,hd,vs,rel,dd⟩:=jL I.hok e
 refine call_len_dict hd dd (by rw[<-rel.length];rw[qB]at z;omega) ?_
 rw[<-rel.length]
 exact h _ _ (I.tok _)
end
def A3(i:Expr):Prop:=∀ov iv,subscripted i false ov iv=operate [ov,iv] (getItem ov iv)
theorem GR{prog:aQ}{w:aH}{A:bm}{E:ac->ah->Prop}{s:ah}{env:Env}{value slice:Expr}{pos:Pos}{T id:String}{Q:ac->ah->Prop}
 (hl:typeLookup (.type T) "__getitem__"=pure (some (.builtin id))) (hs:A3 slice)
 (h:wpAny (model prog w) A (eval value env) (fun o s₁=>wpAny (model prog w) A (eval slice env) (fun i s₂=>s₂.TypeIs o T/\wpAny (model prog w) A (getItem o i) Q E s₂) E s₁) E s):
 wpAny (model prog w) A (eval (.Subscript value slice pos) env) Q E s:=by
 refine Subscript_ (eW h (fun o s₁ h₁=>eW h₁ (fun i s₂ h₂=>?_) fun _ _ x=>x) fun _ _ x=>x)
 obtain⟨hT,h₂⟩:=h₂
 unfold subscriptTail
 refine ag ?_
 rw[getitemInPython_of_ne hT.not_modules]
 refine ag (fN hT hl ?_)
 have fin:wpAny (model prog w) A (subscripted slice false o i) (fun r s₃=>wpAny (model prog w) A (letTemporaryGo value o r >>= fun _=>pure r) Q E s₃) E s₂:=by
  rw[hs o i]
  exact wpAny_operating (eW h₂ (fun r s₃ h₃=>ag (wpAny_letTemporaryGo (aP h₃))) fun _ _ x=>x)
 first
  |exact aP (ag fin)
  |exact ag (aP (ag fin))
  |exact ag fin
theorem GS{X:Cx}{pins:List (Addr×aG)}{σ:St}{H:Hp}{s:ah}{a:Addr}{y:V}{o:Option V}(I:Inv X pins σ H s)(g:bT H a y o):s.TypeIs (.ref a) "dict":=by
 rcases g with⟨kvs,k,e,_,_⟩|⟨kvs,k,b,e,_,_,_⟩
 ·obtain⟨_,_,vs,_,dd⟩:=jL I.hok e
  exact dd.typeIs
 ·obtain⟨_,_,xs,_,dd⟩:=kI I.hok e
  exact dd.typeIs
inductive A4(Q:VK)(x:V)(y:V)(H2:Hp):Prop
 |mk:∀a v,(x= .ref a)->(bT H2 a y (some v))->(Q v H2)->A4 Q x y H2
def GT(td ty:TE):TE:=fun σ H Q=>td σ H fun x H1=>ty σ H1 fun y H2=>A4 Q x y H2
inductive A5(Q:VK)(y:V)(x:V)(H2:Hp):Prop
 |mk:∀a o,(x= .ref a)->(bT H2 a y o)->(Q (.bl o.isSome) H2)->A5 Q y x H2
def GU(ty td:TE):TE:=fun σ H Q=>ty σ H fun y H1=>td σ H1 fun x H2=>A5 Q y x H2
inductive A6(Q:VK)(y:V)(x:V)(H2:Hp):Prop
 |mk:∀a o,(x= .ref a)->(bT H2 a y o)->(Q (.bl (!o.isSome)) H2)->A6 Q y x H2
def GV(ty td:TE):TE:=fun σ H Q=>ty σ H fun y H1=>td σ H1 fun x H2=>A6 Q y x H2
inductive A7(D:cZ)(σ:St)(v:V)(x:V)(y:V)(H3:Hp):Prop
 |mk:∀a H4,(x= .ref a)->(gK H3 a y v H4)->(D.nx σ H4)->A7 D σ v x y H3
def GW(td ty tv:TE):TS:=fun D σ H=>tv σ H fun v H1=>td σ H1 fun x H2=>ty σ H2 fun y H3=>A7 D σ v x y H3
section
variable{X:Cx}{o i e value:Expr}{pos pos' tpos:Pos}{td ty tv:TE}
theorem nE(hu:X.A.units+1<cLine)(ho:PE X o td)(hi:PE X i ty)(hs:A3 i):PE X (.Subscript o i pos) (GT td ty):=by
 intro pins s σ H Q I h
 refine GR PySem.F.slot_dict_getitem.lookup hs (aK (ho pins s σ H _ I h) fun u s1 ⟨x,H1,I1,rx,q1⟩=>aK (hi pins s1 σ H1 _ I1 q1) fun iv s2 ⟨y,H2,I2,ry,a,v,ex,g,q2⟩=>?_)
 subst ex
 obtain rfl:u=ac.ref a:=rx
 exact⟨GS I2 g,GL hu I2 g ry fun w' s3 I3 rw'=>⟨v,H2,I3,rw',q2⟩⟩
theorem GX(hu:X.A.units+1<cLine)(hi:PE X i ty)(ho:PE X o td):PC X .In i o (GU ty td):=by
 intro pins s σ H Q I h
 refine aK (hi pins s σ H _ I h) fun iv s1 ⟨y,H1,I1,ry,q1⟩=>aK (ho pins s1 σ H1 _ I1 q1) fun u s2 ⟨x,H2,I2,rx,a,ov,ex,g,q2⟩=>?_
 subst ex
 obtain rfl:u=ac.ref a:=rx
 exact GM hu I2 g ry fun s3 I3=>⟨.bl ov.isSome,H2,I3,rfl,q2⟩
theorem vQ(hu:X.A.units+1<cLine)(hi:PE X i ty)(ho:PE X o td):PC X .NotIn i o (GV ty td):=by
 intro pins s σ H Q I h
 refine aK (hi pins s σ H _ I h) fun iv s1 ⟨y,H1,I1,ry,q1⟩=>aK (ho pins s1 σ H1 _ I1 q1) fun u s2 ⟨x,H2,I2,rx,a,ov,ex,g,q2⟩=>?_
 subst ex
 obtain rfl:u=ac.ref a:=rx
 exact GN hu I2 g ry fun s3 I3=>⟨.bl (!ov.isSome),H2,I3,rfl,q2⟩
theorem lX(hu:X.A.units+1<cLine)(ho:PE X o td)(hi:PE X i ty)(hv:PE X value tv)(hs:swapsWith value (some (.Subscript o i pos')) pos.line X.env=pure false):
 PS X (.Assign [.Subscript o i pos'] value pos) (GW td ty tv):=by
 intro pins s σ H D I h
 refine wpAny_Assign_Subscript (aK (hv pins s σ H _ I h) fun r s1 ⟨v,H1,I1,rv,q1⟩=>aK (ho pins s1 σ H1 _ I1 q1) fun u s2 ⟨x,H2,I2,rx,q2⟩=>aK (hi pins s2 σ H2 _ I2 q2) fun iv s3 ⟨y,H3,I3,ry,a,H4,ex,g,q3⟩=>?_) hs
 subst ex
 obtain rfl:u=ac.ref a:=rx
 exact GP hu I3 g ry rv fun s4 I4=>⟨σ,H4,I4,q3⟩
end
theorem GY{P:aQ}{w:aH}{H:Hp}(h:az)(hb:sysModules<h.objs.size):cF P w H (h.push { cls:= .type "dict",data:= .dict #[]}) h.objs.size (.dK []):=
 ⟨cQ _,beq_eq_false_iff_ne.mpr (fQ (dg hb)),[],.nil,az.DictOf.new h⟩
def GZ:TE:=fun _ H Q=>∀p,H p=none->Q (.ref p) (ad H p (.dK []))
section
variable{X:Cx}{pos:Pos}
theorem lY:PE X (.Dict [] [] pos) GZ:=fun pins s σ H Q I h=>
 wpAny_Dict_empty ⟨.ref s.heap.objs.size,_,I.laid (a:=s.heap.objs.size) (o:= .dK []) (t':=s.toks) (fun _ _ q=>bj _ q) (aE _) (GY s.heap I.big),rfl,h _ (I.hok.fresh (aE _))⟩
end
structure M1(X:Cx)(o:Expr)(m:aa)(apos:Pos)(e:Expr)(cpos:Pos):Prop where
 base:attributeBase o m X.env (eval o X.env)=eval o X.env
 few:((backTo cpos (starEach [e] X.env)).all (fun x=> !x.1)&&(backToKw cpos (keywordEach [] X.env)).all (fun x=>x.1.isSome)
  &&decide (([e]:List Expr).length+([]:List Keyword).length+(if ([]:List Keyword).isEmpty then 0 else 1)<30))=true
 line:(apos.endLine==cpos.line)=true
 trees:backTo cpos (starEach [e] X.env)=[(false,eval e X.env)]
structure M2(X:Cx)(o:Expr)(m:aa)(apos:Pos)(e f:Expr)(cpos:Pos):Prop where
 base:attributeBase o m X.env (eval o X.env)=eval o X.env
 few:((backTo cpos (starEach [e,f] X.env)).all (fun x=> !x.1)&&(backToKw cpos (keywordEach [] X.env)).all (fun x=>x.1.isSome)
  &&decide (([e,f]:List Expr).length+([]:List Keyword).length+(if ([]:List Keyword).isEmpty then 0 else 1)<30))=true
 line:(apos.endLine==cpos.line)=true
 trees:backTo cpos (starEach [e,f] X.env)=[(false,eval e X.env),(false,eval f X.env)]
def vR(H:Hp)(a:Addr):Prop:=(∃kvs,Rd H a (.dK kvs))\/∃kvs,Rd H a (.dT kvs)
theorem A8{X:Cx}{pins:List (Addr×aG)}{σ:St}{H:Hp}{s:ah}{a:Addr}(I:Inv X pins σ H s)(d:vR H a):
 s.TypeIs (.ref a) "dict"/\(∀b,ac.ref a= .ref b->∃ob,s.heap.get? b=some ob/\ob.dict=none)/\(a==sysModules)=false:=by
 rcases d with⟨kvs,e⟩|⟨kvs,e⟩
 ·obtain⟨_,hd,vs,_,dd⟩:=jL I.hok e
  refine⟨dd.typeIs,fun b q=>?_,hd⟩
  cases q
  obtain⟨ob,_,_,h1,h2,_⟩:=dd
  exact⟨ob,h1,h2.2.1⟩
 ·obtain⟨_,hd,xs,_,dd⟩:=kI I.hok e
  refine⟨dd.typeIs,fun b q=>?_,hd⟩
  cases q
  obtain⟨ob,_,_,h1,h2,_⟩:=dd
  exact⟨ob,h1,h2.2.1⟩
section
variable{X:Cx}{pins:List (Addr×aG)}{σ:St}{H:Hp}{s:ah}{a:Addr}{y d:V}{u r:ac}{o:Option V}{A:bm}{E:ac->ah->Prop}
theorem G0{Q:ac->ah->Prop}(hu:A.units+1<cLine)(I:Inv X pins σ H s)(g:bT H a y o)(ry:aW y u)(h:∀w' s',Inv X pins σ H s'->aW (o.getD .non) w'->Q w' s'):
 wpAny (model X.prog X.w) A (call (.builtin "dict.get") [.ref a,u]) Q E s:=by
 rcases g with⟨kvs,k,e,ey,l⟩|⟨kvs,k,b,e,ey,eb,l⟩
 ·subst ey
  obtain⟨z,hd,vs,rel,dd⟩:=jL I.hok e
  refine qG m9 dd.typeIs rh (yN _ _) (meets_dict_get (dn X.prog X.w) a (lV ry) hd) ⟨_,dd.mapOf,h _ _ (I.tok _) ?_⟩
  rw[l]
  exact(rel.val k).getD rfl
 ·subst ey
  cases (show u=ac.ref b from ry)
  obtain⟨z,hd,xs,rel,dd⟩:=kI I.hok e
  refine qG m9 dd.typeIs rh (yN _ _) (meetsH_dict_get (tupleKind (dn X.prog X.w)) a b hd) ⟨mS hu,k,xs,lW I.hok eb,dd,h _ _ (I.tok _) ?_⟩
  rw[l]
  exact(rel.val k).getD rfl
theorem G1{Q:ac->ah->Prop}(hu:A.units+1<cLine)(I:Inv X pins σ H s)(g:bT H a y o)(ry:aW y u)(rd:aW d r)(h:∀w' s',Inv X pins σ H s'->aW (o.getD d) w'->Q w' s'):
 wpAny (model X.prog X.w) A (call (.builtin "dict.get") [.ref a,u,r]) Q E s:=by
 rcases g with⟨kvs,k,e,ey,l⟩|⟨kvs,k,b,e,ey,eb,l⟩
 ·subst ey
  obtain⟨z,hd,vs,rel,dd⟩:=jL I.hok e
  refine qG m9 dd.typeIs rh (yO _ _ _) (meets_dict_get_default (dn X.prog X.w) a (lV ry) hd r) ⟨_,dd.mapOf,h _ _ (I.tok _) ?_⟩
  rw[l]
  exact(rel.val k).getD rd
 ·subst ey
  cases (show u=ac.ref b from ry)
  obtain⟨z,hd,xs,rel,dd⟩:=kI I.hok e
  refine qG m9 dd.typeIs rh (yO _ _ _) (meetsH_dict_get_default (tupleKind (dn X.prog X.w)) a b hd r) ⟨mS hu,k,xs,lW I.hok eb,dd,h _ _ (I.tok _) ?_⟩
  rw[l]
  exact(rel.val k).getD rd
end
def G2(td ty:TE):TE:=fun σ H Q=>td σ H fun x H1=>∃a,x= .ref a/\vR H1 a/\ty σ H1 fun y H2=>∃o,bT H2 a y o/\Q (o.getD .non) H2
def G3(td ty tx:TE):TE:=fun σ H Q=>td σ H fun x H1=>∃a,x= .ref a/\vR H1 a/\ty σ H1 fun y H2=>tx σ H2 fun z H3=>∃o,bT H3 a y o/\Q (o.getD z) H3
section
variable{X:Cx}{o e f:Expr}{apos cpos:Pos}{td ty tx:TE}
theorem G4(hu:X.A.units+1<cLine)(ho:PE X o td)(he:PE X e ty)(m:M1 X o "get" apos e cpos):PE X (.Call (.Attribute o "get" apos) [e] [] cpos) (G2 td ty):=by
 intro pins s σ H Q I h
 refine xV m.base m.few m.line yP m9 yQ (aK (ho pins s σ H _ I h) fun u s1 ⟨x,H1,I1,rx,a,ex,d,q1⟩=>?_)
 subst ex
 obtain rfl:u=ac.ref a:=rx
 obtain⟨t1,t2,_⟩:=A8 I1 d
 refine⟨t1,t2,?_⟩
 rw[m.trees]
 refine rC rfl (ve (ia (aK (he pins s1 σ H1 _ I1 q1) fun iv s2 ⟨y,H2,I2,ry,ov,g,q2⟩=>iJ ?_)))
 exact G0 hu I2 g ry fun w' s3 I3 rw'=>⟨_,H2,I3,rw',q2⟩
theorem vS(hu:X.A.units+1<cLine)(ho:PE X o td)(he:PE X e ty)(hf:PE X f tx)(m:M2 X o "get" apos e f cpos):PE X (.Call (.Attribute o "get" apos) [e,f] [] cpos) (G3 td ty tx):=by
 intro pins s σ H Q I h
 refine xV m.base m.few m.line yP m9 yQ (aK (ho pins s σ H _ I h) fun u s1 ⟨x,H1,I1,rx,a,ex,d,q1⟩=>?_)
 subst ex
 obtain rfl:u=ac.ref a:=rx
 obtain⟨t1,t2,_⟩:=A8 I1 d
 refine⟨t1,t2,?_⟩
 rw[m.trees]
 refine rC rfl (ve (ia (aK (he pins s1 σ H1 _ I1 q1) fun iv s2 ⟨y,H2,I2,ry,q2⟩=>
  ia (aK (hf pins s2 σ H2 _ I2 q2) fun fv s3 ⟨z,H3,I3,rz,ov,g,q3⟩=>iJ ?_))))
 exact G1 hu I3 g ry rz fun w' s4 I4 rw'=>⟨_,H3,I4,rw',q3⟩
end
section
variable{X:Cx}{pins:List (Addr×aG)}{σ:St}{H:Hp}{s:ah}{a:Addr}{kvs:List (Key×V)}{A:bm}{E:ac->ah->Prop}
end
section
variable{X:Cx}{pins:List (Addr×aG)}{σ:St}{H:Hp}{s:ah}{a:Addr}{y:V}{u:ac}{A:bm}{E:ac->ah->Prop}
end
end L2
namespace Att
open PySem PySem.W PySem.Calls PyProof.Rows
theorem G5{P:Params}{h:az}:∀(ns:List Int)(vs:List ac),WellAll P h vs (ns.map WData.int)->IntsAre vs ns:=by
 intro ns
 induction ns with
 |nil=>
  intro vs w
  rw[i0]at w
  cases w
  exact .nil
 |cons n ns ih=>
  intro vs w
  rw[bM]at w
  cases w with
  |cons a b=>
   cases a
   exact .cons _ _ (ih _ b)
theorem G6{l:OpenLaw}{n:Nat}(hn:l.most=some n){P:Params}{h:az}{args:List WData}{vals:List ac}
 (hpre:l.row.toRowW.claim.pre args=true) (hwl:WellAll P h vals args):
 ∃a vs ns,vals=[ac.ref a]/\args=[WData.list (ns.map WData.int)]/\h.get? a=some { cls:= .type "list",data:= .seq vs.toArray}/\IntsAre vs ns/\ns.length<=n:=by
 have hsh:WShape.hasAll [] args [.list .int]=true:=(pre_splitW hpre).1
 have hc:l.pre.holds [] { args:=args}=true:=(pre_splitW hpre).2
 obtain⟨d,r,rfl,h1,h2⟩:=hasAllW_cons hsh
 obtain rfl:=hasAllW_nil h2
 obtain⟨xs,rfl,h3⟩:=hasW_list h1
 obtain⟨ns,rfl⟩:=items_int h3
 have hlen:ns.length<=n:=by
  unfold OpenLaw.pre at hc
  have h4:(WTm.not (.lt (.lit (.int (n:Int))) (.len (.arg 0)))).holds [] { args:=[.list (ns.map .int)]}=true:=by
   have h4:=(holds_andW hc).1
   rw[hn]at h4
   exact h4
  have h5:=condW_of h4 (w_not (w_lt w_lit (w_len_list (w_arg rfl))))
  rw[zLM]at h5
  refine Nat.le_of_not_lt fun q=>?_
  have q':(n:Int)<((ns.length:Nat):Int):=by omega
  first
   |(rw[decide_eq_true q']at h5;exact absurd h5 (by decide))
   |(simp at h5;omega)
 cases hwl with
 |cons w1 w2=>
  cases w2
  cases w1 with
  |list ho hall=>exact⟨_,_,ns,rfl,rfl,ho,G5 ns _ hall,hlen⟩
theorem G7(l:OpenLaw)(args:List WData):l.row.toRowW.claim.post args (.bool true) args=true:=
 postW_of (r:=l.row.toRowW) (X:=(true==true))
  (show WShape.has [] (.bool true) .bool=true by first|rfl|decide|simp[WShape.has,WShape.arms,WShape.armsAll])
  (show (WTm.eq .res (.lit (.bool true))).value [] { args:=args,res:=some (.bool true),after:=args}=some (.bool (true==true))from w_eq_bool (w_res rfl) w_lit) rfl
theorem attach_call{l:OpenLaw}{n:Nat}{q:aQ}{loose:List aa}{XP:(aa->Option ac)->az->Prop}{YP:aH->az->Prop}{d:DefRec}
 (hn:l.most=some n) (hdf:d.params.defaults=[])
 (call:∀(w:aH)(s₀ s₁:ah)(mg mb:aa->Option ac)(fa:Addr)(o:aG)(pm cd doc:ac)(a:Addr)(vs:List ac)(ns:List Int),
  Ground q loose [] XP w s₀ mg mb s₁.heap->YP w s₁.heap->
  s₁.heap.get? fa=some o->o.data= .func (docDef d.name d.params d.body d.scope pm cd doc)->s₁.heap.CodeRec cd d.name->mg d.name=some (.ref fa)->
  s₁.heap.get? a=some { cls:= .type "list",data:= .seq vs.toArray}->IntsAre vs ns->ns.length<=n->s₁.gens=#[]->
  codeAny (model l.prog w) callerA (.call (.ref fa) ⟨[.ref a],[]⟩) (fun r s'=>r= .ok (.ret (.bool true))/\OldK s₁.heap s'.heap/\s'.os=s₁.os/\AllBare s'.gens) s₁):
 WalkO q loose XP YP l.row.toRowW d [] (fun f vs=>um f vs):=by
 intro w s₀ s₁ mg mb G Y fa o pm cd doc dV kV ho hd hcd hD hmg hg args vals as hpre hlay hrd hwl hlo
 obtain rfl:dV= .none:=Dflts.none hD hdf
 obtain rfl:kV= .none:=Dflts.noKw hD
 obtain⟨a,vs,ns,rfl,rfl,hobj,hints,hlen⟩:=G6 hn hpre hwl
 refine enter_call (qD (call w s₀ s₁ mg mb fa o pm cd doc a vs ns G Y ho (fd_plain hd) hcd hmg hobj hints hlen hg) fun r s' hq=>?_)
 obtain⟨rfl,h2,h3,h4⟩:=hq
 exact⟨.inl ⟨.bool true,.bool true,[],rfl,fun _=>rfl,.bool true,G7 l _,fun _=>⟨List.Pairwise.nil,fun _ hm=>(nomatch hm)⟩⟩,h2,h3,h4⟩
section
variable{prog:aQ}{w:aH}{A:bm}{E:ac->ah->Prop}{s:ah}{K:Frag}
end
end Att
namespace L2
open PySem PySem.Spec PyProof.Rows
theorem A9:∀{vs:List ac}{ns:List Int},IntsAre vs ns->aL (ns.map V.int) vs
 |_,_,.nil=>.nil
 |_,_,.cons n t h=>.cons ⟨t,rfl⟩ (A9 h)
def vT(H:Hp):Prop:=∀b,H b=none\/∃o xs,H b=some (.frz o (.lst xs))
theorem G8{P:aQ}{w:aH}{K:aA}{mg mb:aa->Option ac}{CX:iK}{k:Nat}{fa a:Addr}{fd:be}{x:aa}{sp:Sp}{s₁:ah}{vs:List ac}{ns:List Int}
 (KX:K.In s₁.heap) (hns:s₁.heap.Ns mainGlobals mg) (hb:s₁.heap.Ns builtinsNs mb) (hbb:∀x:aa,x≠"__name__"->mb x=bootBuiltins x) (hlim:s₁.heap.NoLimit) (hg:s₁.gens=#[])
 (ha:s₁.heap.get? a=some { cls:= .type "list",data:= .seq vs.toArray}) (hi:IntsAre vs ns) (hl:ns.length<=sizeLine) (hr:cS k callerA)
 (F:∀base:az,K.In base->base.Ns mainGlobals mg->bf P w K mg base CX k fa fd [x] sp) (hbind:∀(s:ah)(u:ac),BindsTo s fd ⟨[u],[]⟩ [(x,u)])
 (hsp:∀H:Hp,vT H->ak K H a (ns.map V.int)->sp [.ref a] H (fun v _=>v= .bl true) fun _ _ _=>False)
 (hCX:∀H e s',CX [] H s₁ (fun _ _ _=>False) e s'->False):
 codeAny (model P w) callerA (.call (.ref fa) ⟨[.ref a],[]⟩) (fun r s'=>r= .ok (.ret (.bool true))/\OldK s₁.heap s'.heap/\s'.os=s₁.os/\AllBare s'.gens) s₁:=by
 have rv:=A9 hi
 have lenV:=hi.length
 have core:∀H:Hp,vT H->ak K H a (ns.map V.int)->cy P w H s₁.heap->(∀b,H b≠none->b=a)->(H a≠none->K.lookup a=none)->
  codeAny (model P w) callerA (.call (.ref fa) ⟨[.ref a],[]⟩) (fun r s'=>r= .ok (.ret (.bool true))/\OldK s₁.heap s'.heap/\s'.os=s₁.os/\AllBare s'.gens) s₁:=by
  intro H hO hS hok hA hK
  have base_of:∀{b:Addr}{o:aG},s₁.heap.get? b=some o->H b=none->(jH s₁.heap H).get? b=some o:=fun e n=>EY e n
  have noA:∀{b:Addr}{o:aG}{es:Array DictEntry}{ep:Nat},s₁.heap.get? b=some o->o.data= .dict es ep->H b=none:=fun {b o es ep} e d=>by
   cases q:H b with
   |none=>rfl
   |some u=>
    have e':b=a:=hA b (by rw[q];simp)
    subst e'
    rw[ha]at e;cases e
    have d':j4.seq vs.toArray _=j4.dict es ep:=d
    cases d'
  have nsK:∀{b:Addr}{m:aa->Option ac},s₁.heap.Ns b m->(jH s₁.heap H).Ns b m:=fun {b m} ⟨o,es,ep,e,d,r⟩=>⟨o,es,ep,base_of e (noA e d),d,r⟩
  have hKb:K.In (jH s₁.heap H):=fun b o e=>base_of (KX b o e) (by
   cases q:H b with
   |none=>rfl
   |some u=>
    have e':b=a:=hA b (by rw[q];simp)
    subst e'
    rw[hK (by rw[q];simp)]at e;cases e)
  have hM:Mod K mg (jH s₁.heap H):=⟨hKb,nsK hns,⟨mb,nsK hb,hbb⟩,let ⟨mc,h1,h2⟩:=hlim;⟨mc,nsK h1,h2⟩⟩
  have e0:lS P w K mg (jH s₁.heap H) callerA [] s₁ H:=⟨rfl,hM,fun b o e=>EZ e,uE (EX _ _),trivial,fun b hb=>absurd (show b∈([]:List Addr)from hb) (by simp),hok,.of_eq hg⟩
  refine qD ((F _ hKb (nsK hns)).run callerA [] s₁ H ⟨[.ref a],[]⟩ [.ref a] [.ref a] _ _ hr e0 (hbind s₁ (.ref a)) (.cons rfl .nil) (hsp H hO hS)) fun r s' h=>?_
  cases r with
  |error e=>exact(hCX H e s' h).elim
  |ok fl=>
   cases fl with
   |next=>exact gF h
   |brk=>exact gF h
   |cont=>exact gF h
   |ret u=>
    obtain⟨v,H',os,bare,un,hok',r',q⟩:=h
    have q':v= .bl true:=q
    subst q'
    obtain rfl:u=ac.bool true:=r'
    refine⟨rfl,OldK.of_keep fun b o e=>?_,os,bare⟩
    cases q:H b with
    |none=>exact un.keep b o e q (by intro z;exact absurd (show b∈([]:List Addr)from z) (by simp)) (by simp)
    |some u=>
     rcases hO b with z|⟨ob,xs,z⟩
     ·rw[q]at z;cases z
     ·have z2:=un.frzs b ob _ z
      obtain⟨e1,_⟩:=hok b _ z
      obtain⟨e2,_⟩:=hok' b _ z2
      rw[e]at e1;cases e1
      exact e2
 cases hk:K.lookup a with
 |some o=>
  have e:=KX a o hk
  rw[ha]at e
  cases e
  refine core (fun _=>none) (fun _=>.inl rfl) (.inr ⟨_,vs.toArray,_,hk,rfl,rfl,rfl,by rw[bX,lenV];exact hl,by simpa using rv⟩) (fun b u z=>by have z':(none:Option HO)=some u:=z;cases z') (fun b z=>absurd rfl z) fun z=>absurd rfl z
 |none=>
  refine core (fun b=>if b=a then some (.frz { cls:= .type "list",data:= .seq vs.toArray} (.lst (ns.map V.int)))else none) (fun b=>?_) (.inl (.inr ⟨{ cls:= .type "list",data:= .seq vs.toArray},if_pos rfl⟩)) (fun b u z=>?_) (fun b z=>?_) fun _=>hk
  ·by_cases hb:b=a
   ·exact .inr ⟨_,_,if_pos hb⟩
   ·exact .inl (if_neg hb)
  ·by_cases hb:b=a
   ·have z':=(if_pos hb).symm.trans z
    cases z'
    subst hb
    exact⟨ha,by rw[zLM];exact hl,vs,_,rv,ha⟩
   ·have z':=(if_neg hb).symm.trans z
    cases z'
  ·by_cases hb:b=a
   ·exact hb
   ·exact absurd (if_neg hb) z
theorem G9{l:uC}{n k:Nat}{q:aQ}{loose:List aa}{XP:(aa->Option ac)->az->Prop}{YP:aH->az->Prop}{d:DefRec}{K:Params->aA}{CX:aH->iK}{sp:aH->Sp}{x:aa}
 (hn:l.most=some n) (hn2:n<=sizeLine) (hdf:d.params.defaults=[]) (hr:cS k callerA)
 (hY:∀(w:aH)(h:az),YP w h->(K w.params).In h)
 (F:∀(w:aH)(mg:aa->Option ac)(fa:Addr)(h:az),(K w.params).In h->h.Ns mainGlobals mg->mg d.name=some (.ref fa)->
  ∃fd:be,(∀(s:ah)(u:ac),BindsTo s fd ⟨[u],[]⟩ [(x,u)])/\
   ∀base:az,(K w.params).In base->base.Ns mainGlobals mg->bf l.prog w (K w.params) mg base (CX w) k fa fd [x] (sp w))
 (hsp:∀(w:aH)(H:Hp)(a:Addr)(ns:List Int),ns.length<=n->vT H->ak (K w.params) H a (ns.map V.int)->sp w [.ref a] H (fun v _=>v= .bl true) fun _ _ _=>False)
 (hCX:∀(w:aH)(H:Hp)(s:ah)(e:ac)(s':ah),CX w [] H s (fun _ _ _=>False) e s'->False):
 PySem.W.WalkO q loose XP YP l.row.toRowW d [] (fun f vs=>um f vs):=by
 refine Att.attach_call hn hdf fun w s₀ s₁ mg mb fa o pm cd doc a vs ns G Y ho hd hcd hmg hobj hints hlen hg=>?_
 have KX:=hY w _ Y
 obtain⟨fd,hb,hF⟩:=F w mg fa _ KX G.T.g hmg
 exact G8 KX G.T.g G.T.b G.T.builtins G.T.nolimit hg hobj hints (cO hlen hn2) hr hF hb (fun H hO hS=>hsp w H a ns hlen hO hS) fun H e s'=>hCX w H s₁ e s'
def iq(s:Stmt)(j:Nat):Stmt:=match s with
 |.ClassDef _ _ _ body _ _ _ _ _ _ _=>body.getD j (.Pass ⟨0,0,0,0⟩)
 |_=>.Pass ⟨0,0,0,0⟩
def bA(s:Stmt):Arguments:=match s with
 |.FunctionDef _ a _ _ _ _ _ _ _ _=>a
 |_=>{ posonlyargs:=[],args:=[],vararg:=none,kwonlyargs:=[],kw_defaults:=[],kwarg:=none,defaults:=[]}
def bz(s:Stmt):List Stmt:=match s with
 |.FunctionDef _ _ b _ _ _ _ _ _ _=>b
 |_=>[]
def ax(s:Stmt):Scope:=match s with
 |.FunctionDef _ _ _ _ _ _ sc _ _ _=>sc
 |_=>{ kind:= .function,names:=[],isGenerator:=false,isCoroutine:=false}
abbrev bp:iK:=fun _ _ _ _ _ _=>False
abbrev E0:XK:=fun _ _ _=>False
theorem sh{X:Cx}:lT bp X E0:=fun _ _ _ _ _ _ _ h=>h.elim
structure bB(K:aA)(x qual:aa)(st:Stmt)(f:Addr)(fd:be):Prop where
 ex:∃(oc:ac)(od:Option Addr)(kV doc pm:ac)(an:Option Addr)(cdv ct:ac)(osl:Array (Option ac)),
  fd=bw x qual (bA st) (bz st) (ax st) .none kV doc pm an cdv ct/\K.lookup f=some ⟨oc,od,.func fd,osl⟩/\bC K cdv qual=true
 kp:bv K (.ref f)=true
section
variable{P:aQ}{w:aH}{K:aA}{mg:aa->Option ac}{base:az}
theorem bB.ok{x qual:aa}{st:Stmt}{f:Addr}{fd:be}{N ps:List aa}{k:Nat}{sp:Sp}(F:bB K x qual st f fd)(S:bD N ps (ax st))(len:∀vs H Q E,sp vs H Q E->vs.length=ps.length)
 (hbody:∀(cdv:ac)(A:bm)(outer:List Env)(s:ah)(H:Hp)(vs:List V)(Q:VK)(E:XK),cS k (A.deeper (envOfC qual (ax st) s.heap.objs.size f cdv))->sp vs H Q E->
  ∃t,fR (nA bp P w K mg base N qual (ax st) f cdv A outer s H E).nox (bz st) t/\t { nx:=fun _ H'=>Q .non H',rt:=Q} (start N vs) H):bf P w K mg base bp (k+1) f fd ps sp:=by
 obtain⟨oc,od,kV,doc,pm,an,cdv,ct,osl,rfl,lk,hcd⟩:=F.ex
 refine Gc lk hcd S len fun A outer s H vs Q E hr hsp=>?_
 obtain⟨t,h,q⟩:=hbody cdv A outer s H vs Q E hr hsp
 exact⟨t,h.nox,q⟩
theorem bB.binds{x qual:aa}{st:Stmt}{f:Addr}{fd:be}{ps:List aa}(F:bB K x qual st f fd)
 (h:∀(kV doc pm:ac)(an:Option Addr)(cdv ct:ac)(us:List ac),us.length=ps.length->bindArgs (bw x qual (bA st) (bz st) (ax st) .none kV doc pm an cdv ct) ⟨us,[]⟩=pure (ps.zip us)):im K fd ps []:=by
 obtain⟨oc,od,kV,doc,pm,an,cdv,ct,osl,rfl,lk,hcd⟩:=F.ex
 exact .all (h kV doc pm an cdv ct)
theorem bJ{x qual:aa}{st:Stmt}{f:Addr}{oc:ac}{od an:Option Addr}{osl:Array (Option ac)}{kV doc pm cdv ct:ac}(l:K.lookup f=some ⟨oc,od,.func (bw x qual (bA st) (bz st) (ax st) .none kV doc pm an cdv ct),osl⟩)
 (c:bC K cdv qual=true) (k:bv K (.ref f)=true):bB K x qual st f (bw x qual (bA st) (bz st) (ax st) .none kV doc pm an cdv ct):=⟨⟨oc,od,kV,doc,pm,an,cdv,ct,osl,rfl,l,c⟩,k⟩
end
section
variable{X:Cx}
theorem pv(i:Nat){x:aa}{pos:Pos}(hN:X.N[i]?=some x:=by rfl)(hv:vx X.env.scope x:=by first|exact Or.inl rfl|exact Or.inr (Or.inl rfl)|exact Or.inr (Or.inr rfl))(hd:(x==("__debug__":aa))=false:=by decide)
 (hcd:(x==("__classdict__":aa))=false:=by decide):PE X (.Name x pos) (vy i):=E2 hN hv hd hcd
end
theorem cg{A B:Prop}(h:B):if false=true then A else B:=by
 rw[if_neg cM]
 exact h
theorem jg{A B:Prop}(h:A):if true=true then A else B:=by
 rw[if_pos rfl]
 exact h
theorem bE{c A B:Prop}[Decidable c](h1:c->A)(h2:¬c->B):if c then A else B:=by
 by_cases h:c
 ·rw[if_pos h]
  exact h1 h
 ·rw[if_neg h]
  exact h2 h
def av(H H':Hp):Prop:=∀b o,H b=some o->H' b=some o
theorem av.refl(H:Hp):av H H:=fun _ _ h=>h
theorem av.trans{H H1 H2:Hp}(a:av H H1)(b:av H1 H2):av H H2:=fun c o h=>b c o (a c o h)
theorem av.free{H H':Hp}(e:av H H'){l:Addr}(h:H' l=Option.none):H l=Option.none:=by
 cases q:H l with
 |none=>rfl
 |some o=>
  rw[e l o q]at h
  cases h
theorem av.seq{K:aA}{H H':Hp}{a:Addr}{xs:List V}(e:av H H')(h:ak K H a xs):ak K H' a xs:=by
 rcases h with(h|⟨o,h⟩)|h
 ·exact .inl (.inl (e _ _ h))
 ·exact .inl (.inr ⟨o,e _ _ h⟩)
 ·exact .inr h
section
variable{X:Cx}
inductive Ba(xs:List V)(H:Hp)(Q:VK):Prop
 |mk:∀a kvs,(xs=[V.ref a])->(H a=some (.dK kvs))->(Q (.int kvs.length) H)->Ba xs H Q
theorem Bb:gG X (.builtin "len") (fun xs H Q=>Ba xs H Q):=by
 intro pins s σ H xs us Q I r h
 obtain⟨a,kvs,rfl,ha,q⟩:=h
 obtain⟨u,rfl,ru⟩:=je r
 cases ru
 exact GQ I (.inl ha) fun t s' I'=>⟨.int kvs.length,H,I',⟨t,rfl⟩,q⟩
end
section
variable{κ:Type}[DecidableEq κ]
end
end L2
namespace BF
open PySem
def Wd(w:aa):Prop:=1<=w.cps.toList.length/\w.cps.toList.length<=40/\∀c∈w.cps.toList,97<=c/\c<=122
inductive Tm where
 |num (n:Int)
 |name (w:aa)
 |blank (w:aa)
 |thing (w:aa) (ps:List Tm)
mutual
def Tm.nodes:Tm->Nat
 |.num _=>1
 |.name _=>1
 |.blank _=>1
 |.thing _ ps=>1+aJ ps
def aJ:List Tm->Nat
 |[]=>0
 |p::r=>p.nodes+aJ r
end
mutual
def Tm.Ok:Tm->Prop
 |.num n=> -(10 ^ 61)<=n/\n<=10 ^ 61
 |.name w=>Wd w
 |.blank w=>Wd w
 |.thing w ps=>Wd w/\ps≠[]/\dY ps
def dY:List Tm->Prop
 |[]=>True
 |p::r=>p.Ok/\dY r
end
theorem Tm.nodes_pos(t:Tm):1<=t.nodes:=by
 cases t<;>simp only[Tm.nodes]<;>omega
theorem gM(a b:List Tm):aJ (a++b)=aJ a+aJ b:=by
 induction a with
 |nil=>simp[aJ]
 |cons x r ih=>simp only[eA,aJ,ih];omega
theorem vU(a b:List Tm):dY (a++b)↔dY a/\dY b:=by
 induction a with
 |nil=>simp[dY]
 |cons x r ih=>simp only[eA,dY,ih,and_assoc]
theorem lZ(a:List Tm):dY a↔∀t∈a,t.Ok:=by
 induction a with
 |nil=>simp[dY]
 |cons x r ih=>simp[dY,ih]
theorem gq(a:List Tm):a.length<=aJ a:=by
 induction a with
 |nil=>simp[aJ]
 |cons x r ih=>have:=x.nodes_pos;simp only[zLC,aJ];omega
theorem Ha(a:List Tm):aJ a.reverse=aJ a:=by
 induction a with
 |nil=>rfl
 |cons x r ih=>rw[gz,gM,ih];simp only[aJ];omega
theorem Tm.ind{P:Tm->Prop}(h1:∀n,P (.num n))(h2:∀w,P (.name w))(h3:∀w,P (.blank w))(h4:∀w ps,(∀p∈ps,P p)->P (.thing w ps)):∀t,P t
 |.num n=>h1 n
 |.name w=>h2 w
 |.blank w=>h3 w
 |.thing w ps=>h4 w ps fun p hp=>Tm.ind h1 h2 h3 h4 p
termination_by t=>sizeOf t
decreasing_by
 have:=uL hp
 simp only[Tm.thing.sizeOf_spec];omega
inductive Dt where
 |int (i:Int)
 |str (x:aa)
 |tup (l:List Dt)
 |lst (l:List Dt)
mutual
def Dt.dep:Dt->Nat
 |.int _=>0
 |.str _=>0
 |.tup l=>1+d8 l
 |.lst l=>1+d8 l
def d8:List Dt->Nat
 |[]=>0
 |d::r=>max d.dep (d8 r)
end
theorem pI{d:Dt}:∀{l:List Dt},d∈l->d.dep<=d8 l
 |x::r,h=>by
  rcases bo.mp h with rfl|h
  ·simp only[d8];omega
  ·have:=pI h;simp only[d8];omega
mutual
def Tm.dt:Tm->Dt
 |.num n=>.tup [.str "number",.int n]
 |.name w=>.tup [.str "name",.str w]
 |.blank w=>.tup [.str "blank",.str w]
 |.thing w ps=>.tup [.str "thing",.str w,.tup (dE ps)]
def dE:List Tm->List Dt
 |[]=>[]
 |p::r=>p.dt::dE r
end
theorem fz(ps:List Tm):dE ps=ps.map Tm.dt:=by
 induction ps with
 |nil=>rfl
 |cons p r ih=>simp only[dE,bM,ih]
theorem kJ:(("number":aa)="name")=False:=by simp only[eq_iff_iff,iff_false];decide +kernel
theorem jM:(("number":aa)="blank")=False:=by simp only[eq_iff_iff,iff_false];decide +kernel
theorem kK:(("number":aa)="thing")=False:=by simp only[eq_iff_iff,iff_false];decide +kernel
theorem jN:(("name":aa)="blank")=False:=by simp only[eq_iff_iff,iff_false];decide +kernel
theorem kL:(("name":aa)="thing")=False:=by simp only[eq_iff_iff,iff_false];decide +kernel
theorem kM:(("blank":aa)="thing")=False:=by simp only[eq_iff_iff,iff_false];decide +kernel
theorem kN:(("name":aa)="number")=False:=by simp only[eq_iff_iff,iff_false];decide +kernel
theorem kO:(("blank":aa)="number")=False:=by simp only[eq_iff_iff,iff_false];decide +kernel
theorem ma:(("thing":aa)="number")=False:=by simp only[eq_iff_iff,iff_false];decide +kernel
theorem kP:(("blank":aa)="name")=False:=by simp only[eq_iff_iff,iff_false];decide +kernel
theorem md:(("thing":aa)="name")=False:=by simp only[eq_iff_iff,iff_false];decide +kernel
theorem kQ:(("thing":aa)="blank")=False:=by simp only[eq_iff_iff,iff_false];decide +kernel
theorem Bc:∀{ps qs:List Tm},(∀p∈ps,∀q:Tm,p.dt=q.dt->p=q)->dE ps=dE qs->ps=qs
 |[],[],_,_=>rfl
 |[],_::_,_,e=>by simp[dE]at e
 |_::_,[],_,e=>by simp[dE]at e
 |p::ps,q::qs,h,e=>by
  simp only[dE,jG]at e
  rw[h p (by simp) q e.1,Bc (fun x hx y=>h x (by simp[hx]) y) e.2]
theorem Tm.dt_inj:∀(t u:Tm),t.dt=u.dt->t=u:=by
 intro t
 induction t using Tm.ind with
 |h1 n=>intro u e;cases u<;>simp[Tm.dt,kJ,jM]at e |-;exact e
 |h2 w=>intro u e;cases u<;>simp[Tm.dt,kN,jN]at e |-;exact e
 |h3 w=>intro u e;cases u<;>simp[Tm.dt,kO,kP]at e |-;exact e
 |h4 w ps ih=>
  intro u e
  cases u with
  |num=>simp[Tm.dt]at e
  |name=>simp[Tm.dt]at e
  |blank=>simp[Tm.dt]at e
  |thing w' qs=>
   simp only[Tm.dt,Dt.tup.injEq,jG,Dt.str.injEq,true_and,and_true]at e
   rw[e.1,Bc ih e.2]
theorem vV{n:Nat}:∀{l:List Dt},(∀d∈l,d.dep<=n)->d8 l<=n
 |[],_=>by simp[d8]
 |x::r,h=>by
  have h1:=h x (by simp)
  have h2:=vV (l:=r) fun d hd=>h d (by simp[hd])
  simp only[d8];omega
theorem sj{t:Tm}:∀{l:List Tm},t∈l->t.nodes<=aJ l
 |x::r,h=>by
  rcases bo.mp h with rfl|h
  ·simp only[aJ];omega
  ·have:=sj h;simp only[aJ];omega
theorem Tm.dep_le(t:Tm):t.dt.dep<=2 * t.nodes:=by
 induction t using Tm.ind with
 |h1 n=>simp[Tm.dt,Tm.nodes,Dt.dep,d8]
 |h2 n=>simp[Tm.dt,Tm.nodes,Dt.dep,d8]
 |h3 n=>simp[Tm.dt,Tm.nodes,Dt.dep,d8]
 |h4 w ps ih=>
  have:d8 (dE ps)<=2 * aJ ps:=by
   rw[fz]
   refine vV fun d hd=>?_
   obtain⟨p,hp,rfl⟩:=bK.mp hd
   have a:=ih p hp
   have b:=sj hp
   omega
  simp only[Tm.dt,Tm.nodes,Dt.dep,d8]
  omega
def jh(n:Int):List Nat:=(bL (toString n)).cps.toList
mutual
def Tm.line:Tm->List Nat
 |.num n=>jh n
 |.name w=>w.cps.toList
 |.blank w=>63::w.cps.toList
 |.thing w ps=>w.cps.toList++40::(nF ps++[41])
def nF:List Tm->List Nat
 |[]=>[]
 |p::r=>p.line++fE r
def fE:List Tm->List Nat
 |[]=>[]
 |p::r=>44::(p.line++fE r)
end
inductive Pc where
 |sg (x:aa)
 |tm (u:Tm)
def Pc.out:Pc->List Nat
 |.sg x=>x.cps.toList
 |.tm u=>u.line
def Pc.wt:Pc->Nat
 |.sg _=>1
 |.tm u=>3 * u.nodes - 1
def fU(l:List Pc):List Nat:=l.reverse.flatMap Pc.out
def eD(l:List Pc):Nat:=(l.map Pc.wt).sum
theorem vW(l:List Pc)(p:Pc):fU (l++[p])=p.out++fU l:=by
 simp[fU]
theorem sk(l:List Pc)(p:Pc):eD (l++[p])=eD l+p.wt:=by
 simp[eD]
theorem vX(l m:List Pc):eD (l++m)=eD l+eD m:=by
 simp[eD]
theorem vY(l m:List Pc):fU (l++m)=fU m++fU l:=by
 simp[fU]
theorem Bd:∀l:List Pc,l.length<=eD l
 |[]=>by simp[eD]
 |p::r=>by
  have:=Bd r
  have h:1<=p.wt:=by
   cases p with
   |sg x=>simp[Pc.wt]
   |tm u=>have:=u.nodes_pos;simp only[Pc.wt];omega
  simp only[eD,bM,jD,zLC]at *
  omega
def ji(r:List Tm):List Pc:=r.reverse.flatMap fun p=>[Pc.tm p,Pc.sg ","]
def jO(p:Tm)(r:List Tm):List Pc:=[Pc.sg ")"]++ji r++[Pc.tm p]
theorem Be:(bL ",").cps.toList=[44]:=by decide +kernel
theorem Bf:(bL ")").cps.toList=[41]:=by decide +kernel
theorem Bh:(bL "(").cps.toList=[40]:=by decide +kernel
theorem Bj:(bL "?").cps.toList=[63]:=by decide +kernel
theorem Hb(r:List Tm):fU (ji r)=fE r:=by
 induction r with
 |nil=>rfl
 |cons p r ih=>
  have e:ji (p::r)=ji r++[Pc.tm p]++[Pc.sg ","]:=by simp[ji]
  rw[e,vW,vW,ih]
  simp only[Pc.out,Be,fE,eA,iH]
theorem Hc(p:Tm)(r:List Tm):fU (jO p r)=nF (p::r)++[41]:=by
 unfold jO
 rw[vY,vY,Hb]
 simp[fU,Pc.out,Bf,nF]
theorem Hd(r:List Tm):eD (ji r)=3 * aJ r:=by
 induction r with
 |nil=>rfl
 |cons p r ih=>
  have e:ji (p::r)=ji r++[Pc.tm p]++[Pc.sg ","]:=by simp[ji]
  have:=p.nodes_pos
  rw[e,sk,sk,ih]
  simp only[Pc.wt,aJ];omega
theorem He(p:Tm)(r:List Tm):eD (jO p r)=3 * aJ (p::r):=by
 unfold jO
 rw[sk,vX,Hd]
 have:=p.nodes_pos
 simp[eD,Pc.wt,aJ];omega
def me(k:List Nat):Prop:=k=[]\/∃r,k=44::r\/k=41::r
theorem Bk{p:Nat->Bool}{a k:List Nat}(ha:∀c∈a,p c=true)(hk:k=[]\/∃c r,k=c::r/\p c=false):(a++k).takeWhile p=a:=by
 induction a with
 |nil=>
  rcases hk with rfl|⟨c,r,rfl,h⟩
  ·rfl
  ·simp[h]
 |cons x r ih=>
  have:=ha x (by simp)
  rw[eA,yx,this]
  simp only[if_true]
  rw[ih fun c hc=>ha c (by simp[hc])]
open PySem.Spec PyProof.Rows L2
mutual
def aV(H:Hp):V->Dt->Prop
 |v,.int i=>v= .int i
 |v,.str x=>v= .str x
 |v,.tup l=>∃a vs,v= .ref a/\H a=some (.tup vs)/\bU H vs l
 |v,.lst l=>∃a vs,v= .ref a/\H a=some (.lst vs)/\bU H vs l
def bU(H:Hp):List V->List Dt->Prop
 |vs,[]=>vs=[]
 |vs,d::r=>∃v us,vs=v::us/\aV H v d/\bU H us r
end
theorem Dt.ind{P:Dt->Prop}(h1:∀n,P (.int n))(h2:∀w,P (.str w))(h3:∀l,(∀p∈l,P p)->P (.tup l))(h4:∀l,(∀p∈l,P p)->P (.lst l)):∀t,P t
 |.int n=>h1 n
 |.str w=>h2 w
 |.tup l=>h3 l fun p hp=>Dt.ind h1 h2 h3 h4 p
 |.lst l=>h4 l fun p hp=>Dt.ind h1 h2 h3 h4 p
termination_by t=>sizeOf t
decreasing_by
 ·have:=uL hp
  simp only[Dt.tup.sizeOf_spec];omega
 ·have:=uL hp
  simp only[Dt.lst.sizeOf_spec];omega
theorem bU.length{H:Hp}:∀{vs:List V}{l:List Dt},bU H vs l->vs.length=l.length
 |vs,[],h=>by simp only[bU]at h;subst h;rfl
 |vs,d::r,h=>by
  simp only[bU]at h
  obtain⟨v,us,rfl,_,h2⟩:=h
  simp only[zLC,h2.length]
theorem bU.get{H:Hp}:∀{vs:List V}{l:List Dt},bU H vs l->∀(i:Nat)(h1:i<vs.length)(h2:i<l.length),aV H vs[i] l[i]
 |vs,[],h,i,h1,h2=>absurd h2 (Nat.not_lt_zero _)
 |vs,d::r,h,i,h1,h2=>by
  simp only[bU]at h
  obtain⟨v,us,rfl,h3,h4⟩:=h
  cases i with
  |zero=>exact h3
  |succ i=>exact h4.get i _ _
theorem bU.of_get{H:Hp}:∀{vs:List V}{l:List Dt},vs.length=l.length->(∀(i:Nat)(h1:i<vs.length)(h2:i<l.length),aV H vs[i] l[i])->bU H vs l
 |[],[],_,_=>by simp only[bU]
 |v::us,d::r,hl,h=>by
  simp only[bU]
  refine⟨v,us,rfl,h 0 (by simp) (by simp),bU.of_get (by simpa using hl) fun i h1 h2=>h (i+1) (by simpa using h1) (by simpa using h2)⟩
 |[],_::_,hl,_=>by simp at hl
 |_::_,[],hl,_=>by simp at hl
theorem bU.append{H:Hp}:∀{vs us:List V}{l m:List Dt},bU H vs l->bU H us m->bU H (vs++us) (l++m)
 |vs,us,[],m,h,h'=>by simp only[bU]at h;subst h;exact h'
 |vs,us,d::r,m,h,h'=>by
  simp only[bU]at h
  obtain⟨v,ws,rfl,h1,h2⟩:=h
  simp only[eA,bU]
  exact⟨v,ws++us,rfl,h1,h2.append h'⟩
def aR(H H':Hp):Prop:=∀b xs,H b=some (.tup xs)->H' b=some (.tup xs)
theorem aR.refl(H:Hp):aR H H:=fun _ _ h=>h
theorem aR.trans{H H1 H2:Hp}(a:aR H H1)(b:aR H1 H2):aR H H2:=fun c o h=>b c o (a c o h)
theorem aR.of{H H':Hp}(e:av H H'):aR H H':=fun b xs h=>e b _ h
theorem bG{H:Hp}{p:Addr}(h:H p=none)(o:HO):av H (ad H p o):=fun b u q=>by rw[am (aF q h)];exact q
theorem aR.lst{H:Hp}{a:Addr}{xs:List V}{o:HO}(h:H a=some (.lst xs)):aR H (ad H a o):=fun b ys q=>by
 rw[am (ce q h (by intro z;cases z))];exact q
theorem aR.new{H:Hp}{a:Addr}{o:HO}(h:H a=none):aR H (ad H a o):=fun b ys q=>by
 rw[am (aF q h)];exact q
mutual
def Dt.noL:Dt->Prop
 |.int _=>True
 |.str _=>True
 |.tup l=>jP l
 |.lst _=>False
def jP:List Dt->Prop
 |[]=>True
 |d::r=>d.noL/\jP r
end
theorem Bl(l:List Dt):jP l↔∀d∈l,d.noL:=by
 induction l with
 |nil=>simp[jP]
 |cons d r ih=>simp[jP,ih]
theorem Tm.noL(t:Tm):t.dt.noL:=by
 induction t using Tm.ind with
 |h1 n=>simp[Tm.dt,Dt.noL,jP]
 |h2 n=>simp[Tm.dt,Dt.noL,jP]
 |h3 n=>simp[Tm.dt,Dt.noL,jP]
 |h4 w ps ih=>
  simp only[Tm.dt,Dt.noL,jP,true_and,and_true]
  rw[Bl,fz]
  intro d hd
  obtain⟨p,hp,rfl⟩:=bK.mp hd
  exact ih p hp
theorem aV.mono{H H':Hp}(k:aR H H'):∀(d:Dt)(v:V),d.noL->aV H v d->aV H' v d:=by
 intro d
 induction d using Dt.ind with
 |h1 n=>intro v _ h;simpa only[aV]using h
 |h2 n=>intro v _ h;simpa only[aV]using h
 |h3 l ih=>
  intro v hn h
  simp only[aV]at h |-
  simp only[Dt.noL]at hn
  rw[Bl]at hn
  obtain⟨a,vs,rfl,h1,h2⟩:=h
  exact⟨a,vs,rfl,k _ _ h1,.of_get h2.length fun i g1 g2=>ih _ (zGM _) _ (hn _ (zGM _)) (h2.get i g1 g2)⟩
 |h4 l ih=>intro v hn h;exact absurd hn (by simp[Dt.noL])
theorem aV.same{H H':Hp}(k:av H H'):∀(d:Dt)(v:V),aV H v d->aV H' v d:=by
 intro d
 induction d using Dt.ind with
 |h1 n=>intro v h;simpa only[aV]using h
 |h2 n=>intro v h;simpa only[aV]using h
 |h3 l ih=>
  intro v h
  simp only[aV]at h |-
  obtain⟨a,vs,rfl,h1,h2⟩:=h
  exact⟨a,vs,rfl,k _ _ h1,.of_get h2.length fun i g1 g2=>ih _ (zGM _) _ (h2.get i g1 g2)⟩
 |h4 l ih=>
  intro v h
  simp only[aV]at h |-
  obtain⟨a,vs,rfl,h1,h2⟩:=h
  exact⟨a,vs,rfl,k _ _ h1,.of_get h2.length fun i g1 g2=>ih _ (zGM _) _ (h2.get i g1 g2)⟩
theorem aV.inj{H:Hp}:∀(d d':Dt)(v:V),aV H v d->aV H v d'->d=d':=by
 intro d
 induction d using Dt.ind with
 |h1 n=>
  intro d' v h h'
  simp only[aV]at h;subst h
  cases d'<;>simp_all [aV]
 |h2 n=>
  intro d' v h h'
  simp only[aV]at h;subst h
  cases d'<;>simp_all [aV]
 |h3 l ih=>
  intro d' v h h'
  simp only[aV]at h
  obtain⟨a,vs,rfl,h1,h2⟩:=h
  cases d' with
  |int i=>simp[aV]at h'
  |str i=>simp[aV]at h'
  |lst m=>
   simp only[aV]at h'
   obtain⟨b,us,e,h3,_⟩:=h'
   cases e;rw[h1]at h3;cases h3
  |tup m=>
   simp only[aV]at h'
   obtain⟨b,us,e,h3,h4⟩:=h'
   cases e;rw[h1]at h3;cases h3
   congr 1
   refine uM (by rw[<-h2.length,<-h4.length]) fun i g1 g2=>?_
   exact ih _ (zGM _) _ _ (h2.get i (by rw[h2.length];exact g1) g1) (h4.get i (by rw[h2.length];exact g1) g2)
 |h4 l ih=>
  intro d' v h h'
  simp only[aV]at h
  obtain⟨a,vs,rfl,h1,h2⟩:=h
  cases d' with
  |int i=>simp[aV]at h'
  |str i=>simp[aV]at h'
  |tup m=>
   simp only[aV]at h'
   obtain⟨b,us,e,h3,_⟩:=h'
   cases e;rw[h1]at h3;cases h3
  |lst m=>
   simp only[aV]at h'
   obtain⟨b,us,e,h3,h4⟩:=h'
   cases e;rw[h1]at h3;cases h3
   congr 1
   refine uM (by rw[<-h2.length,<-h4.length]) fun i g1 g2=>?_
   exact ih _ (zGM _) _ _ (h2.get i (by rw[h2.length];exact g1) g1) (h4.get i (by rw[h2.length];exact g1) g2)
abbrev ay(H:Hp)(v:V)(t:Tm):Prop:=aV H v t.dt
abbrev aN(H:Hp)(vs:List V)(ts:List Tm):Prop:=bU H vs (dE ts)
theorem ay.mono{H H':Hp}{v:V}{t:Tm}(k:aR H H')(h:ay H v t):ay H' v t:=aV.mono k _ _ t.noL h
theorem aN.mono{H H':Hp}{vs:List V}{ts:List Tm}(k:aR H H')(h:aN H vs ts):aN H' vs ts:=
 .of_get h.length fun i g1 g2=>aV.mono k _ _ (by
  have:(dE ts)[i]∈ts.map Tm.dt:=by rw[<-fz];exact zGM _
  obtain⟨p,_,e⟩:=bK.mp this
  rw[<-e];exact p.noL) (h.get i g1 g2)
theorem fF{H:Hp}{v:V}{n:Int}:ay H v (.num n)↔∃a,v= .ref a/\H a=some (.tup [.str "number",.int n]):=by
 simp only[ay,Tm.dt,aV,bU]
 constructor
 ·rintro⟨a,vs,rfl,h,_,_,rfl,rfl,_,_,rfl,rfl,rfl⟩;exact⟨a,rfl,h⟩
 ·rintro⟨a,rfl,h⟩;exact⟨a,_,rfl,h,_,_,rfl,rfl,_,_,rfl,rfl,rfl⟩
theorem eP{H:Hp}{v:V}{w:aa}:ay H v (.name w)↔∃a,v= .ref a/\H a=some (.tup [.str "name",.str w]):=by
 simp only[ay,Tm.dt,aV,bU]
 constructor
 ·rintro⟨a,vs,rfl,h,_,_,rfl,rfl,_,_,rfl,rfl,rfl⟩;exact⟨a,rfl,h⟩
 ·rintro⟨a,rfl,h⟩;exact⟨a,_,rfl,h,_,_,rfl,rfl,_,_,rfl,rfl,rfl⟩
theorem dN{H:Hp}{v:V}{w:aa}:ay H v (.blank w)↔∃a,v= .ref a/\H a=some (.tup [.str "blank",.str w]):=by
 simp only[ay,Tm.dt,aV,bU]
 constructor
 ·rintro⟨a,vs,rfl,h,_,_,rfl,rfl,_,_,rfl,rfl,rfl⟩;exact⟨a,rfl,h⟩
 ·rintro⟨a,rfl,h⟩;exact⟨a,_,rfl,h,_,_,rfl,rfl,_,_,rfl,rfl,rfl⟩
theorem dF{H:Hp}{v:V}{w:aa}{ps:List Tm}:ay H v (.thing w ps)↔
 ∃a b vs,v= .ref a/\H a=some (.tup [.str "thing",.str w,.ref b])/\H b=some (.tup vs)/\aN H vs ps:=by
 simp only[ay,aN,Tm.dt,aV,bU]
 constructor
 ·rintro⟨a,vs,rfl,h,_,_,rfl,rfl,_,_,rfl,rfl,_,_,rfl,⟨b,us,rfl,h2,h3⟩,rfl⟩;exact⟨a,b,us,rfl,h,h2,h3⟩
 ·rintro⟨a,b,us,rfl,h,h2,h3⟩;exact⟨a,_,rfl,h,_,_,rfl,rfl,_,_,rfl,rfl,_,_,rfl,⟨b,us,rfl,h2,h3⟩,rfl⟩
theorem aN.len{H:Hp}{vs:List V}{ts:List Tm}(h:aN H vs ts):vs.length=ts.length:=by
 rw[h.length,fz,zLM]
theorem aN.at{H:Hp}{vs:List V}{ts:List Tm}(h:aN H vs ts)(i:Nat)(h1:i<vs.length)(h2:i<ts.length):ay H vs[i] ts[i]:=by
 have q:=h.get i h1 (by rw[fz,zLM];exact h2)
 simpa only[fz,jE]using q
theorem aN.nil{H:Hp}:aN H [] []:=by simp only[aN,dE,bU]
theorem aN.cons{H:Hp}{v:V}{t:Tm}{vs:List V}{ts:List Tm}(h:ay H v t)(h':aN H vs ts):aN H (v::vs) (t::ts):=by
 simp only[aN,dE,bU];exact⟨v,vs,rfl,h,h'⟩
theorem aN.app{H:Hp}{vs us:List V}{ts qs:List Tm}(h:aN H vs ts)(h':aN H us qs):aN H (vs++us) (ts++qs):=by
 have:=bU.append h h'
 simpa only[aN,fz,zMA]using this
theorem aN.of_at{H:Hp}{vs:List V}{ts:List Tm}(hl:vs.length=ts.length)(h:∀(i:Nat)(h1:i<vs.length)(h2:i<ts.length),ay H vs[i] ts[i]):aN H vs ts:=
 .of_get (by rw[fz,zLM];exact hl) fun i h1 h2=>by
  have h2':i<ts.length:=by rwa [fz,zLM]at h2
  have:=h i h1 h2'
  simpa only[fz,jE]using this
theorem aN.dropN{H:Hp}{vs:List V}{ts:List Tm}(h:aN H vs ts)(n:Nat):aN H (vs.drop n) (ts.drop n):=
 .of_at (by rw[dh,dh,h.len]) fun i h1 h2=>by
  rw[oW,oW]
  exact h.at _ _ _
theorem aN.takeN{H:Hp}{vs:List V}{ts:List Tm}(h:aN H vs ts)(n:Nat):aN H (vs.take n) (ts.take n):=
 .of_at (by rw[zLT,zLT,h.len]) fun i h1 h2=>by
  rw[oX,oX]
  exact h.at _ _ _
section
variable{P:aQ}{w:aH}{H:Hp}{s:ah}
theorem iM(ok:cy P w H s.heap){a:Addr}{vs:List V}(h:H a=some (.tup vs)):∃its:List ac,aL vs its/\cw s.heap a its.toArray:=by
 obtain⟨_,its,r,q⟩:=(show cF P w H s.heap a (.tup vs)from ok a _ h)
 exact⟨its,r,q⟩
theorem jj(ok:cy P w H s.heap){a:Addr}{vs:List V}(h:H a=some (.lst vs)):∃its:List ac,aL vs its/\s.heap.IsList a its.toArray:=by
 obtain⟨_,its,n,r,q⟩:=(show cF P w H s.heap a (.lst vs)from ok a _ h)
 exact⟨its,r,⟨_,q,rfl,n,rfl⟩⟩
theorem aL.at{vs:List V}{us:List ac}(r:aL vs us)(i:Nat)(h1:i<vs.length)(h2:i<us.length):aW vs[i] us[i]:=by
 obtain⟨u,hu,rv⟩:=r.get (zGE h1)
 rw[zGE h2]at hu
 cases hu;exact rv
def Bm(A:bm)(s:ah)(u u':ac)(d d':Dt):Prop:=∃b,dW A s u u' b/\(b=true↔d=d')
theorem so{A:bm}{l m:List Dt}{us us':List ac}(hl:us.length=l.length)(hm:us'.length=m.length)
 (h:∀i (h1:i<l.length)(h2:i<m.length)(g1:i<us.length)(g2:i<us'.length),Bm A s us[i] us'[i] l[i] m[i]):
 ∃e:Nat->Bool,(∀j (h1:j<us.toArray.size)(h2:j<us'.toArray.size),dW A s us.toArray[j] us'.toArray[j] (e j))/\
  (((jA (min us.toArray.size us'.toArray.size)).all e&&us.toArray.size==us'.toArray.size)=true↔l=m):=by
 have h0:∀j:Nat,∃b:Bool,∀(h1:j<l.length)(h2:j<m.length)(g1:j<us.length)(g2:j<us'.length),dW A s us[j] us'[j] b/\(b=true↔l[j]=m[j]):=by
  intro j
  by_cases c:j<l.length/\j<m.length
  ·obtain⟨b,hb⟩:=h j c.1 c.2 (by omega) (by omega)
   exact⟨b,fun _ _ _ _=>hb⟩
  ·exact⟨true,fun h1 h2=>absurd ⟨h1,h2⟩ c⟩
 obtain⟨e,he⟩:=zq h0
 refine⟨e,fun j h1 h2=>?_,?_⟩
 ·have g1:j<us.length:=by simpa using h1
  have g2:j<us'.length:=by simpa using h2
  have:=(he j (by omega) (by omega) g1 g2).1
  simpa only[uN]using this
 ·rw[h8,lC]
  simp only[bX,beq_iff_eq,List.mem_range]
  constructor
  ·rintro⟨h1,h2⟩
   refine uM (by omega) fun i g1 g2=>?_
   exact(he i g1 g2 (by omega) (by omega)).2.mp (h1 i (by omega))
  ·rintro rfl
   refine⟨fun i hi=>?_,by omega⟩
   exact(he i (by omega) (by omega) (by omega) (by omega)).2.mpr rfl
theorem mf(A:bm):A.in1.units=A.units+1:=rfl
theorem vZ(ok:cy P w H s.heap):∀(d d':Dt)(v v':V)(u u':ac)(A:bm),aV H v d->aV H v' d'->aW v u->aW v' u'->A.units+d.dep<cLine->Bm A s u u' d d':=by
 intro d
 induction d using Dt.ind with
 |h1 n=>
  intro d' v v' u u' A h h' r r' hu
  simp only[aV]at h;subst h
  obtain⟨t,rfl⟩:=r
  cases d' with
  |int i=>simp only[aV]at h';subst h';obtain⟨t',rfl⟩:=r';exact⟨_,.int_int n t i t',by simp⟩
  |str x=>simp only[aV]at h';subst h';obtain⟨t',rfl⟩:=r';exact⟨_,.int_str n t x t',by simp⟩
  |tup m=>
   simp only[aV]at h';obtain⟨a,vs,rfl,h1,_⟩:=h';cases r'
   obtain⟨its,_,q⟩:=iM ok h1
   exact⟨_,.int_tuple n t q (by omega),by simp⟩
  |lst m=>
   simp only[aV]at h';obtain⟨a,vs,rfl,h1,_⟩:=h';cases r'
   obtain⟨its,_,q⟩:=jj ok h1
   exact⟨_,.int_list n t q (by omega),by simp⟩
 |h2 n=>
  intro d' v v' u u' A h h' r r' hu
  simp only[aV]at h;subst h
  obtain⟨t,rfl⟩:=r
  cases d' with
  |int i=>simp only[aV]at h';subst h';obtain⟨t',rfl⟩:=r';exact⟨_,.str_int n t i t',by simp⟩
  |str x=>simp only[aV]at h';subst h';obtain⟨t',rfl⟩:=r';exact⟨_,.str_str n t x t',by simp⟩
  |tup m=>
   simp only[aV]at h';obtain⟨a,vs,rfl,h1,_⟩:=h';cases r'
   obtain⟨its,_,q⟩:=iM ok h1
   exact⟨_,.str_tuple n t q (by omega),by simp⟩
  |lst m=>
   simp only[aV]at h';obtain⟨a,vs,rfl,h1,_⟩:=h';cases r'
   obtain⟨its,_,q⟩:=jj ok h1
   exact⟨_,.str_list n t q (by omega),by simp⟩
 |h3 l ih=>
  intro d' v v' u u' A h h' r r' hu
  have hh:=h
  simp only[aV]at h;obtain⟨a,vs,rfl,h1,h2⟩:=h;cases r
  obtain⟨its,ri,q⟩:=iM ok h1
  simp only[Dt.dep]at hu
  cases d' with
  |int i=>simp only[aV]at h';subst h';obtain⟨t',rfl⟩:=r';exact⟨_,.tuple_int i t' q (by omega),by simp⟩
  |str x=>simp only[aV]at h';subst h';obtain⟨t',rfl⟩:=r';exact⟨_,.tuple_str x t' q (by omega),by simp⟩
  |lst m=>
   simp only[aV]at h';obtain⟨b,us,rfl,h3,_⟩:=h';cases r'
   obtain⟨its',_,q'⟩:=jj ok h3
   exact⟨_,.tuple_list q q' (by omega),by simp⟩
  |tup m=>
   have hh':=h'
   simp only[aV]at h';obtain⟨b,us,rfl,h3,h4⟩:=h';cases r'
   obtain⟨its',ri',q'⟩:=iM ok h3
   by_cases e:a=b
   ·subst e
    exact⟨true,.same _,by simpa using aV.inj _ _ _ hh hh'⟩
   ·have l1:=ri.length
    have l2:=ri'.length
    have l3:=h2.length
    have l4:=h4.length
    obtain⟨f,hf,hb⟩:=so (A:=A.in1) (s:=s) (l:=l) (m:=m) (us:=its) (us':=its') (by omega) (by omega) fun i h1 h2' g1 g2=>
       ih _ (zGM _) _ _ _ _ _ _ (h2.get i (by omega) h1) (h4.get i (by omega) h2') (aL.at ri i _ _) (aL.at ri' i _ _) (by
        have:=pI (zGM h1);rw[mf];omega)
    exact⟨_,.of_refs e (.tuples q q' (by omega) hf),by simpa using hb⟩
 |h4 l ih=>
  intro d' v v' u u' A h h' r r' hu
  have hh:=h
  simp only[aV]at h;obtain⟨a,vs,rfl,h1,h2⟩:=h;cases r
  obtain⟨its,ri,q⟩:=jj ok h1
  simp only[Dt.dep]at hu
  cases d' with
  |int i=>simp only[aV]at h';subst h';obtain⟨t',rfl⟩:=r';exact⟨_,.list_int i t' q (by omega),by simp⟩
  |str x=>simp only[aV]at h';subst h';obtain⟨t',rfl⟩:=r';exact⟨_,.list_str x t' q (by omega),by simp⟩
  |tup m=>
   simp only[aV]at h';obtain⟨b,us,rfl,h3,_⟩:=h';cases r'
   obtain⟨its',_,q'⟩:=iM ok h3
   exact⟨_,.list_tuple q q' (by omega),by simp⟩
  |lst m=>
   have hh':=h'
   simp only[aV]at h';obtain⟨b,us,rfl,h3,h4⟩:=h';cases r'
   obtain⟨its',ri',q'⟩:=jj ok h3
   by_cases e:a=b
   ·subst e
    exact⟨true,.same _,by simpa using aV.inj _ _ _ hh hh'⟩
   ·have l1:=ri.length
    have l2:=ri'.length
    have l3:=h2.length
    have l4:=h4.length
    by_cases hs:l.length=m.length
    ·obtain⟨f,hf,hb⟩:=so (A:=A.in1) (s:=s) (l:=l) (m:=m) (us:=its) (us':=its') (by omega) (by omega) fun i h1 h2' g1 g2=>
        ih _ (zGM _) _ _ _ _ _ _ (h2.get i (by omega) h1) (h4.get i (by omega) h2') (aL.at ri i _ _) (aL.at ri' i _ _) (by
         have:=pI (zGM h1);rw[mf];omega)
     have hz:its.toArray.size=its'.toArray.size:=by simp;omega
     refine⟨_,.of_refs e (.lists q q' hz (by omega) hf),?_⟩
     rw[hz,Nat.min_self,beq_self_eq_true,Bool.and_true]at hb
     rw[hz]
     simpa using hb
    ·refine⟨_,.of_refs e (.lists_lengths q q' (by simp;omega) (by omega)),?_⟩
     simp only[iI,Dt.lst.injEq,false_iff]
     rintro rfl;exact hs rfl
end
section
variable{X:Cx}
inductive Bn(X:Cx)(x:V)(y:V)(H:Hp)(Q:VK):Prop
 |mk:∀l m,(aV H x (.tup l))->(aV H y (.tup m))->(X.A.units+(Dt.tup l).dep<cLine)->(∀b,(b=true↔l=m)->Q (.bl b) H)->Bn X x y H Q
theorem Hg:cG X (compareOp .Eq) (fun x y H Q=>Bn X x y H Q):=by
 intro pins s σ H x y v u Q I rx ry h
 obtain⟨l,m,h,h',hu,q⟩:=h
 simp only[aV]at h h'
 obtain⟨a,vs,rfl,h1,h2⟩:=h;cases rx
 obtain⟨b,us,rfl,h3,h4⟩:=h';cases ry
 obtain⟨its,ri,p1⟩:=iM I.hok h1
 obtain⟨its',ri',p2⟩:=iM I.hok h3
 have l1:=ri.length
 have l2:=ri'.length
 have l3:=h2.length
 have l4:=h4.length
 simp only[Dt.dep]at hu
 obtain⟨f,hf,hb⟩:=so (A:=X.A.in1) (s:=s) (l:=l) (m:=m) (us:=its) (us':=its') (by omega) (by omega) fun i h1 h2' g1 g2=>
  vZ I.hok _ _ _ _ _ _ _ (h2.get i (by omega) h1) (h4.get i (by omega) h2') (aL.at ri i _ _) (aL.at ri' i _ _) (by
   have:=pI (zGM h1);rw[mf];omega)
 exact zn p1 p2 (by omega) hf ⟨.bl _,H,I,rfl,q _ hb⟩
inductive Bo(X:Cx)(x:V)(y:V)(H:Hp)(Q:VK):Prop
 |mk:∀l m,(aV H x (.tup l))->(aV H y (.tup m))->(X.A.units+(Dt.tup l).dep<cLine)->(∀b,(b=true↔¬l=m)->Q (.bl b) H)->Bo X x y H Q
theorem sr:cG X (compareOp .NotEq) (fun x y H Q=>Bo X x y H Q):=by
 intro pins s σ H x y v u Q I rx ry h
 obtain⟨l,m,h,h',hu,q⟩:=h
 simp only[aV]at h h'
 obtain⟨a,vs,rfl,h1,h2⟩:=h;cases rx
 obtain⟨b,us,rfl,h3,h4⟩:=h';cases ry
 obtain⟨its,ri,p1⟩:=iM I.hok h1
 obtain⟨its',ri',p2⟩:=iM I.hok h3
 have l1:=ri.length
 have l2:=ri'.length
 have l3:=h2.length
 have l4:=h4.length
 simp only[Dt.dep]at hu
 obtain⟨f,hf,hb⟩:=so (A:=X.A.in1) (s:=s) (l:=l) (m:=m) (us:=its) (us':=its') (by omega) (by omega) fun i h1 h2' g1 g2=>
  vZ I.hok _ _ _ _ _ _ _ (h2.get i (by omega) h1) (h4.get i (by omega) h2') (aL.at ri i _ _) (aL.at ri' i _ _) (by
   have:=pI (zGM h1);rw[mf];omega)
 refine vd.tuples p1 p2 (by omega) hf _ _ _ _ ⟨.bl _,H,I,rfl,q _ ?_⟩
 rw[<-hb,zj,zl]
theorem Tm.isTup(t:Tm):∃l,t.dt= .tup l:=by cases t<;>exact⟨_,rfl⟩
inductive Bp(X:Cx)(x:V)(y:V)(H:Hp)(Q:VK):Prop
 |mk:∀t u,(ay H x t)->(ay H y u)->(X.A.units+2 * t.nodes<cLine)->(∀b,(b=true↔¬t=u)->Q (.bl b) H)->Bp X x y H Q
theorem Hh:cG X (compareOp .NotEq) (fun x y H Q=>Bp X x y H Q):=by
 intro pins s σ H x y v u Q I rx ry h
 obtain⟨t,t',h,h',hu,q⟩:=h
 obtain⟨l,e⟩:=t.isTup
 obtain⟨m,e'⟩:=t'.isTup
 have hd:=t.dep_le
 refine sr pins s σ H x y v u Q I rx ry ⟨l,m,by rw[<-e];exact h,by rw[<-e'];exact h',by rw[<-e];omega,fun b hb=>q b (hb.trans (not_congr ?_))⟩
 constructor
 ·intro z;exact Tm.dt_inj _ _ (by rw[e,e',z])
 ·rintro rfl;rw[e]at e';cases e';rfl
inductive Bq(x:V)(y:V)(H:Hp)(Q:VK):Prop
 |mk:∀a b xs,(x= .ref a)->(y= .ref b)->(H a=some (.lst xs))->(H b=some (.lst []))->(Q (.bl (!xs.isEmpty)) H)->Bq x y H Q
theorem su(hu:X.A.units<cLine):cG X (compareOp .NotEq) (fun x y H Q=>Bq x y H Q):=by
 intro pins s σ H x y v u Q I rx ry h
 obtain⟨a,b,xs,rfl,rfl,h1,h2,q⟩:=h
 cases rx;cases ry
 obtain⟨its,ri,p1⟩:=jj I.hok h1
 obtain⟨its',ri',p2⟩:=jj I.hok h2
 cases ri'
 cases ri with
 |nil=>exact vd.lists (e:=fun _=>true) p1 p2 rfl hu (fun j g1 _=>absurd g1 (by simp)) _ _ _ _ ⟨.bl _,H,I,rfl,q⟩
 |cons r rr=>exact vd.lists_lengths p1 p2 (by simp) hu _ _ _ _ ⟨.bl _,H,I,rfl,q⟩
inductive Br(x:V)(y:V)(H:Hp)(Q:VK):Prop
 |mk:∀a b xs,(x= .ref a)->(y= .ref b)->(H a=some (.tup xs))->(H b=some (.tup []))->(Q (.bl xs.isEmpty) H)->Br x y H Q
theorem Hi(hu:X.A.units<cLine):cG X (compareOp .Eq) (fun x y H Q=>Br x y H Q):=by
 intro pins s σ H x y v u Q I rx ry h
 obtain⟨a,b,xs,rfl,rfl,h1,h2,q⟩:=h
 cases rx;cases ry
 obtain⟨its,ri,p1⟩:=iM I.hok h1
 obtain⟨its',ri',p2⟩:=iM I.hok h2
 cases ri'
 refine zn (e:=fun _=>true) p1 p2 hu (fun j g1 g2=>absurd g2 (by simp)) ⟨.bl _,H,I,rfl,?_⟩
 cases ri with
 |nil=>exact q
 |cons r rr=>exact q
inductive Bs(x:V)(y:V)(H:Hp)(Q:VK):Prop
 |mk:∀i j,(x= .str i)->(y= .str j)->(Q (.bl (!decide (j.cps.toList<i.cps.toList))) H)->Bs x y H Q
theorem Hj:cG X (compareOp .LtE) (fun x y H Q=>Bs x y H Q):=by
 intro pins s σ H x y v u Q I rx ry h
 obtain⟨i,j,rfl,rfl,q⟩:=h
 obtain⟨t,rfl⟩:=rx
 obtain⟨t',rfl⟩:=ry
 exact PySem.P.le_str (cA I q rfl)
inductive dO:String->String->Bool->Prop
 |ii:dO "int" "int" true
 |ib:dO "int" "bool" false
 |is:dO "int" "str" false
 |it:dO "int" "tuple" false
 |il:dO "int" "list" false
 |bb:dO "bool" "bool" true
 |bi:dO "bool" "int" true
 |bs:dO "bool" "str" false
 |ss:dO "str" "str" true
 |si:dO "str" "int" false
 |sb:dO "str" "bool" false
 |st:dO "str" "tuple" false
 |sl:dO "str" "list" false
 |tt:dO "tuple" "tuple" true
 |ts:dO "tuple" "str" false
 |ti:dO "tuple" "int" false
 |tl:dO "tuple" "list" false
 |ll:dO "list" "list" true
 |lt:dO "list" "tuple" false
 |ls:dO "list" "str" false
theorem dO.ok{K:aA}{t c:String}{b:Bool}(k:dO t c b):PySem.W.kitOne K (.type t) (.type c)=some b:=by
 cases k<;>kernel_rfl
inductive Bt(X:Cx)(xs:List V)(H:Hp)(Q:VK):Prop
 |mk:∀x c t b,(xs=[x,.ty c])->(gH X.K H x (.type t))->(dO t c b)->(Q (.bl b) H)->Bt X xs H Q
theorem ir:gG X (.builtin "isinstance") (fun xs H Q=>Bt X xs H Q):=by
 intro pins s σ H xs us Q I r h
 obtain⟨x,c,t,b,rfl,ty,k,q⟩:=h
 obtain⟨u,u',rfl,ru,rc⟩:=vH r
 cases (show u'=ac.type c from rc)
 exact FT I ru ty k.ok fun tk=>⟨.bl b,H,I.tok tk,rfl,q⟩
theorem v3:∀{ys:List aa}{us:List ac},aL (ys.map V.str) us->StrsAre us ys
 |[],us,h=>by cases h;first|exact .nil|constructor
 |y::ys,us,h=>by
  cases h with
  |cons r rr=>
   obtain⟨t,rfl⟩:=r
   exact .cons y t (v3 rr)
inductive Bu(x:V)(vs:List V)(H:Hp)(Q:VK):Prop
 |mk:∀(p:Addr)(ys:List aa),(x= .str "")->(vs=[.ref p])->(H p=some (.lst (ys.map V.str)))->((ys.map (·.length)).sum<=16777216)->(Q (.str (pw "" ys)) H)->Bu x vs H Q
theorem Bv:sd X "str.join" (fun x vs H Q=>Bu x vs H Q):=by
 intro pins s σ H x vs v us Q I rx rv h
 obtain⟨p,ys,rfl,rfl,h1,hz,q⟩:=h
 obtain⟨t,rfl⟩:=rx
 obtain⟨u,rfl,ru⟩:=je rv
 cases ru
 obtain⟨its,ri,pl⟩:=jj I.hok h1
 refine join_list pl (by simpa using v3 ri) ?_ fun t' k=>⟨.str _,H,I.tok k,⟨t',rfl⟩,q⟩
 have e:(bL "").length=0:=by decide +kernel
 rw[e];omega
end
def aO(P:aQ)(w:aH)(K:aA)(mg:aa->Option ac)(base:az)(k:Nat)(x:aa)(ps:List aa)(sp:Sp):Prop:=
 ∃(f:Addr)(fd:be),bf P w K mg base bp k f fd ps sp/\im K fd ps []/\bv K (.ref f)=true/\mg x=some (.ref f)
section
variable{X:Cx}{k:Nat}{x:aa}{ps:List aa}{sp:Sp}{p pos:Pos}{e:Expr}{es:List Expr}{t:TA}
theorem a0(C:aO X.prog X.w X.K X.mg X.base k x ps sp)(hr:cS k X.A)(ha:PA X (e::es) t)(hg:Gl X x:=by rfl)(hdb:(x==("__debug__":aa))=false:=by decide)
 (he:starEach (e::es) X.env=(false,eval e X.env)::starEach es X.env:=by rfl) (hpl:(backTo pos (starEach es X.env)).any (·.1)=false:=by rfl):PE X (.Call (.Name x p) (e::es) [] pos) (Ar sp [] E0 t):=by
 obtain⟨f,fd,F,b,kp,m⟩:=C
 exact FX F hr hg m kp b .nil sh ha hdb he hpl
end
theorem cU:bootBuiltins "len"=some (.builtin "len"):=by decide +kernel
theorem Hk:bootBuiltins "abs"=some (.builtin "abs"):=by decide +kernel
theorem iu:bootBuiltins "isinstance"=some (.builtin "isinstance"):=by decide +kernel
theorem Hl:bootBuiltins "int"=some (.type "int"):=by decide +kernel
theorem Hm:bootBuiltins "bool"=some (.type "bool"):=by decide +kernel
theorem nG:bootBuiltins "str"=some (.type "str"):=by decide +kernel
theorem jk:bootBuiltins "tuple"=some (.type "tuple"):=by decide +kernel
theorem kR:bootBuiltins "list"=some (.type "list"):=by decide +kernel
theorem pJ:bootBuiltins "reversed"=some (.type "reversed"):=by decide +kernel
theorem Hn:(10:Int) ^ 39<26 ^ 28:=by decide +kernel
structure WI(l:Int)(x:aa):Prop where
 lo: -1<=l
 hi:(l+1) * 26 ^ x.cps.toList.length<=10 ^ 39
 ab:∀c∈x.cps.toList,97<=c/\c<=122
 ne:l= -1->1<=x.cps.toList.length
 ln:x.cps.toList.length<=28
theorem WI.start(i:Int):WI ((if i<0 then -i else i) % 10 ^ 39) "":=by
 have e:(bL "").cps.toList=[]:=by decide +kernel
 have h0:(0:Int)<=(if i<0 then -i else i) % 10 ^ 39:=ng _ (by decide +kernel)
 have h1:(if i<0 then -i else i) % 10 ^ 39<10 ^ 39:=nh _ (by decide +kernel)
 refine⟨by omega,?_,?_,by omega,?_⟩
 ·rw[e,zLN,Int.pow_zero,vg];omega
 ·rw[e];simp
 ·rw[e];simp
theorem Ho{a b:Nat}(h:a<=b):(26:Int) ^ a<=26 ^ b:=by
 obtain⟨k,rfl⟩:=uG h
 rw[Int.pow_add]
 have h1:(1:Int)<=26 ^ k:=by
  induction k with
  |zero=>simp
  |succ k ih=>rw[Int.pow_succ];omega
 have h2:(0:Int)<=26 ^ a:=vh (by decide)
 calc (26:Int) ^ a=26 ^ a * 1:=by rw[vg]
  _<=26 ^ a * 26 ^ k:=Int.mul_le_mul_of_nonneg_left h1 h2
theorem WI.short{l:Int}{x:aa}(h:WI l x)(c:0<=l):x.cps.toList.length<=27:=by
 by_cases hl:x.cps.toList.length<=27
 ·exact hl
 ·exfalso
  have h1:=Ho (a:=28) (b:=x.cps.toList.length) (by omega)
  have h2:=h.hi
  have h3:(0:Int)<=26 ^ x.cps.toList.length:=vh (by decide)
  have h4:(1:Int) * 26 ^ x.cps.toList.length<=(l+1) * 26 ^ x.cps.toList.length:=zw (by omega) h3
  have h5:=Hn
  rw[Int.one_mul]at h4
  exact absurd (Int.lt_of_le_of_lt (vi h1 (vi h4 h2)) h5) (Int.lt_irrefl _)
def mh:aa:="abcdefghijklmnopqrstuvwxyz"
theorem Bw(k:Nat)(h:k<26):mh.cps.toList[k]?=some (97+k):=by
 have:∀k:Fin 26,mh.cps.toList[(k:Nat)]?=some (97+(k:Nat)):=by decide +kernel
 exact this ⟨k,h⟩
theorem fG(a b:aa):(a++b).cps.toList=a.cps.toList++b.cps.toList:=by
 show (a.cps++b.cps).toList=_
 rw[Array.toList_append]
theorem eQ(a:aa):a.length=a.cps.toList.length:=by simp[aa.length]
theorem WI.turn{l:Int}{x:aa}{c:Nat}(h:WI l x)(h0:0<=l)(hc:97<=c/\c<=122):WI (l / 26 - 1) ((⟨#[c]⟩:aa)++x):=by
 have e:((⟨#[c]⟩:aa)++x).cps.toList=c::x.cps.toList:=by rw[fG];rfl
 have hs:=h.short h0
 have hp:(0:Int)<=26 ^ x.cps.toList.length:=vh (by decide)
 have hd:0<=l / 26:=Int.ediv_nonneg h0 (by decide)
 refine⟨by omega,?_,?_,fun _=>?_,?_⟩
 ·rw[e,zLC,Int.pow_succ]
  have e1:(l / 26 - 1+1) * (26 ^ x.cps.toList.length * 26)=(l / 26 * 26) * 26 ^ x.cps.toList.length:=by
   rw[show l / 26 - 1+1=l / 26 from by omega,Int.mul_comm (26 ^ _) 26,<-Int.mul_assoc]
  rw[e1]
  exact vi (zw (by omega) hp) h.hi
 ·rw[e]
  intro d hd
  rcases bo.mp hd with rfl|hd
  ·exact hc
  ·exact h.ab d hd
 ·rw[e];simp
 ·rw[e,zLC];omega
theorem WI.wd{l:Int}{x:aa}(h:WI l x)(c:¬0<=l):Wd x/\x.cps.toList.length<=30:=
 have:=h.ln
 ⟨⟨h.ne (by have:=h.lo;omega),by omega,h.ab⟩,by omega⟩
theorem Wd.lits:Wd "oak"/\Wd "oik"/\Wd "f"/\Wd "pair"/\Wd "row"/\Wd "end"/\Wd "x"/\Wd "y"/\Wd "z":=by
 unfold Wd;decide +kernel
theorem Wd.zz{x:aa}(h:Wd x)(hl:x.cps.toList.length<=30):Wd ((("zz":aa))++x):=by
 have e:(bL "zz").cps.toList=[122,122]:=by decide +kernel
 unfold Wd
 rw[fG,e]
 refine⟨by simp,by simp only[zLA,zLC,zLN];omega,?_⟩
 intro c hc
 simp only[eA,iH,bo]at hc
 rcases hc with rfl|rfl|hc
 ·decide
 ·decide
 ·exact h.2.2 c hc
theorem bc{b:Bool}{A B:Prop}(h:b=false)(hB:B):if b=true then A else B:=by rw[h];exact cg hB
theorem cK{b:Bool}{A B:Prop}(h:b=true)(hA:A):if b=true then A else B:=by rw[h];exact jg hA
theorem Wd.ne{x:aa}(h:Wd x):x≠"":=by
 intro z
 have e:(bL "").cps.toList.length=0:=by decide +kernel
 have:=h.1
 rw[z,e]at this
 omega
theorem aN.snoc{H:Hp}{us:List V}{u:V}{ts:List Tm}{t:Tm}(h:aN H (us++[u]) (ts++[t])):aN H us ts/\ay H u t:=by
 have hl:=h.len
 simp only[zLA,zLC,zLN]at hl
 have hl':us.length=ts.length:=by omega
 refine⟨.of_at hl' fun i h1 h2=>?_,?_⟩
 ·have:=h.at i (by simp;omega) (by simp;omega)
  simpa only[oY h1,oY h2]using this
 ·have:=h.at us.length (by simp) (by simp;omega)
  simpa[hl']using this
theorem Hq{c:Nat}(h1:97<=c)(h2:c<=122):(!(!(vn mh ⟨#[c]⟩ 0 mh.length 1).isEmpty))=false:=by
 have:∀k:Fin 26,(!(!(vn mh ⟨#[97+(k:Nat)]⟩ 0 mh.length 1).isEmpty))=false:=by decide +kernel
 have h:=this ⟨c - 97,by omega⟩
 simp only[show 97+(c - 97)=c from by omega]at h
 exact h
def pK(z:aa):It:=⟨fun i _=>i<z.cps.size,fun i H x H'=>H'=H/\∃c,z.cps.toList[i]?=some c/\x= .str ⟨#[c]⟩,fun i _=>i=z.cps.size⟩
theorem Bx{P:aQ}{w:aH}{K:aA}{tg:Expr}(it:Addr)(z:aa)(t:Tok)(nm:String)
 (hn:["enumerate","zip","dict_itemiterator","dict_reverseitemiterator","odict_iterator","itertools.zip_longest","itertools.pairwise"].contains nm=false)
 (W:∀A':bm,A'.handled=none->Walks P w A' it [it] [it] z.cps.size (SignAt z) (fun i h=>h.IsStrIter it nm z t i))
 (hself:∀(A:bm)(i:Nat)(s:ah)(Q:ac->ah->Prop)(E:ac->ah->Prop),s.heap.IsStrIter it nm z t i->Q (.ref it) s->wpAny (model P w) A (pyIter (.ref it)) Q E s):
 jd P w K tg (pK z) [it] it (fun i h=>h.IsStrIter it nm z t i) where
 mem:=by simp
 obj:=fun i h st b hb=>by
  have e:b=it:=by simpa using hb
  subst e
  obtain⟨o,e,c,d⟩:=st
  exact⟨o,e,fun v z=>by rw[d]at z;cases z⟩
 keep:=fun i h h' st k=>let ⟨o,ho,r⟩:=st;⟨o,k it (by simp) o ho,r⟩
 item:=by
  intro X hP hw hK hc i pins s σ H E I hf st hg
  subst hP hw hK
  obtain⟨f0,f1,f2,f3,f4,f5⟩:=hf it (by simp)
  refine(W _ (I.ok.hd hc)).item i s _ _ hg st fun v h' tk hv st' kk=>?_
  obtain⟨c,u,hc',rfl⟩:=hv
  have I1:Inv X pins σ H { s with heap:=h',toks:=tk}:=I.turned (fun b o hb e=>kk b o (by simpa using hb) e) f0 f1 f3 f4 f5
  obtain⟨o,e,c0,d⟩:=id st'
  exact⟨_,rfl,pA (s:={ s with heap:=h',toks:=tk}) e c0 d hn ⟨.str ⟨#[c]⟩,H,I1,⟨u,rfl⟩,⟨rfl,c,by simpa using hc',rfl⟩,st',fun b hb=>(hf b hb).1⟩⟩
 done:=by
  intro X hP hw hK hc i pins s σ H E I hf st hg
  subst hP hw hK
  obtain⟨f0,f1,f2,f3,f4,f5⟩:=hf it (by simp)
  have hi:i=z.cps.size:=hg
  subst hi
  exact(W _ (I.ok.hd hc)).done s _ _ st fun h' tk kk=>⟨rfl,I.turned (fun b o hb e=>kk b o (by simpa using hb) e) f0 f1 f3 f4 f5⟩
 self:=fun A i s Q E st h=>hself A i s Q E st h
section
variable{X:Cx}{tg:Expr}
def Hr(tl:TE):TI:=fun σ H R=>tl σ H fun x H1=>∃z,x= .str z/\R (pK z) H1
theorem Hs{l:Expr}{tl:TE}(hl:PE X l tl):PI X tg l (Hr tl):=by
 intro pins s σ H R I h
 refine aK (hl pins s σ H _ I h) fun v s1 ⟨x,H1,I1,r1,q1⟩=>?_
 obtain⟨z,e,q⟩:=q1
 subst e
 obtain⟨t,rfl⟩:=r1
 have fp:∀b∈[s1.heap.objs.size],dM X pins H1 b:=fun b hb=>by
  have e:b=s1.heap.objs.size:=by simpa using hb
  subst e
  exact I1.fpOk (aE _) (I1.hok.fresh (aE _))
 cases ha:z.cps.all (· <128)
 ·refine wpAny_pyIter_wide ha ?_
  exact⟨s1.heap.objs.size,[s1.heap.objs.size],_,_,H1,rfl,I1.kept (t':=s1.toks) fun b o e=>bj _ e,Bx _ z t "str_iterator" (by decide) (fun A' hA=>Walks.strWide hA _ z t) (fun A i s Q E st h=>wpAny_pyIter_striter_wide st h),⟨_,bQ _ rfl,rfl,rfl⟩,fp,q⟩
 ·refine wpAny_pyIter_ascii ha ?_
  exact⟨s1.heap.objs.size,[s1.heap.objs.size],_,_,H1,rfl,I1.kept (t':=s1.toks) fun b o e=>bj _ e,Bx _ z t "str_ascii_iterator" (by decide) (fun A' hA=>Walks.strAscii hA _ z t) (fun A i s Q E st h=>wpAny_pyIter_striter_ascii st h),⟨_,bQ _ rfl,rfl,rfl⟩,fp,q⟩
end
theorem Ht{z:aa}{g:TG}{tb:TS}{D:cZ}{σ:L2.St}{H:Hp}(Pv:Nat->L2.St->Hp->Prop)(h0:Pv 0 σ H)
 (hs:∀i c σ H,z.cps.toList[i]?=some c->Pv i σ H->g (.str ⟨#[c]⟩) σ H fun σ2 H2=>tb { D with nx:=Pv (i+1),ct:=Pv (i+1),bk:=D.nx} σ2 H2) (hd:∀σ H,Pv z.cps.size σ H->D.nx σ H):
 ∃W:Nat->Nat->L2.St->Hp->Prop,(∃m,W 0 m σ H)/\∀i m σ H,W i m σ H->
  ((pK z).stop i H/\D.nx σ H)\/((pK z).go i H/\∃N:L2.St->Hp->Prop,(∀σ' H',N σ' H'->∃m',m'<m/\W (i+1) m' σ' H')/\∀x H',(pK z).yld i H x H'->g x σ H' fun σ2 H2=>tb { D with nx:=N,ct:=N,bk:=D.nx} σ2 H2):=by
 refine⟨fun i m σ H=>m=z.cps.size - i/\i<=z.cps.size/\Pv i σ H,⟨z.cps.size,by simp,cQ _,h0⟩,?_⟩
 rintro i m σ H ⟨rfl,hi,p⟩
 by_cases c:i=z.cps.size
 ·subst c
  exact .inl ⟨rfl,hd σ H p⟩
 ·have hlt:i<z.cps.size:=by omega
  refine .inr ⟨hlt,Pv (i+1),fun σ' H' n=>⟨z.cps.size - (i+1),by omega,rfl,by omega,n⟩,?_⟩
  rintro x H' ⟨rfl,c,hc,rfl⟩
  exact hs i c σ H' hc p
section
variable{X:Cx}{tg:Expr}
end
open Sem (wp)
namespace RV
theorem v4:Manifest.owners.lookup (String.ofList ['d','e','s','r','e','v','e','r'].reverse)=some Manifest.sig_reversed:=by kernel_rfl
theorem slot_next:Slot "reversed" "__next__" "reversed.__next__":=
 .of (owner:="reversed") (n:="__next__") (by rw[hG,hJ];kernel_rfl) (by decide +kernel) (by decide +kernel) (by decide +kernel)
  (by first|exact .inl (by decide +kernel)|exact .inr (by decide +kernel)) (by rw[iV];kernel_rfl)
theorem entry_next:entryFor table "reversed.__next__"=some dc.«reversed.__next__»:=uo (by kernel_rfl)
theorem args_next(a:ac):argsOk "reversed.__next__" ⟨[a],[]⟩:=by
 unfold argsOk;rw[uq (id:="reversed.__next__") (n:=['_','_','t','x','e','n','_','_']) (o:=['d','e','s','r','e','v','e','r']) (by kernel_rfl) v4];kernel_rfl
theorem slot_iter:Slot "reversed" "__iter__" "reversed.__iter__":=
 .of (owner:="reversed") (n:="__iter__") (by rw[hG,hJ];kernel_rfl) (by decide +kernel) (by decide +kernel) (by decide +kernel)
  (by first|exact .inl (by decide +kernel)|exact .inr (by decide +kernel)) (by rw[iV];kernel_rfl)
theorem args_iter(a:ac):argsOk "reversed.__iter__" ⟨[a],[]⟩:=by
 unfold argsOk;rw[uq (id:="reversed.__iter__") (n:=['_','_','r','e','t','i','_','_']) (o:=['d','e','s','r','e','v','e','r']) (by kernel_rfl) v4];kernel_rfl
theorem entry_iter:entryFor table "reversed.__iter__"=some dc.«dict_keyiterator.__iter__»:=
 entryFor_alias (id':="dict_keyiterator.__iter__") (by kernel_rfl) (by first|rfl|decide +kernel|(unfold String.splitOn;simp +decide [String.splitOnAux])) (by decide +kernel) (by kernel_rfl)
theorem entry_new:entryFor table "reversed.__new__"=some dc.«reversed.__new__»:=uo (by kernel_rfl)
theorem tuple_norev:typeLookup (.type "tuple") "__reversed__"=pure none:=by rw[hG,hJ];kernel_rfl
theorem sub_tuple_dict:isSubtype (.type "tuple") (.type "dict")=pure false:=by rw[iV];kernel_rfl
theorem sub_rev:isSubtype (.type "reversed") (.type "reversed")=pure true:=by rw[iV];kernel_rfl
theorem Hu:Slot "reversed" "__init__" "object.__init__":=
 .of (owner:="object") (n:="__init__") (by rw[hG,hJ];kernel_rfl) (by decide +kernel) (by decide +kernel) (by decide +kernel)
  (by first|exact .inl (by decide +kernel)|exact .inr (by decide +kernel)) (by rw[iV];kernel_rfl)
theorem By:mroOf (.type "reversed")=pure [.type "reversed",.type "object"]:=by rw[mroOf_type];kernel_rfl
theorem Hv:typeLookup (.type "reversed") "__new__"=pure (some (.builtin "reversed.__new__")):=by rw[hG,hJ];kernel_rfl
theorem Hw:Bind.madeBy (.type "reversed")=pure (some "reversed.__new__"):=madeBy_type By Hv (by decide +kernel)
theorem called_rev:TypeCalled "reversed" "reversed.__new__" "object.__init__":=
 ⟨by decide +kernel,by decide +kernel,⟨_,_,By⟩,Hw,by decide +kernel,sub_rev,Hu⟩
end RV
def iN(t:Addr)(i:Int):aG:={ cls:= .type "reversed",data:= .fields #[.ref t,rawInt i]}
section
variable{prog:aQ}{w:aH}{A:bm}{E:ac->ah->Prop}{s:ah}
theorem Bz{it t:Addr}{i:Nat}{items:Array ac}{x:ac}{Q:Option ac->ah->Prop}(hit:s.heap.get? it=some (iN t (i:Int)))(ht:cw s.heap t items)(hx:items[i]?=some x)(hz:(items.size:Int)<2 ^ 63)
 (hQ:∀h' tk,h'.get? it=some (iN t ((i:Int) - 1))->gf it s.heap h'->Q (some x) { s with heap:=h',toks:=tk}):wpAny (model prog w) A (pyNext (.ref it)) Q E s:=by
 have hT:s.TypeIs (.ref it) "reversed":=⟨_,hit,rfl⟩
 have hi:i<items.size:=(zt.mp hx).1
 unfold pyNext
 refine ag (hW (gv (name:=bL "__next__") hT RV.slot_next (d4 RV.slot_next hT RV.entry_next ?_ (RV.args_next _))))
 unfold dc.«reversed.__next__»
 refine ag (dJ (a:=(ac.ref it,[])) rfl ?_)
 try dsimp only
 refine ag (cn hit rfl (x:= .ref t) rfl ?_)
 refine ag (cn hit rfl (x:=rawInt (i:Int)) rfl ?_)
 show wpAny _ _ (if (i:Int)<0 then _ else _) _ _ s
 rw[if_neg (by omega)]
 refine ag (fN ht.typeIs u8.lookup ?_)
 show wpAny _ _ (if (false:Bool)=true then _ else _) _ _ s
 rw[if_neg cM]
 refine ag (oR ?_)
 refine ag (hW (getItem_tuple (j:=i) (x:=x) (s:={ s with toks:=s.toks+1}) ht (by omega) (by omega) (by unfold seqIndex?;simp;omega) hx ?_))
 refine ag (cn (s:={ s with toks:=s.toks+1}) hit rfl (x:=rawInt (i:Int)) rfl ?_)
 refine ag (j6 (s:={ s with toks:=s.toks+1}) hit rfl (by simp) ?_)
 refine aP ⟨x,rfl,aP (hQ _ _ ?_ (ko ..))⟩
 exact iF _ hit (pp (kn rfl _))
theorem BA{it t:Addr}{Q:Option ac->ah->Prop}(hh:A.handled=none)(hit:s.heap.get? it=some (iN t (-1)))
 (hQ:∀h',uJ it s.heap h'->Q none { s with heap:=h'}):wpAny (model prog w) A (pyNext (.ref it)) Q E s:=by
 have hT:s.TypeIs (.ref it) "reversed":=⟨_,hit,rfl⟩
 unfold pyNext
 refine ag (hW (gv (name:=bL "__next__") hT RV.slot_next (d4 RV.slot_next hT RV.entry_next ?_ (RV.args_next _))))
 unfold dc.«reversed.__next__»
 refine ag (dJ (a:=(ac.ref it,[])) rfl ?_)
 try dsimp only
 refine ag (cn hit rfl (x:= .ref t) rfl ?_)
 refine ag (cn hit rfl (x:=rawInt (-1)) rfl ?_)
 show wpAny _ _ (if (-1:Int)<0 then _ else _) _ _ s
 rw[if_pos (by decide)]
 refine ag (iW ?_)
 refine ag ?_
 refine ag (m:=setField (.ref it) 1 (rawInt (-1))) (j6 hit rfl (by simp) ?_)
 have hit2:=iF (h:=s.heap) (rA (·.setIfInBounds 1 (rawInt (-1)))) hit (pp (kn rfl _))
 refine j6 (s:={ s with heap:=s.heap.update it (rA (·.setIfInBounds 1 (rawInt (-1))))}) hit2 (kn rfl _) (by simp) ?_
 refine ag ?_
 show wpAny _ _ (newExc (.type "StopIteration") [] >>= _) _ _ _
 refine ag ?_
 simp only[newExc,newTuple]
 refine ag (gx ?_ (by size_fits))
 refine ag (m:=firstArgMember _ _) (dJ (a:=ac.none) (by first|rfl|(simp only[firstArgMember];rfl)) ?_)
 refine gx ?_ (by size_fits)
 simp only[raiseNew]
 refine ag (ur ?_)
 first|rw[show A.in1.handled=none from hh]|rw[hh]
 refine ag (aP (ut ?_))
 refine ag (ju (T:="StopIteration") (b:=true) ⟨_,bQ _ rfl,rfl⟩ qH ?_)
 exact aP (hQ _ ((((ko ..).trans (ko ..)).extBut.push _).push _))
theorem v5{it t:Addr}{i:Int}{Q:ac->ah->Prop}(hit:s.heap.get? it=some (iN t i))(h:Q (.ref it) s):wpAny (model prog w) A (pyIter (.ref it)) Q E s:=by
 have hT:s.TypeIs (.ref it) "reversed":=⟨_,hit,rfl⟩
 refine qI hT RV.slot_iter (d4 RV.slot_iter hT RV.entry_iter ?_ (RV.args_iter _))
 show wpAny _ _ (ret (.ref it)) _ _ s
 exact aP ⟨_,rfl,"reversed",_,hT,RV.slot_next.lookup,h⟩
theorem BB(a:ac):zo "reversed" ⟨[.type "reversed",a],[]⟩=pure (.type "reversed",[a]):=by
 unfold zo
 simp only[isType,RV.sub_rev,vq,Bool.not_true,iI,if_false]
theorem Hx(t:Addr)(items:Array ac):
 Meets (dc.«reversed.__new__» ⟨[.type "reversed",.ref t],[]⟩) (fun _ R s=>cw s.heap t items/\(items.size:Int)<2 ^ 63/\
  ∀tk,R (.ok (.ret (.ref s.heap.objs.size))) { s with heap:=s.heap.push (iN t ((items.size:Int) - 1)),toks:=tk}):=
 .of_wp fun prog w A R s h=>by
  obtain⟨ht,hz,h⟩:=h
  unfold dc.«reversed.__new__»
  refine ag (dJ (BB _) ?_)
  try dsimp only
  refine ag (dJ (a:=()) (by first|rfl|kernel_rfl) ?_)
  refine ag (dJ (a:=()) (by first|rfl|kernel_rfl) ?_)
  try dsimp only
  refine ag (fN ht.typeIs RV.tuple_norev ?_)
  try dsimp only
  refine ag ?_
  refine ag (m:=isInstance (.ref t) (.type "dict")) (ju ht.typeIs RV.sub_tuple_dict ?_)
  show wpAny _ _ (if (false:Bool)=true then _ else _) _ _ _
  rw[if_neg cM]
  refine ag (fN ht.typeIs u8.lookup ?_)
  try dsimp only
  rw[if_pos (by decide)]
  refine aP ?_
  show wpAny _ _ (if (false:Bool)=true then _ else _) _ _ _
  rw[if_neg cM]
  refine ag (vc ht hz ?_)
  refine ag (dJ (a:=some (items.size:Int)) (by first|rfl|simp[asInt?]) ?_)
  try dsimp only
  refine ag (m:=newObj (.type "reversed") (.fields #[.ref t,rawInt ((items.size:Int) - 1)])) (gx ?_ (by size_fits))
  exact aP ⟨_,rfl,h _⟩
theorem BC{t:Addr}{items:Array ac}{Q:ac->ah->Prop}(ht:cw s.heap t items)(hz:(items.size:Int)<2 ^ 63)
 (h:∀tk,Q (.ref s.heap.objs.size) { s with heap:=s.heap.push (iN t ((items.size:Int) - 1)),toks:=tk}):wpAny (model prog w) A (call (.type "reversed") [.ref t]) Q E s:=
 qJ RV.called_rev (by decide) (by kernel_rfl) (by kernel_rfl) (fun obj=>yR obj _) RV.entry_new (Hx t items) ⟨ht,hz,fun tk=>⟨⟨_,bQ _ rfl,rfl⟩,h tk⟩⟩
end
def pL(K:aA)(a:Addr)(xs:List V):It:=
 ⟨fun i H=>aj K H a xs/\i<xs.length,fun i H x H'=>H'=H/\xs.reverse[i]?=some x,fun i H=>i=xs.length⟩
theorem Hy{P:aQ}{w:aH}{K:aA}{tg:Expr}(a it:Addr)(xs:List V):jd P w K tg (pL K a xs) [it] it (fun i h=>h.get? it=some (iN a ((xs.length:Int) - 1 - (i:Nat)))) where
 mem:=by simp
 obj:=fun i h st b hb=>by
  have e:b=it:=by simpa using hb
  subst e
  exact⟨_,st,fun v z=>by
    have z':j4.fields _=j4.cell v:=z
    cases z'⟩
 keep:=fun i h h' st k=>k it (by simp) _ st
 item:=by
  intro X hP hw hK hc i pins s σ H E I hf st hg
  subst hP hw hK
  obtain⟨hq,hi⟩:=hg
  obtain⟨its,rv,p,hz⟩:=I.tuple hq
  obtain⟨f0,f1,f2,f3,f4,f5⟩:=hf it (by simp)
  have hl:=rv.length
  have hn:=fw
  have e1:(xs.length:Int) - 1 - (i:Nat)=((xs.length - 1 - i:Nat):Int):=by omega
  obtain⟨x,hx⟩:∃x,xs[xs.length - 1 - i]?=some x:=⟨_,zGE (by omega)⟩
  obtain⟨u,hu,ru⟩:=rv.get hx
  rw[e1]at st
  refine Bz st p (x:=u) (by simpa using hu) (by simp only[bX];omega) fun h' tk st' sb=>?_
  have I1:Inv X pins σ H { s with heap:=h',toks:=tk}:=I.turned (fun b o hb e=>(sb.2 b hb).trans e) f0 f1 f3 f4 f5
  have e2:((xs.length - 1 - i:Nat):Int) - 1=(xs.length:Int) - 1 - ((i+1:Nat):Int):=by omega
  rw[e2]at st'
  exact⟨u,rfl,pA (s:={ s with heap:=h',toks:=tk}) (n:="reversed") st' rfl rfl (by decide) ⟨x,H,I1,ru,⟨rfl,by rw[oZ (by omega)];exact hx⟩,st',fun b hb=>(hf b hb).1⟩⟩
 done:=by
  intro X hP hw hK hc i pins s σ H E I hf st hg
  subst hP hw hK
  obtain⟨f0,f1,f2,f3,f4,f5⟩:=hf it (by simp)
  have hi:i=xs.length:=hg
  have e1:(xs.length:Int) - 1 - (i:Nat)= -1:=by omega
  rw[e1]at st
  exact BA (I.ok.hd hc) st fun h' eb=>⟨rfl,I.turned (t':=s.toks) (fun b o hb e=>eb b o hb e) f0 f1 f3 f4 f5⟩
 self:=fun _ _ _ _ _ st h=>v5 st h
section
variable{X:Cx}{tg:Expr}
def Hz(K:aA)(ta:TA):TI:=fun σ H R=>ta σ H fun vs H1=>∃a xs,vs=[.ref a]/\aj K H1 a xs/\R (pL K a xs) H1
theorem HG{a:Expr}{ta:TA}{p pos:Pos}(hg:Gl X "reversed")(hm:X.mg "reversed"=none)(ha:PA X [a] ta)(hs:starEach [a] X.env=[(false,eval a X.env)]:=by rfl):PI X tg (.Call (.Name "reversed" p) [a] [] pos) (Hz X.K ta):=by
 intro pins s σ H R I h
 refine Call_ (fq I hg hm pJ (gg (aK (ha pos pins s σ H _ I h) fun us s1 ⟨vs,H1,I1,r1,q1⟩=>?_) hs rfl))
 obtain⟨b,xs,e,hq,q⟩:=q1
 subst e
 obtain⟨u,rfl,ru⟩:=je r1
 cases ru
 obtain⟨its,rv,pl,hz⟩:=I1.tuple hq
 have hl:=rv.length
 have hn:=fw
 refine BC pl (by simp only[bX];omega) fun tk=>?_
 have e3:(((its.toArray).size:Nat):Int) - 1=(xs.length:Int) - 1 - ((0:Nat):Int):=by simp only[bX];omega
 rw[e3]
 have I2:Inv X pins σ H1 { s1 with heap:=s1.heap.push (iN b ((xs.length:Int) - 1 - ((0:Nat):Int))),toks:=tk}:=I1.kept fun b o e=>bj _ e
 refine v5 (s:={ s1 with heap:=s1.heap.push (iN b ((xs.length:Int) - 1 - ((0:Nat):Int))),toks:=tk}) (t:=b) (i:=(xs.length:Int) - 1 - ((0:Nat):Int)) (bQ _ rfl) ?_
 refine⟨s1.heap.objs.size,[s1.heap.objs.size],_,_,H1,rfl,I2,Hy b _ xs,bQ _ rfl,fun c hc=>?_,q⟩
 have e:c=s1.heap.objs.size:=by simpa using hc
 subst e
 exact I1.fpOk (aE _) (I1.hok.fresh (aE _))
end
theorem HH{K:aA}{a:Addr}{xs:List V}{g:TG}{tb:TS}{D:cZ}{σ:L2.St}{H:Hp}(Pv:Nat->L2.St->Hp->Prop)(h0:Pv 0 σ H)(hl:∀i σ H,i<=xs.length->Pv i σ H->aj K H a xs)
 (hs:∀i x σ H,xs.reverse[i]?=some x->Pv i σ H->g x σ H fun σ2 H2=>tb { D with nx:=Pv (i+1),ct:=Pv (i+1),bk:=D.nx} σ2 H2) (hd:∀σ H,Pv xs.length σ H->D.nx σ H):
 ∃W:Nat->Nat->L2.St->Hp->Prop,(∃m,W 0 m σ H)/\∀i m σ H,W i m σ H->
  ((pL K a xs).stop i H/\D.nx σ H)\/((pL K a xs).go i H/\∃N:L2.St->Hp->Prop,(∀σ' H',N σ' H'->∃m',m'<m/\W (i+1) m' σ' H')/\∀x H',(pL K a xs).yld i H x H'->g x σ H' fun σ2 H2=>tb { D with nx:=N,ct:=N,bk:=D.nx} σ2 H2):=by
 refine⟨fun i m σ H=>m=xs.length - i/\i<=xs.length/\Pv i σ H,⟨xs.length,by simp,cQ _,h0⟩,?_⟩
 rintro i m σ H ⟨rfl,hi,p⟩
 by_cases c:i=xs.length
 ·subst c
  exact .inl ⟨rfl,hd σ H p⟩
 ·have hlt:i<xs.length:=by omega
  refine .inr ⟨⟨hl i σ H hi p,hlt⟩,Pv (i+1),fun σ' H' k=>⟨xs.length - (i+1),by omega,rfl,by omega,k⟩,?_⟩
  rintro x H' ⟨rfl,hx⟩
  exact hs i x σ H' hx p
def cL(P:aQ)(w:aH)(K:aA)(mg:aa->Option ac)(base:az)(k:Nat)(C:Addr)(m:aa)(ps:List aa)(sp:Sp):Prop:=
 ∃(f:Addr)(fd:be),bf P w K mg base bp k f fd ps sp/\im K fd ps []/\rY K C m f/\ik K C
def v6(P:aQ)(w:aH)(K:aA)(mg:aa->Option ac)(base:az)(k:Nat)(C:Addr)(x:aa)(ps:List aa)(sp:Sp):Prop:=
 ∃(f:Addr)(fd:be),Mk K C f/\bf P w K mg base bp k f fd ps sp/\im K fd ps []/\mg x=some (.ref C)
section
variable{X:Cx}{k:Nat}{x m:aa}{ps:List aa}{sp:Sp}{p pos apos:Pos}{o e:Expr}{es:List Expr}{t:TA}{ta:TE}{C:Addr}
theorem dP{pl:Sem Bool}(M:cL X.prog X.w X.K X.mg X.base k C m ps sp)(hr:cS k X.A)(he:PE X o ta)(ha:PA X (e::es) t)
 (hst:starEach (e::es) X.env=(false,eval e X.env)::starEach es X.env:=by rfl) (hpl:(backTo pos (starEach es X.env)).any (·.1)=false:=by rfl)
 (ht:eval (.Call (.Attribute o m apos) (e::es) [] pos) X.env=(do
  let ov <-eval o X.env
  standAt apos.atName
  let (f,first) <-holding [ov] (getMethod ov m pl)
  callWith pos f first (backTo pos (starEach (e::es) X.env)) (backToKw pos (keywordEach [] X.env))):=by rfl):
 PE X (.Call (.Attribute o m apos) (e::es) [] pos) (r8 C m sp [] E0 ta t):=by
 obtain⟨f,fd,F,b,mm,c⟩:=M
 exact FY (pl:=pl) he c mm F hr b .nil sh ha hst hpl ht
theorem HI{pl:Sem Bool}(M:cL X.prog X.w X.K X.mg X.base k C m ps sp)(hr:cS k X.A)(he:PE X o ta)
 (ht:eval (.Call (.Attribute o m apos) [] [] pos) X.env=(do
  let ov <-eval o X.env
  standAt apos.atName
  let (f,first) <-holding [ov] (getMethod ov m pl)
  callWith pos f first (backTo pos (starEach [] X.env)) (backToKw pos (keywordEach [] X.env))):=by rfl):
 PE X (.Call (.Attribute o m apos) [] [] pos) (r8 C m sp [] E0 ta r6):=by
 obtain⟨f,fd,F,b,mm,c⟩:=M
 exact FZ (pl:=pl) he c mm F hr b .nil sh ht
theorem HJ(N:v6 X.prog X.w X.K X.mg X.base k C x ps sp)(hr:cS (k+1) X.A)(ha:PA X (e::es) t)(hg:Gl X x:=by rfl)(hdb:(x==("__debug__":aa))=false:=by decide)
 (he:starEach (e::es) X.env=(false,eval e X.env)::starEach es X.env:=by rfl) (hpl:(backTo pos (starEach es X.env)).any (·.1)=false:=by rfl):
 PE X (.Call (.Name x p) (e::es) [] pos) (At C sp [] E0 t):=by
 obtain⟨f,fd,M,F,b,mg⟩:=N
 exact Ga M F hr hg mg b .nil sh ha hdb he hpl
end
def BD(H:Hp)(v:V):Pc->Prop
 |.sg x=>v= .str x
 |.tm u=>ay H v u
def jl:Pc->Prop
 |.sg x=>x.cps.toList.length<=1
 |.tm u=>u.Ok
def dr(H:Hp)(vs:List V)(l:List Pc):Prop:=Paired (BD H) vs l
theorem dr.len{H:Hp}{vs:List V}{l:List Pc}(h:dr H vs l):vs.length=l.length:=Paired.length h
theorem dr.mono{H H':Hp}{vs:List V}{l:List Pc}(k:aR H H')(h:dr H vs l):dr H' vs l:=
 Paired.imp' (fun v p hp=>by
  cases p with
  |sg x=>exact hp
  |tm u=>exact ay.mono k hp) h
theorem dr.app{H:Hp}:∀{vs us:List V}{l m:List Pc},dr H vs l->dr H us m->dr H (vs++us) (l++m)
 |_,_,_,_,.nil,h=>h
 |_,_,_,_,.cons a b,h=>.cons a (dr.app b h)
theorem dr.snoc{H:Hp}:∀{vs:List V}{v:V}{l:List Pc}{p:Pc},dr H (vs++[v]) (l++[p])->dr H vs l/\BD H v p
 |[],v,[],p,h=>by
  cases h with
  |cons a b=>exact⟨.nil,a⟩
 |[],v,q::l,p,h=>by
  have:=h.len;simp at this
 |u::vs,v,[],p,h=>by
  have:=h.len;simp at this
 |u::vs,v,q::l,p,h=>by
  cases h with
  |cons a b=>obtain⟨h1,h2⟩:=dr.snoc b;exact⟨.cons a h1,h2⟩
theorem iw{α:Type}{l:List α}(h:l≠[]):∃l0 x,l=l0++[x]:=⟨l.dropLast,l.getLast h,(uO h).symm⟩
def cJ(m:Nat):List Nat:=(qN 10 m).map Char.toNat
theorem v7(m:Nat):NumText.AllDigits (cJ m):=by
 intro c hc
 obtain⟨ch,hch,e⟩:=bK.mp hc
 have r:=PyProof.Rows.digit_range (Nat.isDigit_of_mem_toDigits (by decide) (by decide) hch)
 rw[<-e]
 exact r
theorem pM(m:Nat):cJ m≠[]:=by
 intro e
 have h:=PySem.toDigits_len_ge 10 m
 rw[List.map_eq_nil_iff.mp e]at h
 exact absurd h (by decide)
theorem HK{m:Nat}(h:10<=m):cJ m=cJ (m / 10)++[(Nat.digitChar (m % 10)).toNat]:=by
 have hm:m % 10<10:=d5 m (by decide)
 have t:qN 10 (m / 10)++qN 10 (m % 10)=qN 10 (10 * (m / 10)+m % 10):=Nat.toDigits_append_toDigits (by decide) (by omega) hm
 rw[Nat.div_add_mod]at t
 unfold cJ
 rw[<-t,zMA,yj hm]
 rfl
theorem BE{m:Nat}(h:m<10):cJ m=[48+m]:=by
 unfold cJ
 rw[yj h]
 have:∀d:Nat,d<10->(Nat.digitChar d).toNat=48+d:=by decide
 simp[this m h]
theorem BG:∀(m:Nat)(r:List Nat),cJ m=48::r->m=0:=by
 intro m
 induction m using Nat.strongRecOn with
 |_ m ih=>
  intro r e
  by_cases h:m<10
  ·rw[BE h]at e
   have:=(List.cons.inj e).1
   omega
  ·rw[HK (by omega)]at e
   cases hf:cJ (m / 10)with
   |nil=>exact absurd hf (pM _)
   |cons c cs=>
    rw[hf]at e
    have hc:c=48:=(List.cons.inj e).1
    have:=ih (m / 10) (by omega) cs (by rw[hf,hc])
    omega
theorem BH{m k:Nat}(hk:1<=k)(h:m<10 ^ k):(cJ m).length<=k:=by
 unfold cJ
 rw[zLM]
 exact PyProof.Rows.digits10_le hk h
theorem BI(m:Nat):vt (cJ m)=m:=PySem.W.KIN.val_back m
theorem BJ(m:Nat):jh (m:Int)=cJ m:=PySem.W.KIN.signs_num m
theorem BK(m:Nat):jh (Int.negSucc m)=45::cJ (m+1):=by
 unfold jh
 rw[PyProof.Rows.signs_ofString]
 show ("-"++Nat.repr (m+1)).toList.map Char.toNat=_
 rw[String.toList_append,zMA,Nat.toList_repr]
 rfl
theorem big{n:Nat}(h:n<=16000000):n<sizeLine:=qO h (by decide)
theorem d9{n:Nat}(h:n<=16000000):n<=sizeLine:=mT (big h)
def fV(xs:List aa):List Nat:=xs.flatMap fun x=>x.cps.toList
theorem BL(xs:List aa)(z:aa):fV (xs++[z])=fV xs++z.cps.toList:=by simp[fV]
theorem BM(xs:List aa):(fV xs).length=(xs.map (·.length)).sum:=by
 induction xs with
 |nil=>rfl
 |cons x r ih=>simp only[fV,o0,zLA,bM,jD]at *;rw[ih,eQ]
theorem BN(xs:List aa):(pw "" xs).cps.toList=fV xs:=by
 have e:pw "" xs=rf "" xs:=rK (zg _ _)
 rw[e]
 have e0:(bL "").cps.toList=[]:=by decide +kernel
 induction xs with
 |nil=>rfl
 |cons x r ih=>
  cases r with
  |nil=>simp[rf,fV]
  |cons y r=>
   have:rf "" (x::y::r)=x++""++rf "" (y::r):=rfl
   rw[this,fG,fG,e0,ih (rK (zg _ _))]
   simp[fV]
theorem HL{n:Int}(h:(Tm.num n).Ok):n.natAbs.log2<1920:=by
 simp only[Tm.Ok]at h
 have h1:n.natAbs<=10 ^ 61:=by
  have:((10 ^ 61:Nat):Int)=10 ^ 61:=by norm_cast
  omega
 by_cases h0:n.natAbs=0
 ·rw[h0];decide
 ·rw[Nat.log2_lt h0]
  exact qO h1 (by decide +kernel)
theorem HM{n:Int}(h:(Tm.num n).Ok):(jh n).length<=63:=by
 simp only[Tm.Ok]at h
 have c:((10 ^ 61:Nat):Int)=10 ^ 61:=by norm_cast
 cases n with
 |ofNat m=>
  have:=BH (m:=m) (k:=62) (by decide) (by have:(Int.ofNat m)<=10 ^ 61:=h.2;have e:(Int.ofNat m)=(m:Int):=rfl;have:m<=10 ^ 61:=by omega
                                          exact qO this (by decide +kernel))
  rw[show (Int.ofNat m)=(m:Int)from rfl,BJ];omega
 |negSucc m=>
  have:=BH (m:=m+1) (k:=62) (by decide) (by have:m+1<=10 ^ 61:=by omega
                                            exact qO this (by decide +kernel))
  rw[BK,zLC];omega
theorem BO{n:Nat}:∀{l:List Tm},(∀t∈l,t.line.length+1<=70 * t.nodes)->(fE l).length<=70 * aJ l
 |[],_=>by simp[fE,aJ]
 |t::r,h=>by
  have h1:=h t (by simp)
  have h2:=BO (n:=n) (l:=r) fun u hu=>h u (by simp[hu])
  simp only[fE,aJ,zLC,zLA]
  omega
theorem Tm.line_len(t:Tm):t.Ok->t.line.length+1<=70 * t.nodes:=by
 induction t using Tm.ind with
 |h1 n=>intro h;have:=HM h;simp only[Tm.line,Tm.nodes];omega
 |h2 w=>intro h;simp only[Tm.Ok]at h;have:=h.2.1;simp only[Tm.line,Tm.nodes];omega
 |h3 w=>intro h;simp only[Tm.Ok]at h;have:=h.2.1;simp only[Tm.line,Tm.nodes,zLC];omega
 |h4 w ps ih=>
  intro h
  simp only[Tm.Ok]at h
  obtain⟨hw,hne,hok⟩:=h
  rw[lZ]at hok
  have:=hw.2.1
  cases ps with
  |nil=>exact absurd rfl hne
  |cons p r=>
   have h1:=ih p (by simp) (hok p (by simp))
   have h2:=BO (n:=0) (l:=r) fun u hu=>ih u (by simp[hu]) (hok u (by simp[hu]))
   simp only[Tm.line,Tm.nodes,aJ,nF,zLA,zLC,zLN]
   omega
theorem HN{t:Tm}{ts:List Tm}(h:dY (t::ts)):∀c∈jO t ts,jl c:=by
 rw[lZ]at h
 intro c hc
 unfold jO ji at hc
 simp only[br,bo,eL,or_false,yy,mY]at hc
 rcases hc with(rfl|⟨u,hu,rfl|rfl⟩)|rfl
 ·simp[jl,Bf]
 ·exact h u (by simp[hu])
 ·simp[jl,Be]
 ·exact h t (by simp)
section
variable{X:Cx}{x:aa}{p pos:Pos}{e:Expr}{es:List Expr}{t:TA}{id T:String}{r:List V->Hp->VK->Prop}
theorem ca(hc:gG X (.builtin id) r)(hm:X.mg x=none)(hv:bootBuiltins x=some (.builtin id))(ha:PA X (e::es) t)(hg:Gl X x:=by rfl)(hn:x≠"__name__":=by decide)(hdb:(x==("__debug__":aa))=false:=by decide)
 (he:starEach (e::es) X.env=(false,eval e X.env)::starEach es X.env:=by rfl) (hpl:(backTo pos (starEach es X.env)).any (·.1)=false:=by rfl):PE X (.Call (.Name x p) (e::es) [] pos) (pE r t):=Ge hc hg hm hv ha hn hdb he hpl
theorem jm(hc:gG X (.type T) r)(hm:X.mg x=none)(hv:bootBuiltins x=some (.type T))(ha:PA X (e::es) t)(hg:Gl X x:=by rfl)(hn:x≠"__name__":=by decide)(hdb:(x==("__debug__":aa))=false:=by decide)
 (he:starEach (e::es) X.env=(false,eval e X.env)::starEach es X.env:=by rfl) (hpl:(backTo pos (starEach es X.env)).any (·.1)=false:=by rfl):PE X (.Call (.Name x p) (e::es) [] pos) (pE r t):=Gf hc hg hm hv ha hn hdb he hpl
theorem ix(hm:X.mg x=none)(hv:bootBuiltins x=some (.type T))(hg:Gl X x:=by rfl)(hn:x≠"__name__":=by decide)(hdb:(x==("__debug__":aa))=false:=by decide):PE X (.Name x pos) (tC (.ty T)):=E3 hg hm hv rfl hn hdb
end
section
variable{P:aQ}{w:aH}{K:aA}{mg:aa->Option ac}{base:az}{N:List aa}{qual:aa}{scope:Scope}{f:Addr}{cd:ac}{A:bm}{outer:List Env}{s0:ah}{H0:Hp}{E:XK}
end
section
variable{X:Cx}{x:aa}{C:Addr}{np cpos pos:Pos}{e:Expr}{es:List Expr}{t:TA}{B newId initId:String}{bmB:List ac}
end
section
variable{X:Cx}{pins:List (Addr×aG)}{σ:L2.St}{H:Hp}{s:ah}{ea T:Addr}{cls fl:ac}
end
section
variable{X:Cx}{pins:List (Addr×aG)}{σ:L2.St}{H:Hp}{s:ah}{ea T:Addr}{cls fl:ac}{oe:aG}
variable{C CX:Addr}{x:aa}{np hpos:Pos}{b₀:Stmt}{suite:List Stmt}{D:cZ}{L:Addr}
end
section
variable{X:Cx}{k:Nat}{f:Addr}{fd:be}{ps:List aa}{sp:Sp}{dvs:List V}{ds:List ac}{x:aa}{p pos hpos tpos np:Pos}{e:Expr}{es:List Expr}{t:TA}
variable{st b₀:Stmt}{suite:List Stmt}{tb:cZ->(Addr->Hp->Prop)->L2.St->Hp->Prop}{C CX L:Addr}
end
open PySem.W
section
variable{prog:aQ}{w:aH}{A:bm}{E:ac->ah->Prop}{h:az}{g:Array GenState}{d:Drawn}{t:Nat}{os:OsState}{a C:Addr}{o:aG}{vs:Array ac}{K:Frag}
end
section
variable{X:Cx}{ea C:Addr}{oe:aG}
end
theorem pN:∀{xs:List V}{us:List ac},xs.length=us.length->(∀(i:Nat) x u,xs[i]?=some x->us[i]?=some u->aW x u)->aL xs us
 |[],[],_,_=>.nil
 |x::xs,u::us,hl,h=>.cons (h 0 x u rfl rfl) (pN (by simpa using hl) fun i a b e1 e2=>h (i+1) a b (by simpa using e1) (by simpa using e2))
 |[],_::_,hl,_=>by simp at hl
 |_::_,[],hl,_=>by simp at hl
structure pO(prog:aQ)(w:aH)(T:String)(I d:Addr)(n:Nat)(P:Nat->ac->Prop)(St:Nat->az->Prop):Prop where
 W:∀A:bm,A.handled=none->Walks prog w A I [I,d] [I] n P St
 ty:∀s:ah,St 0 s.heap->s.TypeIs (.ref I) T
 nl:(ac.type T==ac.type "list")=false
 nt:(ac.type T==ac.type "tuple")=false
 hint:∀(A:bm)(E:ac->ah->Prop)(s:ah)(Q:Bool->ah->Prop),St 0 s.heap->(∀b tk,Q b { s with toks:=tk})->wpAny (model prog w) A (ni (.ref I)) Q E s
section
variable{prog:aQ}{w:aH}{A:bm}{E:ac->ah->Prop}{s:ah}{T:String}{I d:Addr}{n:Nat}{P:Nat->ac->Prop}{St:Nat->az->Prop}
theorem HP{R:Result->ah->Prop}(Z:pO prog w T I d n P St)(hh:A.handled=none)(st:St 0 s.heap)(S:Addr)(n1:S≠I)(n2:S≠d)(c₀:Nat)(hS:s.heap.get? S=some { cls:= .type "list",data:= .seq #[] c₀})
 (hR:∀h' tk acc' c',(∀b o,b≠S->b≠I->s.heap.get? b=some o->h'.get? b=some o)->h'.get? S=some { cls:= .type "list",dict:=none,data:= .seq acc' c',slots:=#[]}->ItemsOf P acc' n->R (.ok (.ret .none)) { s with heap:=h',toks:=tk}) (hn:n<=sizeLine):
 wpAny (model prog w) A.in1 (lM (.ref S) (.ref I) .none) (fun fin s'=>match fin with|.done f=>R (.ok f) s'|.again c'=>c'.quiet=true/\codeAny (model prog w) A c' R s') (fun e s'=>R (.error e) s') s:=by
 have nf:S∉[I,d]:=by simp[n1,n2]
 have W:=Z.W A.in1 hh
 have key:∀(h:az)(c₁ tk:Nat),St 0 h->(∀b o,b≠S->s.heap.get? b=some o->h.get? b=some o)->h.get? S=some { cls:= .type "list",data:= .seq #[] c₁}->
  codeAny (model prog w) A (.builtin "list.extend.loop" ⟨[.ref S,.ref I,.none],[]⟩) R { s with heap:=h,toks:=tk}:=fun h c₁ tk hst hk h1=>by
  refine codeAny_extend_loopS W.toS hn S nf .none n 0 _ #[] c₁ rfl (cQ _) hst h1 (ItemsOf.nil _) fun s' acc' c' hm h2 hacc=>?_
  rw[Moved.eq_with hm]
  refine hR s'.heap s'.toks acc' c' (fun b o hb hbI e=>hm.heap b o (fun z=>?_) (hk b o hb e)) h2 hacc
  rcases bo.mp z with z|z
  ·exact hb z
  ·exact hbI (by simpa using z)
 unfold lM
 refine ag (uj (T:=T) (Z.ty s st) ?_)
 have g1:rE (.ref S) (.ref I)=false:=by simp[rE,n1]
 simp only[g1,Z.nl,Z.nt,rq,iI,if_false]
 refine ag (W.self 0 _ _ _ st ?_)
 refine ag (iU (Z.hint _ _ _ _ st fun b tk=>?_))
 refine fm (fun _=>?_) (fun _=>aP ⟨qK u5 _,key _ c₀ tk st (fun _ _ _ e=>e) hS⟩)
 refine ag (iW (ag ?_))
 show wpAny _ _ (updateSeq S (·.push .none) >>= fun _=>updateSeq S (·.pop)) _ _ _
 refine ag (lA (s:={ s with toks:=tk}) hS rfl ?_)
 have g2:=iF (eB (·.push ac.none)) hS rfl
 refine lA (hz:=by seq_fits) g2 rfl ?_
 have g3:=iF (eB (·.pop)) g2 rfl
 have oth:∀b o,b≠S->s.heap.get? b=some o->((s.heap.update S (eB (·.push ac.none))).update S (eB (·.pop))).get? b=some o:=
  fun b o hb e=>by rw[jz _ _ (fQ hb),jz _ _ (fQ hb)];exact e
 exact aP ⟨qK u5 _,key _ _ tk (W.frame 0 _ _ st fun b hb o e=>oth b o (fun z=>nf (z▸hb)) e) (fun b o hb e=>oth b o hb e) g3⟩
theorem v8{Q:ac->ah->Prop}(Z:pO prog w T I d n P St)(hh:A.handled=none)(st:St 0 s.heap)(h1:I<s.heap.objs.size)(h2:d<s.heap.objs.size)(hn:n<=sizeLine)
 (hQ:∀h' tk acc' c',(∀b o,b≠I->s.heap.get? b=some o->h'.get? b=some o)->h'.get? s.heap.objs.size=some { cls:= .type "list",dict:=none,data:= .seq acc' c',slots:=#[]}->ItemsOf P acc' n->Q (.ref s.heap.objs.size) { s with heap:=h',toks:=tk}):
 wpAny (model prog w) A (call (.type "list") [.ref I]) Q E s:=by
 refine callType_codes (Q₁:=fun obj s₁=>obj= .ref s.heap.objs.size/\s₁={ s with heap:=s.heap.push { cls:= .type "list",data:= .seq #[]}}) yS (yT _) yU (code_list_new _ ⟨rfl,rfl⟩) fun obj s₁ g=>?_
 obtain⟨rfl,rfl⟩:=g
 have hS:(s.heap.push { cls:= .type "list",data:= .seq #[]}).get? s.heap.objs.size=some { cls:= .type "list",data:= .seq #[]}:=bQ _ rfl
 refine⟨⟨_,hS,rfl⟩,yV _ _,?_⟩
 show wpAny _ _ (do let old <-rF (.ref s.heap.objs.size);zx (.ref s.heap.objs.size) (fun _=>#[]);letGo old.toList.reverse;lM (.ref s.heap.objs.size) (.ref I) .none) _ _ _
 refine ag ?_
 unfold rF
 refine ag (jv hS rfl (aP ?_))
 show wpAny _ _ (updateSeq s.heap.objs.size (fun _=>#[]) >>= fun _=>letGo (#[]:Array ac).toList.reverse >>= fun _=>lM (.ref s.heap.objs.size) (.ref I) .none) _ _ _
 refine ag (lA hS rfl ?_)
 have g2:=iF (eB (fun _=>(#[]:Array ac))) hS rfl
 have oth:∀b o,s.heap.get? b=some o->((s.heap.push { cls:= .type "list",data:= .seq #[]}).update s.heap.objs.size (eB (fun _=>(#[]:Array ac)))).get? b=some o:=
  fun b o e=>by rw[jz _ _ (iX (bn e))];exact bj _ e
 refine ag (oS ?_)
 refine HP (A:=A.in1) Z hh ((Z.W A hh).frame 0 _ _ st fun b _ o e=>oth b o e) _ (iX h1) (iX h2) _ g2 (fun h' tk acc' c' hk hS' hacc=>?_) hn
 exact⟨rfl,hQ h' tk acc' c' (fun b o hb e=>hk b o (dg (bn e)) hb (oth b o e)) hS' hacc⟩
end
namespace RV
theorem lri_len:typeLookup (.type "list_reverseiterator") "__len__"=pure none:=by rw[hG,hJ];kernel_rfl
theorem lri_hint:typeLookup (.type "list_reverseiterator") "__length_hint__"=pure (some (.builtin "list_reverseiterator.__length_hint__")):=by rw[hG,hJ];kernel_rfl
theorem rev_len:typeLookup (.type "reversed") "__len__"=pure none:=by rw[hG,hJ];kernel_rfl
theorem slot_hint:Slot "reversed" "__length_hint__" "reversed.__length_hint__":=
 .of (owner:="reversed") (n:="__length_hint__") (by rw[hG,hJ];kernel_rfl) (by decide +kernel) (by decide +kernel) (by decide +kernel)
  (by first|exact .inl (by decide +kernel)|exact .inr (by decide +kernel)) (by rw[iV];kernel_rfl)
theorem entry_hint:entryFor table "reversed.__length_hint__"=some dc.«reversed.__length_hint__»:=uo (by kernel_rfl)
theorem args_hint(a:ac):argsOk "reversed.__length_hint__" ⟨[a],[]⟩:=by
 unfold argsOk;rw[uq (id:="reversed.__length_hint__") (n:=['_','_','t','n','i','h','_','h','t','g','n','e','l','_','_']) (o:=['d','e','s','r','e','v','e','r']) (by kernel_rfl) v4];kernel_rfl
end RV
section
variable{prog:aQ}{w:aH}
theorem HQ(I l:Addr)(hne:l≠I)(items:Array ac):pO prog w "list_reverseiterator" I l items.size (fun i v=>items[items.size - 1 - i]?=some v) (fun i h=>i<=items.size/\h.IsRevIter I l ((items.size:Int) - 1 - (i:Int))/\h.IsList l items) where
 W:=fun A hh=>Walks.listRev hh I l hne items
 ty:=fun s st=>st.2.1.typeIs
 nl:=by decide
 nt:=by decide
 hint:=fun A E s Q st hQ=>by
  have hT:=st.2.1.typeIs
  unfold ni
  refine ag (fN hT RV.lri_len ?_)
  show wpAny _ _ (specialOf (ac.ref I) (bL "__length_hint__") >>= _) _ _ _
  refine ag (fN hT RV.lri_hint ?_)
  generalize hid:("list_reverseiterator.__length_hint__":String)=id0
  wp_delta
  rw[show splitId id0=some ("list_reverseiterator","__length_hint__")from by subst hid;decide +kernel]
  subst hid
  refine ag (ju (T:="list_reverseiterator") (b:=true) hT (by rw[iV];kernel_rfl) ?_)
  refine fm (fun hab=>absurd hab (by decide)) (fun _=>?_)
  refine fm (fun _=>?_) (fun hab=>absurd (by decide +kernel) hab)
  refine fm (fun hab=>absurd hab (by decide +kernel)) (fun _=>?_)
  exact aP (hQ false s.toks)
end
section
variable{prog:aQ}{w:aH}
theorem HR(I l:Addr)(hne:l≠I)(items:Array ac)(hz:items.size<=sizeLine):pO prog w "reversed" I l items.size (fun i v=>items[items.size - 1 - i]?=some v) (fun i h=>i<=items.size/\h.get? I=some (iN l ((items.size:Int) - 1 - (i:Int)))/\cw h l items) where
 W:=fun A hh=>{
  sub:=fun b hb=>by simp at hb;simp[hb]
  frame:=fun _ _ _ x hk=>⟨x.1,hk I (by simp) _ x.2.1,let ⟨o,ho,r⟩:=x.2.2;⟨o,hk l (by simp) o ho,r⟩⟩
  item:=fun i s Q E hi x hQ=>by
   have hn:=fw
   have e:(items.size:Int) - 1 - (i:Int)=((items.size - 1 - i:Nat):Int):=by omega
   have hit:=x.2.1
   rw[e]at hit
   have hx:items[items.size - 1 - i]?=some (items[items.size - 1 - i]'(by omega)):=zu (by omega)
   refine Bz hit x.2.2 hx (by omega) fun h' tk hit' hs'=>?_
   have e2:((items.size - 1 - i:Nat):Int) - 1=(items.size:Int) - 1 - ((i+1:Nat):Int):=by omega
   rw[e2]at hit'
   exact hQ _ h' tk hx ⟨hi,hit',let ⟨o,ho,r⟩:=x.2.2;⟨o,(hs'.2 l hne).trans ho,r⟩⟩ fun b o hb eo=>(hs'.2 b fun h=>hb (by simp[h])).trans eo
  done:=fun s Q E x hQ=>by
   have e:(items.size:Int) - 1 - (items.size:Int)= -1:=by omega
   have hit:=x.2.1
   rw[e]at hit
   exact BA hh hit fun h' he'=>hQ h' s.toks fun b o hb eo=>he' b o (fun h=>hb (by simp[h])) eo
  self:=fun _ _ _ _ x hQ=>v5 x.2.1 hQ}
 ty:=fun s st=>⟨_,st.2.1,rfl⟩
 nl:=by decide
 nt:=by decide
 hint:=fun A E s Q st hQ=>by
  have hT:s.TypeIs (.ref I) "reversed":=⟨_,st.2.1,rfl⟩
  have hn:=fw
  unfold ni
  refine ag (fN hT RV.rev_len ?_)
  show wpAny _ _ (specialOf (ac.ref I) (bL "__length_hint__") >>= _) _ _ _
  refine ag (fN hT RV.slot_hint.lookup ?_)
  generalize hid:("reversed.__length_hint__":String)=id0
  wp_delta
  rw[show splitId id0=some ("reversed","__length_hint__")from by subst hid;decide +kernel]
  subst hid
  refine ag (ju (T:="reversed") (b:=true) hT (by rw[iV];kernel_rfl) ?_)
  refine fm (fun hab=>absurd hab (by decide)) (fun _=>?_)
  refine fm (fun hab=>absurd hab (by decide +kernel)) (fun _=>?_)
  refine ag (iW ?_)
  refine ag (dJ (RV.slot_hint.bind (.ref I)) ?_)
  dsimp only
  refine ag (hW (d4 RV.slot_hint hT RV.entry_hint ?_ (RV.args_hint _)))
  unfold dc.«reversed.__length_hint__»
  refine ag (dJ (a:=ac.ref I) rfl ?_)
  refine ag (cn st.2.1 rfl (x:= .ref l) rfl ?_)
  refine fm (fun hab=>absurd hab (by simp)) (fun _=>?_)
  refine ag (vc st.2.2 (by omega) ?_)
  refine ag (dJ (a:=some (items.size:Int)) (by first|rfl|simp[asInt?]) ?_)
  dsimp only
  refine ag (cn (x:=rawInt ((items.size:Int) - 1 - ((0:Nat):Int))) st.2.1 rfl rfl ?_)
  show wpAny _ _ (if (items.size:Int)<((items.size:Int) - 1 - ((0:Nat):Int))+1 then _ else _) _ _ _
  rw[if_neg (by omega)]
  unfold retInt
  refine ag (oR (aP ⟨_,rfl,?_⟩))
  dsimp only
  refine ag (dJ (a:=some ((items.size:Int) - 1 - ((0:Nat):Int)+1)) (by first|rfl|simp[asInt?]) ?_)
  have e1:(items.size:Int) - 1 - ((0:Nat):Int)+1=(items.size:Int):=by omega
  rw[e1]
  dsimp only
  have f1:rG (items.size:Int)=true:=by
   unfold rG
   simp only[h8,decide_eq_true_eq]
   omega
  have f2:lK ((items.size:Int).toNat)=false:=by
   unfold lK
   simp only[decide_eq_false_iff_not]
   omega
  rw[f1,f2]
  refine fm (fun hab=>absurd hab (by decide)) (fun _=>?_)
  refine fm (fun hab=>absurd hab (by omega)) (fun _=>?_)
  refine fm (fun hab=>absurd hab (by decide)) (fun _=>?_)
  exact aP (hQ _ _)
end
theorem pP{α β:Type}{F:α->β->Prop}:∀{l:List α}{m:List β}{i:Nat}{a:α},Paired F l m->l[i]?=some a->∃b,m[i]?=some b/\F a b
 |_,_,_,_,.nil,e=>by simp at e
 |_,_,0,_,.cons r _,e=>by cases e;exact⟨_,rfl,r⟩
 |_,_,i+1,_,.cons _ rr,e=>by simpa using pP (i:=i) rr (by simpa using e)
section
variable{X:Cx}{p p' pos pos':Pos}{e:Expr}{te:TE}
theorem sv{P:aQ}{w:aH}{k:Key}{v:ac}(h:(dn P w).is k v=true):aW (kV k) v:=by
 rcases jc h with⟨i,t,rfl,rfl⟩|⟨x,t,rfl,rfl⟩
 ·exact⟨t,rfl⟩
 ·exact⟨t,rfl⟩
theorem HS(hc:X.calm=true):gG X (.type "list") (fun xs H Q=>∃q kvs,xs=[.ref q]/\H q=some (.dK kvs)/\∀l,H l=none->Q (.ref l) (ad H l (.lst (kvs.map fun kv=>kV kv.1)))):=by
 intro pins s σ H xs us Q I r h
 obtain⟨q,kvs,rfl,hq,h⟩:=h
 obtain⟨u,rfl,ru⟩:=je r
 cases ru
 obtain⟨z,lo,vs,rel,hd⟩:=sf I.hok hq
 obtain⟨ep,hat⟩:=hd.dictAt
 have hl:kvs.length=vs.length:=rel.length
 refine PySem.W.kdl_call (yh (knd:=dn X.prog X.w) (kvs:=vs) (ep:=ep) lo) (I.ok.hd hc) hat (by omega) fun h' tk acc' c' hk hS hacc=>?_
 have rr:aL (kvs.map fun kv=>kV kv.1) acc'.toList:=by
  have hz:=hacc.1
  refine pN (by simp only[zLM,lI];omega) fun i x u h1 h2=>?_
  obtain⟨k,y,h3,h4⟩:=hacc.2 i u (by simpa using h2)
  rw[cW]at h1
  cases h5:kvs[i]? with
  |none=>rw[h5]at h1;cases h1
  |some kv=>
   rw[h5]at h1
   cases h1
   obtain⟨kv',h6,h7,_⟩:=pP rel h5
   rw[h3]at h6
   cases h6
   have h7:kv.1=k:=h7
   show aW (kV kv.1) u
   rw[h7]
   exact sv h4
 have z2:(kvs.map fun kv=>kV kv.1).length<=sizeLine:=by rw[zLM];exact z
 exact⟨.ref s.heap.objs.size,_,I.laid (t':=tk) hk (aE _) (show cF X.prog X.w _ h' _ (.lst (kvs.map fun kv=>kV kv.1))from ⟨z2,acc'.toList,c',rr,hS⟩),rfl,h _ (I.hok.fresh (aE _))⟩
theorem HU{es:List Expr}{t:TA}(hm:X.mg "list"=none)(ha:PA X (e::es) t)(hc:X.calm=true:=by rfl)(hg:Gl X "list":=by rfl)(he:starEach (e::es) X.env=(false,eval e X.env)::starEach es X.env:=by rfl)(hpl:(backTo pos (starEach es X.env)).any (·.1)=false:=by rfl):
 PE X (.Call (.Name "list" p) (e::es) [] pos) (pE (fun xs H Q=>∃q kvs,xs=[.ref q]/\H q=some (.dK kvs)/\∀l,H l=none->Q (.ref l) (ad H l (.lst (kvs.map fun kv=>kV kv.1)))) t):=
 jm (HS hc) hm kR ha hg (by decide) (by decide) he hpl
theorem BP{pins:List (Addr×aG)}{σ:L2.St}{H:Hp}{s1:ah}{xs:List V}{its:List ac}{oI:aG}{tk0 tk:Nat}{h':az}{acc':Array ac}{c':Nat}{Q:VK}(I1:Inv X pins σ H s1)(rv:aL xs its)(hz:xs.length<=sizeLine)
 (hk:∀b o,b≠s1.heap.objs.size->(s1.heap.push oI).get? b=some o->h'.get? b=some o) (hS:h'.get? (s1.heap.push oI).objs.size=some { cls:= .type "list",dict:=none,data:= .seq acc' c',slots:=#[]})
 (hacc:ItemsOf (fun i v=>its.toArray[its.toArray.size - 1 - i]?=some v) acc' its.toArray.size) (q:∀l,H l=none->Q (.ref l) (ad H l (.lst xs.reverse))):
 EP X pins σ Q (.ref (s1.heap.push oI).objs.size) { s1 with heap:=h',toks:=tk}:=by
 have hl:=rv.length
 have h1:=hacc.1
 simp only[bX]at h1
 have rr:aL xs.reverse acc'.toList:=by
  refine pN (by simp only[cR,lI];omega) fun i x u e1 e2=>?_
  have hi:i<xs.length:=by
   have:=(bI.mp e1).1
   simpa using this
  have h3:=hacc.2 i u (by simpa using e2)
  simp only[bX]at h3
  rw[oZ hi]at e1
  obtain⟨u',h5,h6⟩:=rv.get e1
  have e3:its.length - 1 - i=xs.length - 1 - i:=by omega
  rw[e3]at h3
  have h3':its[xs.length - 1 - i]?=some u:=by simpa using h3
  rw[h5]at h3'
  cases h3'
  exact h6
 have z2:xs.reverse.length<=sizeLine:=by simpa using hz
 have sz:s1.heap.objs.size<=(s1.heap.push oI).objs.size:=by simp[kc]
 exact⟨.ref _,_,I1.laid (a:=(s1.heap.push oI).objs.size) (t':=tk) (fun b o e=>hk b o (dg (bn e)) (bj _ e)) sz (show cF X.prog X.w _ h' _ (.lst xs.reverse)from ⟨z2,acc'.toList,c',rr,hS⟩),rfl,q _ (I1.hok.fresh sz)⟩
def BQ(sq:Hp->Addr->List V->Prop)(te:TE):TE:=fun σ H Q=>te σ H fun v H1=>∃a xs,v= .ref a/\sq H1 a xs/\∀l,H1 l=none->Q (.ref l) (ad H1 l (.lst xs.reverse))
theorem BR(hm:X.mg "list"=none)(hm':X.mg "reversed"=none)(h:PE X e te)(hc:X.calm=true:=by rfl)(hg:Gl X "list":=by rfl)(hg':Gl X "reversed":=by rfl)
 (h1:starEach [.Call (.Name "reversed" p') [e] [] pos'] X.env=[(false,eval (.Call (.Name "reversed" p') [e] [] pos') X.env)]:=by rfl) (h2:starEach [e] X.env=[(false,eval e X.env)]:=by rfl):
 PE X (.Call (.Name "list" p) [.Call (.Name "reversed" p') [e] [] pos'] [] pos) (BQ (ak X.K) te):=by
 intro pins s σ H Q I hw
 refine Call_ (fq I hg hm kR (gg ?_ h1 rfl))
 rw[h1]
 refine ia ?_
 refine Call_ (fq I hg' hm' pJ (gg ?_ h2 rfl))
 rw[h2]
 refine ia (aK (h pins s σ H _ I hw) fun u s1 ⟨x,H1,I1,r1,q1⟩=>iJ ?_)
 obtain⟨a,xs,rfl,hq,q⟩:=q1
 cases r1
 obtain⟨its,rv,pl,hz⟩:=I1.list hq
 have hl:=rv.length
 refine xW pl.isList (iJ ?_)
 have ha:a<s1.heap.objs.size:=let ⟨o,ho,_⟩:=pl.isList;bn ho
 have e0:(its.toArray.size:Int) - 1=(its.toArray.size:Int) - 1 - ((0:Nat):Int):=by omega
 refine v8 (d:=a) (HQ s1.heap.objs.size a (dg ha) its.toArray) (I.ok.hd hc) (s:={ s1 with heap:=s1.heap.push (revObj a ((its.toArray.size:Int) - 1))}) ⟨cQ _,⟨_,bQ _ rfl,rfl,by rw[<-e0];rfl⟩,?_⟩ (by simp[kc]) (uF ha (by simp[kc])) (by simp only[bX];omega) fun h' tk acc' c' hk hS hacc=>?_
 ·obtain⟨o,ho,r⟩:=pl.isList
  exact⟨o,bj _ ho,r⟩
 ·exact BP (tk0:=0) I1 rv hz hk hS hacc q
theorem HV(hm:X.mg "list"=none)(hm':X.mg "reversed"=none)(h:PE X e te)(hc:X.calm=true:=by rfl)(hg:Gl X "list":=by rfl)(hg':Gl X "reversed":=by rfl)
 (h1:starEach [.Call (.Name "reversed" p') [e] [] pos'] X.env=[(false,eval (.Call (.Name "reversed" p') [e] [] pos') X.env)]:=by rfl) (h2:starEach [e] X.env=[(false,eval e X.env)]:=by rfl):
 PE X (.Call (.Name "list" p) [.Call (.Name "reversed" p') [e] [] pos'] [] pos) (BQ (aj X.K) te):=by
 intro pins s σ H Q I hw
 refine Call_ (fq I hg hm kR (gg ?_ h1 rfl))
 rw[h1]
 refine ia ?_
 refine Call_ (fq I hg' hm' pJ (gg ?_ h2 rfl))
 rw[h2]
 refine ia (aK (h pins s σ H _ I hw) fun u s1 ⟨x,H1,I1,r1,q1⟩=>iJ ?_)
 obtain⟨a,xs,rfl,hq,q⟩:=q1
 cases r1
 obtain⟨its,rv,pl,hz⟩:=I1.tuple hq
 have hl:=rv.length
 have hn:=fw
 refine BC pl (by simp only[bX];omega) fun tk0=>iJ ?_
 have ha:a<s1.heap.objs.size:=let ⟨o,ho,_⟩:=pl;bn ho
 have e0:(its.toArray.size:Int) - 1=(its.toArray.size:Int) - 1 - ((0:Nat):Int):=by omega
 refine v8 (d:=a) (HR s1.heap.objs.size a (dg ha) its.toArray (by simp only[bX];omega)) (I.ok.hd hc) (s:={ s1 with heap:=s1.heap.push (iN a ((its.toArray.size:Int) - 1)),toks:=tk0}) ⟨cQ _,(by rw[<-e0];exact bQ _ rfl),?_⟩ (by simp[kc]) (uF ha (by simp[kc])) (by simp only[bX];omega) fun h' tk acc' c' hk hS hacc=>?_
 ·obtain⟨o,ho,r⟩:=pl
  exact⟨o,bj _ ho,r⟩
 ·exact BP (tk0:=0) I1 rv hz hk hS hacc q
end
section
variable{P:aQ}{w:aH}{K:aA}{mg:aa->Option ac}{base:az}
end
section
variable{X:Cx}{k:Nat}{x:aa}{ps:List aa}{sp:Sp}{p pos:Pos}{e:Expr}{es:List Expr}{t:TA}
end
theorem fW{t u:TS}{D:cZ}{σ:L2.St}{H:Hp}(Pv:L2.St->Hp->Prop)(key:∀σ' H',Pv σ' H'->u D σ' H')(main:(∀σ' H',Pv σ' H'->u D σ' H')->t { D with nx:=u D} σ H):fu t u D σ H:=main key
def fY(env:Env):List (aa×dB)->List (aa×Addr)->List (aa×Addr)
 |[],cs=>cs
 |(n,k)::r,cs=>fY env r (if (k==dB.free)=true then (match env.cells.lookup n with|some c=>(n,c)::cs|none=>cs)else cs)
theorem Ia(env:Env)(scope:Scope)(h:∀y∈scope.names,y.2= .free->∃c,env.cells.lookup y.1=some c):closureFor scope env=pure (fY env scope.names []):=by
 unfold closureFor
 have key:∀(l:List (aa×dB))(cs:List (aa×Addr)),(∀y∈l,y.2= .free->∃c,env.cells.lookup y.1=some c)->
  (forIn l cs fun x r=>match x with|(name,kind)=>if (kind==dB.free)=true then (do let a <-cellOf env name;pure (ForInStep.yield ((name,a)::r)))else pure (ForInStep.yield r):Sem (List (aa×Addr)))=pure (fY env l cs):=by
  intro l
  induction l with
  |nil=>intro cs _;rfl
  |cons y r ih=>
   intro cs hl
   obtain⟨n,k⟩:=y
   rw[pb]
   by_cases hk:k= .free
   ·subst hk
    obtain⟨c,hc⟩:=hl (n,.free) eY rfl
    have e:cellOf env n=pure c:=by unfold cellOf;rw[hc]
    simp only[beq_self_eq_true,if_true,e,fY,hc,vq]
    exact ih _ fun y hy=>hl y (dC _ hy)
   ·have hb:(k==dB.free)=false:=by simpa using hk
    simp only[hb,iI,if_false,fY,vq]
    exact ih _ fun y hy=>hl y (dC _ hy)
 have:=key scope.names [] h
 simpa using this
theorem BS(env:Env):∀(l:List (aa×dB))(cs:List (aa×Addr)),(∀x c,cs.lookup x=some c->env.cells.lookup x=some c)->∀x c,(fY env l cs).lookup x=some c->env.cells.lookup x=some c:=by
 intro l
 induction l with
 |nil=>intro cs h x c e;exact h x c e
 |cons y r ih=>
  intro cs h x c e
  obtain⟨n,k⟩:=y
  simp only[fY]at e
  refine ih _ (fun x c e=>?_) x c e
  split at e
  ·split at e
   ·next c' hc=>
    rw[eM]at e
    split at e
    ·next hx=>
     have hx':x=n:=by simpa using hx
     cases e
     rw[hx']
     exact hc
    ·exact h x c e
   ·exact h x c e
  ·exact h x c e
theorem BT(env:Env):∀(l:List (aa×dB))(cs:List (aa×Addr))(x:aa),((x,dB.free)∈l/\(∃c,env.cells.lookup x=some c))\/(∃c,cs.lookup x=some c)->∃c,(fY env l cs).lookup x=some c:=by
 intro l
 induction l with
 |nil=>
  intro cs x h
  rcases h with⟨h,_⟩|h
  ·simp at h
  ·exact h
 |cons y r ih=>
  intro cs x h
  obtain⟨n,k⟩:=y
  simp only[fY]
  rcases h with⟨h,c,hc⟩|⟨c,hc⟩
  ·rcases bo.mp h with e|e
   ·cases e
    refine ih _ _ (.inr ⟨c,?_⟩)
    simp[hc]
   ·exact ih _ _ (.inl ⟨e,c,hc⟩)
  ·refine ih _ _ (.inr ?_)
   split
   ·split
    ·rw[eM]
     split
     ·exact⟨_,rfl⟩
     ·exact⟨c,hc⟩
    ·exact⟨c,hc⟩
   ·exact⟨c,hc⟩
abbrev eE(X:Cx)(Nc:List aa)(scope:Scope)(C:Addr)(s₀:ah)(H₀:Hp)(fp:List Addr):Cx:=
 { X with N:=Nc,s₀:=s₀,H₀:=H₀,env:=compEnvC scope (fY X.env scope.names []) C X.env,outer:=X.stack,stack:=X.stack,ex:=fp,fn:=fun _=>false,xe:=fun _ _=>False}
def pQ(X:Cx)(ifs:List Expr)(tt:TT):Prop:=
 ∀(pins:List (Addr×aG))(s:ah)(σ:L2.St)(H:Hp)(Q:Bool->Hp->Prop),Inv X pins σ H s->tt σ H Q->
  wpAny (model X.prog X.w) X.A (forIn ifs true fun c r=>if r=true then do let ok <-isTrue c X.env (eval c X.env);pure (ForInStep.yield ok)else pure (ForInStep.yield r)) (TP X pins σ Q) X.xe s
def pR:TT:=fun _ H Q=>Q true H
theorem nH{X:Cx}:pQ X [] pR:=fun _ _ _ H _ I h=>wpAny_tests_nil ⟨H,I,h⟩
theorem sw{X:Cx}{c:Expr}{t:TT}(h:PT X c t):pQ X [c] t:=fun pins s σ H Q I q=>wpAny_tests_one (h pins s σ H Q I q)
section
variable{prog:aQ}{w:aH}{A:bm}{E:ac->ah->Prop}{R:Result->ah->Prop}{s:ah}
theorem Ib{elt target iter:Expr}{ifs:List Expr}{scope:Scope}{pos:Pos}{it acc:ac}{env:Env}(I:Nat->ah->Prop)
 (turn:∀n s,I n s->wpAny (model prog w) A (pyNext it) (fun r s₁=>match r with
  |none=>R (.ok .next) s₁
  |some v=>wpAny (model prog w) A (letOwnedTupleGo target it v) (fun _ s₀=>wpAny (model prog w) A (assign target env v) (fun _ s₂=>
      wpAny (model prog w) A (forIn ifs true fun c r=>if r=true then do let ok <-isTrue c env (eval c env);pure (ForInStep.yield ok)else pure (ForInStep.yield r)) (fun ok s₃=>
       if ok=true then wpAny (model prog w) A (eval elt env) (fun x s₄=>
        wpAny (model prog w) A (call (.builtin "list.append") [acc,x]) (fun _ s₅=>∃m,m<n/\I m s₅) (notedBy (model prog w) A env fun e s'=>R (.error e) s') s₄) (notedBy (model prog w) A env fun e s'=>R (.error e) s') s₃
       else ∃m,m<n/\I m s₃) (notedBy (model prog w) A env fun e s'=>R (.error e) s') s₂) (notedBy (model prog w) A env fun e s'=>R (.error e) s') s₀) (notedBy (model prog w) A env fun e s'=>R (.error e) s') s₁) (notedBy (model prog w) A env fun e s'=>R (.error e) s') s)
 (n:Nat) (h:I n s):
 codeAny (model prog w) A (.compLoop (.ListComp elt [⟨target,iter,ifs,0⟩] scope pos) 0 it acc env) R s:=by
 refine codeAny_loop rfl I (fun n s hI=>?_) n h
 show wpAny _ A ((compTurn (.ListComp elt [⟨target,iter,ifs,0⟩] scope pos) 0 it acc env).onRaise (fun x=>do noteFrame x env;theTreesLotGoes x)) _ _ s
 refine wpAny_noted ?_
 rw[compTurn_list]
 refine ag (ui (ag (eW (turn n s hI) (fun r s₁ h₁=>?_) fun _ _ h'=>h')))
 cases r with
 |none=>exact aP h₁
 |some v=>
  refine ag (eW h₁ (fun _ s₀ h₀=>?_) fun _ _ h'=>h')
  refine ag (eW h₀ (fun _ s₂ h₂=>ag (eW h₂ (fun ok s₃ h₃=>?_) fun _ _ h'=>h')) fun _ _ h'=>h')
  cases ok with
  |false=>exact aP ⟨rfl,h₃⟩
  |true=>
   exact ag (ag (eW h₃ (fun x s₄ h₄=>ag (eW h₄ (fun _ s₅ h₅=>aP (aP ⟨rfl,h₅⟩)) fun _ _ h'=>h')) fun _ _ h'=>h'))
end
def mi(σ:L2.St)(k:Nat)(js:List Nat):L2.St:=List.replicate k none++js.map fun j=>(σ[j]?).join
def mj(g:TG)(tt:TT)(te:TE)(J:It)(σc:L2.St)(H1:Hp)(D:Addr)(Q:Hp->Prop):Prop:=
 ∃W:Nat->Nat->L2.St->Hp->Prop,(∃m,W 0 m σc H1)/\∀i m σ H,W i m σ H->
  (J.stop i H/\Q H)\/(J.go i H/\∃N:L2.St->Hp->Prop,(∀σ' H',N σ' H'->∃m',m'<m/\W (i+1) m' σ' H')/\∀x H',J.yld i H x H'->g x σ H' fun σ2 H2=>tt σ2 H2 fun b H3=>
   if b=true then te σ2 H3 fun y H4=>∃ys,H4 D=some (.lst ys)/\ys.length<sizeLine/\N σ2 (ad H4 D (.lst (ys++[y])))else N σ2 H3)
abbrev nI(α:Type):=Addr->ah->Hp->List Addr->α
def BU(k:Nat)(js:List Nat)(wi:TI)(g:nI TG)(tt:nI TT)(te:nI TE):TE:=fun σ H Q=>wi σ H fun J H1=>∀D,H1 D=none->∀C s₀ H₀ fp,mj (g C s₀ H₀ fp) (tt C s₀ H₀ fp) (te C s₀ H₀ fp) J (mi σ k js) (ad H1 D (.lst [])) D fun H2=>Q (.ref D) H2
structure nJ(X:Cx)(Nc:List aa)(k:Nat)(js:List Nat)(scope:Scope):Prop where
 kind:scope.kind= .function
 nocell:(scope.names.all fun y=>y.2 != .cell)=true
 loc:(scope.names.all fun y=>y.2 != .local||scope.names.lookup y.1==some .local)=true
 fre:(scope.names.all fun y=>y.2 != .free||X.env.scope.names.lookup y.1==some .cell)=true
 len:Nc.length=k+js.length
 out:((Nc.drop k).zip js).all (fun p=>X.N[p.2]?==some p.1&&X.env.scope.names.lookup p.1==some .cell&&scope.names.lookup p.1==some .free)=true
theorem BV{env:Env}{x:aa}:∀{names:List (aa×dB)},(names.map fun (n,k)=>if (k==dB.free&&env.scope.kind== .function&&env.kindOf n==some .cell)then (n,dB.cell)else (n,k)).lookup x=some .cell\/(names.map fun (n,k)=>if (k==dB.free&&env.scope.kind== .function&&env.kindOf n==some .cell)then (n,dB.cell)else (n,k)).lookup x=some .free->
 (names.all fun y=>y.2 != .cell)=true->(x,dB.free)∈names
 |[],h,_=>by simp at h
 |(n,k)::r,h,hc=>by
  have hc':k≠ .cell/\(r.all fun y=>y.2 != .cell)=true:=by simpa using hc
  by_cases hx:x=n
  ·subst hx
   by_cases hk:k= .free
   ·rw[hk];exact eY
   ·exfalso
    have hb:(k==dB.free)=false:=by simpa using hk
    simp only[bM,hb,Bool.false_and,iI,if_false,eM,beq_self_eq_true]at h
    rcases h with h|h
    ·exact hc'.1 (cv h)
    ·exact hk (cv h)
  ·have hb:(x==n)=false:=by simpa using hx
   refine dC _ (BV (env:=env) ?_ hc'.2)
   simp only[bM]at h
   split at h<;>(simp only[eM,hb]at h;exact h)
theorem BW{env:Env}{x:aa}:∀{names:List (aa×dB)},names.lookup x=some .free->
 (names.map fun (n,k)=>if (k==dB.free&&env.scope.kind== .function&&env.kindOf n==some .cell)then (n,dB.cell)else (n,k)).lookup x=some .cell\/(names.map fun (n,k)=>if (k==dB.free&&env.scope.kind== .function&&env.kindOf n==some .cell)then (n,dB.cell)else (n,k)).lookup x=some .free
 |[],h=>by simp at h
 |(n,k)::r,h=>by
  by_cases hx:x=n
  ·subst hx
   simp only[eM,beq_self_eq_true]at h
   cases h
   simp only[bM]
   split
   ·left;simp[eM]
   ·right;simp[eM]
  ·have hb:(x==n)=false:=by simpa using hx
   simp only[eM,hb]at h
   have:=BW (env:=env) h
   simp only[bM]
   split<;>(simp only[eM,hb];exact this)
section
variable{X:Cx}{pins:List (Addr×aG)}{σ:L2.St}{s2:ah}{tg elt iter:Expr}{ifs:List Expr}{scope:Scope}{pos:Pos}{Nc:List aa}{k:Nat}{js:List Nat}{g:nI TG}{tt:nI TT}{te:nI TE}{J:It}{fp:List Addr}{it:Addr}{tn:Nat->az->Prop}{H2:Hp}
theorem Ic{H3:Hp}{s3 s4:ah}{C:Addr}{m4:aa->Option ac}(S:nJ X Nc k js scope)(I3:Inv X pins σ H3 s3)(f3:∀b∈fp,dM X pins H3 b)(hfp:∀b∈fp,∃o,s3.heap.get? b=some o)(hC:s3.heap.objs.size<=C)
 (ho:s4.os=s3.os) (hgn:s4.gens=s3.gens) (hk:∀b o,s3.heap.get? b=some o->s4.heap.get? b=some o) (hn:s4.heap.Ns C m4):Inv (eE X Nc scope C s3 H3 fp) [] (mi σ k js) H3 s4:=by
 have hclo:∀x c,(fY X.env scope.names []).lookup x=some c->X.env.cells.lookup x=some c:=BS X.env _ _ (fun _ _ e=>by simp at e)
 have below:∀b,b∈fp->b∉ie X.stack:=fun b hb z=>(bo.mp (I3.stkSub b z)).elim (f3 b hb).2.1 (f3 b hb).2.2.1
 have fresh:∀b o,s3.heap.get? b=some o->b≠C:=fun b o e=>dg (eX (bn e) hC)
 refine⟨⟨I3.ok.mod,S.kind,I3.ok.glob,I3.ok.blt,hC,fun x y c h1 h2=>I3.ok.inj x y c (hclo x c h1) (hclo y c h2),fun x hx=>?_,fun x c h _=>absurd h cM,I3.ok.hd,I3.ok.frames,.inl rfl,fun b hb=>⟨?_,fun x c e=>(f3 b hb).2.2.2.2.1 x c (hclo x c e)⟩,I3.bs,
  cO I3.ok.bsz I3.sz,fun b o e hb=>?_,below,I3.stack,I3.stkFree⟩,ho,by rw[hgn];exact I3.bare,Un.kept hk,⟨m4,hn,fun i x v h1 h2 h3=>?_⟩,fun x c e=>?_,I3.hok.fresh hC,fun x c e=>I3.freeC x c (hclo x c e),fun p hp=>?_,I3.hok.kept hk,?_⟩
 ·have hm:=BV (env:=X.env) (names:=scope.names) hx S.nocell
  refine BT X.env _ _ x (.inl ⟨hm,?_⟩)
  have:=lC.mp S.fre _ hm
  have this':X.env.scope.names.lookup x=some .cell:=by simpa using this
  exact I3.ok.has x (.inl this')
 ·obtain⟨o,e⟩:=hfp b hb
  exact fresh b o e
 ·rcases(f3 b hb).2.2.2.1 with z|z
  ·exact I3.ok.noex b o e z
  ·exact absurd (eX (bn (I3.ok.bs b o e).1) z) (j8 _)
 ·have hik:k<=i:=by
   by_cases hi:k<=i
   ·exact hi
   ·exfalso
    have hi':i<k:=by omega
    unfold mi at h2
    rw[kh (by simpa using hi'),yu,if_pos hi']at h2
    cases h2
  have h2':(js[i - k]?).map (fun j=>(σ[j]?).join)=some (some v):=by
   unfold mi at h2
   rw[mX (by simpa using hik)]at h2
   simpa using h2
  obtain⟨j,hj,hv⟩:=zA.mp h2'
  have hσ:σ[j]?=some (some v):=by
   cases e:σ[j]? with
   |none=>rw[e]at hv;cases hv
   |some o=>rw[e]at hv;rw[show o=some v from hv]
  have hz:((Nc.drop k).zip js)[i - k]?=some (x,j):=by
   rw[ki]
   refine⟨?_,hj⟩
   rw[List.getElem?_drop]
   have:k+(i - k)=i:=by omega
   rw[this]
   exact h1
  have ho:=lC.mp S.out _ (zMG hz)
  simp only[h8,beq_iff_eq]at ho
  obtain⟨⟨o1,o2⟩,o3⟩:=ho
  obtain⟨m,hm,hl⟩:=I3.loc
  obtain⟨u,r,l⟩:=hl j x v o1 hσ (.inr (.inl o2))
  rcases l with⟨l,_⟩|⟨_,c,hc,o,hco,hcd⟩
  ·have l':X.env.scope.names.lookup x=some .local:=l
   rw[o2]at l'
   cases l'
  ·obtain⟨c',hc'⟩:=BT X.env scope.names [] x (.inl ⟨mQ o3,c,hc⟩)
   have e:=hclo x c' hc'
   rw[hc]at e
   cases e
   exact⟨u,r,.inr ⟨BW (env:=X.env) o3,c,hc',o,hk _ _ hco,hcd⟩⟩
 ·obtain⟨v,o,h1,h2⟩:=I3.cell x c (hclo x c e)
  exact⟨v,o,hk _ _ h1,h2⟩
 ·have hp':p∈X.pn:=by simpa using hp
  obtain⟨e,n,ne,nf,d⟩:=I3.pin p (eu _ hp')
  exact⟨hk _ _ e,n,fresh _ _ e,fun z=>(bo.mp (I3.stkSub _ z)).elim ne nf,d⟩
 ·simp[mi,S.len]
theorem Ie{H3 H5:Hp}{s3 s5:ah}{C:Addr}{σ5:L2.St}(I3:Inv X pins σ H3 s3)(f3:∀b∈fp,dM X pins H3 b)(hC:s3.heap.objs.size<=C)(I5:Inv (eE X Nc scope C s3 H3 fp) [] σ5 H5 s5):
 Inv X pins σ H5 s5/\dM X pins H5 C/\∃m,s5.heap.Ns C m:=by
 refine⟨I3.call' I5.os I5.base I5.hok I5.bare (fun b hb=>?_),I3.fpOk hC I5.free,let ⟨m,hm,_⟩:=I5.loc;⟨m,hm⟩⟩
 obtain⟨f0,f1,f2,f4,f5,f6⟩:=f3 b hb
 exact⟨f4,f1,f5,f6⟩
theorem BX{Q:Addr->Hp->Prop}{E:ac->ah->Prop}{RR:ac->Addr->Result->ah->Prop}(S:nJ X Nc k js scope)(hcalm:X.calm=true)(hg:∀C s₀ H₀ fp,PG (eE X Nc scope C s₀ H₀ fp) tg (g C s₀ H₀ fp))(ht:∀C s₀ H₀ fp,pQ (eE X Nc scope C s₀ H₀ fp) ifs (tt C s₀ H₀ fp))
 (he:∀C s₀ H₀ fp,PE (eE X Nc scope C s₀ H₀ fp) elt (te C s₀ H₀ fp)) (I2:Inv X pins σ H2 s2) (T:jd X.prog X.w X.K tg J fp it tn) (st2:tn 0 s2.heap) (f2:∀b∈fp,dM X pins H2 b)
 (hw:∀D,H2 D=none->∀C s₀ H₀ fp,mj (g C s₀ H₀ fp) (tt C s₀ H₀ fp) (te C s₀ H₀ fp) J (mi σ k js) (ad H2 D (.lst [])) D (Q D))
 (hRR:∀D C s' H',Q D H'->Inv X pins σ H' s'->dM X pins H' C->(∃m,s'.heap.Ns C m)->RR (.ref D) C (.ok .next) s'):
 wpAny (model X.prog X.w) X.A (newList []) (fun acc s₃=>wpAny (model X.prog X.w) X.A (newFunctionEnv scope X.env.globals (fY X.env scope.names []) [] X.env.qual none .none (some X.env)) (fun cenv s₄=>
  codeAny (model X.prog X.w) X.A (.compStart (.ListComp elt [⟨tg,iter,ifs,0⟩] scope pos) 0 (.ref it) acc { cenv with scope:=relabel scope X.env}) (RR acc cenv.locals) s₄) E s₃) E s2:=by
 have I3:Inv X pins σ (ad H2 s2.heap.objs.size (.lst [])) { s2 with heap:=s2.heap.push { cls:= .type "list",data:= .seq ([]:List ac).toArray}}:=I2.lnew (its:=[]) (t':=s2.toks) .nil (by decide)
 have hold:∀b∈fp,∃o,s2.heap.get? b=some o:=fun b hb=>let ⟨o,e,_⟩:=T.obj _ _ st2 b hb;⟨o,e⟩
 have f3:∀b∈fp,dM X pins (ad H2 s2.heap.objs.size (.lst [])) b:=fun b hb=>by
  obtain⟨o,e⟩:=hold b hb
  exact⟨by rw[am (dg (bn e))];exact(f2 b hb).1,(f2 b hb).2⟩
 have w3:=hw _ I2.fresh
 generalize hD:s2.heap.objs.size=D at I3 f3 w3
 have kp3:∀b o,s2.heap.get? b=some o->(s2.heap.push { cls:= .type "list",data:= .seq ([]:List ac).toArray}).get? b=some o:=fun b o e=>bj _ e
 refine gx (wpAny_newFunctionEnv (fun y hy z=>?_) (by intro y hy;simp at hy) (fun h₁ hns₁ hsb₁=>?_) S.kind)
 ·have:=lC.mp S.nocell y hy
  rw[z]at this
  exact absurd this (by decide)
 dsimp only at hns₁ hsb₁ |-
 rw[hD]
 generalize hH:s2.heap.push { cls:= .type "list",dict:=none,data:= .seq ([]:List ac).toArray}=h3 at hns₁ hsb₁ I3 kp3 |-
 have k4:∀b o,h3.get? b=some o->h₁.get? b=some o:=fun b o e=>hsb₁.extBut b o (dg (bn e)) (bj _ e)
 have hold3:∀b∈fp,∃o,h3.get? b=some o:=fun b hb=>let ⟨o,e⟩:=hold b hb;⟨o,kp3 b o e⟩
 have I4:Inv (eE X Nc scope h3.objs.size { s2 with heap:=h3} (ad H2 D (.lst [])) fp) [] (mi σ k js) (ad H2 D (.lst [])) { s2 with heap:=h₁,toks:=s2.toks+([]:List (aa×ac)).length}:=
  Ic S I3 f3 hold3 (aE _) rfl rfl k4 hns₁
 have hclo:∀x c,(fY X.env scope.names []).lookup x=some c->X.env.cells.lookup x=some c:=BS X.env _ _ (fun _ _ e=>by simp at e)
 have stat:∀{H':Hp},(∀b∈fp,H' b=none)->∀b∈fp,dM (eE X Nc scope h3.objs.size { s2 with heap:=h3} (ad H2 D (.lst [])) fp) [] H' b:=fun hn b hb=>by
  obtain⟨o,e⟩:=hold3 b hb
  obtain⟨_,g1,g2,g3,g4,g5⟩:=f3 b hb
  exact⟨hn b hb,dg (bn e),fun z=>(bo.mp (I3.stkSub b z)).elim g1 g2,.inl hb,fun x c e=>g4 x c (hclo x c e),fun p hp=>g5 p (eu _ (by simpa using hp))⟩
 have loop:codeAny (model X.prog X.w) X.A (.compLoop (.ListComp elt [⟨tg,iter,ifs,0⟩] scope pos) 0 (.ref it) (.ref D) (compEnvC scope (fY X.env scope.names []) h3.objs.size X.env)) (RR (.ref D) h3.objs.size)
  { s2 with heap:=h₁,toks:=s2.toks+([]:List (aa×ac)).length}:=by
  obtain⟨W,⟨m0,w0⟩,turn⟩:=w3 h3.objs.size { s2 with heap:=h3} (ad H2 D (.lst [])) fp
  refine Ib (fun n s'=>∃i σ' H',Inv (eE X Nc scope h3.objs.size { s2 with heap:=h3} (ad H2 D (.lst [])) fp) [] σ' H' s'/\tn i s'.heap/\(∀b∈fp,H' b=none)/\W i n σ' H') ?_ m0
   ⟨0,_,_,I4,T.keep _ _ _ st2 (fun b hb o e=>k4 b o (kp3 b o e)),fun b hb=>(f3 b hb).1,w0⟩
  rintro n s5 ⟨i,σ5,H5,I5,st5,fr5,w5⟩
  rcases turn i n σ5 H5 w5 with⟨stop,q⟩|⟨go,N,hN,step⟩
  ·refine aK (T.done (eE X Nc scope h3.objs.size { s2 with heap:=h3} (ad H2 D (.lst [])) fp) rfl rfl rfl hcalm i [] s5 σ5 H5 _ I5 (stat fr5) st5 stop) fun r s6 ⟨hr,I6⟩=>?_
   subst hr
   obtain⟨a,b,c⟩:=Ie I3 f3 (aE _) I6
   exact hRR D _ s6 H5 q a b c
  ·refine aK (T.item (eE X Nc scope h3.objs.size { s2 with heap:=h3} (ad H2 D (.lst [])) fp) rfl rfl rfl hcalm i [] s5 σ5 H5 _ I5 (stat fr5) st5 go) fun r s6 ⟨u,hr,h6⟩=>?_
   subst hr
   refine aK h6 fun _ s7 ⟨x,H7,I7,r7,y7,st7,fr7⟩=>?_
   have I7':=I7.pinned (stat fr7) (T.obj _ _ st7)
   have q7:=step x H7 y7
   have again:∀{σ':L2.St}{H':Hp}{s':ah},Inv (eE X Nc scope h3.objs.size { s2 with heap:=h3} (ad H2 D (.lst [])) fp) ([]++pC fp s7.heap) σ' H' s'->N σ' H'->
    ∃m,m<n/\∃i σ' H',Inv (eE X Nc scope h3.objs.size { s2 with heap:=h3} (ad H2 D (.lst [])) fp) [] σ' H' s'/\tn i s'.heap/\(∀b∈fp,H' b=none)/\W i m σ' H':=fun {σ' H' s'} I' n'=>by
        obtain⟨m',hm,w7⟩:=hN σ' H' n'
        refine⟨m',hm,i+1,σ',H',I'.unpinned,T.keep _ _ _ st7 fun b hb o e=>(I'.pin (b,o) (d6 _ (d6 _ (rT hb e)))).1,fun b hb=>?_,w7⟩
        obtain⟨o,e,d⟩:=T.obj _ _ st7 b hb
        exact(I'.pin (b,o) (d6 _ (d6 _ (rT hb e)))).2.1
   refine eW (hg _ _ _ _ _ s7 σ5 H7 x u _ I7' r7 q7) (fun _ s8 ⟨σ8,H8,I8,q8⟩=>?_) (fun _ _ f=>f.elim)
   refine eW (ht _ _ _ _ _ s8 σ8 H8 _ I8 q8) (fun ok s9 ⟨H9,I9,q9⟩=>?_) (fun _ _ f=>f.elim)
   cases ok with
   |false=>
    rw[if_neg cM]at q9 |-
    exact again I9 q9
   |true=>
    rw[if_pos rfl]at q9 |-
    refine eW (he _ _ _ _ _ s9 σ8 H9 _ I9 q9) (fun y s10 ⟨v,H10,I10,r10,ys,hys,hz,q10⟩=>?_) (fun _ _ f=>f.elim)
    exact eW (cT (X:=eE X Nc scope h3.objs.size { s2 with heap:=h3} (ad H2 D (.lst [])) fp) _ s10 σ8 H10 (.ref D) [v] (.ref D) [y] (fun _ H'=>N σ8 H') I10 rfl (.cons r10 .nil) ⟨D,ys,v,rfl,rfl,hys,hz,q10⟩) (fun _ s11 ⟨_,H11,I11,_,q11⟩=>again I11 q11) (fun _ _ f=>f.elim)
 exact codeAny_compStart_list loop (T.self _ 0 _ _ _ (T.keep _ _ _ st2 (fun b hb o e=>k4 b o (kp3 b o e))) loop)
theorem BY(S:nJ X Nc k js scope){H:Hp}{s:ah}(I:Inv X pins σ H s):closureFor scope X.env=pure (fY X.env scope.names []):=
 Ia X.env scope fun y hy z=>by
  have:=lC.mp S.fre y hy
  rw[z]at this
  have this':X.env.scope.names.lookup y.1=some .cell:=by simpa using this
  exact I.ok.has y.1 (.inl this')
theorem BZ(S:nJ X Nc k js scope):∀y∈scope.names,y.2= .local->scope.names.lookup y.1=some .local:=fun y hy z=>by
 have:=lC.mp S.loc y hy
 rw[z]at this
 simpa using this
theorem kS{wi:TI}(S:nJ X Nc k js scope)(hi:PI X tg iter wi)(hg:∀C s₀ H₀ fp,PG (eE X Nc scope C s₀ H₀ fp) tg (g C s₀ H₀ fp))(ht:∀C s₀ H₀ fp,pQ (eE X Nc scope C s₀ H₀ fp) ifs (tt C s₀ H₀ fp))
 (he:∀C s₀ H₀ fp,PE (eE X Nc scope C s₀ H₀ fp) elt (te C s₀ H₀ fp)) (hcalm:X.calm=true:=by rfl) (hs:∀x,foldedSetIterable iter X.env x=pure x:=by intro _;rfl):PE X (.ListComp elt [⟨tg,iter,ifs,0⟩] scope pos) (BU k js wi g tt te):=by
 intro pins s σ H Q I h
 rw[eval_ListComp]
 refine xX (use:=none) rfl hs (BY S I) S.kind (BZ S) ?_
 refine aK (hi pins s σ H _ I h) fun v s1 h1=>aK h1 fun itv s2 h2=>?_
 obtain⟨it,fp,tn,J,H2,e,I2,T,st2,f2,w⟩:=h2
 subst e
 refine BX (Q:=fun D H'=>Q (.ref D) H') (RR:=fun acc C=>compPost (model X.prog X.w) X.A X.xe none (EP X pins σ Q) acc C) S hcalm hg ht he I2 T st2 f2 w fun D C s' H' q I' fC hm=>?_
 obtain⟨m,hm⟩:=hm
 exact⟨m,hm,fun h' sb=>⟨.ref D,H',I'.turned (t':=s'.toks) (fun b o hb e=>(sb.2 b hb).trans e) fC.1 fC.2.1 fC.2.2.2.1 fC.2.2.2.2.1 fC.2.2.2.2.2,rfl,q⟩⟩
theorem B0{wi:TI}{y:aa}{py spos:Pos}{i:Nat}(S:nJ X Nc k js scope)(hN:X.N.Nodup)(hiN:X.N[i]?=some y)(hx:pz X.env.scope y)(hi:PI X tg iter wi)(hg:∀C s₀ H₀ fp,PG (eE X Nc scope C s₀ H₀ fp) tg (g C s₀ H₀ fp))(ht:∀C s₀ H₀ fp,pQ (eE X Nc scope C s₀ H₀ fp) ifs (tt C s₀ H₀ fp))
 (he:∀C s₀ H₀ fp,PE (eE X Nc scope C s₀ H₀ fp) elt (te C s₀ H₀ fp)) (hsw:swapsWith (.ListComp elt [⟨tg,iter,ifs,0⟩] scope pos) (some (.Name y py)) spos.line X.env=pure true:=by rfl) (hcalm:X.calm=true:=by rfl) (hs:∀x,foldedSetIterable iter X.env x=pure x:=by intro _;rfl)
 (hf:X.fn y=true\/X.env.scope.names.lookup y=some .local:=by first|exact .inl rfl|exact .inr rfl|assumption):
 PS X (.Assign [.Name y py] (.ListComp elt [⟨tg,iter,ifs,0⟩] scope pos) spos) (vB (BU k js wi g tt te) (ku i)):=by
 intro pins s σ H D I h
 rw[exec_Assign_Name_used _ _ _ _ hsw]
 refine ag (ui (ag ?_))
 show wpAny _ X.A (do let _ <-comprehension (.ListComp elt [⟨tg,iter,ifs,0⟩] scope pos) scope X.env _ (newList []) false (eval iter X.env) (some (assign (.Name y py) X.env))) _ _ s
 refine ag (eW (xX (use:=some (assign (.Name y py) X.env)) (Q:=fun _ s'=>SP X pins D .next s') rfl hs (BY S I) S.kind (BZ S)
  (aK (hi pins s σ H _ I h) fun v s1 h1=>aK h1 fun itv s2 h2=>?_)) (fun _ s' hq=>aP (aP hq)) fun _ _ e=>e)
 obtain⟨it,fp,tn,J,H2,e,I2,T,st2,f2,w⟩:=h2
 subst e
 refine BX (Q:=fun Dd H'=>D.nx (σ.set i (some (.ref Dd))) H') (RR:=fun acc C=>compPost (model X.prog X.w) X.A X.xe (some (assign (.Name y py) X.env)) (fun _ s'=>SP X pins D .next s') acc C) S hcalm hg ht he I2 T st2 f2 w fun Dd C s' H' q I' fC hm=>?_
 obtain⟨m,hm⟩:=hm
 show wpAny _ X.A (assign (.Name y py) X.env (.ref Dd)) _ _ _
 refine xR (zL I' hN hiN hx (v:= .ref Dd) rfl (fun s'' I'' ⟨a,sb,ha⟩=>?_) hf)
 have hCa:C≠a:=by
  rcases ha with z|z
  ·rw[z];exact fC.2.1
  ·exact fQ (fC.2.2.2.2.1 y a z)
 exact⟨m,hm.sameBut sb hCa,fun h' sb'=>⟨_,H',I''.turned (t':=s''.toks) (fun b o hb e=>(sb'.2 b hb).trans e) fC.1 fC.2.1 fC.2.2.2.1 fC.2.2.2.2.1 fC.2.2.2.2.2,q⟩⟩
end
theorem v9{K:aA}{a D:Addr}{xs:List V}{g:TG}{tt:TT}{te:TE}{σ:L2.St}{H:Hp}{Q:Hp->Prop}(Pv:Nat->L2.St->Hp->Prop)(h0:Pv 0 σ H)(hl:∀i σ H,i<=xs.length->Pv i σ H->ak K H a xs)
 (hs:∀i x σ H,xs[i]?=some x->Pv i σ H->g x σ H fun σ2 H2=>tt σ2 H2 fun b H3=>if b=true then te σ2 H3 fun y H4=>∃ys,H4 D=some (.lst ys)/\ys.length<sizeLine/\Pv (i+1) σ2 (ad H4 D (.lst (ys++[y])))else Pv (i+1) σ2 H3)
 (hd:∀σ H,Pv xs.length σ H->Q H):mj g tt te (lO K a) σ H D Q:=by
 refine⟨fun i m σ H=>m=xs.length - i/\i<=xs.length/\Pv i σ H,⟨xs.length,by simp,cQ _,h0⟩,?_⟩
 rintro i m σ H ⟨rfl,hi,p⟩
 have q:=hl i σ H hi p
 by_cases hlt:i<xs.length
 ·refine .inr ⟨⟨xs,xs[i],q,by simp[hlt]⟩,Pv (i+1),fun σ' H' p'=>⟨xs.length - (i+1),by omega,rfl,hlt,p'⟩,fun x H' y=>?_⟩
  obtain⟨e,y⟩:=y
  subst e
  exact hs i x σ _ (y xs q) p
 ·have e:i=xs.length:=by omega
  subst e
  exact .inl ⟨⟨xs,q,aE _⟩,hd σ H p⟩
theorem Ig{lo:Int}{n:Nat}{D:Addr}{g:TG}{tt:TT}{te:TE}{σ:L2.St}{H:Hp}{Q:Hp->Prop}(Pv:Nat->L2.St->Hp->Prop)(h0:Pv 0 σ H)
 (hs:∀i σ H,i<n->Pv i σ H->g (.int (lo+i)) σ H fun σ2 H2=>tt σ2 H2 fun b H3=>if b=true then te σ2 H3 fun y H4=>∃ys,H4 D=some (.lst ys)/\ys.length<sizeLine/\Pv (i+1) σ2 (ad H4 D (.lst (ys++[y])))else Pv (i+1) σ2 H3)
 (hd:∀σ H,Pv n σ H->Q H):mj g tt te (kx lo n) σ H D Q:=by
 refine⟨fun i m σ H=>m=n - i/\i<=n/\Pv i σ H,⟨n,by simp,cQ _,h0⟩,?_⟩
 rintro i m σ H ⟨rfl,hi,p⟩
 by_cases hlt:i<n
 ·refine .inr ⟨hlt,Pv (i+1),fun σ' H' p'=>⟨n - (i+1),by omega,rfl,hlt,p'⟩,fun x H' y=>?_⟩
  obtain⟨e,y⟩:=y
  subst e
  subst y
  exact hs i σ _ hlt p
 ·have e:i=n:=by omega
  subst e
  exact .inl ⟨aE _,hd σ H p⟩
theorem pS{K:aA}{a D:Addr}{xs:List V}{te:TE}{σ:L2.St}{H:Hp}{Q:Hp->Prop}(Pv:Nat->L2.St->Hp->Prop)(h0:Pv 0 σ H)(hl:∀i σ H,i<=xs.length->Pv i σ H->ak K H a xs)
 (hs:∀i x σ H,xs[i]?=some x->Pv i σ H->te (σ.set 0 (some x)) H fun y H4=>∃ys,H4 D=some (.lst ys)/\ys.length<sizeLine/\Pv (i+1) (σ.set 0 (some x)) (ad H4 D (.lst (ys++[y]))))
 (hd:∀σ H,Pv xs.length σ H->Q H):mj (ku 0) pR te (lO K a) σ H D Q:=
 v9 Pv h0 hl (fun i x σ H hx hp=>by
  simp only[ku,pR,if_true]
  exact hs i x σ H hx hp) hd
theorem Ih{lo:Int}{n:Nat}{D:Addr}{te:TE}{σ:L2.St}{H:Hp}{Q:Hp->Prop}(Pv:Nat->L2.St->Hp->Prop)(h0:Pv 0 σ H)
 (hs:∀i σ H,i<n->Pv i σ H->te (σ.set 0 (some (.int (lo+i)))) H fun y H4=>∃ys,H4 D=some (.lst ys)/\ys.length<sizeLine/\Pv (i+1) (σ.set 0 (some (.int (lo+i)))) (ad H4 D (.lst (ys++[y]))))
 (hd:∀σ H,Pv n σ H->Q H):mj (ku 0) pR te (kx lo n) σ H D Q:=
 Ig Pv h0 (fun i σ H hi hp=>by
  simp only[ku,pR,if_true]
  exact hs i σ H hi hp) hd
theorem Ii{v v':V}{u:ac}(h:aW v u)(h':aW v' u):v=v':=by
 cases v<;>cases v'<;>simp only[L2.aW]at h h'<;>first
  |rfl
  |(subst h;cases h';rfl)
  |(subst h;obtain⟨t',e⟩:=h';cases e)
  |(obtain⟨t,rfl⟩:=h;cases h';done)
  |(obtain⟨t,rfl⟩:=h;obtain⟨t',e⟩:=h';cases e;rfl)
  |(obtain⟨t,rfl⟩:=h;obtain⟨t',e⟩:=h';cases e)
section
variable{P:aQ}{w:aH}{H:Hp}{s:ah}
theorem wa(ok:cy P w H s.heap){A:bm}{its:List ac}{vs:List V}{ds:List Dt}{x:V}{xv:ac}{d:Dt}(rv:aL vs its)(hd:bU H vs ds)(hx:aV H x d)(rx:aW x xv)(hu:∀e∈ds,A.units+e.dep<cLine):
 ∃e:ac->Bool,(∀y,y∈its.toArray->dW A s y xv (e y))/\∀i (h1:i<its.length)(h2:i<ds.length),e its[i]=true↔ds[i]=d:=by
 have l1:=rv.length
 have l2:=hd.length
 have h0:∀y:ac,∃b:Bool,∀i (h1:i<its.length)(h2:i<ds.length),its[i]=y->dW A s y xv b/\(b=true↔ds[i]=d):=by
  intro y
  by_cases c:∃i,∃h:i<its.length,its[i]=y
  ·obtain⟨i,hi,e⟩:=c
   obtain⟨b,h1,h2⟩:=vZ ok ds[i] d vs[i] x its[i] xv A (hd.get i (by omega) (by omega)) hx (aL.at rv i (by omega) hi) rx (hu _ (zGM _))
   refine⟨b,fun j g1 g2 ej=>?_⟩
   have ev:vs[j]=vs[i]:=Ii (aL.at rv j (by omega) g1) (by rw[ej,<-e];exact aL.at rv i (by omega) hi)
   have ed:ds[j]=ds[i]:=aV.inj _ _ vs[j] (hd.get j (by omega) g2) (by rw[ev];exact hd.get i (by omega) (by omega))
   rw[ed]
   exact⟨e▸h1,h2⟩
  ·exact⟨true,fun i h1 _ e=>absurd ⟨i,h1,e⟩ c⟩
 obtain⟨e,he⟩:=zq h0
 refine⟨e,fun y hy=>?_,fun i h1 h2=>(he _ i h1 h2 rfl).2⟩
 have hy':y∈its:=by simpa using hy
 obtain⟨i,hi,e1⟩:=qT hy'
 exact(he y i hi (by omega) e1).1
theorem B1{its:List ac}{ds:List Dt}{d:Dt}{e:ac->Bool}(hl:its.length=ds.length)(h:∀i (h1:i<its.length)(h2:i<ds.length),e its[i]=true↔ds[i]=d):its.toArray.any e=true↔d∈ds:=by
 rw[List.any_toArray,uP]
 constructor
 ·rintro⟨y,hy,hb⟩
  obtain⟨i,hi,rfl⟩:=qT hy
  exact ja.mpr ⟨i,by omega,(h i hi (by omega)).mp hb⟩
 ·intro hm
  obtain⟨i,hi,e1⟩:=qT hm
  exact⟨its[i]'(by omega),zGM _,(h i (by omega) hi).mpr e1⟩
end
section
variable{X:Cx}
inductive B2(X:Cx)(x:V)(y:V)(H:Hp)(Q:VK):Prop
 |mk:∀d p vs ds,(aV H x d)->(y= .ref p)->(H p=some (.lst vs))->(bU H vs ds)->((∀e∈ds,X.A.units+1+e.dep<cLine))->(∀b,(b=true↔d∈ds)->Q (.bl b) H)->B2 X x y H Q
theorem Ij:cG X (compareOp .In) (fun x y H Q=>B2 X x y H Q):=by
 intro pins s σ H x y v u Q I rx ry h
 obtain⟨d,p,vs,ds,hx,rfl,hp,hd,hu,q⟩:=h
 cases ry
 obtain⟨its,ri,p1⟩:=jj I.hok hp
 obtain⟨e,he,hb⟩:=wa (A:=X.A.in1) I.hok ri hd hx rx (fun e z=>by rw[mf];exact hu e z)
 exact SeqAt.in_listAt e p1 he ⟨.bl _,H,I,rfl,q _ (B1 (by have:=ri.length;have:=hd.length;omega) hb)⟩
inductive B3(X:Cx)(x:V)(y:V)(H:Hp)(Q:VK):Prop
 |mk:∀d p vs ds,(aV H x d)->(y= .ref p)->(H p=some (.lst vs))->(bU H vs ds)->((∀e∈ds,X.A.units+1+e.dep<cLine))->(∀b,(b=true↔¬d∈ds)->Q (.bl b) H)->B3 X x y H Q
theorem sy:cG X (compareOp .NotIn) (fun x y H Q=>B3 X x y H Q):=by
 intro pins s σ H x y v u Q I rx ry h
 obtain⟨d,p,vs,ds,hx,rfl,hp,hd,hu,q⟩:=h
 cases ry
 obtain⟨its,ri,p1⟩:=jj I.hok hp
 obtain⟨e,he,hb⟩:=wa (A:=X.A.in1) I.hok ri hd hx rx (fun e z=>by rw[mf];exact hu e z)
 refine zm e p1 he ⟨.bl _,H,I,rfl,q _ ?_⟩
 rw[<-B1 (by have:=ri.length;have:=hd.length;omega) hb,zj,zl]
def Ik(X:Cx):V->List V->Hp->VK->Prop:=fun x xs H Q=>∃p v vs ds d j,x= .ref p/\xs=[v]/\H p=some (.lst vs)/\bU H vs ds/\aV H v d/\(∀e∈ds,X.A.units+2+e.dep<cLine)/\(∃h:j<ds.length,ds[j]=d/\∀i (h':i<ds.length),i<j->ds[i]≠d)/\Q (.int j) H
theorem B4:sd X "list.index" (Ik X):=by
 intro pins s σ H x vs v us Q I rx rv h
 obtain⟨p,y,ys,ds,d,j,rfl,rfl,hp,hd,hy,hu,⟨hj,hj1,hj2⟩,q⟩:=h
 cases rx
 obtain⟨u,rfl,ru⟩:=rv.one
 obtain⟨z,its,n,r,hl,e⟩:=I.lstM hp
 have l2:=hd.length
 obtain⟨f,he,hb⟩:=wa (A:=X.A.in1) I.hok r hd hy ru (fun e z=>by rw[mf];have:=hu e z;omega)
 have hn:=fw
 refine qF F.slot_list_index ⟨_,e,rfl⟩ F.entry_list_index (F.args_list_index_2 _ _) (SeqAt.list_indexAt p its.toArray n none #[] u f j (by simp only[bX];omega) (by omega)
  (by simp only[uN];exact(hb j (by omega) hj).mpr hj1) (fun m hm h1=>?_)) ⟨e,?_,?_⟩
 ·simp only[uN]
  have hm':m<its.length:=by simpa using hm
  exact h9.mpr fun z=>hj2 m (by omega) h1 ((hb m hm' (by omega)).mp z)
 ·exact he
 ·exact⟨.int j,H,I.tok _,⟨_,rfl⟩,q⟩
end
def pT(K:aA)(a:Addr)(xs:List V):It:=
 ⟨fun i H=>ak K H a xs/\i<xs.length,fun i H x H'=>H'=H/\xs.reverse[i]?=some x,fun i H=>i=xs.length⟩
theorem Il{P:aQ}{w:aH}{K:aA}{tg:Expr}(a it:Addr)(xs:List V):jd P w K tg (pT K a xs) [it] it (fun i h=>h.IsRevIter it a ((xs.length:Int) - 1 - (i:Nat))) where
 mem:=by simp
 obj:=fun i h st b hb=>by
  have e:b=it:=by simpa using hb
  subst e
  obtain⟨o,ho,hc,hd⟩:=st
  exact⟨o,ho,fun v z=>by rw[hd]at z;cases z⟩
 keep:=fun i h h' st k=>st.at fun o e=>k it (by simp) o e
 item:=by
  intro X hP hw hK hc i pins s σ H E I hf st hg
  subst hP hw hK
  obtain⟨hq,hi⟩:=hg
  obtain⟨its,rv,p,hz⟩:=I.list hq
  obtain⟨f0,f1,f2,f3,f4,f5⟩:=hf it (by simp)
  have hl:=rv.length
  have e1:(xs.length:Int) - 1 - (i:Nat)=((xs.length - 1 - i:Nat):Int):=by omega
  obtain⟨x,hx⟩:∃x,xs[xs.length - 1 - i]?=some x:=⟨_,zGE (by omega)⟩
  obtain⟨u,hu,ru⟩:=rv.get hx
  rw[e1]at st
  refine wpAny_pyNext_rev_item st p.isList (x:=u) (by simpa using hu) fun h' st' sb=>?_
  have I1:Inv X pins σ H { s with heap:=h'}:=I.turned (t':=s.toks) (fun b o hb e=>(sb.2 b hb).trans e) f0 f1 f3 f4 f5
  have e2:((xs.length - 1 - i:Nat):Int) - 1=(xs.length:Int) - 1 - ((i+1:Nat):Int):=by omega
  rw[e2]at st'
  obtain⟨o,ho,hoc,hod⟩:=id st'
  exact⟨u,rfl,pA (s:={ s with heap:=h'}) (n:="list_reverseiterator") ho hoc hod (by decide) ⟨x,H,I1,ru,⟨rfl,by rw[oZ (by omega)];exact hx⟩,st',fun b hb=>(hf b hb).1⟩⟩
 done:=by
  intro X hP hw hK hc i pins s σ H E I hf st hg
  subst hP hw hK
  obtain⟨f0,f1,f2,f3,f4,f5⟩:=hf it (by simp)
  have hi:i=xs.length:=hg
  have e1:(xs.length:Int) - 1 - (i:Nat)= -1:=by omega
  rw[e1]at st
  exact wpAny_pyNext_rev_end (I.ok.hd hc) st fun h' eb=>⟨rfl,I.turned (t':=s.toks) (fun b o hb e=>eb b o hb e) f0 f1 f3 f4 f5⟩
 self:=fun _ _ _ _ _ st h=>xY st h
section
variable{X:Cx}{tg:Expr}
def Im(K:aA)(ta:TA):TI:=fun σ H R=>ta σ H fun vs H1=>∃a xs,vs=[.ref a]/\ak K H1 a xs/\R (pT K a xs) H1
theorem B5{a:Expr}{ta:TA}{p pos:Pos}(hg:Gl X "reversed")(hm:X.mg "reversed"=none)(ha:PA X [a] ta)(hs:starEach [a] X.env=[(false,eval a X.env)]:=by rfl):PI X tg (.Call (.Name "reversed" p) [a] [] pos) (Im X.K ta):=by
 intro pins s σ H R I h
 refine Call_ (fq I hg hm pJ (gg (aK (ha pos pins s σ H _ I h) fun us s1 ⟨vs,H1,I1,r1,q1⟩=>?_) hs rfl))
 obtain⟨b,xs,e,hq,q⟩:=q1
 subst e
 obtain⟨u,rfl,ru⟩:=je r1
 cases ru
 obtain⟨its,rv,pl,hz⟩:=I1.list hq
 have hl:=rv.length
 refine xW pl.isList ?_
 have e3:(((its.toArray).size:Nat):Int) - 1=(xs.length:Int) - 1 - ((0:Nat):Int):=by simp only[bX];omega
 rw[e3]
 have I2:Inv X pins σ H1 { s1 with heap:=s1.heap.push (revObj b ((xs.length:Int) - 1 - ((0:Nat):Int)))}:=I1.kept (t':=s1.toks) fun b o e=>bj _ e
 have st:(s1.heap.push (revObj b ((xs.length:Int) - 1 - ((0:Nat):Int)))).IsRevIter s1.heap.objs.size b ((xs.length:Int) - 1 - ((0:Nat):Int)):=⟨_,bQ _ rfl,rfl,rfl⟩
 refine xY (s:={ s1 with heap:=s1.heap.push (revObj b ((xs.length:Int) - 1 - ((0:Nat):Int)))}) st ?_
 refine⟨s1.heap.objs.size,[s1.heap.objs.size],_,_,H1,rfl,I2,Il b _ xs,st,fun c hc=>?_,q⟩
 have e:c=s1.heap.objs.size:=by simpa using hc
 subst e
 exact I1.fpOk (aE _) (I1.hok.fresh (aE _))
end
theorem B6{K:aA}{a:Addr}{xs:List V}{g:TG}{tb:TS}{D:cZ}{σ:L2.St}{H:Hp}(Pv:Nat->L2.St->Hp->Prop)(h0:Pv 0 σ H)(hl:∀i σ H,i<=xs.length->Pv i σ H->ak K H a xs)
 (hs:∀i x σ H,xs.reverse[i]?=some x->Pv i σ H->g x σ H fun σ2 H2=>tb { D with nx:=Pv (i+1),ct:=Pv (i+1),bk:=D.nx} σ2 H2) (hd:∀σ H,Pv xs.length σ H->D.nx σ H):
 ∃W:Nat->Nat->L2.St->Hp->Prop,(∃m,W 0 m σ H)/\∀i m σ H,W i m σ H->
  ((pT K a xs).stop i H/\D.nx σ H)\/((pT K a xs).go i H/\∃N:L2.St->Hp->Prop,(∀σ' H',N σ' H'->∃m',m'<m/\W (i+1) m' σ' H')/\∀x H',(pT K a xs).yld i H x H'->g x σ H' fun σ2 H2=>tb { D with nx:=N,ct:=N,bk:=D.nx} σ2 H2):=by
 refine⟨fun i m σ H=>m=xs.length - i/\i<=xs.length/\Pv i σ H,⟨xs.length,by simp,cQ _,h0⟩,?_⟩
 rintro i m σ H ⟨rfl,hi,p⟩
 by_cases c:i=xs.length
 ·subst c
  exact .inl ⟨rfl,hd σ H p⟩
 ·have hlt:i<xs.length:=by omega
  refine .inr ⟨⟨hl i σ H hi p,hlt⟩,Pv (i+1),fun σ' H' k=>⟨xs.length - (i+1),by omega,rfl,by omega,k⟩,?_⟩
  rintro x H' ⟨rfl,hx⟩
  exact hs i x σ _ hx p
end BF
namespace PySem
open Sem (wp)
namespace DP
end DP
section
variable{prog:aQ}{w:aH}{K:Type}[DecidableEq K]{knd:KeyKind prog w K}{A:bm}{R:Result->ah->Prop}
end
end PySem
namespace BF
open PySem PySem.Spec PyProof.Rows L2
open Sem (wp)
section
variable{X:Cx}
theorem B7:bootBuiltins "zip"=some (.type "zip"):=by decide +kernel
theorem _root_.L2.Inv.turnedL{pins:List (Addr×aG)}{σ:L2.St}{H:Hp}{s:ah}{h':az}{t':Nat}{ch:List Addr}(I:Inv X pins σ H s)(k:∀b o,b∉ch->s.heap.get? b=some o->h'.get? b=some o)(hf:∀b∈ch,dM X pins H b):
 Inv X pins σ H { s with heap:=h',toks:=t'}:=by
 have nit:∀b u,H b=some u->b∉ch:=fun b u e z=>by rw[(hf b z).1]at e;cases e
 have hL:X.env.locals∉ch:=fun z=>(hf _ z).2.1 rfl
 refine I.step (g':=s.gens) (d':=s.drawn) (ch:=ch) (fun b hb=>?_) (fun b o _ _ hc e _=>k b o hc e) (fun b o _ _ hc e _=>⟨o.slots,k b o hc e⟩) (fun _ _ _ _ n=>n)
  (fun b o hc e=>⟨o,k b o hc e⟩) (fun _ _ e=>e) (fun _ _ _ e=>e) (fun b ps e=>⟨#[],by rw[e];simp⟩) (fun m hm=>?_) (fun b u e=>?_) I.bare
 ·obtain⟨f0,f1,f2,f3,f4,f5⟩:=hf b hb
  exact⟨f3,f1,f4,f5⟩
 ·obtain⟨o,es,ep,ho,r⟩:=hm
  exact⟨o,es,ep,k _ o hL ho,r⟩
 ·refine(I.hok b u e).stay (fun c v hc q=>k c v ?_ q) (fun _ q=>q) fun _ _ q=>q
  rcases hc with z|z
  ·rw[z];exact nit b u e
  ·exact nit c _ z
end
section
variable{X:Cx}{elts:List Expr}{epos:Pos}
end
theorem B8:∀{us:List ac}{ys:List aa},StrsAre us ys->aL (ys.map V.str) us
 |_,_,.nil=>.nil
 |_,_,.cons y t r=>.cons ⟨t,rfl⟩ (B8 r)
theorem B9:∀(p:aa)(l:List aa),risingS p l=true->(p::l).Pairwise fun a b=>¬b.cps.toList<a.cps.toList
 |p,[],_=>yz _ _
 |p,x::r,h=>by
  have h':(!ltCps x.cps.toList p.cps.toList&&risingS x r)=true:=h
  rw[h8,ltCps_eq]at h'
  have h1:¬x.cps.toList<p.cps.toList:=by simpa using h'.1
  have ih:=B9 x r h'.2
  refine yA.mpr ⟨fun b hb=>?_,ih⟩
  rcases bo.mp hb with rfl|hb
  ·exact h1
  ·have h2:=List.rel_of_pairwise_cons ih hb
   intro z
   exact absurd (List.le_trans (uQ.mp h1) (uQ.mp h2)) (List.not_le.mpr z)
theorem Io(l:List aa)(h:sortedS l=true):l.Pairwise fun a b=>¬b.cps.toList<a.cps.toList:=by
 cases l with
 |nil=>exact .nil
 |cons x r=>exact B9 x r h
theorem Ip{X:Cx}(hc:X.calm=true):gG X (.builtin "sorted") (fun xs H Q=>∃(d:Addr)(kvs:List (Key×V))(ws:List aa),xs=[.ref d]/\H d=some (.dK kvs)/\kvs.map (·.1)=ws.map Sum.inr/\ws.length<64/\
 ∀(l:Addr)(ss:List aa),H l=none->ss.Perm ws->(ss.Pairwise fun a b=>¬b.cps.toList<a.cps.toList)->Q (.ref l) (ad H l (.lst (ss.map V.str)))):=by
 intro pins s σ H xs us Q I r h
 obtain⟨d,kvs,ws,rfl,hd,hks,hlen,q⟩:=h
 obtain⟨u,rfl,ru⟩:=r.one
 cases ru
 obtain⟨z,lo,vs,rel,dd⟩:=sf I.hok hd
 obtain⟨ep,hat⟩:=dd.dictAt
 have hkl:kvs.length=ws.length:=by have:=congrArg iG hks;simpa using this
 have hvl:=rel.length
 have hn:=fw
 refine Calls.call_function_entry kind_sorted plain_sorted entry_sorted (args_sorted1 _) ?_
 unfold dc.«sorted»
 refine ag (m:=checkCount "sorted" 1 1 _) (aP ?_)
 refine ag (PySem.W.kdu_collect (A:=X.A.in1) (yh (knd:=dn X.prog X.w) (kvs:=vs) (ep:=ep) lo) (I.ok.hd hc) hat (by omega) fun h1 tk acc hk hacc=>?_)
 have hal:acc.toList.length=ws.length:=by rw[lI,hacc.1];omega
 have hS:StrsAre acc.toList ws:=by
  refine v3 (pN (by simp[hal]) fun i x u e1 e2=>?_)
  obtain⟨k,y,hy,hky⟩:=hacc.2 i u (by rw[<-zr];exact e2)
  have hk1:(vs.map (·.1))[i]?=some k:=by rw[cW,hy];rfl
  rw[<-rel.keys,hks,cW]at hk1
  rw[cW]at e1
  cases hw:ws[i]? with
  |none=>rw[hw]at hk1;cases hk1
  |some w'=>
   rw[hw]at hk1 e1
   cases hk1
   cases e1
   exact sv hky
 have I1:Inv X pins σ H { s with heap:=h1,toks:=tk}:=I.kept hk
 refine ag (wpAny_newList ?_ (by rw[hal];omega))
 have ho:(h1.push (seqObj "list" acc.toList.toArray 0)).get? h1.objs.size=some (seqObj "list" acc.toList.toArray 0):=bQ _ rfl
 have fresh:H h1.objs.size=none:=I1.fresh
 refine ag (iU (d4 slot_list_sort ⟨_,ho,rfl⟩ entry_list_sort (list_sort_treeK strKind_oneLt ho hS.keysOf (fun v₁ v₂ rest e=>keyKind_strs (by rw[<-e];exact hS)) (by omega) fun st' hp hs=>⟨_,rfl,?_⟩) (args_list_sort _)))
 obtain⟨ss,g1,g2,g3⟩:=sorted_out_str hS hp hs
 obtain⟨e,he⟩:=sortedHeap_at (out:=(arrOf st').map (·.2)) ho
 refine aP ⟨_,rfl,?_⟩
 have hsl:(ss.map V.str).length<=sizeLine:=by rw[zLM,g2.length_eq];omega
 refine⟨.ref h1.objs.size,ad H h1.objs.size (.lst (ss.map V.str)),I1.laid (a:=h1.objs.size) (t':=tk) (fun b o eb=>?_) (aE _) ⟨hsl,_,e,B8 g1,he⟩,rfl,q _ ss fresh g2 (Io ss g3)⟩
 have hlt:b<h1.objs.size:=bn eb
 have hsz:(h1.push (seqObj "list" acc.toList.toArray 0)).objs.size=h1.objs.size+1:=iE ..
 rw[sortedHeap_old (dg hlt) (by rw[hsz];exact uH hlt)]
 exact bj _ eb
theorem Iq:bootBuiltins "sorted"=some (.builtin "sorted"):=by decide +kernel
mutual
def Tm.bl:Tm->List aa
 |.num _=>[]
 |.name _=>[]
 |.blank w=>[w]
 |.thing _ ps=>eR ps
def eR:List Tm->List aa
 |[]=>[]
 |p::r=>p.bl++eR r
end
def eF(acc:List aa):List aa->List aa
 |[]=>acc
 |x::r=>if x∈acc then eF acc r else eF (acc++[x]) r
theorem Ca(acc a b:List aa):eF acc (a++b)=eF (eF acc a) b:=by
 induction a generalizing acc with
 |nil=>rfl
 |cons x r ih=>
  simp only[eA,eF]
  split<;>exact ih _
def Tm.firsts(t:Tm):List aa:=eF [] t.bl
mutual
def Tm.rp:Tm->List Tm
 |.num n=>[.num n]
 |.name w=>[.name w]
 |.blank w=>[.blank w]
 |.thing w ps=>.thing w ps::bV ps
def bV:List Tm->List Tm
 |[]=>[]
 |p::r=>bV r++p.rp
end
theorem wb(a b:List Tm):bV (a++b)=bV b++bV a:=by
 induction a with
 |nil=>simp[bV]
 |cons x r ih=>simp only[eA,bV,ih,dL]
def Tm.b1:Tm->List aa
 |.blank w=>[w]
 |_=>[]
theorem Cb(t:Tm):(t.rp.reverse.flatMap Tm.b1)=t.bl:=by
 induction t using Tm.ind with
 |h1 n=>rfl
 |h2 n=>rfl
 |h3 n=>rfl
 |h4 w ps ih=>
  have h:∀l:List Tm,(∀p∈l,p.rp.reverse.flatMap Tm.b1=p.bl)->(bV l).reverse.flatMap Tm.b1=eR l:=by
   intro l
   induction l with
   |nil=>intro _;rfl
   |cons p r ih2=>
    intro hp
    simp only[bV,lD,mZ,eR]
    rw[hp p (by simp),ih2 fun q hq=>hp q (by simp[hq])]
  simp only[Tm.rp,gz,mZ,h ps ih,Tm.bl]
  simp[Tm.b1]
theorem gN(t:Tm):t.rp.length=t.nodes:=by
 induction t using Tm.ind with
 |h1 n=>rfl
 |h2 n=>rfl
 |h3 n=>rfl
 |h4 w ps ih=>
  have h:∀l:List Tm,(∀p∈l,p.rp.length=p.nodes)->(bV l).length=aJ l:=by
   intro l
   induction l with
   |nil=>intro _;rfl
   |cons p r ih2=>
    intro hp
    simp only[bV,zLA,aJ]
    rw[hp p (by simp),ih2 fun q hq=>hp q (by simp[hq])]
    omega
  simp only[Tm.rp,zLC,h ps ih,Tm.nodes]
  omega
theorem kU(t:Tm):t.bl.length<=t.nodes:=by
 induction t using Tm.ind with
 |h1 n=>simp[Tm.bl,Tm.nodes]
 |h2 n=>simp[Tm.bl,Tm.nodes]
 |h3 n=>simp[Tm.bl,Tm.nodes]
 |h4 w ps ih=>
  have h:∀l:List Tm,(∀p∈l,p.bl.length<=p.nodes)->(eR l).length<=aJ l:=by
   intro l
   induction l with
   |nil=>intro _;simp[eR]
   |cons p r ih2=>
    intro hp
    have:=hp p (by simp)
    have:=ih2 fun q hq=>hp q (by simp[hq])
    simp only[eR,zLA,aJ]
    omega
  have:=h ps ih
  simp only[Tm.bl,Tm.nodes]
  omega
abbrev Fl:=List (aa×Tm)
def look(f:Fl)(w:aa):Option Tm:=(f.find? fun p=>decide (p.1=w)).map (·.2)
mutual
def Tm.fill(f:Fl):Tm->Tm
 |.num n=>.num n
 |.name w=>.name w
 |.blank w=>(look f w).getD (.blank w)
 |.thing w ps=>.thing w (gP f ps)
def gP(f:Fl):List Tm->List Tm
 |[]=>[]
 |p::r=>p.fill f::gP f r
end
theorem Cc(f:Fl)(ps:List Tm):gP f ps=ps.map (Tm.fill f):=by
 induction ps with
 |nil=>rfl
 |cons p r ih=>simp only[gP,ih,bM]
theorem Cd(f:Fl)(ps:List Tm):(gP f ps).length=ps.length:=by rw[Cc,zLM]
mutual
def Tm.lp:Tm->List Tm
 |.num n=>[.num n]
 |.name w=>[.name w]
 |.blank w=>[.blank w]
 |.thing w ps=>.thing w ps::ef ps
def ef:List Tm->List Tm
 |[]=>[]
 |p::r=>p.lp++ef r
end
theorem Ir(a b:List Tm):ef (a++b)=ef a++ef b:=by
 induction a with
 |nil=>rfl
 |cons x r ih=>simp only[eA,ef,ih,dL]
theorem Iu{ps:List Tm}(h:∀p∈ps,p.lp.length=p.nodes):(ef ps).length=aJ ps:=by
 induction ps with
 |nil=>rfl
 |cons p r ih=>
  simp only[ef,aJ,zLA]
  rw[h p eY,ih fun q hq=>h q (dC _ hq)]
theorem Ce(t:Tm):t.lp.length=t.nodes:=by
 induction t using Tm.ind with
 |h1 n=>rfl
 |h2 n=>rfl
 |h3 n=>rfl
 |h4 w ps ih=>simp only[Tm.lp,Tm.nodes,zLC,Iu ih];omega
def wc(f:Fl)(made:List Tm):Tm->List Tm
 |.num n=>made++[.num n]
 |.name w=>made++[.name w]
 |.blank w=>made++[(look f w).getD (.blank w)]
 |.thing w ps=>made.take (made.length - ps.length)++[.thing w (made.drop (made.length - ps.length)).reverse]
def iy(f:Fl):List Tm->List Tm->List Tm
 |made,[]=>made
 |made,t::r=>iy f (wc f made t) r
theorem sG(f:Fl):∀(a made b:List Tm),iy f made (a++b)=iy f (iy f made a) b
 |[],_,_=>rfl
 |x::r,made,b=>sG f r _ b
theorem Iv(f:Fl){ps:List Tm}(h:∀p∈ps,∀made,iy f made p.lp.reverse=made++[p.fill f]):∀made,iy f made (ef ps).reverse=made++(gP f ps).reverse:=by
 induction ps with
 |nil=>intro made;simp[ef,gP,iy]
 |cons p r ih=>
  intro made
  simp only[ef,gP,lD,gz]
  rw[sG,ih (fun q hq=>h q (dC _ hq)) made,h p eY,dL]
theorem Iw(f:Fl)(t:Tm):∀made,iy f made t.lp.reverse=made++[t.fill f]:=by
 induction t using Tm.ind with
 |h1 n=>intro made;rfl
 |h2 n=>intro made;rfl
 |h3 n=>intro made;rfl
 |h4 w ps ih=>
  intro made
  simp only[Tm.lp,gz]
  rw[sG,Iv f ih made]
  simp only[iy,wc,Tm.fill]
  have e:(made++(gP f ps).reverse).length - ps.length=made.length:=by simp[Cd]
  rw[e]
  simp
theorem gQ{f:Fl}{w:aa}{t:Tm}(h:look f w=some t):(w,t)∈f:=by
 unfold look at h
 cases e:f.find? (fun p=>decide (p.1=w))with
 |none=>rw[e]at h;cases h
 |some p=>
  rw[e]at h
  have h1:=List.mem_of_find?_eq_some e
  have h2:=List.find?_some e
  simp only[decide_eq_true_eq]at h2
  obtain⟨a,b⟩:=p
  simp only[nj,lG]at h h2
  subst h h2
  exact h1
def cq:Nat->List Tm->Prop
 |_,[]=>True
 |m,.thing _ ps::r=>ps.length<=m/\cq (m - ps.length+1) r
 |m,_::r=>cq (m+1) r
theorem Ix{ps:List Tm}(h:∀p∈ps,∀m r,cq m (p.lp.reverse++r)↔cq (m+1) r):∀m r,cq m ((ef ps).reverse++r)↔cq (m+ps.length) r:=by
 induction ps with
 |nil=>intro m r;simp[ef]
 |cons p q ih=>
  intro m r
  simp only[ef,lD,dL,zLC]
  rw[ih (fun x hx=>h x (dC _ hx)),h p eY]
  have e:m+q.length+1=m+(q.length+1):=by omega
  rw[e]
theorem Iy(t:Tm):∀m r,cq m (t.lp.reverse++r)↔cq (m+1) r:=by
 induction t using Tm.ind with
 |h1 n=>intro m r;simp[Tm.lp,cq]
 |h2 n=>intro m r;simp[Tm.lp,cq]
 |h3 n=>intro m r;simp[Tm.lp,cq]
 |h4 w ps ih=>
  intro m r
  simp only[Tm.lp,gz,dL,uR]
  rw[Ix ih]
  simp only[cq]
  have e:m+ps.length - ps.length+1=m+1:=by omega
  rw[e]
  exact⟨fun h=>h.2,fun h=>⟨by omega,h⟩⟩
theorem Iz(t:Tm):cq 0 t.lp.reverse:=by
 have:=(Iy t 0 []).mpr trivial
 simpa using this
def dQ(H:Hp)(ps:List V)(f:Fl):Prop:=Paired (fun x p=>∃a v,x= .ref a/\H a=some (.tup [.str p.1,v])/\ay H v p.2) ps f
def nK(H:Hp)(kvs:List (Key×V))(f:Fl):Prop:=∀w:aa,(look f w=none->ck kvs (Sum.inr w)=none)/\∀t,look f w=some t->∃v,ck kvs (Sum.inr w)=some v/\ay H v t
theorem ml{α β:Type}{F G:α->β->Prop}(h:∀a b,F a b->G a b):∀{l:List α}{m:List β},Paired F l m->Paired G l m
 |_,_,.nil=>.nil
 |_,_,.cons a r=>.cons (h _ _ a) (ml h r)
theorem dQ.mono{H H':Hp}{ps:List V}{f:Fl}(k:aR H H')(h:dQ H ps f):dQ H' ps f:=ml (fun _ _ ⟨a,v,e,h1,h2⟩=>⟨a,v,e,k _ _ h1,h2.mono k⟩) h
theorem nK.mono{H H':Hp}{kvs:List (Key×V)}{f:Fl}(k:aR H H')(h:nK H kvs f):nK H' kvs f:=fun w=>⟨(h w).1,fun t ht=>let ⟨v,h1,h2⟩:=(h w).2 t ht;⟨v,h1,h2.mono k⟩⟩
theorem dQ.len{H:Hp}{ps:List V}{f:Fl}(h:dQ H ps f):ps.length=f.length:=Paired.length h
theorem we(p:Key×V)(r:List (Key×V))(k:Key):ck (p::r) k=if p.1=k then some p.2 else ck r k:=by
 by_cases e:p.1=k
 ·rw[if_pos e,io e]
 ·rw[if_neg e,ip e]
theorem sH(p:aa×Tm)(r:Fl)(w:aa):look (p::r) w=if p.1=w then some p.2 else look r w:=by
 unfold look
 rw[jC]
 by_cases e:p.1=w
 ·simp[e]
 ·simp[e]
theorem dQ.get{H:Hp}{ps:List V}{f:Fl}(h:dQ H ps f)(i:Nat)(h1:i<ps.length)(h2:i<f.length):∃a v,ps[i]= .ref a/\H a=some (.tup [.str f[i].1,v])/\ay H v f[i].2:=by
 obtain⟨b,hb,hp⟩:=pP h (zGE h1)
 rw[zGE h2]at hb
 cases hb
 exact hp
theorem dQ.app{H:Hp}{ps:List V}{f:Fl}{x:V}{p:aa×Tm}(h:dQ H ps f)(hx:∃a v,x= .ref a/\H a=some (.tup [.str p.1,v])/\ay H v p.2):dQ H (ps++[x]) (f++[p]):=Paired.snoc h hx
def wf(p:Addr)(H H':Hp):Prop:=∀b o,b≠p->H b=some o->H' b=some o
def jQ(t:Tm)(w:aa):Bool:=match t with
 |.blank x=>decide (x=w)
 |_=>false
theorem sI(t:Tm)(w:aa):jQ t w=true↔t= .blank w:=by
 cases t with
 |blank x=>simp[jQ]
 |_=>simp[jQ]
def cH(f:Fl):List aa->Fl
 |[]=>[]
 |w::r=>(match look f w with|some t=>if jQ t w=true then []else [(w,t)]|none=>[])++cH f r
theorem jR{f:Fl}:∀{ss:List aa}{p:aa×Tm},p∈cH f ss->p.1∈ss/\look f p.1=some p.2/\p.2≠ .blank p.1
 |[],_,h=>by simp[cH]at h
 |w::r,p,h=>by
  simp only[cH]at h
  rcases br.mp h with h|h
  ·cases e:look f w with
   |none=>rw[e]at h;simp at h
   |some t=>
    rw[e]at h
    by_cases c:jQ t w=true
    ·simp[c]at h
    ·simp only[c,iI,if_false,bx]at h
     subst h
     exact⟨eY,e,fun z=>c ((sI _ _).mpr z)⟩
  ·obtain⟨a,b⟩:=jR h
   exact⟨dC _ a,b⟩
theorem Cf{f:Fl}:∀{ss:List aa},ss.Pairwise (fun a b=>a.cps.toList<b.cps.toList)->(cH f ss).Pairwise (fun p q=>p.1.cps.toList<q.1.cps.toList)
 |[],_=>.nil
 |w::r,h=>by
  simp only[cH]
  rw[List.pairwise_append]
  obtain⟨h1,h2⟩:=yA.mp h
  refine⟨?_,Cf h2,fun p hp q hq=>?_⟩
  ·split
   ·split
    ·exact .nil
    ·exact yz _ _
   ·exact .nil
  ·have e:p.1=w:=by
        split at hp
        ·split at hp
         ·simp at hp
         ·simp only[bx]at hp;rw[hp]
        ·simp at hp
   rw[e]
   exact h1 _ (jR hq).1
theorem pU(a b:Fl)(w:aa):look (a++b) w=(look a w).or (look b w):=by
 unfold look
 rw[List.find?_append]
 cases a.find? (fun p=>decide (p.1=w))<;>rfl
theorem wg{f:Fl}:∀{ss:List aa}{w:aa},w∈ss->(look (cH f ss) w).getD (.blank w)=(look f w).getD (.blank w)
 |[],_,h=>by simp at h
 |x::r,w,h=>by
  simp only[cH]
  rw[pU]
  by_cases e:x=w
  ·subst e
   cases hx:look f x with
   |none=>
    simp only
    rw[show look ([]:Fl) x=none from rfl,pq]
    by_cases hr:x∈r
    ·rw[wg hr,hx]
    ·have:look (cH f r) x=none:=by
         cases e:look (cH f r) x with
         |none=>rfl
         |some t=>exact absurd (jR (gQ e)).1 hr
     rw[this]
   |some t=>
    by_cases c:jQ t x=true
    ·simp only[c,if_true]
     rw[show look ([]:Fl) x=none from rfl,pq]
     have et:=(sI _ _).mp c
     have:look (cH f r) x=none:=by
         cases e:look (cH f r) x with
         |none=>rfl
         |some t'=>
          have:=(jR (gQ e)).2
          rw[hx]at this
          exact absurd et (by rw[cv this.1];exact this.2)
     rw[this,et]
     rfl
    ·simp only[c,iI,if_false]
     have:look [(x,t)] x=some t:=by simp[look]
     rw[this]
     rfl
  ·have hr:w∈r:=by
        rcases bo.mp h with z|z
        ·exact absurd z.symm e
        ·exact z
   have:look (match look f x with|some t=>if jQ t x=true then []else [(x,t)]|none=>[]) w=none:=by
        split
        ·split
         ·rfl
         ·simp[look,e]
        ·rfl
   rw[this,pq]
   exact wg hr
theorem IA{f:Fl}{ss:List aa}{w:aa}(h:w∉ss):look (cH f ss) w=none:=by
 cases e:look (cH f ss) w with
 |none=>rfl
 |some t=>exact absurd (jR (gQ e)).1 h
theorem sJ{f:Fl}{w:aa}(h:w∈f.map (·.1)):∃t,look f w=some t:=by
 induction f with
 |nil=>simp at h
 |cons p r ih=>
  by_cases e:p.1=w
  ·exact⟨p.2,by simp[look,e]⟩
  ·rw[bM]at h
   rcases bo.mp h with z|z
   ·exact absurd z.symm e
   ·obtain⟨t,ht⟩:=ih z
    exact⟨t,by simpa[look,e]using ht⟩
theorem kW{f:Fl}{w:aa}(h:w∉f.map (·.1)):look f w=none:=by
 cases e:look f w with
 |none=>rfl
 |some t=>exact absurd (bK.mpr ⟨_,gQ e,rfl⟩) h
def sK(f:Fl)(made:List Tm):Tm->List Tm
 |.num n=>made++[.num n]
 |.name w=>made++[.name w]
 |.blank w=>made++[(look f w).getD (.blank w)]
 |.thing w ps=>made.take (made.length - ps.length)++[.thing w (made.drop (made.length - ps.length))]
def gR(f:Fl):List Tm->List Tm->List Tm
 |made,[]=>made
 |made,t::r=>gR f (sK f made t) r
theorem sL(f:Fl):∀(a made b:List Tm),gR f made (a++b)=gR f (gR f made a) b
 |[],_,_=>rfl
 |x::r,made,b=>sL f r _ b
theorem IB(f:Fl){ps:List Tm}(h:∀p∈ps,∀made,gR f made p.rp.reverse=made++[p.fill f]):∀made,gR f made (bV ps).reverse=made++gP f ps:=by
 induction ps with
 |nil=>intro made;simp[bV,gP,gR]
 |cons p r ih=>
  intro made
  simp only[bV,gP,lD]
  rw[sL,h p eY,ih (fun q hq=>h q (dC _ hq))]
  simp
theorem IC(f:Fl)(t:Tm):∀made,gR f made t.rp.reverse=made++[t.fill f]:=by
 induction t using Tm.ind with
 |h1 n=>intro made;rfl
 |h2 n=>intro made;rfl
 |h3 n=>intro made;rfl
 |h4 w ps ih=>
  intro made
  simp only[Tm.rp,gz]
  rw[sL,IB f ih made]
  simp only[gR,sK,Tm.fill]
  have e:(made++gP f ps).length - ps.length=made.length:=by simp[Cd]
  rw[e]
  simp
theorem ID{ps:List Tm}(h:∀p∈ps,∀m r,cq m (p.rp.reverse++r)↔cq (m+1) r):∀m r,cq m ((bV ps).reverse++r)↔cq (m+ps.length) r:=by
 induction ps with
 |nil=>intro m r;simp[bV]
 |cons p q ih=>
  intro m r
  simp only[bV,lD,dL,zLC]
  rw[h p eY,ih (fun x hx=>h x (dC _ hx))]
  have e:m+1+q.length=m+(q.length+1):=by omega
  rw[e]
theorem IE(t:Tm):∀m r,cq m (t.rp.reverse++r)↔cq (m+1) r:=by
 induction t using Tm.ind with
 |h1 n=>intro m r;simp[Tm.rp,cq]
 |h2 n=>intro m r;simp[Tm.rp,cq]
 |h3 n=>intro m r;simp[Tm.rp,cq]
 |h4 w ps ih=>
  intro m r
  simp only[Tm.rp,gz,dL,uR]
  rw[ID ih]
  simp only[cq]
  have e:m+ps.length - ps.length+1=m+1:=by omega
  rw[e]
  exact⟨fun h=>h.2,fun h=>⟨by omega,h⟩⟩
theorem IF(t:Tm):cq 0 t.rp.reverse:=by
 have:=(IE t 0 []).mpr trivial
 simpa using this
mutual
def Tm.dp:Tm->Nat
 |.num _=>1
 |.name _=>1
 |.blank _=>1
 |.thing _ ps=>1+iO ps
def iO:List Tm->Nat
 |[]=>0
 |p::r=>max p.dp (iO r)
end
theorem wj{n:Nat}:∀{l:List Tm},(∀t∈l,t.dp<=n)->iO l<=n
 |[],_=>by simp[iO]
 |t::r,h=>by
  have h1:=h t eY
  have h2:=wj (l:=r) fun x hx=>h x (dC _ hx)
  simp only[iO];omega
theorem Cg{t:Tm}:∀{l:List Tm},t∈l->t.dp<=iO l
 |x::r,h=>by
  rcases bo.mp h with rfl|h
  ·simp only[iO];omega
  ·have:=Cg h;simp only[iO];omega
theorem Ci(t:Tm):t.dp<=t.nodes:=by
 induction t using Tm.ind with
 |h1 n=>simp[Tm.dp,Tm.nodes]
 |h2 n=>simp[Tm.dp,Tm.nodes]
 |h3 n=>simp[Tm.dp,Tm.nodes]
 |h4 w ps ih=>
  have:iO ps<=aJ ps:=wj fun p hp=>cO (ih p hp) (sj hp)
  simp only[Tm.dp,Tm.nodes];omega
theorem wk(t:Tm):t.dt.dep<=2 * t.dp:=by
 induction t using Tm.ind with
 |h1 n=>simp[Tm.dt,Dt.dep,d8,Tm.dp]
 |h2 n=>simp[Tm.dt,Dt.dep,d8,Tm.dp]
 |h3 n=>simp[Tm.dt,Dt.dep,d8,Tm.dp]
 |h4 w ps ih=>
  have:d8 (dE ps)<=2 * iO ps:=by
   rw[fz]
   refine vV fun d hd=>?_
   obtain⟨p,hp,rfl⟩:=bK.mp hd
   have:=ih p hp
   have:=Cg hp
   omega
  simp only[Tm.dt,Dt.dep,d8,Tm.dp]
  omega
def da(H:Hp)(kvs:List (Key×V))(f:Fl):Prop:=Paired (fun kv p=>kv.1=Sum.inr p.1/\ay H kv.2 p.2) kvs f
theorem da.mono{H H':Hp}{kvs:List (Key×V)}{f:Fl}(k:aR H H')(h:da H kvs f):da H' kvs f:=ml (fun _ _ ⟨e,h2⟩=>⟨e,h2.mono k⟩) h
theorem da.len{H:Hp}{kvs:List (Key×V)}{f:Fl}(h:da H kvs f):kvs.length=f.length:=Paired.length h
theorem da.keys{H:Hp}:∀{kvs:List (Key×V)}{f:Fl},da H kvs f->kvs.map (·.1)=(f.map (·.1)).map Sum.inr
 |_,_,.nil=>rfl
 |_::_,_::_,.cons h r=>by
  simp only[bM]
  rw[h.1,da.keys r]
theorem da.dof{H:Hp}:∀{kvs:List (Key×V)}{f:Fl},da H kvs f->nK H kvs f
 |_,_,.nil=>fun w=>⟨fun _=>rfl,fun t h=>by simp[look]at h⟩
 |kv::_,p::_,.cons h r=>fun w=>by
  have ih:=da.dof r w
  rw[sH,we,h.1]
  by_cases c:p.1=w
  ·rw[if_pos c,if_pos (by rw[c])]
   exact⟨fun z=>(by cases z),fun t z=>⟨kv.2,rfl,by cases z;exact h.2⟩⟩
  ·rw[if_neg c,if_neg (fun z=>c (lH z))]
   exact ih
section
variable{X:Cx}
inductive Cj(X:Cx)(x:V)(y:V)(H:Hp)(Q:VK):Prop
 |mk:∀t u,(ay H x t)->(ay H y u)->(X.A.units+t.dt.dep<cLine)->(∀b,(b=true↔t=u)->Q (.bl b) H)->Cj X x y H Q
theorem Ck:cG X (compareOp .Eq) (fun x y H Q=>Cj X x y H Q):=by
 intro pins s σ H x y v u Q I rx ry h
 obtain⟨t,t',h,h',hu,q⟩:=h
 obtain⟨l,e⟩:=t.isTup
 obtain⟨m,e'⟩:=t'.isTup
 refine Hg pins s σ H x y v u Q I rx ry ⟨l,m,by rw[<-e];exact h,by rw[<-e'];exact h',by rw[<-e];exact hu,fun b hb=>q b (hb.trans ?_)⟩
 constructor
 ·intro z;exact Tm.dt_inj _ _ (by rw[e,e',z])
 ·rintro rfl;rw[e]at e';cases e';rfl
inductive Cm(X:Cx)(x:V)(y:V)(H:Hp)(Q:VK):Prop
 |mk:∀t u,(ay H x t)->(ay H y u)->(X.A.units+t.dt.dep<cLine)->(∀b,(b=true↔¬t=u)->Q (.bl b) H)->Cm X x y H Q
theorem IG:cG X (compareOp .NotEq) (fun x y H Q=>Cm X x y H Q):=by
 intro pins s σ H x y v u Q I rx ry h
 obtain⟨t,t',h,h',hu,q⟩:=h
 obtain⟨l,e⟩:=t.isTup
 obtain⟨m,e'⟩:=t'.isTup
 refine sr pins s σ H x y v u Q I rx ry ⟨l,m,by rw[<-e];exact h,by rw[<-e'];exact h',by rw[<-e];exact hu,fun b hb=>q b (hb.trans (not_congr ?_))⟩
 constructor
 ·intro z;exact Tm.dt_inj _ _ (by rw[e,e',z])
 ·rintro rfl;rw[e]at e';cases e';rfl
end
theorem wl(f:Fl):∀(a:List aa)(w:aa),cH f (a++[w])=cH f a++cH f [w]
 |[],w=>rfl
 |x::r,w=>by
  rw[eA]
  show _++cH f (r++[w])=(_++cH f r)++cH f [w]
  rw[wl f r w,dL]
theorem IH{f:Fl}{w:aa}{t:Tm}(h:look f w=some t)(c:t= .blank w):cH f [w]=[]:=by
 have:jQ t w=true:=(sI _ _).mpr c
 simp only[cH,h,this,if_true,jB]
theorem II{f:Fl}{w:aa}{t:Tm}(h:look f w=some t)(c:¬t= .blank w):cH f [w]=[(w,t)]:=by
 have:jQ t w=false:=h9.mpr fun z=>c ((sI _ _).mp z)
 simp only[cH,h,this,iI,if_false,jB]
theorem IJ{x y:aa}(h:x.cps.toList=y.cps.toList):x=y:=by
 obtain⟨⟨a⟩⟩:=x
 obtain⟨⟨b⟩⟩:=y
 have h':a=b:=h
 rw[h']
theorem IK{ss ws:List aa}(hp:ss.Perm ws)(hn:ws.Nodup)(h:ss.Pairwise fun a b=>¬b.cps.toList<a.cps.toList):ss.Pairwise fun a b=>a.cps.toList<b.cps.toList:=by
 have hn':ss.Nodup:=hp.nodup_iff.mpr hn
 refine(List.Pairwise.and h hn').imp ?_
 rintro a b ⟨h1,h2⟩
 rcases List.le_iff_lt_or_eq.mp (uQ.mp h1)with z|z
 ·exact z
 ·exact absurd (IJ z) h2
def cV:Tm->Bool|.blank _=>true|_=>false
def cb:Tm->Bool|.thing _ _=>true|_=>false
theorem wm{w:aa}:∀{l acc:List aa},w∈eF acc l↔w∈acc\/w∈l
 |[],acc=>by simp[eF]
 |x::r,acc=>by
  simp only[eF]
  split
  ·next h=>
   rw[wm]
   constructor
   ·rintro(a|a)
    ·exact .inl a
    ·exact .inr (dC _ a)
   ·rintro(a|a)
    ·exact .inl a
    ·rcases bo.mp a with rfl|a
     ·exact .inl h
     ·exact .inr a
  ·rw[wm,br,bx,bo]
   constructor
   ·rintro((a|a)|a)
    ·exact .inl a
    ·exact .inr (.inl a)
    ·exact .inr (.inr a)
   ·rintro(a|a|a)
    ·exact .inl (.inl a)
    ·exact .inl (.inr a)
    ·exact .inr a
theorem jn{w:aa}{t:Tm}:w∈t.firsts↔w∈t.bl:=by
 unfold Tm.firsts
 rw[wm]
 simp
theorem Cn{w:aa}{t:Tm}:w∈t.b1↔t= .blank w:=by
 cases t with
 |blank x=>simp only[Tm.b1,bx,Tm.blank.injEq];exact eq_comm
 |_=>simp[Tm.b1]
theorem wn{w:aa}{t:Tm}:Tm.blank w∈t.rp.reverse↔w∈t.bl:=by
 rw[<-Cb,yy]
 constructor
 ·intro h;exact⟨_,h,Cn.mpr rfl⟩
 ·rintro⟨p,hp,hw⟩
  rw[<-Cn.mp hw]
  exact hp
theorem IL{ps:List Tm}(h:∀p∈ps,p.lp.flatMap Tm.b1=p.bl):(ef ps).flatMap Tm.b1=eR ps:=by
 induction ps with
 |nil=>rfl
 |cons p r ih=>simp only[ef,eR,mZ,h p eY,ih fun q hq=>h q (dC _ hq)]
theorem IM(t:Tm):t.lp.flatMap Tm.b1=t.bl:=by
 induction t using Tm.ind with
 |h1 n=>rfl
 |h2 n=>rfl
 |h3 n=>rfl
 |h4 w ps ih=>
  simp only[Tm.lp,Tm.bl,o0,Tm.b1,iH]
  exact IL ih
abbrev Ln:=Tm×Tm
def sM(R:List Ln):Prop:=(∀p∈R,cV p.1=true)/\(∀i (h:i<R.length),∃w,(R[(i+1) % R.length]'(d5 _ (by omega))).1= .blank w/\w∈(R[i]).2.bl)/\∃p∈R,cb p.2=true
theorem IN{ps:List Tm}(h:∀p∈ps,∀u∈p.rp,u.nodes<=p.nodes):∀u∈bV ps,u.nodes<=aJ ps:=by
 induction ps with
 |nil=>intro u hu;simp[bV]at hu
 |cons p r ih=>
  intro u hu
  simp only[bV]at hu
  simp only[aJ]
  rcases br.mp hu with z|z
  ·have:=ih (fun q hq=>h q (dC _ hq)) u z
   omega
  ·have:=h p eY u z
   omega
theorem Co{t u:Tm}:u∈t.rp->u.nodes<=t.nodes:=by
 induction t using Tm.ind generalizing u with
 |h1 n=>intro h;simp only[Tm.rp,bx]at h;rw[h];exact aE _
 |h2 n=>intro h;simp only[Tm.rp,bx]at h;rw[h];exact aE _
 |h3 n=>intro h;simp only[Tm.rp,bx]at h;rw[h];exact aE _
 |h4 w ps ih=>
  intro h
  simp only[Tm.rp]at h
  rcases bo.mp h with z|z
  ·rw[z];exact aE _
  ·have:=IN (fun p hp u hu=>ih p hp hu) u z
   simp only[Tm.nodes]
   omega
theorem ay.kind{H:Hp}{v:V}{t:Tm}(h:ay H v t):∃a xs k,v= .ref a/\H a=some (.tup (.str k::xs))/\(k="blank"↔cV t=true)/\(k="thing"↔cb t=true):=by
 cases t with
 |num n=>
  obtain⟨a,rfl,e⟩:=fF.mp h
  exact⟨a,_,_,rfl,e,by simp[cV,jM],by simp[cb,kK]⟩
 |name n=>
  obtain⟨a,rfl,e⟩:=eP.mp h
  exact⟨a,_,_,rfl,e,by simp[cV,jN],by simp[cb,kL]⟩
 |blank n=>
  obtain⟨a,rfl,e⟩:=dN.mp h
  exact⟨a,_,_,rfl,e,by simp[cV],by simp[cb,kM]⟩
 |thing n ps=>
  obtain⟨a,b,vs,rfl,e,_⟩:=dF.mp h
  exact⟨a,_,_,rfl,e,by simp[cV,kQ],by simp[cb]⟩
def eg(k:Nat):List Nat:=[97+k % 3,97+k / 3 % 3,97+k / 9 % 3]++(if 26<k then [97+k / 27 % 26]else [])
theorem Cp{x:aa}{k:Nat}(h:x.cps.toList=eg k):Wd x:=by
 unfold Wd
 rw[h]
 unfold eg
 have h1:=d5 k (show 0<3 by decide)
 have h2:=d5 (k / 3) (show 0<3 by decide)
 have h3:=d5 (k / 9) (show 0<3 by decide)
 have h4:=d5 (k / 27) (show 0<26 by decide)
 by_cases c:26<k
 ·rw[if_pos c]
  refine⟨by simp,by simp,fun y hy=>?_⟩
  simp only[eA,iH,bo,eL,or_false]at hy
  omega
 ·rw[if_neg c]
  refine⟨by simp,by simp,fun y hy=>?_⟩
  simp only[jB,bo,eL,or_false]at hy
  omega
theorem IP{j k:Nat}(hj:j<700)(hk:k<700)(h:eg j=eg k):j=k:=by
 unfold eg at h
 simp only[eA,iH,jG]at h
 obtain⟨h1,h2,h3,h4⟩:=h
 by_cases c:26<j
 ·by_cases d:26<k
  ·rw[if_pos c,if_pos d]at h4
   simp only[jG,and_true]at h4
   omega
  ·rw[if_pos c,if_neg d]at h4
   cases h4
 ·by_cases d:26<k
  ·rw[if_neg c,if_pos d]at h4
   cases h4
  ·omega
def iP(w:aa):Prop:=∃c r,w.cps.toList=c::r/\120<=c/\r.length<=38
theorem wo:iP "x"/\iP "y"/\iP "z":=by
 unfold iP
 exact⟨⟨120,[],by decide +kernel,by decide,by decide⟩,⟨121,[],by decide +kernel,by decide,by decide⟩,⟨122,[],by decide +kernel,by decide,by decide⟩⟩
theorem IQ(x:aa)(hl:x.cps.toList.length<=30):iP ((("zz":aa))++x):=by
 refine⟨122,122::x.cps.toList,?_,by decide,by rw[zLC];omega⟩
 rw[fG]
 have e:(("zz":aa)).cps.toList=[122,122]:=by decide +kernel
 rw[e]
 rfl
theorem IR{w:aa}{k:Nat}(h:iP w):w.cps.toList≠eg k:=by
 obtain⟨c,r,e,hc,_⟩:=h
 rw[e]
 unfold eg
 intro z
 simp only[eA,jG]at z
 omega
def pV:Tm->Prop
 |.blank w=>iP w
 |.thing _ _=>False
 |_=>True
def jS(m:Nat)(seen:List Tm)(t p:Tm):Prop:=∃x i,p= .blank x/\x.cps.toList=eg (i % m)/\seen[i]?=some t
mutual
def cm(m:Nat)(seen:List Tm):Tm->Tm->Prop
 |.num n,p=>jS m seen (.num n) p\/p= .num n
 |.name w,p=>jS m seen (.name w) p\/p= .name w
 |.blank w,p=>jS m seen (.blank w) p\/(p= .blank w/\iP w)
 |.thing w ts,p=>jS m seen (.thing w ts) p\/∃ps,p= .thing w ps/\ga m seen ts ps
def ga(m:Nat)(seen:List Tm):List Tm->List Tm->Prop
 |[],ps=>ps=[]
 |t::ts,ps=>∃p r,ps=p::r/\cm m seen t p/\ga m seen ts r
end
theorem cm.inn{m:Nat}{seen:List Tm}{t p:Tm}(h:jS m seen t p):cm m seen t p:=by
 cases t<;>simp only[cm]<;>exact .inl h
theorem cm.leaf{m:Nat}{seen:List Tm}{t:Tm}(h:pV t):cm m seen t t:=by
 cases t with
 |thing w ts=>exact h.elim
 |blank w=>simp only[cm];exact .inr ⟨trivial,h⟩
 |num n=>simp[cm]
 |name w=>simp[cm]
theorem cm.thing{m:Nat}{seen:List Tm}{w:aa}{ts ps:List Tm}(h:ga m seen ts ps):cm m seen (.thing w ts) (.thing w ps):=by
 simp only[cm]
 exact .inr ⟨ps,rfl,h⟩
theorem sN{m:Nat}{seen:List Tm}{t p u:Tm}(h:jS m seen t p):jS m (seen++[u]) t p:=by
 obtain⟨x,i,e,h1,h2⟩:=h
 refine⟨x,i,e,h1,?_⟩
 rw[kh (bI.mp h2).1]
 exact h2
theorem Cq{m:Nat}{seen:List Tm}{u:Tm}:∀{ts:List Tm},(∀t∈ts,∀p,cm m seen t p->cm m (seen++[u]) t p)->∀{ps},ga m seen ts ps->ga m (seen++[u]) ts ps
 |[],_,ps,h=>by simpa[ga]using h
 |t::ts,k,ps,h=>by
  simp only[ga]at h |-
  obtain⟨p,r,e,h1,h2⟩:=h
  exact⟨p,r,e,k t eY p h1,Cq (fun t ht=>k t (dC _ ht)) h2⟩
theorem Cr{m:Nat}{seen:List Tm}{u:Tm}(t:Tm):∀p,cm m seen t p->cm m (seen++[u]) t p:=by
 induction t using Tm.ind with
 |h1 n=>intro p h;simp only[cm]at h |-;exact h.imp sN id
 |h2 w=>intro p h;simp only[cm]at h |-;exact h.imp sN id
 |h3 w=>intro p h;simp only[cm]at h |-;exact h.imp sN id
 |h4 w ps ih=>intro p h;simp only[cm]at h |-;exact h.imp sN fun⟨qs,e,hq⟩=>⟨qs,e,Cq (fun t ht p=>ih t ht p) hq⟩
abbrev cr:=Tm×Tm×Tm
def db:Nat->cr->Tm
 |0,d=>d.1
 |1,d=>d.2.1
 |_,d=>d.2.2
def er(m:Nat)(seen:List Tm)(d:cr):Prop:=cm m seen d.2.2 d.1/\cm m seen d.2.2 d.2.1/\d.1.Ok/\d.2.1.Ok/\d.2.2.Ok/\d.1.nodes<=d.2.2.nodes/\d.2.1.nodes<=d.2.2.nodes
theorem er.app{m:Nat}{seen:List Tm}{u:Tm}{d:cr}(h:er m seen d):er m (seen++[u]) d:=⟨Cr _ _ h.1,Cr _ _ h.2.1,h.2.2⟩
theorem er.leaf{m:Nat}{seen:List Tm}{t:Tm}(h:pV t)(ho:t.Ok):er m seen (t,t,t):=⟨.leaf h,.leaf h,ho,ho,ho,aE _,aE _⟩
def du:List cr->Nat
 |[]=>0
 |d::r=>d.2.2.nodes+du r
theorem wr(a b:List cr):du (a++b)=du a+du b:=by
 induction a with
 |nil=>simp[du]
 |cons d r ih=>simp only[eA,du,ih];omega
theorem IS(a:List cr)(k:Nat):du (a.take k)+du (a.drop k)=du a:=by
 rw[<-wr,List.take_append_drop]
theorem wu(a:List cr):a.length<=du a:=by
 induction a with
 |nil=>simp[du]
 |cons d r ih=>have:=d.2.2.nodes_pos;simp only[zLC,du];omega
theorem IT(a:List cr):aJ (a.map (db 2))=du a:=by
 induction a with
 |nil=>rfl
 |cons d r ih=>simp only[bM,aJ,ih,du];rfl
theorem Cs{m:Nat}{seen:List Tm}:∀{a:List cr},(∀d∈a,er m seen d)->ga m seen (a.map (db 2)) (a.map (db 0))/\ga m seen (a.map (db 2)) (a.map (db 1))/\aJ (a.map (db 0))<=du a/\aJ (a.map (db 1))<=du a/\dY (a.map (db 0))/\dY (a.map (db 1))/\dY (a.map (db 2))
 |[],_=>by simp[ga,aJ,dY,du]
 |d::r,h=>by
  obtain⟨i1,i2,i3,i4,i5,i6,i7⟩:=Cs (a:=r) fun d hd=>h d (dC _ hd)
  obtain⟨h1,h2,h3,h4,h5,h6,h7⟩:=h d eY
  simp only[bM,ga,aJ,dY,du,db]
  exact⟨⟨_,_,rfl,h1,i1⟩,⟨_,_,rfl,h2,i2⟩,by omega,by omega,⟨h3,i5⟩,⟨h4,i6⟩,⟨h5,i7⟩⟩
def fH(w:aa)(a:List cr):cr:=(.thing w (a.map (db 0)),.thing w (a.map (db 1)),.thing w (a.map (db 2)))
theorem er.th{m:Nat}{seen:List Tm}{w:aa}{a:List cr}(hw:Wd w)(hn:a≠[])(h:∀d∈a,er m seen d):er m seen (fH w a)/\(fH w a).2.2.nodes=du a+1:=by
 obtain⟨i1,i2,i3,i4,i5,i6,i7⟩:=Cs h
 have e:=IT a
 have ne:∀k,a.map (db k)≠[]:=fun k z=>hn (by simpa using z)
 refine⟨⟨.thing i1,.thing i2,?_,?_,?_,?_,?_⟩,?_⟩
 ·simp only[fH,Tm.Ok];exact⟨hw,ne 0,i5⟩
 ·simp only[fH,Tm.Ok];exact⟨hw,ne 1,i6⟩
 ·simp only[fH,Tm.Ok];exact⟨hw,ne 2,i7⟩
 ·simp only[fH,Tm.nodes];omega
 ·simp only[fH,Tm.nodes];omega
 ·simp only[fH,Tm.nodes];omega
theorem Ct(k:Nat)(w:aa)(a:List cr):db k (fH w a)= .thing w (a.map (db k)):=by
 match k with
 |0=>rfl
 |1=>rfl
 |k+2=>rfl
inductive WR:Int->aa->aa->Prop
 |done {l:Int} {x:aa}:¬0<=l->WR l x x
 |step {l:Int} {x y:aa}:0<=l->WR (l / 26 - 1) ((⟨#[97+(l % 26).toNat]⟩:aa)++x) y->WR l x y
theorem WR.det{l:Int}{x y z:aa}(h:WR l x y):WR l x z->y=z:=by
 induction h with
 |done c=>intro k;cases k with
  |done _=>rfl
  |step d _=>exact absurd d c
 |step c _ ih=>intro k;cases k with
  |done d=>exact absurd c d
  |step _ k=>exact ih k
def wv(i:Int):Int:=(if i<0 then -i else i) % 10 ^ 39
def HW(i:Int)(x:aa):Prop:=if i % 7=5 then WR (wv (i / 7)) "" x else if i % 2=0 then x="f" else x="pair"
theorem HW.det{i:Int}{x y:aa}(h:HW i x)(k:HW i y):x=y:=by
 unfold HW at h k
 split at h
 ·rename_i c
  rw[if_pos c]at k
  exact h.det k
 ·rename_i c
  rw[if_neg c]at k
  split at h
  ·rename_i d
   rw[if_pos d]at k
   rw[h,k]
  ·rename_i d
   rw[if_neg d]at k
   rw[h,k]
theorem ww{α β:Type}{F:α->β->Prop}:∀{l:List α}{m:List β}(n:Nat),Paired F l m->Paired F (l.take n) (m.take n)
 |_,_,0,_=>.nil
 |_,_,_+1,.nil=>.nil
 |_,_,n+1,.cons h r=>.cons h (ww n r)
theorem Cu{α β:Type}{F:α->β->Prop}:∀{l:List α}{m:List β}(n:Nat),Paired F l m->Paired F (l.drop n) (m.drop n)
 |_,_,0,h=>h
 |_,_,_+1,.nil=>.nil
 |_,_,n+1,.cons _ r=>Cu n r
theorem sO{α β:Type}{F:α->β->Prop}:∀{l:List α}{m:List β},Paired F l m->∀(i:Nat)(x:α),l[i]?=some x->∃y,m[i]?=some y/\F x y
 |_,_,.nil,i,x,h=>by simp at h
 |_,_,.cons f r,0,x,h=>by
  simp only[List.getElem?_cons_zero,lG]at h
  subst h
  exact⟨_,rfl,f⟩
 |_,_,.cons f r,i+1,x,h=>by
  simp only[yB]at h |-
  exact sO r i x h
theorem ld{α β:Type}{F:α->β->Prop}{x:α}{y:β}:∀{l:List α}{m:List β},Paired F l m->F x y->Paired F (l++[x]) (m++[y])
 |_,_,.nil,h=>.cons h .nil
 |_,_,.cons f r,h=>.cons f (ld r h)
def pW(H:Hp)(x:V)(d:cr):Prop:=∃a x0 x1 x2,x= .ref a/\H a=some (.lst [x0,x1,x2])/\ay H x0 d.1/\ay H x1 d.2.1/\ay H x2 d.2.2
def gr(H:Hp)(us:List V)(ds:List cr):Prop:=Paired (pW H) us ds
def eT(p:Addr)(us:List V):Prop:=∀x∈us,x≠V.ref p
theorem pW.same{H H':Hp}{x:V}{d:cr}(s:av H H'):pW H x d->pW H' x d:=
 fun⟨a,x0,x1,x2,e,h,h0,h1,h2⟩=>⟨a,x0,x1,x2,e,s _ _ h,h0.mono (.of s),h1.mono (.of s),h2.mono (.of s)⟩
theorem gr.same{H H':Hp}{us:List V}{ds:List cr}(s:av H H')(h:gr H us ds):gr H' us ds:=ml (fun _ _ h=>h.same s) h
theorem gr.lst{H:Hp}{q:Addr}{ys zs:List V}(hq:H q=some (.lst zs)):∀{us:List V}{ds:List cr},eT q us->gr H us ds->gr (ad H q (.lst ys)) us ds
 |_,_,_,.nil=>.nil
 |_,_,ap,.cons ⟨a,x0,x1,x2,e,h,h0,h1,h2⟩ r=>.cons
  ⟨a,x0,x1,x2,e,by
        rw[am (fun z=>ap _ eY (by rw[e,z]))]
        exact h,h0.mono (.lst hq),h1.mono (.lst hq),h2.mono (.lst hq)⟩ (gr.lst hq (fun x hx=>ap x (dC _ hx)) r)
theorem gr.apart{H:Hp}{q:Addr}(hq:H q=none):∀{us:List V}{ds:List cr},gr H us ds->eT q us
 |_,_,.nil=>fun _ z=>nomatch z
 |_,_,.cons ⟨a,x0,x1,x2,e,h,_⟩ r=>fun x hx=>by
  rcases bo.mp hx with z|z
  ·rw[z,e]
   intro z'
   cases z'
   rw[hq]at h
   cases h
  ·exact gr.apart hq r x z
theorem eT.sub{p:Addr}{us vs:List V}(h:eT p us)(k:∀x∈vs,x∈us):eT p vs:=fun x hx=>h x (k x hx)
theorem eT.snoc{p q:Addr}{us:List V}(h:eT p us)(k:q≠p):eT p (us++[.ref q]):=fun x hx=>by
 rcases br.mp hx with z|z
 ·exact h x z
 ·cases bx.mp z
  intro z'
  cases z'
  exact k rfl
theorem Cv{H:Hp}{x:V}{d:cr}(h:pW H x d)(k:Nat)(hk:k<3):∃a xs v,x= .ref a/\H a=some (.lst xs)/\dU xs ((k:Nat):Int)=some v/\ay H v (db k d):=by
 obtain⟨a,x0,x1,x2,e,h,h0,h1,h2⟩:=h
 have hz:k=0\/k=1\/k=2:=by omega
 rcases hz with rfl|rfl|rfl
 ·exact⟨a,_,x0,e,h,rfl,h0⟩
 ·exact⟨a,_,x1,e,h,rfl,h1⟩
 ·exact⟨a,_,x2,e,h,rfl,h2⟩
theorem Cw{α:Type}{x:α}:∀{l:List α},x∈l->∃j,∃h:j<l.length,l[j]=x/\∀i (h':i<l.length),i<j->l[i]≠x
 |a::l,h=>by
  by_cases c:a=x
  ·exact⟨0,by simp,c,fun i _ z=>by omega⟩
  ·have hm:x∈l:=by
        rcases bo.mp h with z|z
        ·exact absurd z.symm c
        ·exact z
   obtain⟨j,hj,e,k⟩:=Cw hm
   refine⟨j+1,by simp only[zLC];omega,by simpa using e,fun i hi z=>?_⟩
   cases i with
   |zero=>simpa using c
   |succ i=>
    simp only[List.getElem_cons_succ]
    exact k i (by simpa using hi) (by omega)
structure gc(H:Hp)(m:Nat)(p sn tr:Addr)(us ss:List V)(ds:List cr)(seen:List Tm)(x0 x1 x2:V)(d:cr)(H':Hp):Prop where
 sm:av H H'
 gp:H' p=some (.lst us)
 gs:H' sn=some (.lst ss)
 hss:aN H' ss seen
 hpl:gr H' us ds
 gtr:H' tr=some (.lst [x0,x1,x2])
 h0:ay H' x0 d.1
 h1:ay H' x1 d.2.1
 h2:ay H' x2 d.2.2
 hd:er m seen d
theorem gc.same{H:Hp}{m:Nat}{p sn tr:Addr}{us ss:List V}{ds:List cr}{seen:List Tm}{x0 x1 x2:V}{d:cr}{H' H'':Hp}(s:av H' H'')(M:gc H m p sn tr us ss ds seen x0 x1 x2 d H'):gc H m p sn tr us ss ds seen x0 x1 x2 d H'':=
 ⟨M.sm.trans s,s _ _ M.gp,s _ _ M.gs,M.hss.mono (.of s),M.hpl.same s,s _ _ M.gtr,M.h0.mono (.of s),M.h1.mono (.of s),M.h2.mono (.of s),M.hd⟩
theorem gc.put0{H:Hp}{m:Nat}{p sn tr:Addr}{us ss:List V}{ds:List cr}{seen:List Tm}{x0 x1 x2 v:V}{t:Tm}{d:cr}{H':Hp}(ftr:H tr=none)(ntp:tr≠p)(nts:tr≠sn)(ap:eT tr us)(hv:ay H' v t)(hh:cm m seen d.2.2 t)(ho:t.Ok)(hn:t.nodes<=d.2.2.nodes)
 (M:gc H m p sn tr us ss ds seen x0 x1 x2 d H'):gc H m p sn tr us ss ds seen v x1 x2 (t,d.2) (ad H' tr (.lst [v,x1,x2])):=
 have k:aR H' (ad H' tr (.lst [v,x1,x2])):= .lst M.gtr
 ⟨fun b ob z=>by rw[am (aF z ftr)];exact M.sm _ _ z,by rw[am ntp.symm];exact M.gp,by rw[am nts.symm];exact M.gs,M.hss.mono k,M.hpl.lst M.gtr ap,au,hv.mono k,M.h1.mono k,M.h2.mono k,
  ⟨hh,M.hd.2.1,ho,M.hd.2.2.2.1,M.hd.2.2.2.2.1,hn,M.hd.2.2.2.2.2.2⟩⟩
theorem gc.put1{H:Hp}{m:Nat}{p sn tr:Addr}{us ss:List V}{ds:List cr}{seen:List Tm}{x0 x1 x2 v:V}{t:Tm}{d:cr}{H':Hp}(ftr:H tr=none)(ntp:tr≠p)(nts:tr≠sn)(ap:eT tr us)(hv:ay H' v t)(hh:cm m seen d.2.2 t)(ho:t.Ok)(hn:t.nodes<=d.2.2.nodes)
 (M:gc H m p sn tr us ss ds seen x0 x1 x2 d H'):gc H m p sn tr us ss ds seen x0 v x2 (d.1,t,d.2.2) (ad H' tr (.lst [x0,v,x2])):=
 have k:aR H' (ad H' tr (.lst [x0,v,x2])):= .lst M.gtr
 ⟨fun b ob z=>by rw[am (aF z ftr)];exact M.sm _ _ z,by rw[am ntp.symm];exact M.gp,by rw[am nts.symm];exact M.gs,M.hss.mono k,M.hpl.lst M.gtr ap,au,M.h0.mono k,hv.mono k,M.h2.mono k,
  ⟨M.hd.1,hh,M.hd.2.2.1,ho,M.hd.2.2.2.2.1,M.hd.2.2.2.2.2.1,hn⟩⟩
inductive Rs where
 |giv
 |turn (n:Nat)
 |part (n k:Nat)
 |chain (n m:Nat)
def mn(ds:List Ln)(g:Ln):Rs->Ln->Prop
 |.giv,p=>p=g
 |.turn n,p=>∃q,ds[n]?=some q/\p=(q.2,q.1)
 |.part n k,p=>∃w ps qs x y,ds[n]?=some (.thing w ps,.thing w qs)/\ps.length=qs.length/\ps[k]?=some x/\qs[k]?=some y/\p=(x,y)
 |.chain n m,p=>∃a b c,ds[n]?=some (a,b)/\ds[m]?=some (b,c)/\p=(a,c)
inductive RI where
 |giv
 |turn (n:Int)
 |part (n k:Int)
 |chain (n m:Int)
def wx:RI->List V
 |.giv=>[.str "given"]
 |.turn n=>[.str "turn",.int n]
 |.part n k=>[.str "part",.int n,.int k]
 |.chain n m=>[.str "chain",.int n,.int m]
def eG(H:Hp)(ls:List V)(fs:List (Ln×RI)):Prop:=Paired (fun x p=>∃a u v r,x= .ref a/\H a=some (.tup [u,v,.ref r])/\H r=some (.tup (wx p.2))/\ay H u p.1.1/\ay H v p.1.2) ls fs
theorem eG.mono{H H':Hp}{ls:List V}{fs:List (Ln×RI)}(k:aR H H')(h:eG H ls fs):eG H' ls fs:=ml (fun _ _ ⟨a,u,v,r,e,h1,h2,h3,h4⟩=>⟨a,u,v,r,e,k _ _ h1,k _ _ h2,h3.mono k,h4.mono k⟩) h
def RI.val(n:Nat):RI->Option Rs
 |.giv=>some .giv
 |.turn i=>if 0<=i/\i<(n:Int)then some (.turn i.toNat)else none
 |.part i k=>if (0<=i/\i<(n:Int))/\0<=k then some (.part i.toNat k.toNat)else none
 |.chain i j=>if (0<=i/\i<(n:Int))/\0<=j/\j<(n:Int)then some (.chain i.toNat j.toNat)else none
def lg(ds:List Ln)(g:Ln)(r:RI)(p:Ln):Prop:=∃q,r.val ds.length=some q/\mn ds g q p
def fh(g:Ln):List Ln->List (Ln×RI)->Prop
 |_,[]=>True
 |ds,x::rest=>lg ds g x.2 x.1/\fh g (ds++[x.1]) rest
theorem Cy(g:Ln):∀(a b:List (Ln×RI))(ds:List Ln),fh g ds (a++b)↔fh g ds a/\fh g (ds++a.map (·.1)) b
 |[],b,ds=>by simp[fh]
 |x::a,b,ds=>by
  simp only[eA,fh,Cy g a b,bM,dL,iH,and_assoc]
theorem IU(g:Ln)(a:List (Ln×RI))(x:Ln×RI)(ds:List Ln):fh g ds (a++[x])↔fh g ds a/\lg (ds++a.map (·.1)) g x.2 x.1:=by
 rw[Cy]
 simp[fh]
mutual
def Tm.sub(φ:aa->Tm):Tm->Tm
 |.num n=>.num n
 |.name w=>.name w
 |.blank w=>φ w
 |.thing w ps=>.thing w (jo φ ps)
def jo(φ:aa->Tm):List Tm->List Tm
 |[]=>[]
 |p::r=>p.sub φ::jo φ r
end
theorem gu(φ:aa->Tm)(ps:List Tm):jo φ ps=ps.map (Tm.sub φ):=by
 induction ps with
 |nil=>rfl
 |cons p r ih=>simp only[jo,ih,bM]
theorem sP(φ:aa->Tm)(ps:List Tm):(jo φ ps).length=ps.length:=by rw[gu,zLM]
def bh(f:Fl):aa->Tm:=fun w=>(look f w).getD (.blank w)
theorem dv(f:Fl)(t:Tm):t.fill f=t.sub (bh f):=by
 refine Tm.ind (P:=fun t=>t.fill f=t.sub (bh f)) (fun _=>rfl) (fun _=>rfl) (fun _=>rfl) (fun w ps ih=>?_) t
 simp only[Tm.fill,Tm.sub,Cc,gu]
 rw[lE ih]
theorem jT{w:aa}{ps:List Tm}:w∈eR ps↔∃p∈ps,w∈p.bl:=by
 induction ps with
 |nil=>simp[eR]
 |cons p r ih=>simp[eR,ih]
theorem mq{φ ψ:aa->Tm}(t:Tm):(∀w∈t.bl,φ w=ψ w)->t.sub φ=t.sub ψ:=by
 refine Tm.ind (P:=fun t=>(∀w∈t.bl,φ w=ψ w)->t.sub φ=t.sub ψ) (fun _ _=>rfl) (fun _ _=>rfl) (fun w h=>h w (by simp[Tm.bl])) (fun w ps ih h=>?_) t
 simp only[Tm.sub,gu]
 rw[lE fun p hp=>ih p hp fun x hx=>h x (by simp only[Tm.bl];exact jT.mpr ⟨p,hp,hx⟩)]
theorem Cz(t:Tm):t.sub Tm.blank=t:=by
 refine Tm.ind (P:=fun t=>t.sub Tm.blank=t) (fun _=>rfl) (fun _=>rfl) (fun _=>rfl) (fun w ps ih=>?_) t
 simp only[Tm.sub,gu]
 rw[lE ih,List.map_id']
theorem pX(φ ψ:aa->Tm)(t:Tm):(t.sub φ).sub ψ=t.sub fun w=>(φ w).sub ψ:=by
 refine Tm.ind (P:=fun t=>(t.sub φ).sub ψ=t.sub fun w=>(φ w).sub ψ) (fun _=>rfl) (fun _=>rfl) (fun _=>rfl) (fun w ps ih=>?_) t
 simp only[Tm.sub,gu,kj]
 exact congrArg (Tm.thing w) (lE ih)
theorem wy{φ:aa->Tm}{w v:aa}{ps qs:List Tm}:(Tm.thing w ps).sub φ= .thing v qs↔w=v/\ps.length=qs.length/\∀z∈ps.zip qs,z.1.sub φ=z.2:=by
 simp only[Tm.sub,gu,Tm.thing.injEq]
 refine and_congr_right fun _=>?_
 induction ps generalizing qs with
 |nil=>cases qs<;>simp
 |cons p r ih=>
  cases qs with
  |nil=>simp
  |cons q s=>
   simp only[bM,jG,ih,zLC,yk,yC,bo,forall_eq_or_imp]
   exact⟨fun⟨a,b,c⟩=>⟨b,a,c⟩,fun⟨b,a,c⟩=>⟨a,b,c⟩⟩
theorem CA{φ:aa->Tm}{w v:aa}{ps qs:List Tm}:(Tm.thing w ps).sub φ=(Tm.thing v qs).sub φ↔w=v/\ps.length=qs.length/\∀z∈ps.zip qs,z.1.sub φ=z.2.sub φ:=by
 have e:(Tm.thing v qs).sub φ= .thing v (qs.map (Tm.sub φ)):=by simp only[Tm.sub,gu]
 rw[e,wy,zLM]
 refine and_congr_right fun _=>and_congr_right fun _=>?_
 rw[List.zip_map_right]
 constructor
 ·intro h z hz
  exact h (z.1,z.2.sub φ) (bK.mpr ⟨z,hz,rfl⟩)
 ·intro h z hz
  obtain⟨y,hy,rfl⟩:=bK.mp hz
  exact h y hy
variable{pat term:Tm}{cs:List Mt}{tm:Fl}{ph:List (aa×List Int)}
open Classical
abbrev Nx:=Tm->Option Tm
inductive aX(nx:Nx):Nat->Tm->Tm->Prop
 |root {t:Tm}:nx t=none->aX nx 0 t t
 |step {k:Nat} {t u e:Tm}:nx t=some u->aX nx k u e->aX nx (k+1) t e
theorem aX.det{nx:Nx}{k k':Nat}{t e e':Tm}(h:aX nx k t e)(h':aX nx k' t e'):k=k'/\e=e':=by
 induction h generalizing k' with
 |root hn=>
  cases h' with
  |root _=>exact⟨rfl,rfl⟩
  |step hs _=>rw[hn]at hs;cases hs
 |step hs _ ih=>
  cases h' with
  |root hn=>rw[hn]at hs;cases hs
  |step hs' r'=>
   rw[hs]at hs'
   cases hs'
   obtain⟨h1,h2⟩:=ih r'
   exact⟨by rw[h1],h2⟩
theorem aX.end'{nx:Nx}{k:Nat}{t e:Tm}(h:aX nx k t e):nx e=none:=by
 induction h with
 |root hn=>exact hn
 |step _ _ ih=>exact ih
theorem aX.of_root{nx:Nx}{k:Nat}{t e:Tm}(h:aX nx k t e)(hn:nx t=none):k=0/\e=t:=h.det (.root hn)
noncomputable def put(nx:Nx)(t u:Tm):Nx:=fun s=>if s=t then some u else nx s
theorem lh(nx:Nx)(t u:Tm):put nx t u t=some u:=if_pos rfl
theorem gT{nx:Nx}{t u s:Tm}(h:s≠t):put nx t u s=nx s:=if_neg h
theorem aX.join{nx:Nx}{a b:Tm}(ha:nx a=none)(hb:nx b=none)(hab:a≠b){k:Nat}{t e:Tm}(h:aX nx k t e):(e≠a->aX (put nx a b) k t e)/\(e=a->aX (put nx a b) (k+1) t b):=by
 induction h with
 |@root t hn=>
  refine⟨fun z=>.root (by rw[gT z];exact hn),?_⟩
  rintro rfl
  exact .step (lh ..) (.root (by rw[gT hab.symm];exact hb))
 |@step k t u e hs r ih=>
  have z:t≠a:=by rintro rfl;rw[ha]at hs;cases hs
  exact⟨fun y=>.step (by rw[gT z];exact hs) (ih.1 y),fun y=>.step (by rw[gT z];exact hs) (ih.2 y)⟩
theorem aX.short{nx:Nx}{t e:Tm}{k:Nat}(ht:aX nx (k+1) t e){j:Nat}{s f:Tm}(h:aX nx j s f):∃i,i<=j/\aX (put nx t e) i s f:=by
 have he:=ht.end'
 have hne:e≠t:=by rintro rfl;cases ht with|step hs _=>rw[he]at hs;cases hs
 induction h with
 |@root s hn=>
  have z:s≠t:=by rintro rfl;cases ht with|step hs _=>rw[hn]at hs;cases hs
  exact⟨0,aE _,.root (by rw[gT z];exact hn)⟩
 |@step j s u f hs r ih=>
  by_cases z:s=t
  ·subst z
   have:=(aX.step hs r).det ht
   obtain⟨_,rfl⟩:=this
   exact⟨1,by omega,.step (lh ..) (.root (by rw[gT hne];exact he))⟩
  ·obtain⟨i,h1,h2⟩:=ih
   exact⟨i+1,by omega,.step (by rw[gT z];exact hs) h2⟩
theorem iQ{α:Type}:∀{l m:List α},l.Nodup->(∀x∈l,x∈m)->l.length<=m.length
 |[],_,_,_=>cQ _
 |x::l,m,hn,h=>by
  rw[iZ]at hn
  have hx:=h x (by simp)
  have:=iQ (l:=l) (m:=m.erase x) hn.2 fun y hy=>(List.mem_erase_of_ne (by rintro rfl;exact hn.1 hy)).mpr (h y (by simp[hy]))
  rw[List.length_erase_of_mem hx]at this
  have:=List.length_pos_of_mem hx
  simp only[zLC]
  omega
theorem aX.len{nx:Nx}{ks:List Tm}(hk:∀t u,nx t=some u->t∈ks){k:Nat}{t e:Tm}(h:aX nx k t e):k<=ks.length:=by
 suffices H:∃l:List Tm,l.length=k/\l.Nodup/\∀s∈l,s∈ks/\∃j,j<=k/\aX nx j s e by
  obtain⟨l,h1,h2,h3⟩:=H
  rw[<-h1]
  exact iQ h2 fun s hs=>(h3 s hs).1
 induction h with
 |root hn=>exact⟨[],rfl,.nil,fun s hs=>by simp at hs⟩
 |@step k t u e hs r ih=>
  obtain⟨l,h1,h2,h3⟩:=ih
  refine⟨t::l,by simp[h1],iZ.mpr ⟨fun z=>?_,h2⟩,fun s hs'=>?_⟩
  ·obtain⟨_,j,hj,hr⟩:=h3 t z
   have:=(hr.det (aX.step hs r)).1
   omega
  ·rcases bo.mp hs' with z|z
   ·subst z
    exact⟨hk _ _ hs,k+1,aE _,.step hs r⟩
   ·obtain⟨h4,j,hj,hr⟩:=h3 s z
    exact⟨h4,j,by omega,hr⟩
inductive Cl(nx:Nx)(pd:List Ln):Tm->Tm->Prop
 |nx {t u:Tm}:nx t=some u->Cl nx pd t u
 |pd {t u:Tm}:(t,u)∈pd->Cl nx pd t u
 |refl {t:Tm}:Cl nx pd t t
 |symm {t u:Tm}:Cl nx pd t u->Cl nx pd u t
 |trans {t u v:Tm}:Cl nx pd t u->Cl nx pd u v->Cl nx pd t v
theorem aX.cl{nx:Nx}{pd:List Ln}{k:Nat}{t e:Tm}(h:aX nx k t e):Cl nx pd t e:=by
 induction h with
 |root _=>exact .refl
 |step hs _ ih=>exact .trans (.nx hs) ih
theorem Cl.mono{nx nx':Nx}{pd pd':List Ln}(h1:∀t u,nx t=some u->Cl nx' pd' t u)(h2:∀p∈pd,Cl nx' pd' p.1 p.2){t u:Tm}(h:Cl nx pd t u):Cl nx' pd' t u:=by
 induction h with
 |nx hs=>exact h1 _ _ hs
 |pd hp=>exact h2 _ hp
 |refl=>exact .refl
 |symm _ ih=>exact .symm ih
 |trans _ _ i1 i2=>exact .trans i1 i2
theorem Cl.same{nx:Nx}{t u:Tm}(tot:∀t,∃k e,aX nx k t e)(h:Cl nx [] t u):∃e k j,aX nx k t e/\aX nx j u e:=by
 induction h with
 |@nx t u hs=>
  obtain⟨k,e,h⟩:=tot u
  exact⟨e,k+1,k,.step hs h,h⟩
 |pd hp=>cases hp
 |@refl t=>
  obtain⟨k,e,h⟩:=tot t
  exact⟨e,k,k,h,h⟩
 |symm _ ih=>
  obtain⟨e,k,j,h1,h2⟩:=ih
  exact⟨e,j,k,h2,h1⟩
 |trans _ _ i1 i2=>
  obtain⟨e,k,j,h1,h2⟩:=i1
  obtain⟨e',k',j',h1',h2'⟩:=i2
  obtain⟨_,rfl⟩:=h2.det h1'
  exact⟨e,k,j',h1,h2'⟩
def eU(R:Tm->Tm->Prop)(t u:Tm):Prop:=∃w ps qs,t= .thing w ps/\u= .thing w qs/\ps.length=qs.length/\∀z∈ps.zip qs,R z.1 z.2
theorem zip_flip{ps qs:List Tm}{a b:Tm}(h:(a,b)∈ps.zip qs):(b,a)∈qs.zip ps:=by
 obtain⟨k,hk,e⟩:=ja.mp h
 have e':=zGE hk
 rw[e]at e'
 obtain⟨h1,h2⟩:=ki.mp e'
 exact zMG (ki.mpr ⟨h2,h1⟩)
theorem zip_mid{ps qs rs:List Tm}(hl:ps.length=qs.length){a c:Tm}(h:(a,c)∈ps.zip rs):∃b,(a,b)∈ps.zip qs/\((b,c)∈qs.zip rs):=by
 obtain⟨k,hk,e⟩:=ja.mp h
 have e':=zGE hk
 rw[e]at e'
 obtain⟨h1,h2⟩:=ki.mp e'
 have hk':k<qs.length:=by rw[<-hl];exact(bI.mp h1).1
 exact⟨qs[k],zMG (ki.mpr ⟨h1,zGE hk'⟩),zMG (ki.mpr ⟨zGE hk',h2⟩)⟩
theorem eU.symm{R:Tm->Tm->Prop}(hR:∀a b,R a b->R b a){t u:Tm}(h:eU R t u):eU R u t:=by
 obtain⟨w,ps,qs,rfl,rfl,hl,hz⟩:=h
 exact⟨w,qs,ps,rfl,rfl,hl.symm,fun z h=>hR _ _ (hz (z.2,z.1) (zip_flip h))⟩
theorem eU.trans{R:Tm->Tm->Prop}(hR:∀a b c,R a b->R b c->R a c){t u v:Tm}(h:eU R t u)(h':eU R u v):eU R t v:=by
 obtain⟨w,ps,qs,rfl,rfl,hl,hz⟩:=h
 obtain⟨w',qs',rs,e,rfl,hl',hz'⟩:=h'
 cases e
 refine⟨w,ps,rs,rfl,rfl,hl.trans hl',fun z h=>?_⟩
 obtain⟨b,h1,h2⟩:=zip_mid hl h
 exact hR _ _ _ (hz (z.1,b) h1) (hz' (b,z.2) h2)
structure dw(g:Ln)(nx:Nx)(pd:List Ln):Prop where
 tot:∀t,∃k e,aX nx k t e
 kind:∀t u,nx t=some u->cV t=true\/eU (Cl nx pd) t u
 top:Cl nx pd g.1 g.2
theorem dw.way{g:Ln}{nx:Nx}{pd:List Ln}(h:dw g nx pd){k:Nat}{t e:Tm}(r:aX nx k t e)(ht:cV t=false):(k=0/\e=t)\/eU (Cl nx pd) t e:=by
 induction r with
 |root _=>exact .inl ⟨rfl,rfl⟩
 |@step k t u e hs r ih=>
  rcases h.kind _ _ hs with z|z
  ·rw[ht]at z;cases z
  ·obtain⟨w,ps,qs,rfl,rfl,hl,hz⟩:=id z
   rcases ih rfl with⟨_,rfl⟩|y
   ·exact .inr z
   ·exact .inr (z.trans (fun _ _ _=>.trans) y)
theorem dw.start(g:Ln):dw g (fun _=>none) [g] where
 tot:=fun t=>⟨0,t,.root rfl⟩
 kind:=fun _ _ h=>by cases h
 top:= .pd (by simp)
theorem eU.mono{R S:Tm->Tm->Prop}(h:∀a b,R a b->S a b){t u:Tm}(l:eU R t u):eU S t u:=
 let ⟨w,ps,qs,e1,e2,e3,hz⟩:=l;⟨w,ps,qs,e1,e2,e3,fun z y=>h _ _ (hz z y)⟩
theorem dw.done{g:Ln}{nx:Nx}{pd:List Ln}{a b e:Tm}{k j:Nat}(h:dw g nx (pd++[(a,b)]))(ra:aX nx k a e)(rb:aX nx j b e):dw g nx pd:=by
 have m:∀t u,Cl nx (pd++[(a,b)]) t u->Cl nx pd t u:=fun t u=>Cl.mono (fun _ _=>.nx) fun p hp=>by
  rcases br.mp hp with z|z
  ·exact .pd z
  ·cases bx.mp z
   exact .trans ra.cl (.symm rb.cl)
 exact⟨h.tot,fun t u hs=>(h.kind t u hs).imp id (eU.mono m),m _ _ h.top⟩
theorem dw.short{g:Ln}{nx:Nx}{pd:List Ln}{t e:Tm}{k:Nat}(h:dw g nx pd)(r:aX nx (k+1) t e):dw g (put nx t e) pd:=by
 have tot:∀s,∃k e',aX (put nx t e) k s e':=fun s=>by
  obtain⟨j,f,hs⟩:=h.tot s
  obtain⟨i,_,hi⟩:=aX.short r hs
  exact⟨i,f,hi⟩
 have m:∀s u,Cl nx pd s u->Cl (put nx t e) pd s u:=fun s u=>Cl.mono (fun s u hs=>by
  obtain⟨j,f,hu⟩:=h.tot u
  obtain⟨i,_,hi⟩:=aX.short r hu
  obtain⟨i',_,hi'⟩:=aX.short r (aX.step hs hu)
  exact .trans hi'.cl (.symm hi.cl)) fun p hp=>.pd hp
 refine⟨tot,fun s u hs=>?_,m _ _ h.top⟩
 by_cases z:s=t
 ·subst z
  rw[lh]at hs
  cases hs
  cases hb:cV s with
  |true=>exact .inl rfl
  |false=>
   rcases h.way r hb with⟨y,_⟩|y
   ·omega
   ·exact .inr (y.mono m)
 ·rw[gT z]at hs
  exact(h.kind s u hs).imp id (eU.mono m)
theorem dw.join{g:Ln}{nx:Nx}{pd pd':List Ln}{a b x y:Tm}{k j:Nat}(h:dw g nx (pd++[(a,b)]))(ra:aX nx k a x)(rb:aX nx j b y)(hxy:x≠y){c d:Tm}(hcd:(c=x/\d=y)\/(c=y/\d=x))
 (hpd:∀p∈pd,p∈pd') (hk:cV c=true\/eU (fun t u=>(t,u)∈pd'\/t=u) c d):dw g (put nx c d) pd':=by
 have hc:nx c=none:=by rcases hcd with⟨rfl,_⟩|⟨rfl,_⟩<;>first|exact ra.end'|exact rb.end'
 have hd:nx d=none:=by rcases hcd with⟨_,rfl⟩|⟨_,rfl⟩<;>first|exact ra.end'|exact rb.end'
 have ne:c≠d:=by rcases hcd with⟨rfl,rfl⟩|⟨rfl,rfl⟩<;>first|exact hxy|exact hxy.symm
 have old:∀s u,nx s=some u->put nx c d s=some u:=fun s u hs=>by rw[gT (by rintro rfl;rw[hc]at hs;cases hs)];exact hs
 have lift:∀{k:Nat}{s e:Tm},aX nx k s e->Cl (put nx c d) pd' s e:=fun r=>by
  induction r with
  |root _=>exact .refl
  |step hs _ ih=>exact .trans (.nx (old _ _ hs)) ih
 have m:∀s u,Cl nx (pd++[(a,b)]) s u->Cl (put nx c d) pd' s u:=fun s u=>Cl.mono (fun s u hs=>.nx (old s u hs)) fun p hp=>by
  rcases br.mp hp with z|z
  ·exact .pd (hpd p z)
  ·cases bx.mp z
   have cd:Cl (put nx c d) pd' c d:= .nx (lh ..)
   have xy:Cl (put nx c d) pd' x y:=by
        rcases hcd with⟨rfl,rfl⟩|⟨rfl,rfl⟩
        ·exact cd
        ·exact .symm cd
   exact .trans (lift ra) (.trans xy (.symm (lift rb)))
 refine⟨fun s=>?_,fun s u hs=>?_,m _ _ h.top⟩
 ·obtain⟨i,e,hs⟩:=h.tot s
  have:=hs.join hc hd ne
  by_cases z:e=c
  ·exact⟨_,_,this.2 z⟩
  ·exact⟨_,_,this.1 z⟩
 ·by_cases z:s=c
  ·subst z
   rw[lh]at hs
   cases hs
   refine hk.imp id (eU.mono fun t u hz=>?_)
   rcases hz with hz|hz
   ·exact .pd hz
   ·subst hz;exact .refl
  ·rw[gT z]at hs
   exact(h.kind s u hs).imp id (eU.mono m)
theorem nL{φ:aa->Tm}{w:aa}{ps:List Tm}{p:Tm}(h:p∈ps):(p.sub φ).nodes<((Tm.thing w ps).sub φ).nodes:=by
 have:=sj (bK.mpr ⟨p,h,rfl⟩:p.sub φ∈ps.map (Tm.sub φ))
 simp only[Tm.sub,gu,Tm.nodes]
 omega
theorem dw.alike{g:Ln}{nx:Nx}{σ:aa->Tm}(h:dw g nx [])(hσ:∀w k e,aX nx k (.blank w) e->σ w=e.sub σ):∀(n:Nat)(t u e:Tm)(k j:Nat),(t.sub σ).nodes<=n->aX nx k t e->aX nx j u e->t.sub σ=u.sub σ:=by
 intro n
 induction n with
 |zero=>intro t u e k j hn;have:=(t.sub σ).nodes_pos;omega
 |succ n ih=>
  have things:∀(t u e:Tm)(k j:Nat),cb t=true->cb u=true->(t.sub σ).nodes<=n+1->aX nx k t e->aX nx j u e->t.sub σ=u.sub σ:=fun t u e k j ht hu hn rt ru=>by
   have bt:cV t=false:=by cases t<;>simp_all [cb,cV]
   have bu:cV u=false:=by cases u<;>simp_all [cb,cV]
   have main:eU (Cl nx []) t u->t.sub σ=u.sub σ:=by
        rintro⟨w,ps,qs,rfl,rfl,hl,hz⟩
        rw[CA]
        refine⟨rfl,hl,fun z hz'=>?_⟩
        obtain⟨e',i,i',h1,h2⟩:=(hz z hz').same h.tot
        refine ih z.1 z.2 e' i i' ?_ h1 h2
        have:=nL (φ:=σ) (w:=w) (oU hz').1
        omega
   rcases h.way rt bt with⟨_,rfl⟩|y
   ·rcases h.way ru bu with⟨_,rfl⟩|z
    ·rfl
    ·exact main (z.symm fun _ _=>.symm)
   ·rcases h.way ru bu with⟨_,rfl⟩|z
    ·exact main y
    ·exact main (y.trans (fun _ _ _=>.trans) (z.symm fun _ _=>.symm))
  have toend:∀(u e:Tm)(j:Nat),cb u=false->aX nx j u e->u.sub σ=e.sub σ:=fun u e j hu ru=>by
   cases u with
   |blank w=>exact hσ w j e ru
   |thing _ _=>cases hu
   |num x=>
    rcases h.way ru rfl with⟨_,rfl⟩|⟨_,_,_,e,_⟩
    ·rfl
    ·cases e
   |name x=>
    rcases h.way ru rfl with⟨_,rfl⟩|⟨_,_,_,e,_⟩
    ·rfl
    ·cases e
  have endT:∀(u e:Tm)(j:Nat),cb u=true->aX nx j u e->cb e=true:=fun u e j hu ru=>by
   have bu:cV u=false:=by cases u<;>simp_all [cb,cV]
   rcases h.way ru bu with⟨_,rfl⟩|⟨_,_,_,_,rfl,_⟩
   ·exact hu
   ·rfl
  intro t u e k j hn rt ru
  have re:aX nx 0 e e:= .root rt.end'
  cases ht:cb t with
  |true=>
   cases hu:cb u with
   |true=>exact things t u e k j ht hu hn rt ru
   |false=>exact(things t e e k 0 ht (endT t e k ht rt) hn rt re).trans (toend u e j hu ru).symm
  |false=>
   have h1:=toend t e k ht rt
   cases hu:cb u with
   |true=>exact h1.trans (things e u e 0 j (endT u e j hu ru) hu (by rw[<-h1];exact hn) re ru)
   |false=>exact h1.trans (toend u e j hu ru).symm
theorem dw.both{g:Ln}{nx:Nx}{σ:aa->Tm}(h:dw g nx [])(hσ:∀w k e,aX nx k (.blank w) e->σ w=e.sub σ):g.1.sub σ=g.2.sub σ:=by
 obtain⟨e,k,j,h1,h2⟩:=h.top.same h.tot
 exact h.alike hσ _ _ _ e k j (aE _) h1 h2
end BF
namespace BF
open PySem
def dy(φ:aa->Tm)(p:Ln):Prop:=p.1.sub φ=p.2.sub φ
theorem mn.sol{φ:aa->Tm}{ds:List Ln}{g p:Ln}{r:Rs}(h:mn ds g r p)(hg:dy φ g)(hd:∀q∈ds,dy φ q):dy φ p:=by
 cases r with
 |giv=>simp only[mn]at h;rw[h];exact hg
 |turn n=>
  simp only[mn]at h
  obtain⟨a,e,rfl⟩:=h
  exact(hd a (zMG e)).symm
 |part n i=>
  simp only[mn]at h
  obtain⟨w,ps,qs,x,y,e,hl,ex,ey,rfl⟩:=h
  have h1:=hd _ (zMG e)
  exact(CA.mp h1).2.2 (x,y) (zMG (ki.mpr ⟨ex,ey⟩))
 |chain n m=>
  simp only[mn]at h
  obtain⟨a,b,c,e1,e2,rfl⟩:=h
  have h1:a.sub φ=b.sub φ:=hd (a,b) (zMG e1)
  have h2:b.sub φ=c.sub φ:=hd (b,c) (zMG e2)
  exact h1.trans h2
theorem sQ{φ:aa->Tm}{g:Ln}(hg:dy φ g):∀(fs:List (Ln×RI))(ds:List Ln),fh g ds fs->(∀q∈ds,dy φ q)->∀x∈fs,dy φ x.1
 |[],_,_,_,_,hx=>by cases hx
 |y::fs,ds,h,hd,x,hx=>by
  simp only[fh]at h
  obtain⟨⟨q,_,hq⟩,h2⟩:=h
  have hy:=hq.sol hg hd
  rcases bo.mp hx with z|z
  ·rw[z];exact hy
  ·refine sQ hg fs (ds++[y.1]) h2 (fun q hq=>?_) x z
   rcases br.mp hq with z|z
   ·exact hd q z
   ·cases bx.mp z
    exact hy
theorem IV{φ:aa->Tm}{w:aa}(t:Tm):w∈t.bl->(φ w).nodes<=(t.sub φ).nodes/\(cb t=true->(φ w).nodes<(t.sub φ).nodes):=by
 refine Tm.ind (P:=fun t=>w∈t.bl->(φ w).nodes<=(t.sub φ).nodes/\(cb t=true->(φ w).nodes<(t.sub φ).nodes)) (fun _ h=>?_) (fun _ h=>?_) (fun x h=>?_) (fun v ps ih h=>?_) t
 ·simp[Tm.bl]at h
 ·simp[Tm.bl]at h
 ·simp only[Tm.bl,bx]at h
  subst h
  exact⟨aE _,fun z=>by cases z⟩
 ·simp only[Tm.bl]at h
  obtain⟨p,hp,hw⟩:=jT.mp h
  have h1:=(ih p hp hw).1
  have h2:=nL (φ:=φ) (w:=v) hp
  exact⟨by omega,fun _=>by omega⟩
theorem IW{φ:aa->Tm}{R:List Ln}(h:sM R):¬∀p∈R,dy φ p:=by
 intro hs
 obtain⟨_,hn,p,hp,ht⟩:=h
 obtain⟨i,hi,e⟩:=ja.mp hp
 have step:∀j (hj:j<R.length),((R[(j+1) % R.length]'(d5 _ (by omega))).1.sub φ).nodes<=(R[j].1.sub φ).nodes/\(cb R[j].2=true->((R[(j+1) % R.length]'(d5 _ (by omega))).1.sub φ).nodes<(R[j].1.sub φ).nodes):=fun j hj=>by
  obtain⟨w,e1,hw⟩:=hn j hj
  have h1:R[j].1.sub φ=R[j].2.sub φ:=hs _ (zGM hj)
  rw[e1,h1]
  exact IV _ hw
 have far:∀(m j:Nat)(hj:j<R.length),((R[(j+m) % R.length]'(d5 _ (by omega))).1.sub φ).nodes<=(R[j].1.sub φ).nodes:=fun m=>by
  induction m with
  |zero=>intro j hj;simp only[Nat.add_zero,qP hj];exact aE _
  |succ m ih=>
   intro j hj
   have hlt:=d5 (j+m) (by omega:R.length>0)
   have h1:=(step _ hlt).1
   have h2:=ih j hj
   have e':((j+m) % R.length+1) % R.length=(j+(m+1)) % R.length:=by rw[yl,Nat.add_assoc]
   simp only[e']at h1
   omega
 have h1:=(step i hi).2 (by rw[e];exact ht)
 have hlt:=d5 (i+1) (by omega:R.length>0)
 have h2:=far (R.length - 1) _ hlt
 have e':((i+1) % R.length+(R.length - 1)) % R.length=i:=by
  rw[yl,show i+1+(R.length - 1)=i+R.length by omega,Nat.add_mod_right,qP hi]
 simp only[e']at h2
 omega
theorem IX{φ:aa->Tm}{x:aa}(t:Tm):x∈(t.sub φ).bl↔∃w∈t.bl,x∈(φ w).bl:=by
 refine Tm.ind (P:=fun t=>x∈(t.sub φ).bl↔∃w∈t.bl,x∈(φ w).bl) (fun _=>by simp[Tm.sub,Tm.bl]) (fun _=>by simp[Tm.sub,Tm.bl]) (fun w=>by simp[Tm.sub,Tm.bl]) (fun v ps ih=>?_) t
 simp only[Tm.sub,Tm.bl,gu,jT,bK]
 constructor
 ·rintro⟨_,⟨p,hp,rfl⟩,hx⟩
  obtain⟨w,hw,h⟩:=(ih p hp).mp hx
  exact⟨w,⟨p,hp,hw⟩,h⟩
 ·rintro⟨w,⟨p,hp,hw⟩,h⟩
  exact⟨_,⟨p,hp,rfl⟩,(ih p hp).mpr ⟨w,hw,h⟩⟩
inductive dZ(ends:Fl):Fl->Prop
 |nil:dZ ends []
 |snoc {f:Fl} {w:aa} {e:Tm}:dZ ends f->look ends w=some e->w∉f.map (·.1)->(∀x∈e.bl,look ends x≠none->x∈f.map (·.1))->dZ ends (f++[(w,e.fill f)])
theorem wz{f:Fl}{w x:aa}{t:Tm}(h:x≠w):look (f++[(w,t)]) x=look f x:=by
 have:look [(w,t)] x=none:=kW (by simpa using h)
 rw[pU,this,nk]
theorem CB{f:Fl}{w:aa}{t:Tm}(h:w∉f.map (·.1)):look (f++[(w,t)]) w=some t:=by
 rw[pU,kW h]
 simp[look]
theorem dZ.inv{ends f:Fl}(h:dZ ends f):(f.map (·.1)).Nodup/\∀p∈f,∃e,look ends p.1=some e/\p.2=e.fill f/\look f p.1=some p.2/\∀x∈e.bl,look ends x≠none->x∈f.map (·.1):=by
 induction h with
 |nil=>exact⟨.nil,fun p hp=>by cases hp⟩
 |@snoc f w e _ hw hn hb ih=>
  obtain⟨nd,ih⟩:=ih
  have keep:∀t:Tm,(∀x∈t.bl,look ends x≠none->x∈f.map (·.1))->t.fill f=t.fill (f++[(w,e.fill f)]):=fun t ht=>by
   rw[dv,dv]
   refine mq t fun x hx=>?_
   have hxw:x≠w:=by rintro rfl;exact hn (ht x hx (by rw[hw];simp))
   simp only[bh,wz hxw]
  refine⟨?_,fun p hp=>?_⟩
  ·rw[zMA]
   exact qU.mpr ⟨nd,by simp,fun x hx y hy=>by simp at hy;rintro rfl;subst hy;exact hn hx⟩
  ·rcases br.mp hp with z|z
   ·obtain⟨e',h1,h2,h3,h4⟩:=ih p z
    refine⟨e',h1,h2.trans (keep e' h4),?_,fun x hx hx'=>by rw[zMA];exact eu _ (h4 x hx hx')⟩
    rw[wz (by intro y;exact hn (y▸bK.mpr ⟨p,z,rfl⟩))]
    exact h3
   ·cases bx.mp z
    exact⟨e,hw,keep e hb,CB hn,fun x hx hx'=>by rw[zMA];exact eu _ (hb x hx hx')⟩
theorem dZ.out{ends f:Fl}(h:dZ ends f){w:aa}(hw:look ends w=none):look f w=none:=by
 refine kW fun z=>?_
 obtain⟨p,hp,rfl⟩:=bK.mp z
 obtain⟨e,h1,_⟩:=h.inv.2 p hp
 rw[hw]at h1
 cases h1
theorem dZ.eqn{ends f:Fl}(h:dZ ends f){w:aa}{e:Tm}(hw:look ends w=some e)(hf:w∈f.map (·.1)):bh f w=e.sub (bh f):=by
 obtain⟨p,hp,rfl⟩:=bK.mp hf
 obtain⟨e',h1,h2,h3,_⟩:=h.inv.2 p hp
 rw[hw]at h1
 cases h1
 rw[<-dv,<-h2]
 simp only[bh,h3,nn]
theorem dZ.clean{ends f:Fl}(h:dZ ends f):∀p∈f,∀x∈p.2.bl,look ends x=none/\∃q∈ends,x∈q.2.bl:=by
 induction h with
 |nil=>intro p hp;cases hp
 |@snoc f w e hs hw hn hb ih=>
  intro p hp x hx
  rcases br.mp hp with z|z
  ·exact ih p z x hx
  ·cases bx.mp z
   have hx:x∈(e.fill f).bl:=hx
   rw[dv,IX]at hx
   obtain⟨v,hv,hx⟩:=hx
   cases hl:look f v with
   |none=>
    simp only[bh,hl,rH,Tm.bl,bx]at hx
    subst hx
    refine⟨?_,(w,e),gQ hw,hv⟩
    refine ic fun y=>?_
    obtain⟨t,ht⟩:=sJ (hb x hv y)
    rw[hl]at ht
    cases ht
   |some t=>
    simp only[bh,hl,nn]at hx
    exact ih (v,t) (gQ hl) x hx
theorem dZ.best{ends f:Fl}{φ:aa->Tm}(h:dZ ends f)(hφ:∀w e,look ends w=some e->φ w=e.sub φ):∀w,(bh f w).sub φ=φ w:=by
 induction h with
 |nil=>intro w;rfl
 |@snoc f w e hs hw hn hb ih=>
  intro x
  by_cases z:x=w
  ·subst z
   simp only[bh,CB hn,nn]
   rw[dv,pX,hφ x e hw]
   exact mq e fun v _=>ih v
  ·have:=ih x
   simp only[bh,wz z]at this |-
   exact this
theorem CC:∀k:Nat,k * 2 ^ k<=3 ^ k
 |0=>by decide
 |1=>by decide
 |2=>by decide
 |k+3=>by
  have h:=CC (k+2)
  have e1:(k+3) * 2 ^ (k+3)=2 * ((k+2) * 2 ^ (k+2))+2 * 2 ^ (k+2):=by
   rw[Nat.pow_succ 2 (k+2),show k+3=k+2+1 from rfl,jx,qQ]
   have:(k+2) * (2 ^ (k+2) * 2)=(k+2) * 2 ^ (k+2) * 2:=by rw[jy]
   omega
  have e2:3 ^ (k+3)=3 * 3 ^ (k+2):=by rw[Nat.pow_succ 3 (k+2)];omega
  have h2:2 * 2 ^ (k+2)<=(k+2) * 2 ^ (k+2):=iY _ (by omega)
  omega
theorem IY{D M A P S k:Nat}(hDM:D<=M)(hP:P<=A+S)(hS:D * S+k * (D * A)<=k * (2 * (A * M))):2 ^ k * D * (P+A)<=2 * A * (3 ^ k * M):=by
 have h1:D * (P+A)<=D * S+2 * (D * A):=by
  have:D * (P+A)<=D * (S+2 * A):=mU _ (by omega)
  have e:D * (S+2 * A)=D * S+2 * (D * A):=by rw[Nat.mul_add,mV D 2 A]
  omega
 have h2:D * A<=A * M:=by rw[j9 A M];exact iY _ hDM
 have goal:2 ^ k * (D * (P+A))<=2 * (3 ^ k * (A * M)):=by
  generalize D * (P+A)=X at h1 |-
  generalize D * S=Y at h1 hS
  generalize D * A=Z at h1 h2 hS
  generalize A * M=W at h2 hS |-
  cases k with
  |zero=>simp at hS |-;omega
  |succ k=>
   cases k with
   |zero=>simp at hS |-;omega
   |succ k=>
    have h3:X<=(k+2) * (2 * W):=by
     have:2 * Z<=(k+1+1) * Z:=iY _ (by omega)
     have e:(k+1+1) * (2 * W)=(k+2) * (2 * W):=rfl
     omega
    have h4:2 ^ (k+2) * X<=2 ^ (k+2) * ((k+2) * (2 * W)):=mU _ h3
    have e:2 ^ (k+2) * ((k+2) * (2 * W))=2 * (((k+2) * 2 ^ (k+2)) * W):=by
     rw[<-jy,j9 (2 ^ (k+2)) (k+2),mV]
    have h5:((k+2) * 2 ^ (k+2)) * W<=3 ^ (k+2) * W:=iY _ (CC (k+2))
    show 2 ^ (k+2) * X<=2 * (3 ^ (k+2) * W)
    omega
 have e1:2 ^ k * D * (P+A)=2 ^ k * (D * (P+A)):=jy ..
 have e2:2 * A * (3 ^ k * M)=2 * (3 ^ k * (A * M)):=by rw[jy,mV A]
 omega
def hv(q:Tm->Bool):Tm->Nat
 |.thing _ ps=>ps.countP q
 |_=>0
def gU(q:Tm->Bool)(σ:aa->Tm)(m:Nat):List Tm->Nat
 |[]=>0
 |t::r=>(if (t.sub σ).nodes<=m then hv q t else 0)+gU q σ m r
theorem wA{q:Tm->Bool}{σ:aa->Tm}{m n:Nat}(h:m<=n):∀U:List Tm,gU q σ m U<=gU q σ n U
 |[]=>aE _
 |t::r=>by
  have ih:=wA (q:=q) (σ:=σ) h r
  simp only[gU]
  split<;>split<;>omega
theorem CD{q:Tm->Bool}{σ:aa->Tm}{m:Nat}{t:Tm}(h:m<(t.sub σ).nodes):∀{U:List Tm},t∈U->gU q σ m U+hv q t<=gU q σ (t.sub σ).nodes U
 |u::r,ht=>by
  simp only[gU]
  rcases bo.mp ht with z|z
  ·subst z
   have:=wA (q:=q) (σ:=σ) (mT h) r
   rw[if_neg (by omega),if_pos (aE _)]
   omega
  ·have:=CD (q:=q) h z
   split<;>split<;>omega
theorem CF{q:Tm->Bool}{σ:aa->Tm}{m:Nat}:∀U:List Tm,gU q σ m U<=(U.map (hv q)).sum
 |[]=>aE _
 |t::r=>by
  have ih:=CF (q:=q) (σ:=σ) (m:=m) r
  simp only[gU,bM,jD]
  split<;>omega
structure pY(q:Tm->Bool)(L:Nat)(σ:aa->Tm)(U:List Tm):Prop where
 part:∀w ps,Tm.thing w ps∈U->∀p∈ps,cb p=true->p∈U
 blank:∀w ps,Tm.thing w ps∈U->∀x,Tm.blank x∈ps->(σ x).nodes=1\/∃e∈U,cb e=true/\σ x=e.sub σ
 light:∀w ps,Tm.thing w ps∈U->(ps.countP fun p=> !q p)<=L/\∀p∈ps,q p=false->(p.sub σ).nodes=1
theorem CG{σ:aa->Tm}{q:Tm->Bool}{B A D:Nat}:∀{ps:List Tm},(∀p∈ps,q p=false->(p.sub σ).nodes=1)->(∀p∈ps,q p=true->D * ((p.sub σ).nodes+A)<=B)->
 ∃S,aJ (ps.map (Tm.sub σ))=(ps.countP fun p=> !q p)+S/\D * S+ps.countP q * (D * A)<=ps.countP q * B
 |[],_,_=>⟨0,rfl,by simp⟩
 |p::ps,h1,h2=>by
  obtain⟨S,e,hS⟩:=CG (ps:=ps) (fun p hp=>h1 p (by simp[hp])) (fun p hp=>h2 p (by simp[hp]))
  simp only[bM,aJ,uS]
  cases hq:q p with
  |false=>
   have:=h1 p (by simp) hq
   exact⟨S,by simp;omega,by simpa using hS⟩
  |true=>
   have:=h2 p (by simp) hq
   refine⟨S+(p.sub σ).nodes,by simp;omega,?_⟩
   rw[Nat.mul_add]at this |-
   simp only[if_true]
   rw[jx,jx,qQ,qQ]
   omega
theorem pY.le{q:Tm->Bool}{L:Nat}{σ:aa->Tm}{U:List Tm}(h:pY q L σ U):∀(n:Nat)(t:Tm),t∈U->cb t=true->(t.sub σ).nodes<=n->2 ^ gU q σ (t.sub σ).nodes U * ((t.sub σ).nodes+(L+1))<=2 * (L+1) * 3 ^ gU q σ (t.sub σ).nodes U:=by
 intro n
 induction n with
 |zero=>intro t _ _ hn;have:=(t.sub σ).nodes_pos;omega
 |succ n ih=>
  intro t ht hT hn
  cases t with
  |num _=>cases hT
  |name _=>cases hT
  |blank _=>cases hT
  |thing w ps=>
   obtain⟨hl,h1⟩:=h.light w ps ht
   have hpos:=((Tm.thing w ps).sub σ).nodes_pos
   generalize hC:gU q σ (((Tm.thing w ps).sub σ).nodes - 1) U=C
   have hless:=CD (q:=q) (σ:=σ) (m:=((Tm.thing w ps).sub σ).nodes - 1) (t:= .thing w ps) (by omega) ht
   rw[hC]at hless
   have hp23:∀a b:Nat,a<=b->2 ^ b * 3 ^ a<=2 ^ a * 3 ^ b:=fun a b hab=>by
        obtain⟨d,rfl⟩:=uG hab
        rw[mW,mW,jy,j9 (2 ^ d)]
        exact mU _ (mU _ (uI (by decide) d))
   have up:∀{a b x:Nat},a<=b->2 ^ a * x<=2 * (L+1) * 3 ^ a->2 ^ b * x<=2 * (L+1) * 3 ^ b:=fun {a b x} hab hx=>by
        have h3:3 ^ a * (2 ^ b * x)<=3 ^ a * (2 * (L+1) * 3 ^ b):=by
         have e1:3 ^ a * (2 ^ b * x)=(2 ^ b * 3 ^ a) * x:=by rw[<-jy,j9 (3 ^ a)]
         have h4:(2 ^ b * 3 ^ a) * x<=(2 ^ a * 3 ^ b) * x:=iY _ (hp23 a b hab)
         have e2:(2 ^ a * 3 ^ b) * x=3 ^ b * (2 ^ a * x):=by rw[j9 (2 ^ a),jy]
         have h5:3 ^ b * (2 ^ a * x)<=3 ^ b * (2 * (L+1) * 3 ^ a):=mU _ hx
         have e3:3 ^ b * (2 * (L+1) * 3 ^ a)=3 ^ a * (2 * (L+1) * 3 ^ b):=by rw[mV,mV (3 ^ a),j9 (3 ^ a)]
         omega
        exact ym h3 (Nat.pow_pos (by decide))
   have one:2 ^ C * (1+(L+1))<=2 * (L+1) * 3 ^ C:=up (cQ C) (by simp;omega)
   have part:∀p∈ps,2 ^ C * ((p.sub σ).nodes+(L+1))<=2 * (L+1) * 3 ^ C:=fun p hp=>by
        have hlt:=nL (φ:=σ) (w:=w) hp
        have use:∀e∈U,cb e=true->(e.sub σ).nodes=(p.sub σ).nodes->2 ^ C * ((p.sub σ).nodes+(L+1))<=2 * (L+1) * 3 ^ C:=fun e he hTe hee=>by
         have:=ih e he hTe (by omega)
         rw[<-hee]
         refine up ?_ this
         rw[<-hC]
         exact wA (by omega) U
        cases p with
        |num _=>exact one
        |name _=>exact one
        |thing v qs=>exact use _ (h.part w ps ht _ hp rfl) rfl rfl
        |blank x=>
         rcases h.blank w ps ht x hp with z|⟨e,he,hTe,z⟩
         ·have:((Tm.blank x).sub σ).nodes=1:=z
          rw[this]
          exact one
         ·refine use e he hTe ?_
          show _=(σ x).nodes
          rw[z]
   obtain⟨S,eS,hS⟩:=CG (q:=q) h1 fun p hp _=>part p hp
   have hk:hv q (.thing w ps)=ps.countP q:=rfl
   have hnod:((Tm.thing w ps).sub σ).nodes=1+aJ (ps.map (Tm.sub σ)):=by simp only[Tm.sub,gu,Tm.nodes]
   have:=IY (D:=2 ^ C) (M:=3 ^ C) (A:=L+1) (P:=((Tm.thing w ps).sub σ).nodes) (S:=S) (k:=ps.countP q) (uI (by decide) C) (by omega) (by
        rw[show 2 * ((L+1) * 3 ^ C)=2 * (L+1) * 3 ^ C by rw[jy]];exact hS)
   rw[<-mW,<-mW]at this
   refine up (a:=ps.countP q+C) ?_ this
   rw[hk]at hless
   omega
theorem pY.num{q:Tm->Bool}{L:Nat}{σ:aa->Tm}{U:List Tm}(h:pY q L σ U){t:Tm}(ht:t∈U)(hT:cb t=true){c N:Nat}(hc:(U.map (hv q)).sum<=c)(hN:2 * (L+1) * 3 ^ c<=2 ^ c * N):(t.sub σ).nodes<=N:=by
 have h1:=h.le _ t ht hT (aE _)
 have hle:=CF (q:=q) (σ:=σ) (m:=(t.sub σ).nodes) U
 generalize gU q σ (t.sub σ).nodes U=C at h1 hle
 generalize (t.sub σ).nodes=P at h1 |-
 have hCc:C<=c:=by omega
 obtain⟨d,rfl⟩:=uG hCc
 have h2:2 ^ C * P<=2 * (L+1) * 3 ^ C:=cO (mU _ (by omega)) h1
 have h3:2 ^ (C+d) * P<=2 * (L+1) * 3 ^ (C+d):=by
  have e1:2 ^ (C+d) * P=2 ^ d * (2 ^ C * P):=by rw[mW,j9 (2 ^ C),jy]
  have h4:2 ^ d * (2 ^ C * P)<=3 ^ d * (2 * (L+1) * 3 ^ C):=Nat.mul_le_mul (uI (by decide) d) h2
  have e2:3 ^ d * (2 * (L+1) * 3 ^ C)=2 * (L+1) * 3 ^ (C+d):=by rw[mW,mV,j9 (3 ^ d)]
  omega
 have h5:2 ^ (C+d) * P<=2 ^ (C+d) * N:=cO h3 hN
 exact ym h5 (Nat.pow_pos (by decide))
def eI(ρ:aa->aa):aa->Tm:=fun w=>.blank (ρ w)
def wB(ρ:aa->aa)(l:List aa):Prop:=∀a∈l,∀b∈l,ρ a=ρ b->a=b
theorem IZ{φ ψ:aa->Tm}(t:Tm):t.sub φ=t.sub ψ->∀w∈t.bl,φ w=ψ w:=by
 refine Tm.ind (P:=fun t=>t.sub φ=t.sub ψ->∀w∈t.bl,φ w=ψ w) (fun _ _ w h=>by simp[Tm.bl]at h) (fun _ _ w h=>by simp[Tm.bl]at h) (fun x h w hw=>?_) (fun v ps ih h w hw=>?_) t
 ·simp only[Tm.bl,bx]at hw
  subst hw
  exact h
 ·simp only[Tm.bl]at hw
  obtain⟨p,hp,hw⟩:=jT.mp hw
  simp only[Tm.sub,gu,Tm.thing.injEq,true_and]at h
  refine ih p hp ?_ w hw
  exact List.map_inj_left.mp h p hp
abbrev Wp:=List (aa×aa)
def cu(f:Wp)(w:aa):Option aa:=(f.find? fun p=>decide (p.1=w)).map (·.2)
theorem li(p:aa×aa)(r:Wp)(w:aa):cu (p::r) w=if p.1=w then some p.2 else cu r w:=by
 unfold cu
 rw[jC]
 by_cases e:p.1=w<;>simp[e]
theorem pZ(w:aa):cu [] w=none:=rfl
theorem mr(a b:Wp)(w:aa):cu (a++b) w=(cu a w).or (cu b w):=by
 induction a with
 |nil=>simp[pZ]
 |cons p r ih=>
  rw[eA,li,li,ih]
  split<;>simp
theorem wC{f:Wp}{w v:aa}(h:cu f w=some v):(w,v)∈f:=by
 induction f with
 |nil=>cases h
 |cons p r ih=>
  rw[li]at h
  split at h
  ·rename_i c
   cases h
   rw[<-c]
   simp
  ·simp[ih h]
structure dG(t u:Tm)(td:List Ln)(fo ba:Wp):Prop where
 sol:∀ρ:aa->aa,wB ρ t.bl->(t.sub (eI ρ)=u↔(∀p∈td,p.1.sub (eI ρ)=p.2)/\∀z∈fo,ρ z.1=z.2)
 inv:∀a b,cu fo a=some b↔cu ba b=some a
 key:∀w∈t.bl,cu fo w≠none\/∃p∈td,w∈p.1.bl
 sub:(∀z∈fo,z.1∈t.bl/\cu fo z.1=some z.2)/\∀p∈td,∀w∈p.1.bl,w∈t.bl
theorem dG.start(t u:Tm):dG t u [(t,u)] [] [] where
 sol:=fun ρ _=>by simp
 inv:=fun a b=>by simp[pZ]
 key:=fun w hw=>.inr ⟨(t,u),by simp,hw⟩
 sub:=⟨fun z hz=>by simp at hz,fun p hp w hw=>by cases bx.mp hp;exact hw⟩
variable{t u:Tm}{td:List Ln}{fo ba:Wp}
theorem dG.old{a b:aa}(h:dG t u (td++[(.blank a,.blank b)]) fo ba)(hf:cu fo a=some b):dG t u td fo ba where
 sol:=fun ρ hρ=>by
  rw[h.sol ρ hρ]
  refine⟨fun⟨h1,h2⟩=>⟨fun p hp=>h1 p (by simp[hp]),h2⟩,fun⟨h1,h2⟩=>⟨fun p hp=>?_,h2⟩⟩
  rcases br.mp hp with y|y
  ·exact h1 p y
  ·cases bx.mp y
   show Tm.blank (ρ a)= .blank b
   rw[h2 (a,b) (wC hf)]
 inv:=h.inv
 key:=fun w hw=>by
  rcases h.key w hw with y|⟨p,hp,hp'⟩
  ·exact .inl y
  ·rcases br.mp hp with z|z
   ·exact .inr ⟨p,z,hp'⟩
   ·cases bx.mp z
    simp only[Tm.bl,bx]at hp'
    subst hp'
    exact .inl (by rw[hf];simp)
 sub:=⟨h.sub.1,fun p hp=>h.sub.2 p (by simp[hp])⟩
theorem dG.new{a b:aa}(h:dG t u (td++[(.blank a,.blank b)]) fo ba)(hf:cu fo a=none)(hb:cu ba b=none):dG t u td (fo++[(a,b)]) (ba++[(b,a)]) where
 sol:=fun ρ hρ=>by
  rw[h.sol ρ hρ]
  refine⟨fun⟨h1,h2⟩=>⟨fun p hp=>h1 p (by simp[hp]),fun z hz=>?_⟩,fun⟨h1,h2⟩=>⟨fun p hp=>?_,fun z hz=>h2 z (by simp[hz])⟩⟩
  ·rcases br.mp hz with y|y
   ·exact h2 z y
   ·cases bx.mp y
    have:=h1 (.blank a,.blank b) (by simp)
    exact Tm.blank.inj this
  ·rcases br.mp hp with y|y
   ·exact h1 p y
   ·cases bx.mp y
    show Tm.blank (ρ a)= .blank b
    rw[h2 (a,b) (by simp)]
 inv:=fun c d=>by
  rw[mr,mr,li,li,pZ,pZ]
  by_cases e1:a=c
  ·subst e1
   rw[hf]
   simp only[pq,if_true,lG]
   by_cases e2:b=d
   ·subst e2
    rw[hb]
    simp
   ·simp only[e2,if_false,nk,false_iff]
    intro z
    have:=(h.inv a d).mpr z
    rw[hf]at this
    cases this
  ·simp only[e1,if_false,nk]
   rw[h.inv]
   by_cases e2:b=d
   ·subst e2
    rw[hb]
    simp[e1]
   ·simp[e2]
 key:=fun w hw=>by
  rcases h.key w hw with y|⟨p,hp,hp'⟩
  ·refine .inl ?_
   rw[mr]
   cases e:cu fo w with
   |none=>exact absurd e y
   |some v=>simp
  ·rcases br.mp hp with z|z
   ·exact .inr ⟨p,z,hp'⟩
   ·cases bx.mp z
    simp only[Tm.bl,bx]at hp'
    subst hp'
    exact .inl (by rw[mr,hf,li];simp)
 sub:=⟨fun z hz=>by
  rcases br.mp hz with y|y
  ·obtain⟨h1,h2⟩:=h.sub.1 z y
   exact⟨h1,by rw[mr,h2];rfl⟩
  ·cases bx.mp y
   exact⟨h.sub.2 (.blank a,.blank b) (by simp) a (by simp[Tm.bl]),by rw[mr,hf,li];simp⟩,fun p hp=>h.sub.2 p (by simp[hp])⟩
theorem dG.leaf{s:Tm}(h:dG t u (td++[(s,s)]) fo ba)(hs:s.bl=[]):dG t u td fo ba where
 sol:=fun ρ hρ=>by
  rw[h.sol ρ hρ]
  refine⟨fun⟨h1,h2⟩=>⟨fun p hp=>h1 p (by simp[hp]),h2⟩,fun⟨h1,h2⟩=>⟨fun p hp=>?_,h2⟩⟩
  rcases br.mp hp with y|y
  ·exact h1 p y
  ·cases bx.mp y
   have:=mq (φ:=eI ρ) (ψ:=Tm.blank) s fun w hw=>by rw[hs]at hw;cases hw
   exact this.trans (Cz s)
 inv:=h.inv
 key:=fun w hw=>by
  rcases h.key w hw with y|⟨p,hp,hp'⟩
  ·exact .inl y
  ·rcases br.mp hp with z|z
   ·exact .inr ⟨p,z,hp'⟩
   ·cases bx.mp z
    simp only[hs]at hp'
    cases hp'
 sub:=⟨h.sub.1,fun p hp=>h.sub.2 p (by simp[hp])⟩
theorem dG.parts{w:aa}{ps qs:List Tm}(h:dG t u (td++[(.thing w ps,.thing w qs)]) fo ba)(hl:ps.length=qs.length):dG t u (td++ps.zip qs) fo ba where
 sol:=fun ρ hρ=>by
  rw[h.sol ρ hρ]
  refine⟨fun⟨h1,h2⟩=>⟨fun p hp=>?_,h2⟩,fun⟨h1,h2⟩=>⟨fun p hp=>?_,h2⟩⟩
  ·rcases br.mp hp with y|y
   ·exact h1 p (by simp[y])
   ·exact(wy.mp (h1 (.thing w ps,.thing w qs) (by simp))).2.2 p y
  ·rcases br.mp hp with y|y
   ·exact h1 p (by simp[y])
   ·cases bx.mp y
    exact wy.mpr ⟨rfl,hl,fun z hz=>h1 z (by simp[hz])⟩
 inv:=h.inv
 key:=fun x hx=>by
  rcases h.key x hx with y|⟨p,hp,hp'⟩
  ·exact .inl y
  ·rcases br.mp hp with z|z
   ·exact .inr ⟨p,by simp[z],hp'⟩
   ·cases bx.mp z
    simp only[Tm.bl]at hp'
    obtain⟨q,hq,hx'⟩:=jT.mp hp'
    obtain⟨k,hk,e⟩:=ja.mp hq
    refine .inr ⟨(q,qs[k]'(by omega)),d6 _ (zMG (ki.mpr ⟨by rw[<-e];exact zGE hk,zGE (by omega)⟩)),hx'⟩
 sub:=⟨h.sub.1,fun p hp x hx=>by
  rcases br.mp hp with y|y
  ·exact h.sub.2 p (by simp[y]) x hx
  ·exact h.sub.2 (.thing w ps,.thing w qs) (by simp) x (by simp only[Tm.bl];exact jT.mpr ⟨p.1,(oU y).1,hx⟩)⟩
def lj(t u:Tm)(ρ:aa->aa):Prop:=wB ρ t.bl/\t.sub (eI ρ)=u
theorem dG.done(h:dG t u [] fo ba):lj t u fun w=>(cu fo w).getD w:=by
 have hi:wB (fun w=>(cu fo w).getD w) t.bl:=fun a ha b hb e=>by
  have k1:cu fo a≠none:=by
   rcases h.key a ha with y|⟨p,hp,_⟩
   ·exact y
   ·cases hp
  have k2:cu fo b≠none:=by
   rcases h.key b hb with y|⟨p,hp,_⟩
   ·exact y
   ·cases hp
  cases e1:cu fo a with
  |none=>exact absurd e1 k1
  |some c=>
   cases e2:cu fo b with
   |none=>exact absurd e2 k2
   |some d=>
    simp only[e1,e2,nn]at e
    subst e
    have:=((h.inv a c).mp e1).symm.trans ((h.inv b c).mp e2)
    exact cv this
 refine⟨hi,(h.sol _ hi).mpr ⟨fun p hp=>(by cases hp),fun z hz=>?_⟩⟩
 show (cu fo z.1).getD z.1=z.2
 rw[(h.sub.1 z hz).2]
 rfl
theorem dG.no1{a b c:aa}(h:dG t u (td++[(.blank a,.blank b)]) fo ba)(hf:cu fo a=some c)(hc:c≠b):∀ρ,¬lj t u ρ:=fun ρ ⟨h1,h2⟩=>by
 obtain⟨h3,h4⟩:=(h.sol ρ h1).mp h2
 have e1:=h4 (a,c) (wC hf)
 have e2:=Tm.blank.inj (h3 (.blank a,.blank b) (by simp))
 exact hc (e1.symm.trans e2)
theorem dG.no2{a b c:aa}(h:dG t u (td++[(.blank a,.blank b)]) fo ba)(hb:cu ba b=some c)(hc:c≠a):∀ρ,¬lj t u ρ:=fun ρ ⟨h1,h2⟩=>by
 obtain⟨h3,h4⟩:=(h.sol ρ h1).mp h2
 have hf:=(h.inv c b).mpr hb
 have hm:=wC hf
 have e1:=h4 (c,b) hm
 have e2:=Tm.blank.inj (h3 (.blank a,.blank b) (by simp))
 exact hc (h1 c (h.sub.1 _ hm).1 a (h.sub.2 (.blank a,.blank b) (by simp) a (by simp[Tm.bl])) (e1.trans e2.symm))
theorem dG.no{s s':Tm}(h:dG t u (td++[(s,s')]) fo ba)(hs:∀ρ,s.sub (eI ρ)≠s'):∀ρ,¬lj t u ρ:=fun ρ ⟨h1,h2⟩=>hs ρ (((h.sol ρ h1).mp h2).1 (s,s') (by simp))
theorem I0{t u:Tm}{α β:aa->Tm}(h1:u=t.sub α)(h2:t=u.sub β):∃ρ,lj t u ρ:=by
 have e:t.sub (fun w=>(α w).sub β)=t.sub Tm.blank:=by rw[<-pX,<-h1,<-h2,Cz]
 have k:=IZ t e
 have kb:∀w∈t.bl,∃v,α w= .blank v:=fun w hw=>by
  have:=k w hw
  cases e2:α w with
  |num n=>rw[e2]at this;cases this
  |name n=>rw[e2]at this;cases this
  |blank v=>exact⟨v,rfl⟩
  |thing v ps=>rw[e2]at this;cases this
 refine⟨fun w=>match α w with|.blank v=>v|_=>w,fun a ha b hb e=>?_,?_⟩
 ·obtain⟨v,hv⟩:=kb a ha
  obtain⟨v',hv'⟩:=kb b hb
  simp only[hv,hv']at e
  subst e
  have h3:=k a ha
  have h4:=k b hb
  rw[hv]at h3
  rw[hv']at h4
  exact Tm.blank.inj (h3.symm.trans h4)
 ·rw[h1]
  refine mq t fun w hw=>?_
  obtain⟨v,hv⟩:=kb w hw
  simp only[eI,hv]
open PySem.Spec PyProof.Rows L2
theorem CH{x y:aa}(h:x.cps.toList=y.cps.toList):x=y:=by
 cases x;cases y
 congr
 exact vf h
def rg(a b c:Nat):Bool:=decide (a<=c)&&decide (c<=b)
theorem CI{p:Nat->Bool}{a k:List Nat}(ha:∀c∈a,p c=true)(hk:me k)(h44:p 44=false)(h41:p 41=false):(a++k).takeWhile p=a:=by
 refine Bk ha ?_
 rcases hk with rfl|⟨r,rfl|rfl⟩
 ·exact .inl rfl
 ·exact .inr ⟨44,r,rfl,h44⟩
 ·exact .inr ⟨41,r,rfl,h41⟩
theorem CJ(n:Int):∃(sg:List Nat)(m:Nat),jh n=sg++cJ m/\((sg=[]/\n=(m:Int))\/(sg=[45]/\n= -(m:Int)/\m≠0)):=by
 cases n with
 |ofNat m=>exact⟨[],m,BJ m,.inl ⟨rfl,rfl⟩⟩
 |negSucc m=>exact⟨[45],m+1,BK m,.inr ⟨rfl,rfl,by omega⟩⟩
theorem Ja(m:Nat):∀c∈cJ m,rg 48 57 c=true:=fun c hc=>by
 have:=v7 m c hc
 unfold rg
 rw[decide_eq_true this.1,decide_eq_true this.2];rfl
theorem Jb{n:Int}(k:List Nat):∃c r,jh n++k=c::r/\(c=45\/(48<=c/\c<=57)):=by
 obtain⟨sg,m,h,hh⟩:=CJ n
 rcases hh with⟨rfl,_⟩|⟨rfl,_,_⟩
 ·cases hf:cJ m with
  |nil=>exact absurd hf (pM m)
  |cons c r=>
   refine⟨c,r++k,by rw[h,hf];rfl,.inr (v7 m c (by rw[hf];simp))⟩
 ·exact⟨45,cJ m++k,by rw[h];rfl,.inl rfl⟩
def dz:Nat->Bool:=rg 97 122
def mt:Nat->Bool:=rg 48 57
def lm(l:List Nat):aa:=⟨l.toArray⟩
theorem Jc(l:List Nat):(lm l).cps.toList=l:=by simp[lm]
def Lw(w:aa):Prop:=w.cps.toList≠[]/\∀c∈w.cps.toList,dz c=true
mutual
def Tm.Gd:Tm->Prop
 |.num _=>True
 |.name w=>Lw w
 |.blank w=>Lw w
 |.thing w ps=>Lw w/\ps≠[]/\sR ps
def sR:List Tm->Prop
 |[]=>True
 |p::r=>p.Gd/\sR r
end
abbrev Bg:=List (aa×List Tm)
def p6(l:List Nat):List Nat:=if l.head?=some 45 then [45]else []
def jU(l:List Nat):List Nat:=if l.head?=some 45 then l.tail else l
def p8(l:List Nat):Option (Int×List Nat):=
 if (jU l).takeWhile mt=[]then none
 else if ((jU l).takeWhile mt).head?=some 48/\p6 l++(jU l).takeWhile mt≠[48]then none
 else some (if p6 l=[]then (vt ((jU l).takeWhile mt):Int)else -(vt ((jU l).takeWhile mt):Int),(jU l).dropWhile mt)
inductive eJ:List Nat->Bg->Option (Tm×List Nat×Bg)->Prop where
 |more {k r:List Nat} {b:Bg} {res}:k.takeWhile dz≠[]->k.dropWhile dz=40::r->eJ r ((lm (k.takeWhile dz),[])::b) res->eJ k b res
 |name {k:List Nat} {b:Bg}:k.takeWhile dz≠[]->(k.dropWhile dz).head?≠some 40->eJ k b (some (.name (lm (k.takeWhile dz)),k.dropWhile dz,b))
 |blank {k r:List Nat} {b:Bg}:k=63::r->r.takeWhile dz≠[]->eJ k b (some (.blank (lm (r.takeWhile dz)),r.dropWhile dz,b))
 |noblank {k r:List Nat} {b:Bg}:k=63::r->r.takeWhile dz=[]->eJ k b none
 |num {k r:List Nat} {b:Bg} {n:Int}:k.takeWhile dz=[]->k.head?≠some 63->p8 k=some (n,r)->eJ k b (some (.num n,r,b))
 |nonum {k:List Nat} {b:Bg}:k.takeWhile dz=[]->k.head?≠some 63->p8 k=none->eJ k b none
inductive fI:Tm->List Nat->Bg->Option Tm->Prop where
 |fin {t:Tm}:fI t [] [] (some t)
 |behind {t:Tm} {c:Nat} {k:List Nat}:fI t (c::k) [] none
 |comma {t t':Tm} {k k':List Nat} {w:aa} {d:List Tm} {b b':Bg} {res}:eJ k ((w,d++[t])::b) (some (t',k',b'))->fI t' k' b' res->fI t (44::k) ((w,d)::b) res
 |nocomma {t:Tm} {k:List Nat} {w:aa} {d:List Tm} {b:Bg}:eJ k ((w,d++[t])::b) none->fI t (44::k) ((w,d)::b) none
 |close {t:Tm} {k:List Nat} {w:aa} {d:List Tm} {b:Bg} {res}:fI (.thing w (d++[t])) k b res->fI t (41::k) ((w,d)::b) res
 |neither {t:Tm} {k:List Nat} {f:aa×List Tm} {b:Bg}:k.head?≠some 44->k.head?≠some 41->fI t k (f::b) none
inductive p9:List Nat->Option Tm->Prop where
 |yes {l k:List Nat} {t:Tm} {b:Bg} {res}:eJ l [] (some (t,k,b))->fI t k b res->p9 l res
 |no {l:List Nat}:eJ l [] none->p9 l none
theorem tw_dw{p:Nat->Bool}(l:List Nat):l.takeWhile p++l.dropWhile p=l:=List.takeWhile_append_dropWhile
def Ch(l:List Nat)(b:Bg)(res:Option Tm):Prop:=(∃t k b',eJ l b (some (t,k,b'))/\fI t k b' res)\/(eJ l b none/\res=none)
theorem CK{w:aa}{k:List Nat}(h:Lw w)(hk:me k):(w.cps.toList++k).takeWhile dz=w.cps.toList:=CI h.2 hk (by decide) (by decide)
theorem nM{p:Nat->Bool}{a k:List Nat}(h:(a++k).takeWhile p=a):(a++k).dropWhile p=k:=by
 have e:=tw_dw (p:=p) (a++k)
 rw[h]at e
 exact List.append_cancel_left e
theorem wD(w:aa):lm w.cps.toList=w:=CH (Jc _)
theorem Jd{k:List Nat}(hk:me k):k.head?≠some 40:=by
 rcases hk with rfl|⟨r,rfl|rfl⟩<;>simp
theorem sS{m:Nat}{k:List Nat}(hk:me k):(cJ m++k).takeWhile mt=cJ m:=CI (Ja m) hk (by decide) (by decide)
theorem CL{m:Nat}:(cJ m).head?=some 48->cJ m=[48]:=by
 intro h
 cases e:cJ m with
 |nil=>rw[e]at h;simp at h
 |cons c r=>
  rw[e]at h
  simp only[uT,lG]at h
  subst h
  have:=BG m r e
  subst this
  rw[BE (by decide)]at e
  exact e.symm
theorem CM(m:Nat)(k:List Nat):(cJ m++k).head?≠some 45:=by
 cases e:cJ m with
 |nil=>exact absurd e (pM m)
 |cons c r=>
  have:=v7 m c (by rw[e];simp)
  simp only[eA,uT,ne_eq,lG]
  omega
theorem Je{n:Int}{k:List Nat}(hk:me k):p8 (jh n++k)=some (n,k):=by
 obtain⟨sg,m,e,hh⟩:=CJ n
 rcases hh with⟨rfl,rfl⟩|⟨rfl,rfl,hm⟩
 ·rw[e,iH]
  have h1:p6 (cJ m++k)=[]:=by unfold p6;rw[if_neg (CM m k)]
  have h2:jU (cJ m++k)=cJ m++k:=by unfold jU;rw[if_neg (CM m k)]
  unfold p8
  rw[h1,h2,sS hk,if_neg (pM m),if_neg (fun z=>z.2 (by rw[iH];exact CL z.1)),if_pos rfl,BI,nM (sS hk)]
 ·rw[e]
  have h1:p6 ([45]++cJ m++k)=[45]:=rfl
  have h2:jU ([45]++cJ m++k)=cJ m++k:=rfl
  have h3:(cJ m).head?≠some 48:=fun z=>by
   have y:=CL z
   have:=BG m [] y
   exact hm this
  unfold p8
  rw[h1,h2,sS hk,if_neg (pM m),if_neg (fun z=>h3 z.1),if_neg (by simp),BI,nM (sS hk)]
theorem CN{n:Int}{k:List Nat}:(jh n++k).takeWhile dz=[]/\(jh n++k).head?≠some 63:=by
 obtain⟨c,r,e,hc⟩:=Jb (n:=n) k
 rw[e]
 constructor
 ·rw[yx,if_neg]
  unfold dz rg
  rw[h8,decide_eq_true_eq,decide_eq_true_eq]
  omega
 ·simp only[uT,ne_eq,lG]
  omega
theorem wE{p:Tm}:∀{l:List Tm},sR l->p∈l->p.Gd
 |x::r,h,hm=>by
  rcases bo.mp hm with rfl|hm
  ·exact h.1
  ·exact wE h.2 hm
theorem CO(ps:List Tm)(k:List Nat):me (fE ps++41::k):=by
 cases ps with
 |nil=>exact .inr ⟨k,.inr rfl⟩
 |cons p r=>exact .inr ⟨_,.inl rfl⟩
theorem Jf(t:Tm):∀(k:List Nat)(b:Bg)(res:Option Tm),t.Gd->me k->fI t k b res->Ch (t.line++k) b res:=by
 induction t using Tm.ind with
 |h1 n=>
  intro k b res _ hk h
  exact .inl ⟨_,_,_,.num (CN (n:=n)).1 (CN (n:=n)).2 (Je hk),h⟩
 |h2 w=>
  intro k b res hg hk h
  have e:=CK hg hk
  have hl:eJ (w.cps.toList++k) b (some (.name (lm ((w.cps.toList++k).takeWhile dz)),(w.cps.toList++k).dropWhile dz,b)):= .name (by rw[e];exact hg.1) (by rw[nM e];exact Jd hk)
  rw[e,nM e,wD]at hl
  exact .inl ⟨_,_,_,hl,h⟩
 |h3 w=>
  intro k b res hg hk h
  have e:=CK hg hk
  have hl:eJ (63::(w.cps.toList++k)) b (some (.blank (lm ((w.cps.toList++k).takeWhile dz)),(w.cps.toList++k).dropWhile dz,b)):= .blank rfl (by rw[e];exact hg.1)
  rw[e,nM e,wD]at hl
  exact .inl ⟨_,_,_,hl,h⟩
 |h4 w ps ih=>
  intro k b res hg hk h
  simp only[Tm.Gd]at hg
  obtain⟨hw,hne,hgl⟩:=hg
  have parts:∀(qs:List Tm)(p:Tm)(d:List Tm),(∀q∈qs,q∈ps)->fI (.thing w (d++p::qs)) k b res->fI p (fE qs++41::k) ((w,d)::b) res:=by
   intro qs
   induction qs with
   |nil=>intro p d _ hw';exact .close hw'
   |cons q qs ih2=>
    intro p d hm hw'
    have hq:fI q (fE qs++41::k) ((w,d++[p])::b) res:=ih2 q (d++[p]) (fun x hx=>hm x (by simp[hx])) (by simpa using hw')
    have hc:=ih q (hm q (by simp)) _ _ _ (wE hgl (hm q (by simp))) (CO qs k) hq
    have e:fE (q::qs)++41::k=44::(q.line++(fE qs++41::k)):=by simp[fE]
    rw[e]
    rcases hc with⟨t',k',b',h1,h2⟩|⟨h1,rfl⟩
    ·exact .comma h1 h2
    ·exact .nocomma h1
  cases ps with
  |nil=>exact absurd rfl hne
  |cons p qs=>
   have hp:=parts qs p [] (fun q hq=>by simp[hq]) h
   have hc:=ih p (by simp) _ _ _ (wE hgl (by simp)) (CO qs k) hp
   have el:(Tm.thing w (p::qs)).line++k=w.cps.toList++40::(p.line++(fE qs++41::k)):=by simp[Tm.line,nF]
   have e:(w.cps.toList++40::(p.line++(fE qs++41::k))).takeWhile dz=w.cps.toList:=Bk hw.2 (.inr ⟨40,_,rfl,by decide⟩)
   have more:∀r,eJ (p.line++(fE qs++41::k)) ((w,[])::b) r->eJ ((Tm.thing w (p::qs)).line++k) b r:=fun r hr=>by
        rw[el]
        exact .more (by rw[e];exact hw.1) (nM e) (by rw[e,wD];exact hr)
   rcases hc with⟨t',k',b',h1,h2⟩|⟨h1,rfl⟩
   ·exact .inl ⟨_,_,_,more _ h1,h2⟩
   ·exact .inr ⟨more _ h1,rfl⟩
theorem CP{t:Tm}(h:t.Gd):p9 t.line (some t):=by
 have hc:=Jf t [] [] (some t) h (.inl rfl) .fin
 rw[jB]at hc
 rcases hc with⟨t',k',b',h1,h2⟩|⟨_,e⟩
 ·exact .yes h1 h2
 ·cases e
theorem nN{k:List Nat}{b:Bg}{r1:Option (Tm×List Nat×Bg)}(h:eJ k b r1):∀r2,eJ k b r2->r1=r2:=by
 induction h with
 |more h1 h2 _ ih=>
  rename_i h3
  intro r2 g
  cases g with
  |more g1 g2 g3=>rw[h2]at g2;cases g2;exact ih _ g3
  |name g1 g2=>rw[h2]at g2;exact absurd rfl g2
  |blank g1 g2=>subst g1;exact absurd rfl h1
  |noblank g1 g2=>subst g1;exact absurd rfl h1
  |num g1 g2 g3=>exact absurd g1 h1
  |nonum g1 g2 g3=>exact absurd g1 h1
 |name h1 h2=>
  intro r2 g
  cases g with
  |more g1 g2 g3=>rw[g2]at h2;exact absurd rfl h2
  |name g1 g2=>rfl
  |blank g1 g2=>subst g1;exact absurd rfl h1
  |noblank g1 g2=>subst g1;exact absurd rfl h1
  |num g1 g2 g3=>exact absurd g1 h1
  |nonum g1 g2 g3=>exact absurd g1 h1
 |blank h1 h2=>
  subst h1
  intro r2 g
  cases g with
  |more g1 g2 g3=>exact absurd rfl g1
  |name g1 g2=>exact absurd rfl g1
  |blank g1 g2=>cases g1;rfl
  |noblank g1 g2=>cases g1;exact absurd g2 h2
  |num g1 g2 g3=>exact absurd rfl g2
  |nonum g1 g2 g3=>exact absurd rfl g2
 |noblank h1 h2=>
  subst h1
  intro r2 g
  cases g with
  |more g1 g2 g3=>exact absurd rfl g1
  |name g1 g2=>exact absurd rfl g1
  |blank g1 g2=>cases g1;exact absurd h2 g2
  |noblank g1 g2=>rfl
  |num g1 g2 g3=>exact absurd rfl g2
  |nonum g1 g2 g3=>exact absurd rfl g2
 |num h1 h2 h3=>
  intro r2 g
  cases g with
  |more g1 g2 g3=>exact absurd h1 g1
  |name g1 g2=>exact absurd h1 g1
  |blank g1 g2=>subst g1;exact absurd rfl h2
  |noblank g1 g2=>subst g1;exact absurd rfl h2
  |num g1 g2 g3=>rw[h3]at g3;cases g3;rfl
  |nonum g1 g2 g3=>rw[h3]at g3;cases g3
 |nonum h1 h2 h3=>
  intro r2 g
  cases g with
  |more g1 g2 g3=>exact absurd h1 g1
  |name g1 g2=>exact absurd h1 g1
  |blank g1 g2=>subst g1;exact absurd rfl h2
  |noblank g1 g2=>subst g1;exact absurd rfl h2
  |num g1 g2 g3=>rw[h3]at g3;cases g3
  |nonum g1 g2 g3=>rfl
theorem Jg{t:Tm}{k:List Nat}{b:Bg}{r1:Option Tm}(h:fI t k b r1):∀r2,fI t k b r2->r1=r2:=by
 induction h with
 |fin=>intro r2 g;cases g;rfl
 |behind=>intro r2 g;cases g;rfl
 |comma h1 _ ih=>
  intro r2 g
  cases g with
  |comma g1 g2=>have:=nN h1 _ g1;cases this;exact ih _ g2
  |nocomma g1=>have:=nN h1 _ g1;cases this
  |neither g1 g2=>exact absurd rfl g1
 |nocomma h1=>
  intro r2 g
  cases g with
  |comma g1 g2=>have:=nN h1 _ g1;cases this
  |nocomma g1=>rfl
  |neither g1 g2=>rfl
 |close _ ih=>
  intro r2 g
  cases g with
  |close g1=>exact ih _ g1
  |neither g1 g2=>exact absurd rfl g2
 |neither h1 h2=>
  intro r2 g
  cases g with
  |comma g1 g2=>exact absurd rfl h1
  |nocomma g1=>rfl
  |close g1=>exact absurd rfl h2
  |neither g1 g2=>rfl
theorem Jh{l:List Nat}{r1 r2:Option Tm}(h:p9 l r1)(g:p9 l r2):r1=r2:=by
 cases h with
 |yes h1 h2=>
  cases g with
  |yes g1 g2=>have:=nN h1 _ g1;cases this;exact Jg h2 _ g2
  |no g1=>have:=nN h1 _ g1;cases this
 |no h1=>
  cases g with
  |yes g1 g2=>have:=nN h1 _ g1;cases this
  |no g1=>rfl
open Classical
theorem Tm.Ok.gd{t:Tm}:t.Ok->t.Gd:=by
 refine Tm.ind (P:=fun t=>t.Ok->t.Gd) (fun _ _=>trivial) (fun x h=>?_) (fun x h=>?_) (fun x ps ih h=>?_) t
 ·simp only[Tm.Ok]at h;simp only[Tm.Gd];exact⟨fun z=>by have:=h.1;rw[z]at this;simp at this,fun c hc=>by have:=h.2.2 c hc;simp[dz,rg,this]⟩
 ·simp only[Tm.Ok]at h;simp only[Tm.Gd];exact⟨fun z=>by have:=h.1;rw[z]at this;simp at this,fun c hc=>by have:=h.2.2 c hc;simp[dz,rg,this]⟩
 ·simp only[Tm.Ok]at h
  simp only[Tm.Gd]
  refine⟨⟨fun z=>by have:=h.1.1;rw[z]at this;simp at this,fun c hc=>by have:=h.1.2.2 c hc;simp[dz,rg,this]⟩,h.2.1,?_⟩
  have h2:=h.2.2
  clear h
  induction ps with
  |nil=>trivial
  |cons p r ih2=>
   simp only[dY]at h2
   simp only[sR]
   exact⟨ih p (by simp) h2.1,ih2 (fun q hq=>ih q (by simp[hq])) h2.2⟩
theorem Ji{t u:Tm}(ht:t.Ok)(hu:u.Ok)(h:t.line=u.line):t=u:=by
 have h1:=CP ht.gd
 have h2:=CP hu.gd
 rw[h]at h1
 exact cv (Jh h1 h2)
abbrev On:=Tm->Option Nat
noncomputable def mw(on:On)(t:Tm)(n:Nat):On:=fun s=>if s=t then some n else on s
abbrev Lf:=Ln×RI
structure gW(g:Ln)(U:List Tm)(fs:List Lf)(on:On):Prop where
 snd:fh g [] fs
 inU:∀x∈fs,x.1.1∈U/\x.1.2∈U
 key:∀t n,on t=some n->∃x,fs[n]?=some x/\x.1.1=t
def bd(fs:List Lf)(on:On):Nx:=fun t=>(on t).bind fun n=>(fs[n]?).map fun x=>x.1.2
theorem nO{fs gs:List Lf}{n:Nat}{x:Lf}(h:fs[n]?=some x):(fs++gs)[n]?=some x:=by
 have:=(bI.mp h).1
 rw[kh this];exact h
theorem gW.add{g:Ln}{U:List Tm}{fs:List Lf}{on:On}{p:Ln}{r:RI}(h:gW g U fs on)(hl:lg (fs.map (·.1)) g r p)(h1:p.1∈U)(h2:p.2∈U):gW g U (fs++[(p,r)]) on/\bd (fs++[(p,r)]) on=bd fs on:=by
 refine⟨⟨(IU g fs (p,r) []).mpr ⟨h.snd,by simpa using hl⟩,fun x hx=>?_,fun t n e=>?_⟩,?_⟩
 ·rcases br.mp hx with z|z
  ·exact h.inU x z
  ·cases bx.mp z;exact⟨h1,h2⟩
 ·obtain⟨x,e1,e2⟩:=h.key t n e
  exact⟨x,nO e1,e2⟩
 ·funext t
  unfold bd
  cases e:on t with
  |none=>rfl
  |some n=>
   obtain⟨x,e1,e2⟩:=h.key t n e
   simp only[zB,e1,nO e1]
theorem gW.lead{g:Ln}{U:List Tm}{fs:List Lf}{on:On}{n:Nat}{x:Lf}(h:gW g U fs on)(hn:fs[n]?=some x):gW g U fs (mw on x.1.1 n)/\bd fs (mw on x.1.1 n)=put (bd fs on) x.1.1 x.1.2:=by
 refine⟨⟨h.snd,h.inU,fun t m e=>?_⟩,?_⟩
 ·unfold mw at e
  split at e
  ·rename_i c
   cases e
   exact⟨x,hn,c.symm⟩
  ·exact h.key t m e
 ·funext t
  unfold bd mw put
  by_cases c:t=x.1.1
  ·rw[if_pos c,if_pos c];simp[hn]
  ·rw[if_neg c,if_neg c]
theorem wF{g:Ln}{fs:List Lf}{n:Nat}{x:Lf}(hn:fs[n]?=some x):lg (fs.map (·.1)) g (.turn (n:Nat)) (x.1.2,x.1.1):=by
 have hl:=(bI.mp hn).1
 refine⟨.turn n,?_,x.1,?_,rfl⟩
 ·simp only[RI.val,zLM]
  rw[if_pos ⟨by omega,by omega⟩]
  simp
 ·rw[cW,hn];rfl
theorem sT{g:Ln}{fs:List Lf}{n m:Nat}{x y:Lf}(hn:fs[n]?=some x)(hm:fs[m]?=some y)(e:x.1.2=y.1.1):lg (fs.map (·.1)) g (.chain (n:Nat) (m:Nat)) (x.1.1,y.1.2):=by
 have hl:=(bI.mp hn).1
 have hl2:=(bI.mp hm).1
 refine⟨.chain n m,?_,x.1.1,x.1.2,y.1.2,?_,?_,rfl⟩
 ·simp only[RI.val,zLM]
  rw[if_pos ⟨⟨by omega,by omega⟩,by omega,by omega⟩]
  simp
 ·rw[cW,hn];rfl
 ·rw[cW,hm,e];rfl
theorem Jj{g:Ln}{fs:List Lf}{n k:Nat}{w:aa}{ps qs:List Tm}{r:RI}{a b:Tm}(hn:fs[n]?=some ((.thing w ps,.thing w qs),r))(hl:ps.length=qs.length)(ha:ps[k]?=some a)(hb:qs[k]?=some b):lg (fs.map (·.1)) g (.part (n:Nat) (k:Nat)) (a,b):=by
 have hl':=(bI.mp hn).1
 refine⟨.part n k,?_,w,ps,qs,a,b,?_,hl,ha,hb,rfl⟩
 ·simp only[RI.val,zLM]
  rw[if_pos ⟨⟨by omega,by omega⟩,by omega⟩]
  simp
 ·rw[cW,hn];rfl
structure fi(g:Ln)(nx nx':Nx):Prop where
 non:∀s,nx' s=none↔nx s=none
 rch:∀s j f,aX nx j s f->∃i,aX nx' i s f
 inv:∀pd,dw g nx pd->dw g nx' pd
theorem fi.refl{g:Ln}{nx:Nx}:fi g nx nx:=⟨fun _=>Iff.rfl,fun _ j _ h=>⟨j,h⟩,fun _ h=>h⟩
theorem fi.trans{g:Ln}{a b c:Nx}(h:fi g a b)(k:fi g b c):fi g a c:=
 ⟨fun s=>(k.non s).trans (h.non s),fun s j f r=>let ⟨i,r'⟩:=h.rch s j f r;k.rch s i f r',fun pd u=>k.inv pd (h.inv pd u)⟩
theorem fi.short{g:Ln}{nx:Nx}{t e:Tm}{k:Nat}(r:aX nx (k+1) t e):fi g nx (put nx t e):=by
 refine⟨fun s=>?_,fun s j f h=>?_,fun pd u=>u.short r⟩
 ·by_cases c:s=t
  ·subst c
   rw[lh]
   cases r with
   |step hs _=>rw[hs];simp
  ·rw[gT c]
 ·obtain⟨i,_,h'⟩:=r.short h
  exact⟨i,h'⟩
theorem fi.pos{g:Ln}{nx nx':Nx}(h:fi g nx nx'){k:Nat}{t e:Tm}(r:aX nx (k+1) t e):∃i,aX nx' (i+1) t e:=by
 obtain⟨i,r'⟩:=h.rch _ _ _ r
 cases i with
 |zero=>
  cases r with
  |step hs _=>
   cases r' with
   |root hn=>rw[(h.non _).mp hn]at hs;cases hs
 |succ i=>exact⟨i,r'⟩
theorem aX.mono_app{g:Ln}{U:List Tm}{fs:List Lf}{on:On}(h:gW g U fs on){t u:Tm}(hn:bd fs on t=some u):∃n x,on t=some n/\fs[n]?=some x/\x.1=(t,u):=by
 unfold bd at hn
 cases e:on t with
 |none=>rw[e]at hn;cases hn
 |some n=>
  obtain⟨x,e1,e2⟩:=h.key t n e
  rw[e]at hn
  simp only[zB,e1,nj,lG]at hn
  exact⟨n,x,rfl,e1,Prod.ext e2 hn⟩
theorem CQ{fs:List Lf}{on:On}{g:Ln}{U:List Tm}(h:gW g U fs on){t:Tm}:bd fs on t=none↔on t=none:=by
 unfold bd
 cases e:on t with
 |none=>simp
 |some n=>
  obtain⟨x,e1,e2⟩:=h.key t n e
  simp[e1]
theorem wG{fs:List Lf}{on:On}{g:Ln}{U:List Tm}(h:gW g U fs on){t u:Tm}(e:bd fs on t=some u):t∈U/\u∈U:=by
 obtain⟨n,x,_,e1,e2⟩:=aX.mono_app h e
 have:=h.inU x (zMG e1)
 rw[e2]at this
 exact this
theorem CS{fs:List Lf}{on:On}{g:Ln}{U:List Tm}(h:gW g U fs on){k:Nat}{t e:Tm}(r:aX (bd fs on) k t e)(ht:t∈U):e∈U:=by
 induction r with
 |root _=>exact ht
 |step hs _ ih=>exact ih (wG h hs).2
theorem Jk{fs:List Lf}{on:On}{g:Ln}{U:List Tm}(h:gW g U fs on){k:Nat}{t e:Tm}(r:aX (bd fs on) k t e):k<=U.length:=r.len fun _ _ e=>(wG h e).1
inductive jp(fs:List Lf)(on:On)(t:Tm):List Nat->Tm->Prop
 |nil:jp fs on t [] t
 |snoc {ns:List Nat} {c:Tm} {n:Nat} {x:Lf}:jp fs on t ns c->on c=some n->fs[n]?=some x->x.1.1=c->jp fs on t (ns++[n]) x.1.2
theorem jp.unsnoc{fs:List Lf}{on:On}{t d:Tm}{ms:List Nat}(h:jp fs on t ms d):∀{ns:List Nat}{n:Nat},ms=ns++[n]->∃c x,jp fs on t ns c/\on c=some n/\fs[n]?=some x/\x.1=(c,d):=by
 cases h with
 |nil=>intro ns n e;simp at e
 |snoc h1 h2 h3 h4=>
  intro ns n e
  obtain⟨e1,e2⟩:=List.append_inj' e rfl
  cases e2
  subst e1
  exact⟨_,_,h1,h2,h3,Prod.ext h4 rfl⟩
theorem jp.rch{fs:List Lf}{on:On}{t c e:Tm}{ns:List Nat}(h:jp fs on t ns c){k:Nat}(r:aX (bd fs on) k t e):∃j,aX (bd fs on) j c e/\k=ns.length+j:=by
 induction h with
 |nil=>exact⟨k,r,by simp⟩
 |@snoc ns c n x h1 h2 h3 h4 ih=>
  obtain⟨j,r',e'⟩:=ih
  have hn:bd fs on c=some x.1.2:=by unfold bd;rw[h2];simp[h3]
  cases r' with
  |root z=>rw[z]at hn;cases hn
  |step z r''=>
   rw[hn]at z
   cases z
   exact⟨_,r'',by rw[zLA];simp;omega⟩
def ar:Tm->Nat
 |.thing _ ps=>ps.length
 |_=>0
noncomputable def iR(U:List Tm)(nx:Nx):Nat:=(U.map fun t=>if nx t=none then ar t else 0).sum
theorem sU{g:Ln}{U:List Tm}{nx nx':Nx}(h:fi g nx nx'):iR U nx'=iR U nx:=by
 unfold iR
 congr 1
 refine lE fun t _=>?_
 by_cases c:nx t=none
 ·rw[if_pos c,if_pos ((h.non t).mpr c)]
 ·rw[if_neg c,if_neg (fun z=>c ((h.non t).mp z))]
theorem wH{U:List Tm}{nx:Nx}{c d:Tm}(hc:nx c=none)(hU:c∈U):iR U (put nx c d)+ar c<=iR U nx:=by
 have le:∀l:List Tm,(l.map fun t=>if put nx c d t=none then ar t else 0).sum<=(l.map fun t=>if nx t=none then ar t else 0).sum:=fun l=>by
  induction l with
  |nil=>simp
  |cons a r ih=>
   simp only[bM,jD]
   have:(if put nx c d a=none then ar a else 0)<=if nx a=none then ar a else 0:=by
        by_cases z:a=c
        ·subst z;rw[lh];simp
        ·rw[gT z];exact aE _
   omega
 unfold iR
 induction U with
 |nil=>cases hU
 |cons a r ih=>
  simp only[bM,jD]
  by_cases z:a=c
  ·subst z
   have:=le r
   rw[lh,hc]
   simp only[if_true,reduceCtorEq,if_false]
   omega
  ·have:=ih (by rcases bo.mp hU with y|y;exact absurd y.symm z;exact y)
   rw[gT z]
   omega
def bH(g:Ln):List Tm:=g.1.rp++g.2.rp
theorem qc(t:Tm):t∈t.rp:=by cases t<;>simp[Tm.rp]
theorem CT{ps:List Tm}{p u:Tm}(hp:p∈ps)(hu:u∈p.rp):u∈bV ps:=by
 induction ps with
 |nil=>cases hp
 |cons a r ih=>
  simp only[bV]
  rcases bo.mp hp with z|z
  ·subst z;exact d6 _ hu
  ·exact eu _ (ih z)
theorem sV{t:Tm}:∀u∈t.rp,∀v∈u.rp,v∈t.rp:=by
 refine Tm.ind (P:=fun t=>∀u∈t.rp,∀v∈u.rp,v∈t.rp) (fun n u hu v hv=>?_) (fun n u hu v hv=>?_) (fun n u hu v hv=>?_) (fun x ps ih u hu v hv=>?_) t
 ·simp only[Tm.rp,bx]at hu;subst hu;exact hv
 ·simp only[Tm.rp,bx]at hu;subst hu;exact hv
 ·simp only[Tm.rp,bx]at hu;subst hu;exact hv
 ·simp only[Tm.rp]at hu |-
  rcases bo.mp hu with z|z
  ·subst z;simpa only[Tm.rp]using hv
  ·refine dC _ ?_
   have:∃p∈ps,u∈p.rp:=by
        clear ih hu hv
        induction ps with
        |nil=>simp[bV]at z
        |cons a r ih2=>
         simp only[bV]at z
         rcases br.mp z with y|y
         ·obtain⟨p,hp,hu⟩:=ih2 y
          exact⟨p,by simp[hp],hu⟩
         ·exact⟨a,by simp,y⟩
   obtain⟨p,hp,hu'⟩:=this
   exact CT hp (ih p hp u hu' v hv)
theorem sW{t:Tm}:t.Ok->∀u∈t.rp,u.Ok:=by
 refine Tm.ind (P:=fun t=>t.Ok->∀u∈t.rp,u.Ok) (fun n h u hu=>?_) (fun n h u hu=>?_) (fun n h u hu=>?_) (fun x ps ih h u hu=>?_) t
 ·simp only[Tm.rp,bx]at hu;subst hu;exact h
 ·simp only[Tm.rp,bx]at hu;subst hu;exact h
 ·simp only[Tm.rp,bx]at hu;subst hu;exact h
 ·simp only[Tm.rp]at hu
  rcases bo.mp hu with z|z
  ·subst z;exact h
  ·simp only[Tm.Ok]at h
   have h2:=h.2.2
   clear hu h
   induction ps with
   |nil=>simp[bV]at z
   |cons a r ih2=>
    simp only[bV]at z
    simp only[dY]at h2
    rcases br.mp z with y|y
    ·exact ih2 (fun p hp=>ih p (by simp[hp])) y h2.2
    ·exact ih a (by simp) h2.1 u y
theorem wI{g:Ln}{w:aa}{ps:List Tm}{p:Tm}(h:Tm.thing w ps∈bH g)(hp:p∈ps):p∈bH g:=by
 have hin:p∈(Tm.thing w ps).rp:=by
  simp only[Tm.rp]
  exact dC _ (CT hp (qc p))
 unfold bH at h |-
 rcases br.mp h with z|z
 ·exact eu _ (sV _ z _ hin)
 ·exact d6 _ (sV _ z _ hin)
theorem tf(t:Tm):(t.rp.map ar).sum+1=t.nodes:=by
 refine Tm.ind (P:=fun t=>(t.rp.map ar).sum+1=t.nodes) (fun _=>rfl) (fun _=>rfl) (fun _=>rfl) (fun x ps ih=>?_) t
 simp only[Tm.rp,bM,jD,ar,Tm.nodes]
 have:((bV ps).map ar).sum+ps.length=aJ ps:=by
  induction ps with
  |nil=>simp[bV,aJ]
  |cons a r ih2=>
   have h1:=ih a (by simp)
   have h2:=ih2 fun p hp=>ih p (by simp[hp])
   simp only[bV,zMA,m3,aJ,zLC]
   omega
 omega
theorem Jl(g:Ln):iR (bH g) (fun _=>none)+2=g.1.nodes+g.2.nodes:=by
 unfold iR bH
 simp only[if_true,zMA,m3]
 have h1:=tf g.1
 have h2:=tf g.2
 have e1:(g.1.rp.map fun t=>ar t)=g.1.rp.map ar:=rfl
 have e2:(g.2.rp.map fun t=>ar t)=g.2.rp.map ar:=rfl
 rw[e1,e2]
 omega
end BF
namespace BF
open PySem PySem.Spec PyProof.Rows L2
def eK(L O:Addr)(cl:V):List (aa×V):=[("lines",.ref L),("onward",.ref O),("clash",cl)]
theorem fj{L O:Addr}{cl:V}:(eK L O cl).lookup ("lines":aa)=some (V.ref L):=by
 unfold eK
 rw[eM]
 rw[show (("lines":aa)==("lines":aa))=true by decide +kernel]
theorem CU{L O:Addr}{cl:V}:(eK L O cl).lookup ("onward":aa)=some (V.ref O):=by
 unfold eK
 rw[eM,show (("onward":aa)==("lines":aa))=false by decide +kernel]
 rw[eM,show (("onward":aa)==("onward":aa))=true by decide +kernel]
theorem tj{L O:Addr}{cl:V}:(eK L O cl).lookup ("clash":aa)=some cl:=by
 unfold eK
 rw[eM,show (("clash":aa)==("lines":aa))=false by decide +kernel]
 rw[eM,show (("clash":aa)==("onward":aa))=false by decide +kernel]
 rw[eM,show (("clash":aa)==("clash":aa))=true by decide +kernel]
theorem dH{L O:Addr}{cl:V}{m:aa}(h1:(m=="lines")=false)(h2:(m=="onward")=false)(h3:(m=="clash")=false):(eK L O cl).lookup m=none:=by
 unfold eK
 rw[eM,h1,eM,h2,eM,h3,List.lookup_nil]
theorem Jm{L O:Addr}{cl cl':V}:L2.bZ "clash" cl' (eK L O cl)=eK L O cl':=by
 unfold eK
 simp only[L2.bZ]
 rw[if_neg (by decide +kernel),if_neg (by decide +kernel),if_pos True.intro]
theorem Jn(L O:Addr):L2.bZ "clash" .non (L2.bZ "onward" (.ref O) (L2.bZ "lines" (.ref L) []))=eK L O .non:=by
 unfold eK
 simp only[L2.bZ]
 rw[if_neg (by decide +kernel)]
 simp only[L2.bZ]
 rw[if_neg (by decide +kernel),if_neg (by decide +kernel)]
def cN:Option Nat->V
 |none=>.non
 |some n=>.int (n:Nat)
def tq(U:List Tm)(kvs:List (Key×V))(on:On):Prop:=∀t∈U,∀x:aa,x.cps.toList=t.line->ck kvs (Sum.inr x)=(on t).map fun n=>V.int (n:Nat)
structure RK(C p dx L O:Addr)(g:Ln)(U:List Tm)(H:Hp)(fs:List Lf)(on:On)(cl:V)(N:Nat):Prop where
 self:H p=some (.ins C dx (eK L O cl))
 ls:∃ls,H L=some (.lst ls)/\eG H ls fs
 dic:∃kvs,H O=some (.dK kvs)/\tq U kvs on/\kvs.length<=N
 len:fs.length<=N
 st:gW g U fs on
 ok:∀t∈U,t.Ok/\t.nodes<=90
def cE(p L O:Addr)(H H':Hp):Prop:=∀b o,H b=some o->b≠p->b≠L->b≠O->H' b=some o
theorem cE.trans{p L O:Addr}{H H1 H2:Hp}(a:cE p L O H H1)(b:cE p L O H1 H2):cE p L O H H2:=fun c o h h1 h2 h3=>b c o (a c o h h1 h2 h3) h1 h2 h3
theorem cE.of{p L O:Addr}{H H':Hp}(s:av H H'):cE p L O H H':=fun b o h _ _ _=>s b o h
theorem RK.ts{C p dx L O:Addr}{g:Ln}{U:List Tm}{H H':Hp}{fs:List Lf}{on:On}{cl:V}{N:Nat}(h:RK C p dx L O g U H fs on cl N)(f:cE p L O H H'):aR H H':=fun b xs e=>by
 obtain⟨ls,h1,_⟩:=h.ls
 obtain⟨kvs,h2,_⟩:=h.dic
 exact f b _ e (ce e h.self (by intro z;cases z)) (ce e h1 (by intro z;cases z)) (ce e h2 (by intro z;cases z))
theorem RK.lst{C p dx L O:Addr}{g:Ln}{U:List Tm}{H H':Hp}{fs:List Lf}{on:On}{cl:V}{N:Nat}(h:RK C p dx L O g U H fs on cl N)(f:cE p L O H H'){b:Addr}{xs:List V}(e:H b=some (.lst xs))(hb:b≠L):H' b=some (.lst xs):=by
 obtain⟨kvs,h2,_⟩:=h.dic
 exact f b _ e (ce e h.self (by intro z;cases z)) hb (ce e h2 (by intro z;cases z))
theorem RK.dct{C p dx L O:Addr}{g:Ln}{U:List Tm}{H H':Hp}{fs:List Lf}{on:On}{cl:V}{N:Nat}(h:RK C p dx L O g U H fs on cl N)(f:cE p L O H H'){b:Addr}{xs:List (Key×V)}(e:H b=some (.dK xs))(hb:b≠O):H' b=some (.dK xs):=by
 obtain⟨ls,h2,_⟩:=h.ls
 exact f b _ e (ce e h.self (by intro z;cases z)) (ce e h2 (by intro z;cases z)) hb
theorem RK.same{C p dx L O:Addr}{g:Ln}{U:List Tm}{H H':Hp}{fs:List Lf}{on:On}{cl:V}{N:Nat}(h:RK C p dx L O g U H fs on cl N)(s:av H H'):RK C p dx L O g U H' fs on cl N where
 self:=s _ _ h.self
 ls:=let ⟨ls,h1,h2⟩:=h.ls;⟨ls,s _ _ h1,h2.mono (.of s)⟩
 dic:=let ⟨k,h1,h2⟩:=h.dic;⟨k,s _ _ h1,h2⟩
 len:=h.len
 st:=h.st
 ok:=h.ok
theorem RK.more{C p dx L O:Addr}{g:Ln}{U:List Tm}{H:Hp}{fs:List Lf}{on:On}{cl:V}{N M:Nat}(h:RK C p dx L O g U H fs on cl N)(hm:N<=M):RK C p dx L O g U H fs on cl M where
 self:=h.self
 ls:=h.ls
 dic:=let ⟨k,h1,h2,h3⟩:=h.dic;⟨k,h1,h2,cO h3 hm⟩
 len:=cO h.len hm
 st:=h.st
 ok:=h.ok
theorem RK.ne{C p dx L O:Addr}{g:Ln}{U:List Tm}{H:Hp}{fs:List Lf}{on:On}{cl:V}{N:Nat}(h:RK C p dx L O g U H fs on cl N):p≠L/\p≠O/\L≠O:=by
 obtain⟨ls,h1,_⟩:=h.ls
 obtain⟨kvs,h2,_⟩:=h.dic
 exact⟨ce h.self h1 (by intro z;cases z),ce h.self h2 (by intro z;cases z),ce h1 h2 (by intro z;cases z)⟩
theorem iS{H:Hp}{ls:List V}{fs:List Lf}(h:eG H ls fs){n:Nat}{x:Lf}(hx:fs[n]?=some x):∃a u v r,dU ls ((n:Nat):Int)=some (.ref a)/\H a=some (.tup [u,v,.ref r])/\H r=some (.tup (wx x.2))/\ay H u x.1.1/\ay H v x.1.2:=by
 have hl:ls.length=fs.length:=Paired.length h
 have hn:=(bI.mp hx).1
 obtain⟨p,hp,a,u,v,r,e,h1,h2,h3,h4⟩:=sO h n ls[n] (zGE (by omega))
 rw[hx]at hp
 cases hp
 exact⟨a,u,v,r,by rw[eO (zGE (by omega)),e],h1,h2,h3,h4⟩
abbrev iz(fs:List Lf)(ns:List Nat)(pd:List Ln):Prop:=Paired (fun n p=>∃x,fs[n]?=some x/\x.1=p) ns pd
theorem iz.app{fs gs:List Lf}{ns:List Nat}{pd:List Ln}(h:iz fs ns pd):iz (fs++gs) ns pd:=ml (fun _ _ ⟨x,e1,e2⟩=>⟨x,nO e1,e2⟩) h
def bN(ns:List Nat):List V:=ns.map fun n=>V.int (n:Nat)
theorem tq.put{U:List Tm}{kvs:List (Key×V)}{on:On}{t:Tm}{n:Nat}{x:aa}(h:tq U kvs on)(ok:∀t∈U,t.Ok/\t.nodes<=90)(ht:t∈U)(hx:x.cps.toList=t.line):tq U (bS kvs (Sum.inr x) (.int (n:Nat))) (mw on t n):=fun u hu y hy=>by
 rw[se]
 unfold mw
 by_cases c:u=t
 ·subst c
  have:y=x:=by cases y with|mk a=>cases x with|mk b=>simp only[aa.mk.injEq];exact vf (hy.trans hx.symm)
  subst this
  rw[if_pos rfl,if_pos rfl]
  rfl
 ·rw[if_neg c,if_neg (fun z=>c (Ji (ok u hu).1 (ok t ht).1 (by rw[<-hy,<-hx,lH z])))]
  exact h u hu y hy
theorem RK.put{C p dx L O:Addr}{g:Ln}{U:List Tm}{H:Hp}{fs:List Lf}{on:On}{cl:V}{N:Nat}(h:RK C p dx L O g U H fs on cl N){b:Addr}{xs ys:List V}(e:H b=some (.lst xs))(hb:b≠L):RK C p dx L O g U (ad H b (.lst ys)) fs on cl N where
 self:=by rw[am (ce h.self e (by intro z;cases z))];exact h.self
 ls:=let ⟨ls,h1,h2⟩:=h.ls;⟨ls,by rw[am hb.symm];exact h1,h2.mono (.lst e)⟩
 dic:=let ⟨k,h1,h2⟩:=h.dic;⟨k,by rw[am (ce h1 e (by intro z;cases z))];exact h1,h2⟩
 len:=h.len
 st:=h.st
 ok:=h.ok
theorem RK.free{C p dx L O:Addr}{g':Ln}{U':List Tm}{H H':Hp}{fs':List Lf}{on':On}{cl':V}{N':Nat}(h':RK C p dx L O g' U' H' fs' on' cl' N')(f:cE p L O H H'){b:Addr}(hb:H' b=none):H b=none:=by
 obtain⟨ls,h1,_⟩:=h'.ls
 obtain⟨kvs,h2,_⟩:=h'.dic
 cases e:H b with
 |none=>rfl
 |some o=>
  have:=f b o e (fun z=>by rw[z,h'.self]at hb;cases hb) (fun z=>by rw[z,h1]at hb;cases hb) (fun z=>by rw[z,h2]at hb;cases hb)
  rw[this]at hb
  cases hb
theorem Jo{α β:Type}{F:α->β->Prop}{l:List α}{m:List β}(h:Paired F l m):Paired F l.reverse m.reverse:=by
 induction h with
 |nil=>exact .nil
 |cons a _ ih=>rw[gz,gz];exact ld ih a
theorem Jp{α β:Type}{F:α->β->Prop}{us vs:List α}{ps qs:List β}(h:Paired F us ps)(h':Paired F vs qs):Paired F (us++vs) (ps++qs):=by
 induction h with
 |nil=>exact h'
 |cons a _ ih=>exact .cons a ih
theorem CV{α β:Type}{F:α->β->Prop}:∀{us:List α}{u:α}{ds:List β}{d:β},Paired F (us++[u]) (ds++[d])->Paired F us ds/\F u d
 |[],_,[],_,.cons h .nil=>⟨.nil,h⟩
 |[],_,_::[],_,.cons _ r=>nomatch r
 |[],_,_::_::_,_,.cons _ r=>nomatch r
 |_::[],_,[],_,.cons _ r=>nomatch r
 |_::_::_,_,[],_,.cons _ r=>nomatch r
 |_::_,_,_::_,_,.cons h r=>let ⟨a,b⟩:=CV r;⟨.cons h a,b⟩
theorem aC{X:Cx}{r:List Stmt}(T:TS)(h:fR X r T):fR X r T:=h
theorem aD{p:Prop}(v:TS)(k:let _T:TS:=v;p):p:=k
theorem aI{H H':Hp}{p:Addr}{o:HO}(h:H p=none)(e:ad H p o=H'):av H H'/\H' p=some o:=by
 subst e
 exact⟨bG h o,au⟩
end BF
set_option maxHeartbeats 4000000
namespace K09
open PySem L2 BF
def top(i:Nat):Stmt:=PySem.Challenge.pw_blankform_k09_whole_names_make_no_differ.main.body.getD i (.Pass ⟨0,0,0,0⟩)
abbrev nP:Stmt:=top 1
theorem tu:bD ["term","met","coming","part"] ["term"] (ax nP):=⟨rfl,rfl,rfl,by decide +kernel,rfl,by decide +kernel,by decide +kernel⟩
abbrev mx:Stmt:=top 2
theorem wJ:bD ["term","words","part"] ["term"] (ax mx):=⟨rfl,rfl,rfl,by decide +kernel,rfl,by decide +kernel,by decide +kernel⟩
abbrev nQ:Stmt:=top 3
theorem Jq:bD ["term"] ["term"] (ax nQ):=⟨rfl,rfl,rfl,by decide +kernel,rfl,by decide +kernel,by decide +kernel⟩
abbrev nR:Stmt:=top 4
theorem wK:bD ["one","other","coming","pair"] ["one","other"] (ax nR):=⟨rfl,rfl,rfl,by decide +kernel,rfl,by decide +kernel,by decide +kernel⟩
abbrev my:Stmt:=top 6
theorem tw:bD ["term","terms","made","part","parts"] ["term","terms"] (ax my):=⟨rfl,rfl,rfl,by decide +kernel,rfl,by decide +kernel,by decide +kernel⟩
abbrev nT:Stmt:=top 7
theorem CW:bD ["made","count","last"] ["made","count"] (ax nT):=⟨rfl,rfl,rfl,by decide +kernel,rfl,by decide +kernel,by decide +kernel⟩
abbrev mz:Stmt:=top 8
theorem Jr:bD ["terms"] ["terms"] (ax mz):=⟨rfl,rfl,rfl,by decide +kernel,rfl,by decide +kernel,by decide +kernel⟩
abbrev nU:Stmt:=top 10
theorem tz:bD ["term","texts","coming","piece"] ["term"] (ax nU):=⟨rfl,rfl,rfl,by decide +kernel,rfl,by decide +kernel,by decide +kernel⟩
abbrev nV:Stmt:=top 11
theorem CY:bD ["coming","parts","part"] ["coming","parts"] (ax nV):=⟨rfl,rfl,rfl,by decide +kernel,rfl,by decide +kernel,by decide +kernel⟩
abbrev nW:Stmt:=top 12
theorem Js:bD ["term"] ["term"] (ax nW):=⟨rfl,rfl,rfl,by decide +kernel,rfl,by decide +kernel,by decide +kernel⟩
abbrev nX:Stmt:=iq (top 14) 0
theorem Jt:bD ["self","one","other"] ["self","one","other"] (ax nX):=⟨rfl,rfl,rfl,by decide +kernel,rfl,by decide +kernel,by decide +kernel⟩
abbrev nY:Stmt:=iq (top 14) 1
theorem wL:bD ["self","coming","number"] ["self"] (ax nY):=⟨rfl,rfl,rfl,by decide +kernel,rfl,by decide +kernel,by decide +kernel⟩
abbrev nZ:Stmt:=iq (top 14) 2
theorem qd:bD ["self","number","line","between","one","other"] ["self","number"] (ax nZ):=⟨rfl,rfl,rfl,by decide +kernel,rfl,by decide +kernel,by decide +kernel⟩
abbrev mB:Stmt:=iq (top 14) 3
theorem Ju:bD ["self","number"] ["self","number"] (ax mB):=⟨rfl,rfl,rfl,by decide +kernel,rfl,by decide +kernel,by decide +kernel⟩
abbrev mC:Stmt:=iq (top 14) 4
theorem Jv:bD ["self","term"] ["self","term"] (ax mC):=⟨rfl,rfl,rfl,by decide +kernel,rfl,by decide +kernel,by decide +kernel⟩
abbrev n0:Stmt:=iq (top 14) 5
theorem mD:bD ["self","term","steps","number","whole","step"] ["self","term"] (ax n0):=⟨rfl,rfl,rfl,by decide +kernel,rfl,by decide +kernel,by decide +kernel⟩
abbrev n6:Stmt:=iq (top 14) 6
theorem CZ:bD ["self","term","number"] ["self","term"] (ax n6):=⟨rfl,rfl,rfl,by decide +kernel,rfl,by decide +kernel,by decide +kernel⟩
abbrev n8:Stmt:=iq (top 14) 7
theorem mE:bD ["self","number","line","ahead","behind","between"] ["self","number"] (ax n8):=⟨rfl,rfl,rfl,by decide +kernel,rfl,by decide +kernel,by decide +kernel⟩
abbrev n9:Stmt:=iq (top 14) 8
theorem qe:bD ["self","number","line","parts","place","pair"] ["self","number"] (ax n9):=⟨rfl,rfl,rfl,by decide +kernel,rfl,by decide +kernel,by decide +kernel⟩
abbrev og:Stmt:=iq (top 14) 9
theorem C0:bD ["self","number","line"] ["self","number"] (ax og):=⟨rfl,rfl,rfl,by decide +kernel,rfl,by decide +kernel,by decide +kernel⟩
abbrev oh:Stmt:=iq (top 14) 10
theorem Jw:bD ["self","number","further"] ["self","number","further"] (ax oh):=⟨rfl,rfl,rfl,by decide +kernel,rfl,by decide +kernel,by decide +kernel⟩
abbrev oj:Stmt:=iq (top 14) 11
theorem Jx:bD ["self","one","other","reason"] ["self","one","other","reason"] (ax oj):=⟨rfl,rfl,rfl,by decide +kernel,rfl,by decide +kernel,by decide +kernel⟩
abbrev mF:Stmt:=top 16
theorem ol:bD ["one","other","reckoning","numbers","ends","terms","filling"] ["one","other"] (ax mF):=⟨rfl,rfl,rfl,by decide +kernel,rfl,by decide +kernel,by decide +kernel⟩
abbrev mG:Stmt:=top 17
theorem tD:bD ["reckoning","words","numbers","word","number"] ["reckoning","words"] (ax mG):=⟨rfl,rfl,rfl,by decide +kernel,rfl,by decide +kernel,by decide +kernel⟩
abbrev mH:Stmt:=top 18
theorem tE:bD ["lines","numbers","ends","word","number"] ["lines","numbers"] (ax mH):=⟨rfl,rfl,rfl,by decide +kernel,rfl,by decide +kernel,by decide +kernel⟩
abbrev mI:Stmt:=top 19
theorem qf:bD ["ends","terms","ready","word"] ["ends"] (ax mI):=⟨rfl,rfl,rfl,by decide +kernel,rfl,by decide +kernel,by decide +kernel⟩
abbrev mJ:Stmt:=top 20
theorem Jy:bD ["ends","terms"] ["ends","terms"] (ax mJ):=⟨rfl,rfl,rfl,by decide +kernel,rfl,by decide +kernel,by decide +kernel⟩
abbrev mK:Stmt:=top 21
theorem Jz:bD ["ends","terms","word"] ["ends","terms","word"] (ax mK):=⟨rfl,rfl,rfl,by decide +kernel,rfl,by decide +kernel,by decide +kernel⟩
abbrev mL:Stmt:=top 22
theorem tF:bD ["ends","terms","word","walked"] ["ends","terms"] (ax mL):=⟨rfl,rfl,rfl,by decide +kernel,rfl,by decide +kernel,by decide +kernel⟩
abbrev om:Stmt:=top 24
theorem JA:bD ["_law_found"] ["_law_found"] (ax om):=⟨rfl,rfl,rfl,by decide +kernel,rfl,by decide +kernel,by decide +kernel⟩
abbrev oo:Stmt:=top 25
theorem JB:bD ["_law_script","_law_k"] ["_law_script","_law_k"] (ax oo):=⟨rfl,rfl,rfl,by decide +kernel,rfl,by decide +kernel,by decide +kernel⟩
abbrev oq:Stmt:=top 26
theorem qg:bD ["_law_cell","_law_left","_law_word"] ["_law_cell"] (ax oq):=⟨rfl,rfl,rfl,by decide +kernel,rfl,by decide +kernel,by decide +kernel⟩
abbrev ou:Stmt:=top 27
theorem wM:bD ["_law_cell","_law_way","_law_rare"] ["_law_cell"] (ax ou):=⟨rfl,rfl,rfl,by decide +kernel,rfl,by decide +kernel,by decide +kernel⟩
abbrev ow:Stmt:=top 28
theorem JC:bD ["_law_cell"] ["_law_cell"] (ax ow):=⟨rfl,rfl,rfl,by decide +kernel,rfl,by decide +kernel,by decide +kernel⟩
abbrev ox:Stmt:=top 29
theorem JD:bD ["_law_cell","_law_count"] ["_law_cell","_law_count"] (ax ox):=⟨rfl,rfl,rfl,by decide +kernel,rfl,by decide +kernel,by decide +kernel⟩
abbrev oy:Stmt:=top 30
theorem tG:bD ["_law_k","_law_signs","_law_word"] ["_law_k"] (ax oy):=⟨rfl,rfl,rfl,by decide +kernel,rfl,by decide +kernel,by decide +kernel⟩
abbrev oz:Stmt:=top 31
theorem tH:bD ["_law_term","_law_row","_law_todo","_law_part"] ["_law_term"] (ax oz):=⟨rfl,rfl,rfl,by decide +kernel,rfl,by decide +kernel,by decide +kernel⟩
abbrev oA:Stmt:=top 32
theorem jV:bD ["_law_term","_law_pairs","_law_pile","_law_part","_law_made","_law_start","_law_pair"] ["_law_term","_law_pairs"] (ax oA):=⟨rfl,rfl,rfl,by decide +kernel,rfl,by decide +kernel,by decide +kernel⟩
abbrev oB:Stmt:=top 33
theorem wN:bD ["_law_term","_law_row","_law_part"] ["_law_term"] (ax oB):=⟨rfl,rfl,rfl,by decide +kernel,rfl,by decide +kernel,by decide +kernel⟩
abbrev oC:Stmt:=top 34
theorem fK:bD ["_law_cells","_law_many","_law_pile","_law_seen","_law_cell","_law_found","_law_k","_law_size","_law_part","_law_trio","_law_blank","_law_hide","_law_start","_law_parts"] ["_law_cells","_law_many"] (ax oC):=⟨rfl,rfl,rfl,by decide +kernel,rfl,by decide +kernel,by decide +kernel⟩
abbrev oE:Stmt:=top 35
theorem C1:bD ["_law_found","_law_sign"] ["_law_found"] (ax oE):=⟨rfl,rfl,rfl,by decide +kernel,rfl,by decide +kernel,by decide +kernel⟩
abbrev oF:Stmt:=top 36
theorem JE:bD ["_law_part"] ["_law_part"] (ax oF):=⟨rfl,rfl,rfl,by decide +kernel,rfl,by decide +kernel,by decide +kernel⟩
abbrev oG:Stmt:=top 37
theorem wO:bD ["_law_found","_law_todo","_law_part"] ["_law_found"] (ax oG):=⟨rfl,rfl,rfl,by decide +kernel,rfl,by decide +kernel,by decide +kernel⟩
abbrev oH:Stmt:=top 38
theorem tI:bD ["_law_found","_law_last","_law_pair"] ["_law_found"] (ax oH):=⟨rfl,rfl,rfl,by decide +kernel,rfl,by decide +kernel,by decide +kernel⟩
abbrev mM:Stmt:=top 39
theorem qh:bD ["_law_filling","_law_one","_law_other","_law_known","_law_gone","_law_pair","_law_word"] ["_law_filling","_law_one","_law_other"] (ax mM):=⟨rfl,rfl,rfl,by decide +kernel,rfl,by decide +kernel,by decide +kernel⟩
abbrev oJ:Stmt:=top 40
theorem jq:bD ["_law_cells","_law_last","_law_ones","_law_others","_law_k","_law_start","_law_term"] ["_law_cells","_law_last"] (ax oJ):=⟨rfl,rfl,rfl,by decide +kernel,rfl,by decide +kernel,by decide +kernel⟩
abbrev oK:Stmt:=top 41
theorem lq:bD ["_law_script","_law_cells","_law_way","_law_many","_law_two","_law_other","_law_spot","_law_changed"] ["_law_script","_law_cells"] (ax oK):=⟨rfl,rfl,rfl,by decide +kernel,rfl,by decide +kernel,by decide +kernel⟩
abbrev mN:Stmt:=top 42
theorem jW:bD ["_law_one","_law_other","_law_forth","_law_back","_law_todo","_law_two","_law_left","_law_right","_law_mate","_law_k"] ["_law_one","_law_other"] (ax mN):=⟨rfl,rfl,rfl,by decide +kernel,rfl,by decide +kernel,by decide +kernel⟩
abbrev oM:Stmt:=top 43
theorem wP:bD ["_law_term","_law_names","_law_word"] ["_law_term"] (ax oM):=⟨rfl,rfl,rfl,by decide +kernel,rfl,by decide +kernel,by decide +kernel⟩
abbrev oN:Stmt:=top 44
theorem JF:bD ["_law_script","_law_most","_law_bound"] ["_law_script","_law_most","_law_bound"] (ax oN):=⟨rfl,rfl,rfl,by decide +kernel,rfl,by decide +kernel,by decide +kernel⟩
abbrev jX:Stmt:=top 45
theorem mO:bD ["_law_script","_law_two","_law_turned","_law_found","_law_other","_law_told","_law_one"] ["_law_script"] (ax jX):=⟨rfl,rfl,rfl,by decide +kernel,rfl,by decide +kernel,by decide +kernel⟩
structure Bi(mg:aa->Option ac):Prop where
 b_len:mg "len"=none
 b_abs:mg "abs"=none
 b_isinstance:mg "isinstance"=none
 b_int:mg "int"=none
 b_bool:mg "bool"=none
 b_str:mg "str"=none
 b_tuple:mg "tuple"=none
 b_list:mg "list"=none
 b_reversed:mg "reversed"=none
 b_range:mg "range"=none
section
variable{P:aQ}{w:aH}{K:aA}{mg:aa->Option ac}{base:az}
inductive C2(vs:List V)(H:Hp)(Q:VK):Prop
 |mk:∀i:Int,(vs=[.int i])->(∀x:aa,WR (wv i) "" x->Wd x->x.cps.toList.length<=30->Q (.str x) H)->C2 vs H Q
def tJ:Sp:=fun vs H Q _=>C2 vs H Q
theorem JG{f:Addr}{fd:be}(F:bB K "_law_any_word" "_law_any_word" oq f fd)(T:Bi mg):bf P w K mg base bp 1 f fd ["_law_cell"] tJ:=by
 refine F.ok qg (fun vs H Q E h=>?_) (fun cdv A outer s H vs Q E hr h=>?_)
 ·obtain⟨i,rfl,_⟩:=h
  rfl
 obtain⟨i,rfl,q⟩:=h
 refine⟨_,(al (aB (i:=1) qg.nd rfl (Or.inl rfl) (aY dj (ca FG T.b_abs Hk (ae (pv 0) af)) (aY vE ai ai)))
  (al (aB (i:=2) qg.nd rfl (Or.inl rfl) aS)
  (al (ig cx (aU FB (pv 1) ai (aT _)) (al (aB (i:=2) qg.nd rfl (Or.inl rfl) (aY kz (ao nB aS (aY dj (pv 1) ai) (fun _ _=>rfl)) (pv 2)))
        (aq (aB (i:=1) qg.nd rfl (Or.inl rfl) (aY nv (aY e9 (pv 1) ai) ai)))))
  (aq (aM (pv 2)))))),?_⟩
 refine⟨_,rfl,_,rfl,_,_,rfl,rfl,⟨by decide,by decide,by decide⟩,_,_,rfl,rfl,(show (0:Int)<_ by decide +kernel),?_⟩
 refine⟨fun m σ H1=>H1=H/\∃(l:Int)(x:aa),σ=[some (.int i),some (.int l),some (.str x)]/\m=(l+1).toNat/\WI l x/\∀y,WR l x y->WR (wv i) "" y,⟨_,rfl,_,_,rfl,rfl,WI.start i,fun _ h=>h⟩,?_⟩
 rintro m σ H1 ⟨rfl,l,x,rfl,rfl,hw,hwr⟩
 refine⟨_,rfl,_,_,rfl,rfl,_,rfl,?_⟩
 refine bE (fun c=>⟨_,fun _ _ h=>h,?_⟩) (fun c=>?_)
 ·have c':0<=l:=of_decide_eq_true c
  have hs:=hw.short c'
  have hb:0<=l % 26:=ng _ (by decide)
  have hb':l % 26<26:=nh _ (by decide)
  obtain⟨j,hj,hj'⟩:∃j:Nat,l % 26=(j:Int)/\j<26:=⟨(l % 26).toNat,by omega,by omega⟩
  have hat:dU mh.cps.toList (l % 26)=some (97+j):=by
   rw[hj]
   exact eO (Bw j hj')
  refine⟨_,rfl,_,_,rfl,rfl,(show (0:Int)<_ by decide),_,_,_,rfl,rfl,(by decide +kernel),hat,_,rfl,_,_,rfl,rfl,?_,?_⟩
  ·rw[eQ,eQ]
   show 1+_<=sizeLine
   exact d9 (by omega)
  refine⟨_,rfl,_,_,rfl,rfl,⟨by decide,by decide⟩,_,_,rfl,rfl,?_⟩
  refine⟨(l / 26 - 1+1).toNat,by omega,rfl,_,_,rfl,rfl,hw.turn c' (by omega),fun y hy=>hwr y (.step c' ?_)⟩
  have ej:(l % 26).toNat=j:=by omega
  rw[ej]
  exact hy
 ·have c':¬0<=l:=of_decide_eq_false (h9.mpr c)
  refine⟨_,rfl,?_⟩
  obtain⟨h1,h2⟩:=hw.wd c'
  exact q x (hwr x (.done c')) h1 h2
inductive C3(vs:List V)(H:Hp)(Q:VK):Prop
 |mk:∀i:Int,(vs=[.int i])->(∀(v:V)(t:Tm)(H':Hp),av H H'->ay H' v t->t.Ok->t.nodes=1->pV t->Q v H')->C3 vs H Q
def tK:Sp:=fun vs H Q _=>C3 vs H Q
theorem JH{f:Addr}{fd:be}(F:bB K "_law_leaf" "_law_leaf" ou f fd)(T:Bi mg)(c__law_any_word:aO P w K mg base 1 "_law_any_word" ["_law_cell"] tJ):
 bf P w K mg base bp 2 f fd ["_law_cell"] tK:=by
 refine F.ok wM (fun vs H Q E h=>?_) (fun cdv A outer s H vs Q E hr h=>?_)
 ·obtain⟨i,rfl,_⟩:=h
  rfl
 obtain⟨i,rfl,q⟩:=h
 have qn:∀(n:Int)(p:Addr),H p=none-> -(10 ^ 61)<=n->n<=10 ^ 61->Q (.ref p) (ad H p (.tup [.str "number",.int n])):=fun n p hp h1 h2=>
  q _ (.num n) _ (bG hp _) (fF.mpr ⟨p,rfl,au⟩) (by simp only[Tm.Ok];exact⟨h1,h2⟩) rfl trivial
 have qa:∀(x:aa)(H1:Hp)(p:Addr),av H H1->H1 p=none->Wd x->Q (.ref p) (ad H1 p (.tup [.str "name",.str x])):=fun x H1 p hs hp hx=>
  q _ (.name x) _ (hs.trans (bG hp _)) (eP.mpr ⟨p,rfl,au⟩) (by simp only[Tm.Ok];exact hx) rfl trivial
 have qb:∀(x:aa)(p:Addr),H p=none->Wd x->iP x->Q (.ref p) (ad H p (.tup [.str "blank",.str x])):=fun x p hp hx fx=>
  q _ (.blank x) _ (bG hp _) (dN.mpr ⟨p,rfl,au⟩) (by simp only[Tm.Ok];exact hx) rfl fx
 obtain⟨w1,w2,_,_,_,_,w3,w4,w5⟩:=Wd.lits
 refine⟨_,(al (aB (i:=1) wM.nd rfl (Or.inl rfl) (aY dj (pv 0) ai))
  (al (aB (i:=2) wM.nd rfl (Or.inl rfl) (lP cf (aY dj (aY e9 (pv 0) ai) ai) ai (aT _)))
  (al (aZ (aU cf (pv 1) ai (aT _)) (al (aZ (dX (pv 2)) (aq (aM (bO (ae aS (ae (aY nv (aY dj (pv 0) (aY vE ai ai)) (aY vE ai ai)) af))))) bg)
        (aq (aM (bO (ae aS (ae (aY nv (aY dj (aY e9 (pv 0) ai) ai) ai) af)))))) bg)
  (al (aZ (aU cf (pv 1) ai (aT _)) (al (aZ (dX (pv 2)) (aq (aM (bO (ae aS (ae (a0 c__law_any_word (hr.mono (by decide)) (ae (aY e9 (pv 0) ai) af)) af))))) bg)
        (aq (aM (bO (ae aS (ae (ao cI (bR (ae aS (ae aS af))) (aY dj (aY e9 (pv 0) ai) ai) (fun _ _=>rfl)) af)))))) bg)
  (al (aZ (dX (pv 2)) (aq (aM (bO (ae aS (ae (aY kz aS (a0 c__law_any_word (hr.mono (by decide)) (ae (aY e9 (pv 0) ai) af))) af))))) bg)
  (aq (aM (bO (ae aS (ae (ao nB aS (aY dj (aY e9 (pv 0) ai) ai) (fun _ _=>rfl)) af)))))))))),?_⟩
 refine⟨_,rfl,_,_,rfl,rfl,(show (0:Int)<_ by decide),?_⟩
 refine⟨_,rfl,_,_,rfl,rfl,⟨by decide,by decide⟩,_,_,rfl,rfl,(show (0:Int)<_ by decide),rfl,?_⟩
 refine⟨_,rfl,rfl,_,rfl,bE (fun c1=>?_) (fun c1=>?_)⟩
 ·refine⟨_,rfl,_,rfl,bE (fun c2=>?_) (fun c2=>?_)⟩
  ·refine⟨_,rfl,_,_,rfl,rfl,⟨by decide,by decide,by decide⟩,_,_,rfl,rfl,(show (0:Int)<_ by decide +kernel),_,_,rfl,rfl,⟨by decide,by decide,by decide⟩,_,_,rfl,rfl,(by show 2<=sizeLine;decide),fun p hp=>?_⟩
   have g1:0<=i % (10 ^ (60:Int).toNat):=ng _ (by decide +kernel)
   have g2:i % (10 ^ (60:Int).toNat)<10 ^ (60:Int).toNat:=nh _ (by decide +kernel)
   have g3:(10:Int) ^ (60:Int).toNat<=10 ^ 61:=by decide +kernel
   have g4:(10:Int) ^ (20:Int).toNat<=10 ^ 61:=by decide +kernel
   have g5:(0:Int)<=10 ^ (20:Int).toNat:=by decide +kernel
   exact qn _ p hp (by omega) (by omega)
  ·refine⟨_,rfl,_,_,rfl,rfl,⟨by decide,by decide⟩,_,_,rfl,rfl,(show (0:Int)<_ by decide),_,_,rfl,rfl,(by show 2<=sizeLine;decide),fun p hp=>?_⟩
   have g3:(3:Int)<=10 ^ 61:=by decide +kernel
   exact qn _ p hp (by omega) (by omega)
 refine⟨_,rfl,rfl,_,rfl,bE (fun c2=>?_) (fun c2=>?_)⟩
 ·refine⟨_,rfl,_,rfl,bE (fun c3=>?_) (fun c3=>?_)⟩
  ·refine⟨_,rfl,_,_,rfl,rfl,⟨by decide,by decide⟩,_,rfl,fun x _ hx _=>⟨(by show 2<=sizeLine;decide),fun p hp=>?_⟩⟩
   exact qa x H p (av.refl _) hp hx
  ·refine⟨(by show 2<=sizeLine;decide),fun p hp=>⟨_,rfl,_,_,rfl,rfl,⟨by decide,by decide⟩,_,_,rfl,rfl,(show (0:Int)<_ by decide),?_⟩⟩
   have hz:i / 4 % 2=0\/i / 4 % 2=1:=by omega
   rcases hz with z|z
   ·refine⟨p,_,_,.str "oak",rfl,rfl,ak.of au,by rw[z];rfl,(by show 2<=sizeLine;decide),fun r hr'=>?_⟩
    exact qa _ _ r (bG hp _) hr' w1
   ·refine⟨p,_,_,.str "oik",rfl,rfl,ak.of au,by rw[z];rfl,(by show 2<=sizeLine;decide),fun r hr'=>?_⟩
    exact qa _ _ r (bG hp _) hr' w2
 refine⟨_,rfl,_,rfl,bE (fun c3=>?_) (fun c3=>?_)⟩
 ·refine⟨_,rfl,_,_,rfl,rfl,⟨by decide,by decide⟩,_,rfl,fun x _ hx hl=>⟨_,_,rfl,rfl,?_,(by show 2<=sizeLine;decide),fun p hp=>?_⟩⟩
  ·have e:(bL "zz").length=2:=by decide +kernel
   rw[e,eQ]
   exact d9 (by omega)
  ·exact qb _ p hp (hx.zz hl) (IQ x hl)
 ·have hz:i / 4 % 3=0\/i / 4 % 3=1\/i / 4 % 3=2:=by omega
  refine⟨_,rfl,_,_,rfl,rfl,⟨by decide,by decide⟩,_,_,rfl,rfl,(show (0:Int)<_ by decide),?_⟩
  rcases hz with z|z|z
  ·refine⟨_,_,120,rfl,rfl,(by decide +kernel),by rw[z];decide +kernel,(by show 2<=sizeLine;decide),fun p hp=>?_⟩
   have e:(⟨#[120]⟩:aa)="x":=by decide +kernel
   exact qb _ p hp (by rw[e];exact w3) (by rw[e];exact wo.1)
  ·refine⟨_,_,121,rfl,rfl,(by decide +kernel),by rw[z];decide +kernel,(by show 2<=sizeLine;decide),fun p hp=>?_⟩
   have e:(⟨#[121]⟩:aa)="y":=by decide +kernel
   exact qb _ p hp (by rw[e];exact w4) (by rw[e];exact wo.2.1)
  ·refine⟨_,_,122,rfl,rfl,(by decide +kernel),by rw[z];decide +kernel,(by show 2<=sizeLine;decide),fun p hp=>?_⟩
   have e:(⟨#[122]⟩:aa)="z":=by decide +kernel
   exact qb _ p hp (by rw[e];exact w5) (by rw[e];exact wo.2.2)
inductive C4(vs:List V)(H:Hp)(Q:VK):Prop
 |mk:∀i:Int,(vs=[.int i])->(∀(x:aa)(H':Hp),av H H'->Wd x->HW i x->Q (.str x) H')->C4 vs H Q
def wQ:Sp:=fun vs H Q _=>C4 vs H Q
theorem JI{f:Addr}{fd:be}(F:bB K "_law_head" "_law_head" ow f fd)(T:Bi mg)(c__law_any_word:aO P w K mg base 1 "_law_any_word" ["_law_cell"] tJ):
 bf P w K mg base bp 2 f fd ["_law_cell"] wQ:=by
 refine F.ok JC (fun vs H Q E h=>?_) (fun cdv A outer s H vs Q E hr h=>?_)
 ·obtain⟨i,rfl,_⟩:=h
  rfl
 obtain⟨i,rfl,q⟩:=h
 obtain⟨_,_,w1,w2,_,_,_,_,_⟩:=Wd.lits
 refine⟨_,(al (aZ (aU cf (aY dj (pv 0) ai) ai (aT _)) (aq (aM (a0 c__law_any_word (hr.mono (by decide)) (ae (aY e9 (pv 0) ai) af)))) bg)
  (aq (aM (ao cI (bR (ae aS (ae aS af))) (aY dj (pv 0) ai) (fun _ _=>rfl))))),?_⟩
 refine⟨_,rfl,_,_,rfl,rfl,(show (0:Int)<_ by decide),rfl,_,rfl,bE (fun c1=>?_) (fun c1=>?_)⟩
 ·exact⟨_,rfl,_,_,rfl,rfl,⟨by decide,by decide⟩,_,rfl,fun x hr' hx _=>q x H (av.refl _) hx (by
   have c1':i % 7=5:=V.int.inj (of_decide_eq_true c1)
   unfold HW;rw[if_pos c1'];exact hr')⟩
 ·refine⟨(by show 2<=sizeLine;decide),fun p hp=>⟨_,rfl,_,_,rfl,rfl,(show (0:Int)<_ by decide),?_⟩⟩
  have hz:i % 2=0\/i % 2=1:=by omega
  have c1':¬i % 7=5:=fun z=>c1 (decide_eq_true (congrArg V.int z))
  rcases hz with z|z
  ·exact⟨p,_,_,.str "f",rfl,rfl,ak.of au,by rw[z];rfl,q _ _ (bG hp _) w1 (by unfold HW;rw[if_neg c1',if_pos z])⟩
  ·exact⟨p,_,_,.str "pair",rfl,rfl,ak.of au,by rw[z];rfl,q _ _ (bG hp _) w2 (by unfold HW;rw[if_neg c1',if_neg (by omega)])⟩
inductive C5(vs:List V)(H:Hp)(Q:VK):Prop
 |mk:∀i n:Int,(vs=[.int i,.int n])->(∀(k:Int)(H':Hp),av H H'->(0<=k/\k<=3)\/k=n->Q (.int k) H')->C5 vs H Q
def wR:Sp:=fun vs H Q _=>C5 vs H Q
theorem JJ{f:Addr}{fd:be}(F:bB K "_law_many_parts" "_law_many_parts" ox f fd)(T:Bi mg):
 bf P w K mg base bp 1 f fd ["_law_cell","_law_count"] wR:=by
 refine F.ok JD (fun vs H Q E h=>?_) (fun cdv A outer s H vs Q E hr h=>?_)
 ·obtain⟨i,n,rfl,_⟩:=h
  rfl
 obtain⟨i,n,rfl,q⟩:=h
 have last:∀D:cZ,D.rt=Q->zR (nr (AG K) (Aq (lR (tC (.int 0)) (lR (tC (.int 0)) (lR (tC (.int 1)) (lR (tC (.int 2)) (lR (tC (.int 2)) (lR (tC (.int 3)) r6))))))) (nr (rI (fun _ j=>0<j) fun i j=>.int (i % j)) (vy 0) (tC (.int 6)))) D [some (.int i),some (.int n)] H:=fun D hD=>by
  refine⟨(by show 6<=sizeLine;decide),fun p hp=>⟨_,rfl,_,_,rfl,rfl,(show (0:Int)<_ by decide),?_⟩⟩
  rw[hD]
  have hz:i % 6=0\/i % 6=1\/i % 6=2\/i % 6=3\/i % 6=4\/i % 6=5:=by omega
  rcases hz with z|z|z|z|z|z
  ·exact⟨p,_,_,.int 0,rfl,rfl,ak.of au,by rw[z];rfl,q _ _ (bG hp _) (.inl ⟨by decide,by decide⟩)⟩
  ·exact⟨p,_,_,.int 0,rfl,rfl,ak.of au,by rw[z];rfl,q _ _ (bG hp _) (.inl ⟨by decide,by decide⟩)⟩
  ·exact⟨p,_,_,.int 1,rfl,rfl,ak.of au,by rw[z];rfl,q _ _ (bG hp _) (.inl ⟨by decide,by decide⟩)⟩
  ·exact⟨p,_,_,.int 2,rfl,rfl,ak.of au,by rw[z];rfl,q _ _ (bG hp _) (.inl ⟨by decide,by decide⟩)⟩
  ·exact⟨p,_,_,.int 2,rfl,rfl,ak.of au,by rw[z];rfl,q _ _ (bG hp _) (.inl ⟨by decide,by decide⟩)⟩
  ·exact⟨p,_,_,.int 3,rfl,rfl,ak.of au,by rw[z];rfl,q _ _ (bG hp _) (.inl ⟨by decide,by decide⟩)⟩
 refine⟨_,(al (aZ (kr (aU cf (aY dj (pv 0) ai) ai (aT _)) (kq (aU cf (aY dj (aY e9 (pv 0) ai) ai) ai (aT _)))).pt (aq (aM (pv 1))) bg)
  (aq (aM (ao cI (bR (ae ai (ae ai (ae ai (ae ai (ae ai (ae ai af))))))) (aY dj (pv 0) ai) (fun _ _=>rfl))))),?_⟩
 refine⟨_,rfl,_,_,rfl,rfl,(show (0:Int)<_ by decide),rfl,_,rfl,bE (fun c1=>?_) (fun c1=>?_)⟩
 ·refine⟨_,rfl,_,_,rfl,rfl,⟨by decide,by decide⟩,_,_,rfl,rfl,(show (0:Int)<_ by decide),rfl,_,rfl,bE (fun c2=>?_) (fun c2=>?_)⟩
  ·exact⟨_,rfl,q _ _ (av.refl _) (.inr rfl)⟩
  ·exact last _ rfl
 ·exact cg (last _ rfl)
theorem qi(vs:List V)(k:Int)(h0:0<=k)(h:k<=vs.length):d7 vs (some k) none=vs.drop k.toNat:=by
 obtain⟨j,rfl⟩:=rD h0
 unfold d7
 rw[HT.sIx_none,HT.sIx_nat]
 have e:min j vs.length=j:=by have:(j:Int)<=vs.length:=h;omega
 rw[e]
 show (vs.drop j).take (vs.length - j)=vs.drop j
 exact dD (by rw[dh];omega)
theorem tL(vs:List V)(k:Int)(h0:0<=k)(h:k<=vs.length):d7 vs none (some k)=vs.take k.toNat:=by
 obtain⟨j,rfl⟩:=rD h0
 unfold d7
 rw[HT.sIx_none,HT.sIx_nat]
 have e:min j vs.length=j:=by have:(j:Int)<=vs.length:=h;omega
 rw[e]
 rfl
end
end K09
namespace BF
open PySem PySem.Spec PyProof.Rows L2
open Sem (wp)
section
variable{prog:aQ}{w:aH}{A:bm}{E:ac->ah->Prop}{s:ah}
theorem JK{a:Addr}{Q:Option aG->ah->Prop}(h:Q (s.heap.get? a) s):wpAny (model prog w) A (loadIfAlive a) Q E s:=fun Γ p hΓ=>by
 show wp _ _ (Sem.loadIfAlive a .pure) _ _ _ _
 rw[Sem.wp_loadIfAlive]
 exact(aP h:wpAny (model prog w) A (pure (s.heap.get? a)) Q E s) Γ p hΓ
theorem tM{it t:Addr}{i:Nat}{items:Array ac}{x:ac}{Q:ac->ah->Prop}(q:IsTupIter s.heap it t i)(ht:cw s.heap t items)(hx:items[i]?=some x)
 (k:∀h',IsTupIter h' it t (i+1)->gf it s.heap h'->Q x { s with heap:=h'}):wpAny (model prog w) A (gj (.ref it)) Q E s:=by
 obtain⟨oi,gi,ci,di⟩:=id q
 obtain⟨ot,gt,_,nt,dt⟩:=ht
 unfold gj
 refine ag (gv (name:=bL "__next__") q.typeIs rm (d4 rm q.typeIs zh ?_ (zi _)))
 show wpAny _ _ (field (ac.ref it) 0 >>= _) _ _ s
 refine ag (cn gi di (x:=ac.ref t) rfl ?_)
 show wpAny _ _ (if (ac.ref t==ac.none)=true then _ else _) _ _ (s:ah)
 rw[if_neg (show ¬(ac.ref t==ac.none)=true from fun z=>nomatch z)]
 show wpAny _ _ (field (ac.ref it) 1 >>= _) _ _ s
 refine ag (cn gi di (x:=ac.int i 0) rfl ?_)
 show wpAny _ _ (seqItems? (ac.ref t) >>= _) _ _ s
 refine ag (jv gt dt ?_)
 simp only[lJ,hx]
 refine ag (j6 gi di (by simp) (aP ⟨x,rfl,aP (k _ ⟨_,iF _ gi (pp (kn di _)),(aG.cls_mapFields ..).trans ci,?_⟩ (ko ..))⟩))
 rw[kn di]
 simp[rawInt]
theorem C6{it t:Addr}{i:Nat}{items:Array ac}{Q:ac->ah->Prop}(hh:A.handled=none)(q:IsTupIter s.heap it t i)(ht:cw s.heap t items)(hx:items[i]?=none)
 (k:∀h' e,uJ it s.heap h'->(∃o,h'.get? e=some o/\o.cls= .type "StopIteration")->E (.ref e) { s with heap:=h'}):wpAny (model prog w) A (gj (.ref it)) Q E s:=by
 obtain⟨oi,gi,ci,di⟩:=id q
 obtain⟨ot,gt,_,nt,dt⟩:=ht
 unfold gj
 refine ag (gv (name:=bL "__next__") q.typeIs rm (d4 rm q.typeIs zh ?_ (zi _)))
 show wpAny _ _ (field (ac.ref it) 0 >>= _) _ _ s
 refine ag (cn gi di (x:=ac.ref t) rfl ?_)
 show wpAny _ _ (if (ac.ref t==ac.none)=true then _ else _) _ _ (s:ah)
 rw[if_neg (show ¬(ac.ref t==ac.none)=true from fun z=>nomatch z)]
 show wpAny _ _ (field (ac.ref it) 1 >>= _) _ _ s
 refine ag (cn gi di (x:=ac.int i 0) rfl ?_)
 show wpAny _ _ (seqItems? (ac.ref t) >>= _) _ _ s
 refine ag (jv gt dt ?_)
 simp only[lJ,hx]
 refine ag (iW (ag (j6 gi di (by simp) ?_)))
 show wpAny _ _ (newExc (ac.type "StopIteration") [] >>= _) _ _ _
 refine ag ?_
 simp only[newExc,newTuple]
 refine ag (gx ?_ (by size_fits))
 refine ag (m:=firstArgMember _ _) (dJ (a:=ac.none) (by first|rfl|(simp only[firstArgMember];rfl)) ?_)
 refine gx ?_ (by size_fits)
 simp only[raiseNew]
 refine ag (ur ?_)
 first|rw[show A.in1.handled=none from hh]|rw[hh]
 exact ag (aP (ut (k _ _ (((ko ..).extBut.push _).push _) ⟨_,bQ _ rfl,rfl⟩)))
abbrev zObj(f0 f1:ac)(TI TO:Addr):aG:={ cls:= .type "zip",dict:=none,data:= .fields #[f0,f1,.bool false,.ref TI,.ref TO],slots:=#[]}
def Zf(f0 f1:ac):Prop:=(f0= .none\/∃n:Int,f0=rawInt n)/\∃b,f1= .bool b
theorem z_free{z TI TO:Addr}{f0 f1:ac}{Q:Bool->ah->Prop}(hz:s.heap.get? z=some (zObj f0 f1 TI TO))(hf:Zf f0 f1)(ht:Q true s)
 (hn:∀h' f1',h'.get? z=some (zObj f0 f1' TI TO)->gf z s.heap h'->Zf f0 f1'->Q false { s with heap:=h'}):wpAny (model prog w) A (na (.ref z)) Q E s:=by
 obtain⟨h0,b,rfl⟩:=id hf
 unfold na
 rcases h0 with rfl|⟨n,rfl⟩
 ·exact ag (cn hz rfl (x:=ac.none) rfl (aP ht))
 ·refine ag (cn hz rfl (x:=rawInt n) rfl ?_)
  show wpAny _ _ (loadIfAlive n.toNat >>= _) _ _ _
  refine ag (JK ?_)
  cases s.heap.get? n.toNat with
  |none=>exact aP ht
  |some o=>
   show wpAny _ _ (field (ac.ref z) 1 >>= _) _ _ _
   refine ag (cn hz rfl (x:=ac.bool b) rfl ?_)
   cases b with
   |true=>exact aP (hn _ _ hz (gf.refl ..) hf)
   |false=>exact ag (iC hz (by simp) fun h1 g1 s1=>aP (hn _ _ g1 s1 ⟨hf.1,true,rfl⟩))
theorem z_item{z TI TO i1 i2 a b:Addr}{k:Nat}{xs ys:Array ac}{x y f0 f1:ac}{Q:ac->ah->Prop}(D:ZipApart z TI TO i1 i2 a b)(hf:Zf f0 f1)
 (hz:s.heap.get? z=some (zObj f0 f1 TI TO)) (hTI:IsPair s.heap TI (.ref i1) (.ref i2)) (hTO:∃u v,IsPair s.heap TO u v)
 (h1:IsTupIter s.heap i1 a k) (h2:IsTupIter s.heap i2 b k) (t1:cw s.heap a xs) (t2:cw s.heap b ys) (hx:xs[k]?=some x) (hy:ys[k]?=some y)
 (hQ:∀h' f0' f1',Zf f0' f1'->h'.get? z=some (zObj f0' f1' TI TO)->(∃u v,IsPair h' TO u v)->IsTupIter h' i1 a (k+1)->IsTupIter h' i2 b (k+1)->IsPair h' s.heap.objs.size x y->h'.objs.size=s.heap.objs.size+1->
  (∀c o,c≠z->c≠TO->c≠i1->c≠i2->s.heap.get? c=some o->h'.get? c=some o)->Q (.ref s.heap.objs.size) { s with heap:=h'}):
 wpAny (model prog w) A (dc.«zip.__next__» ⟨[.ref z],[]⟩) (fun fin s'=>∃v,fin= .done (.ret v)/\Q v s') E s:=by
 obtain⟨u,v,hTO⟩:=hTO
 show wpAny _ _ (field (ac.ref z) 2 >>= _) _ _ s
 refine ag (cn hz rfl (x:=ac.bool false) rfl ?_)
 show wpAny _ _ (field (ac.ref z) 3 >>= _) _ _ s
 refine ag (cn hz rfl (x:=ac.ref TI) rfl ?_)
 refine ag (jv hTI rfl ?_)
 show wpAny _ _ (na (ac.ref z) >>= _) _ _ s
 refine ag (z_free hz hf ?_ fun g1 f1' gz1 gs1 gf1=>?_)
 ·simp only[if_true]
  refine ag (iW (ag (cn hz rfl (x:=ac.ref TO) rfl ?_)))
  refine ag (iC hz (by simp) fun g1 gz1 gs1=>?_)
  replace gz1:g1.get? z=some (zObj .ellipsis f1 TI TO):=gz1
  refine ag ?_
  simp only[yD,yE,pb,qV]
  refine ag (ag (uu ?_))
  show wpAny _ _ (gj (ac.ref i1) >>= _) _ _ _
  refine ag (tM (h1.extBut gs1.extBut D.i1z) (t1.extBut gs1.extBut D.l1z) hx fun g2 e2 gs2=>aP ?_)
  have o2:IsPair g2 TO u v:=gs2.extBut _ _ D.TOi1 (gs1.extBut _ _ D.TOz hTO)
  refine ag (jv o2 rfl (ag (xZ o2 fun g3 o3 gs3=>?_)))
  replace o3:IsPair g3 TO x v:=o3
  refine ag (oS (aP (ag (ag (uu ?_)))))
  show wpAny _ _ (gj (ac.ref i2) >>= _) _ _ _
  refine ag (tM (((h2.extBut gs1.extBut D.i2z).extBut gs2.extBut D.i12.symm).extBut gs3.extBut D.TOi2.symm) (((t2.extBut gs1.extBut D.l2z).extBut gs2.extBut D.l2i1).extBut gs3.extBut D.l2TO) hy fun g4 e4 gs4=>aP ?_)
  have o4:IsPair g4 TO x v:=gs4.extBut _ _ D.TOi2 o3
  refine ag (jv o4 rfl (ag (xZ o4 fun g5 o5 gs5=>?_)))
  replace o5:IsPair g5 TO x y:=o5
  refine ag (oS (aP (aP (ag (jv o5 rfl (ag (uv ?_)))))))
  have hsz:g5.objs.size=s.heap.objs.size:=by rw[gs5.1,gs4.1,gs3.1,gs2.1,gs1.1]
  have gz5:g5.get? z=some (zObj .ellipsis f1 TI TO):=gs5.extBut _ _ D.TOz.symm (gs4.extBut _ _ D.i2z.symm (gs3.extBut _ _ D.TOz.symm (gs2.extBut _ _ D.i1z.symm gz1)))
  have hk:∀c o,c≠z->c≠TO->c≠i1->c≠i2->s.heap.get? c=some o->g5.get? c=some o:=fun c o c1 c2 c3 c4 e=>
   gs5.extBut _ _ c2 (gs4.extBut _ _ c4 (gs3.extBut _ _ c2 (gs2.extBut _ _ c3 (gs1.extBut _ _ c1 e))))
  have w1:IsTupIter g5 i1 a (k+1):=((e2.extBut gs3.extBut D.TOi1.symm).extBut gs4.extBut D.i12).extBut gs5.extBut D.TOi1.symm
  have w2:IsTupIter g5 i2 b (k+1):=e4.extBut gs5.extBut D.TOi2.symm
  have zlt:z<g5.objs.size:=bn gz5
  show wpAny _ _ (rB (ac.ref z) (ac.ref g5.objs.size) >>= _) _ _ _
  refine ag ?_
  unfold rB
  have gz6:(g5.push { cls:= .type "tuple",data:= .seq #[x,y]}).get? z=some (zObj .ellipsis f1 TI TO):=bj _ gz5
  refine ag (iC gz6 (by simp) fun g7 gz7 gs7=>?_)
  replace gz7:g7.get? z=some (zObj (rawInt g5.objs.size) f1 TI TO):=gz7
  refine iC gz7 (by simp) fun g8 gz8 gs8=>?_
  replace gz8:g8.get? z=some (zObj (rawInt g5.objs.size) (.bool false) TI TO):=gz8
  have up:∀c o,c≠z->g5.get? c=some o->g8.get? c=some o:=fun c o c1 e=>gs8.extBut _ _ c1 (gs7.extBut _ _ c1 (bj _ e))
  have hT:IsPair g8 g5.objs.size x y:=gs8.extBut _ _ (iX zlt) (gs7.extBut _ _ (iX zlt) (bQ _ rfl))
  have hz8:g8.objs.size=g5.objs.size+1:=by rw[gs8.1,gs7.1,iE]
  rw[hsz]at hT hz8
  refine aP ⟨_,rfl,?_⟩
  show Q (.ref g5.objs.size) _
  rw[hsz]
  refine hQ g8 _ _ ⟨.inr ⟨_,rfl⟩,false,rfl⟩ gz8 ⟨x,y,up _ _ D.TOz o5⟩ ?_ ?_ hT hz8 fun c o c1 c2 c3 c4 e=>up c o c1 (hk c o c1 c2 c3 c4 e)
  ·obtain⟨o,ho,r⟩:=w1
   exact⟨o,up _ _ D.i1z ho,r⟩
  ·obtain⟨o,ho,r⟩:=w2
   exact⟨o,up _ _ D.i2z ho,r⟩
 ·simp only[iI,if_false]
  refine ag ?_
  simp only[<-zv,pb,qV]
  refine ag (ag (iU ?_))
  show wpAny _ _ (gj (ac.ref i1) >>= _) _ _ _
  refine ag (tM (h1.extBut gs1.extBut D.i1z) (t1.extBut gs1.extBut D.l1z) hx fun g2 e2 gs2=>aP (aP ?_))
  refine ag (ag (iU ?_))
  show wpAny _ _ (gj (ac.ref i2) >>= _) _ _ _
  refine ag (tM ((h2.extBut gs1.extBut D.i2z).extBut gs2.extBut D.i12.symm) ((t2.extBut gs1.extBut D.l2z).extBut gs2.extBut D.l2i1) hy fun g4 e4 gs4=>aP (aP (aP ?_)))
  refine ag (uv (aP ⟨_,rfl,?_⟩) (by show 2<=sizeLine;decide))
  have hsz:g4.objs.size=s.heap.objs.size:=by rw[gs4.1,gs2.1,gs1.1]
  have w1:=e2.extBut gs4.extBut D.i12
  show Q (.ref g4.objs.size) _
  rw[hsz]
  refine hQ _ _ _ gf1 (bj _ (gs4.extBut _ _ D.i2z.symm (gs2.extBut _ _ D.i1z.symm gz1))) ⟨u,v,bj _ (gs4.extBut _ _ D.TOi2 (gs2.extBut _ _ D.TOi1 (gs1.extBut _ _ D.TOz hTO)))⟩ ?_ ?_ ?_ (by rw[iE,hsz]) fun c o c1 c2 c3 c4 e=>bj _ (gs4.extBut _ _ c4 (gs2.extBut _ _ c3 (gs1.extBut _ _ c1 e)))
  ·obtain⟨o,ho,r⟩:=w1
   exact⟨o,bj _ ho,r⟩
  ·obtain⟨o,ho,r⟩:=e4
   exact⟨o,bj _ ho,r⟩
  ·rw[<-hsz]
   exact bQ _ rfl
theorem z_end{z TI TO i1 i2 a b:Addr}{k:Nat}{xs:Array ac}{f0 f1:ac}{Q:Fin->ah->Prop}(hh:A.handled=none)(D:ZipApart z TI TO i1 i2 a b)(hf:Zf f0 f1)
 (hz:s.heap.get? z=some (zObj f0 f1 TI TO)) (hTI:IsPair s.heap TI (.ref i1) (.ref i2))
 (h1:IsTupIter s.heap i1 a k) (t1:cw s.heap a xs) (hx:xs[k]?=none)
 (hE:∀h' e,(∀c o,c≠z->c≠i1->s.heap.get? c=some o->h'.get? c=some o)->(∃o,h'.get? e=some o/\o.cls= .type "StopIteration")->E (.ref e) { s with heap:=h'}):
 wpAny (model prog w) A (dc.«zip.__next__» ⟨[.ref z],[]⟩) Q E s:=by
 show wpAny _ _ (field (ac.ref z) 2 >>= _) _ _ s
 refine ag (cn hz rfl (x:=ac.bool false) rfl ?_)
 show wpAny _ _ (field (ac.ref z) 3 >>= _) _ _ s
 refine ag (cn hz rfl (x:=ac.ref TI) rfl ?_)
 refine ag (jv hTI rfl ?_)
 show wpAny _ _ (na (ac.ref z) >>= _) _ _ s
 refine ag (z_free hz hf ?_ fun g1 f1' gz1 gs1 gf1=>?_)
 ·simp only[if_true]
  refine ag (iW (ag (cn hz rfl (x:=ac.ref TO) rfl ?_)))
  refine ag (iC hz (by simp) fun g1 gz1 gs1=>?_)
  replace gz1:g1.get? z=some (zObj .ellipsis f1 TI TO):=gz1
  refine ag ?_
  simp only[yD,yE,pb,qV]
  refine ag (ag (uu ?_))
  show wpAny _ _ (gj (ac.ref i1) >>= _) _ _ _
  refine ag (C6 hh (h1.extBut gs1.extBut D.i1z) (t1.extBut gs1.extBut D.l1z) hx fun g2 e gs2 he=>?_)
  obtain⟨oe,hoe,hce⟩:=he
  have gz2:g2.get? z=some (zObj .ellipsis f1 TI TO):=gs2 _ _ D.i1z.symm gz1
  have hez:e≠z:=fun y=>by subst y;rw[gz2]at hoe;cases hoe;simp at hce
  exact iC gz2 (by simp) fun g3 _ gs3=>hE g3 e (fun c o c1 c3 y=>gs3.extBut _ _ c1 (gs2 _ _ c3 (gs1.extBut _ _ c1 y))) ⟨oe,gs3.extBut _ _ hez hoe,hce⟩
 ·simp only[iI,if_false]
  refine ag ?_
  simp only[<-zv,pb,qV]
  refine ag (ag (iU ?_))
  show wpAny _ _ (gj (ac.ref i1) >>= _) _ _ _
  exact ag (C6 hh (h1.extBut gs1.extBut D.i1z) (t1.extBut gs1.extBut D.l1z) hx fun g2 e gs2 he=>hE g2 e (fun c o c1 c3 y=>gs2 _ _ c3 (gs1.extBut _ _ c1 y)) he)
end
structure dl(h:az)(z TI TO i1 i2 a b:Addr)(k:Nat):Prop where
 z:∃f0 f1,Zf f0 f1/\h.get? z=some (zObj f0 f1 TI TO)
 ti:IsPair h TI (.ref i1) (.ref i2)
 to:∃u v,IsPair h TO u v
 i1:IsTupIter h i1 a k
 i2:IsTupIter h i2 b k
theorem dl.keep{h h':az}{z TI TO i1 i2 a b:Addr}{k:Nat}(x:dl h z TI TO i1 i2 a b k)(q:∀c∈[z,TI,TO,i1,i2],∀o,h.get? c=some o->h'.get? c=some o):dl h' z TI TO i1 i2 a b k where
 z:=let ⟨f0,f1,hf,e⟩:=x.z;⟨f0,f1,hf,q z (by simp) _ e⟩
 ti:=q TI (by simp) _ x.ti
 to:=let ⟨u,v,e⟩:=x.to;⟨u,v,q TO (by simp) _ e⟩
 i1:=let ⟨o,e,r⟩:=x.i1;⟨o,q i1 (by simp) _ e,r⟩
 i2:=let ⟨o,e,r⟩:=x.i2;⟨o,q i2 (by simp) _ e,r⟩
section
variable{prog:aQ}{w:aH}{A:bm}{E:ac->ah->Prop}{s:ah}{z TI TO i1 i2 a b:Addr}{k:Nat}{xs ys:Array ac}{x y:ac}
abbrev tN(s:ah)(z TI TO i1 i2 a b:Addr)(k:Nat)(x y:ac)(h':az):Prop:=
 dl h' z TI TO i1 i2 a b (k+1)/\IsPair h' s.heap.objs.size x y/\h'.objs.size=s.heap.objs.size+1/\∀c o,c≠z->c≠TO->c≠i1->c≠i2->s.heap.get? c=some o->h'.get? c=some o
theorem z_next{Q:ac->ah->Prop}(D:ZipApart z TI TO i1 i2 a b)(hz:dl s.heap z TI TO i1 i2 a b k)(t1:cw s.heap a xs)(t2:cw s.heap b ys)(hx:xs[k]?=some x)(hy:ys[k]?=some y)
 (hQ:∀h',tN s z TI TO i1 i2 a b k x y h'->Q (.ref s.heap.objs.size) { s with heap:=h'}):wpAny (model prog w) A (dc.«zip.__next__» ⟨[.ref z],[]⟩) (fun fin s'=>∃v,fin= .done (.ret v)/\Q v s') E s:=by
 obtain⟨f0,f1,hf,e⟩:=hz.z
 exact z_item D hf e hz.ti hz.to hz.i1 hz.i2 t1 t2 hx hy fun h' g0 g1 q1 q2 q3 q4 q5 q6 q7 q8=>hQ h' ⟨⟨⟨g0,g1,q1,q2⟩,q8 _ _ D.TIz D.TITO D.TIi1 D.TIi2 hz.ti,q3,q4,q5⟩,q6,q7,q8⟩
theorem z_draw{Q:ac->ah->Prop}(D:ZipApart z TI TO i1 i2 a b)(hz:dl s.heap z TI TO i1 i2 a b k)(t1:cw s.heap a xs)(t2:cw s.heap b ys)(hx:xs[k]?=some x)(hy:ys[k]?=some y)
 (hQ:∀h',tN s z TI TO i1 i2 a b k x y h'->Q (.ref s.heap.objs.size) { s with heap:=h'}):wpAny (model prog w) A (gj (.ref z)) Q E s:=by
 have hT:s.TypeIs (.ref z) "zip":=let ⟨_,_,_,e⟩:=hz.z;⟨_,e,rfl⟩
 unfold gj
 exact ag (gv (name:=bL "__next__") hT jF (d4 jF hT rj (z_next D hz t1 t2 hx hy fun h' q=>aP (hQ h' q)) (rk _)))
theorem z_pn{Q:Option ac->ah->Prop}(D:ZipApart z TI TO i1 i2 a b)(hz:dl s.heap z TI TO i1 i2 a b k)(t1:cw s.heap a xs)(t2:cw s.heap b ys)(hx:xs[k]?=some x)(hy:ys[k]?=some y)
 (hQ:∀h',tN s z TI TO i1 i2 a b k x y h'->Q (some (.ref s.heap.objs.size)) { s with heap:=h'}):wpAny (model prog w) A (pyNext (.ref z)) Q E s:=by
 have hT:s.TypeIs (.ref z) "zip":=let ⟨_,_,_,e⟩:=hz.z;⟨_,e,rfl⟩
 unfold pyNext
 exact ag (hW (gv (name:=bL "__next__") hT jF (d4 jF hT rj (z_next D hz t1 t2 hx hy fun h' q=>aP (hQ h' q)) (rk _))))
theorem z_drawn{Q:ac->ah->Prop}(hh:A.handled=none)(D:ZipApart z TI TO i1 i2 a b)(hz:dl s.heap z TI TO i1 i2 a b k)(t1:cw s.heap a xs)(hx:xs[k]?=none)
 (hE:∀h' e,(∀c o,c≠z->c≠i1->s.heap.get? c=some o->h'.get? c=some o)->(∃o,h'.get? e=some o/\o.cls= .type "StopIteration")->E (.ref e) { s with heap:=h'}):wpAny (model prog w) A (gj (.ref z)) Q E s:=by
 have hT:s.TypeIs (.ref z) "zip":=let ⟨_,_,_,e⟩:=hz.z;⟨_,e,rfl⟩
 obtain⟨f0,f1,hf,e⟩:=hz.z
 unfold gj
 exact ag (gv (name:=bL "__next__") hT jF (d4 jF hT rj (z_end hh D hf e hz.ti hz.i1 t1 hx hE) (rk _)))
theorem z_pnone{Q:Option ac->ah->Prop}(hh:A.handled=none)(D:ZipApart z TI TO i1 i2 a b)(hz:dl s.heap z TI TO i1 i2 a b k)(t1:cw s.heap a xs)(hx:xs[k]?=none)
 (hQ:∀h',(∀c o,c≠z->c≠i1->s.heap.get? c=some o->h'.get? c=some o)->Q none { s with heap:=h'}):wpAny (model prog w) A (pyNext (.ref z)) Q E s:=by
 have hT:s.TypeIs (.ref z) "zip":=let ⟨_,_,_,e⟩:=hz.z;⟨_,e,rfl⟩
 obtain⟨f0,f1,hf,e⟩:=hz.z
 unfold pyNext
 refine ag (hW (gv (name:=bL "__next__") hT jF (d4 jF hT rj (z_end hh D hf e hz.ti hz.i1 t1 hx fun h' e hk he=>?_) (rk _))))
 obtain⟨o,ho,hc⟩:=he
 exact ag (ju (T:="StopIteration") (b:=true) ⟨o,ho,hc⟩ qH (aP (hQ _ hk)))
theorem z_self{Q:ac->ah->Prop}(hz:dl s.heap z TI TO i1 i2 a b k)(h:Q (.ref z) s):wpAny (model prog w) A (pyIter (.ref z)) Q E s:=by
 obtain⟨f0,f1,hf,e⟩:=hz.z
 have hT:s.TypeIs (.ref z) "zip":=⟨_,e,rfl⟩
 refine qI hT yW (d4 yW hT F.entry_zip_iter ?_ (F.args_zip_iter_1 _))
 show wpAny _ _ (ret (ac.ref z)) _ _ s
 exact aP ⟨_,rfl,"zip",_,hT,jF.lookup,h⟩
end
abbrev zt1(h:az)(l1:Addr):az:=h.push { cls:= .type "tuple_iterator",data:= .fields #[.ref l1,.int 0 0]}
abbrev zt2(h:az)(l1 l2:Addr):az:=(zt1 h l1).push { cls:= .type "tuple_iterator",data:= .fields #[.ref l2,.int 0 0]}
abbrev zt3(h:az)(l1 l2:Addr):az:=(zt2 h l1 l2).push { cls:= .type "tuple",data:= .seq #[.ref h.objs.size,.ref (zt1 h l1).objs.size]}
abbrev zt4(h:az)(l1 l2:Addr):az:=(zt3 h l1 l2).push { cls:= .type "tuple",data:= .seq #[.none,.none]}
abbrev zt5(h:az)(l1 l2:Addr):az:=(zt4 h l1 l2).push (zObj .none (.bool false) (zt2 h l1 l2).objs.size (zt3 h l1 l2).objs.size)
theorem JL(l1 l2:Addr)(xs ys:Array ac):
 Meets (dc.«zip.__new__» ⟨[.type "zip",.ref l1,.ref l2],[]⟩) (fun _ R s=>cw s.heap l1 xs/\cw s.heap l2 ys/\R (.ok (.ret (.ref (zt4 s.heap l1 l2).objs.size))) { s with heap:=zt5 s.heap l1 l2}):=
 .of_wp fun prog w A R s h=>by
  obtain⟨hp,g,d,tk,os⟩:=s;obtain⟨hl1,hl2,h⟩:=h
  have hsub:=sub_zip
  have hL1:cw (vv ⟨hp,g,d,tk,os⟩) l1 xs:=hl1
  have hL2:cw (vv ⟨hp.push { cls:= .type "tuple_iterator",data:= .fields #[.ref l1,.int 0 0]},g,d,tk,os⟩) l2 ys:=let ⟨o,e,r⟩:=hl2;⟨o,bj _ e,r⟩
  wp_walk using iter_tuple hL1,iter_tuple hL2
  exact⟨_,rfl,h⟩
theorem zt_all(h:az)(l1 l2:Addr):(zt5 h l1 l2).objs.size=h.objs.size+5/\(zt4 h l1 l2).objs.size=h.objs.size+4/\dl (zt5 h l1 l2) (h.objs.size+4) (h.objs.size+2) (h.objs.size+3) h.objs.size (h.objs.size+1) l1 l2 0/\
 (∀c o,h.get? c=some o->(zt5 h l1 l2).get? c=some o):=by
 have z1:(zt1 h l1).objs.size=h.objs.size+1:=iE ..
 have z2:(zt2 h l1 l2).objs.size=h.objs.size+2:=by rw[iE,z1]
 have z3:(zt3 h l1 l2).objs.size=h.objs.size+3:=by rw[iE,z2]
 have z4:(zt4 h l1 l2).objs.size=h.objs.size+4:=by rw[iE,z3]
 have z5:(zt5 h l1 l2).objs.size=h.objs.size+5:=by rw[iE,z4]
 have g5:(zt5 h l1 l2).get? (zt4 h l1 l2).objs.size=some _:=bQ _ rfl
 have g4:(zt5 h l1 l2).get? (zt3 h l1 l2).objs.size=some _:=bj _ (bQ _ rfl)
 have g3:(zt5 h l1 l2).get? (zt2 h l1 l2).objs.size=some _:=bj _ (bj _ (bQ _ rfl))
 have g2:(zt5 h l1 l2).get? (zt1 h l1).objs.size=some _:=bj _ (bj _ (bj _ (bQ _ rfl)))
 have g1:(zt5 h l1 l2).get? h.objs.size=some _:=bj _ (bj _ (bj _ (bj _ (bQ _ rfl))))
 rw[z2,z3,z4]at g5
 rw[z1,z2]at g3
 rw[z3]at g4
 rw[z1]at g2
 exact⟨z5,z4,⟨⟨_,_,⟨.inl rfl,false,rfl⟩,g5⟩,g3,⟨_,_,g4⟩,⟨_,g1,rfl,rfl⟩,⟨_,g2,rfl,rfl⟩⟩,fun c o e=>bj _ (bj _ (bj _ (bj _ (bj _ e))))⟩
theorem C7{prog:aQ}{w:aH}{A:bm}{E:ac->ah->Prop}{s:ah}{l1 l2:Addr}{xs ys:Array ac}{Q:ac->ah->Prop}(h1:cw s.heap l1 xs)(h2:cw s.heap l2 ys)
 (h:Q (.ref (s.heap.objs.size+4)) { s with heap:=zt5 s.heap l1 l2}):wpAny (model prog w) A (call (.type "zip") [.ref l1,.ref l2]) Q E s:=by
 refine qJ F.called_zip (by decide) (F.typeCall_zip_2 _ _) (F.newCall_zip_2 _ _) (fun obj=>F.args_object_init_3 obj _ _) F.entry_zip_new (JL l1 l2 xs ys) ⟨h1,h2,?_⟩
 obtain⟨z5,z4,zz,_⟩:=zt_all s.heap l1 l2
 show _/\_
 rw[z4]
 obtain⟨_,_,_,e⟩:=zz.z
 exact⟨⟨_,e,rfl⟩,h⟩
theorem zt_apart{n a b:Nat}(h1:a<n)(h2:b<n):ZipApart (n+4) (n+2) (n+3) n (n+1) a b:=by
 constructor<;>(show (_:Nat)≠(_:Nat);omega)
def ZL(H:Hp)(ls xs ys:List V):Prop:=ls.length=xs.length/\∀(i:Nat)(x y:V),xs[i]?=some x->ys[i]?=some y->∃p,ls[i]?=some (.ref p)/\H p=some (.tup [x,y])
theorem ZL.snoc{H H':Hp}{ls xs ys:List V}{x y:V}{p:Addr}(h:ZL H ls xs ys)(hl:xs.length=ys.length)(k:∀q us,H q=some (.tup us)->H' q=some (.tup us))(hp:H' p=some (.tup [x,y])):ZL H' (ls++[.ref p]) (xs++[x]) (ys++[y]):=by
 refine⟨by simp[h.1],fun i u v hu hv=>?_⟩
 by_cases c:i<xs.length
 ·rw[kh c]at hu
  rw[kh (by omega)]at hv
  obtain⟨q,e1,e2⟩:=h.2 i u v hu hv
  exact⟨q,by rw[kh (by have:=h.1;omega)];exact e1,k _ _ e2⟩
 ·have hi:i=xs.length:=by
   have:=(bI.mp hu).1
   simp at this
   omega
  subst hi
  rw[mX (aE _)]at hu
  rw[hl,mX (aE _)]at hv
  simp at hu hv
  subst hu hv
  refine⟨p,?_,hp⟩
  rw[<-h.1,mX (aE _)]
  simp
section
variable{X:Cx}{pins:List (Addr×aG)}{σ:L2.St}
theorem z_inv{s:ah}{H:Hp}{z TI TO i1 i2 a b:Addr}{k:Nat}{x y:V}{u v:ac}{h':az}(I:Inv X pins σ H s)(hf:∀c∈[z,TI,TO,i1,i2],dM X pins H c)(hz:dl s.heap z TI TO i1 i2 a b k)(ru:aW x u)(rv:aW y v)(q:tN s z TI TO i1 i2 a b k u v h'):
 Inv X pins σ (ad H s.heap.objs.size (.tup [x,y])) { s with heap:=h'}/\(∀c∈[z,TI,TO,i1,i2],dM X pins (ad H s.heap.objs.size (.tup [x,y])) c)/\H s.heap.objs.size=none:=by
 obtain⟨hz',hp,hsz,hk⟩:=q
 have J:Inv X pins σ (ad H s.heap.objs.size (.tup [x,y])) { s with heap:=s.heap.push { cls:= .type "tuple",data:= .seq #[u,v]}}:=
  I.laid (t':=s.toks) (fun b u e=>bj _ e) (aE _) ⟨by show 2<=sizeLine;decide,[u,v],.cons ru (.cons rv .nil),⟨_,bQ _ rfl,rfl,_,rfl⟩⟩
 have lt:∀c∈[z,TI,TO,i1,i2],c<s.heap.objs.size:=fun c hc=>by
  simp only[bo,eL,or_false]at hc
  rcases hc with rfl|rfl|rfl|rfl|rfl
  ·exact let ⟨_,_,_,e⟩:=hz.z;bn e
  ·exact bn hz.ti
  ·exact let ⟨_,_,e⟩:=hz.to;bn e
  ·exact let ⟨_,e,_⟩:=hz.i1;bn e
  ·exact let ⟨_,e,_⟩:=hz.i2;bn e
 have hf':∀c∈[z,TI,TO,i1,i2],dM X pins (ad H s.heap.objs.size (.tup [x,y])) c:=fun c hc=>⟨by rw[am (dg (lt c hc))];exact(hf c hc).1,(hf c hc).2⟩
 refine⟨?_,hf',I.fresh⟩
 refine L2.Inv.turnedL (s:={ s with heap:=s.heap.push { cls:= .type "tuple",data:= .seq #[u,v]}}) (t':=s.toks) (ch:=[z,TI,TO,i1,i2]) J (fun c o hc e=>?_) hf'
 simp only[bo,eL,or_false,not_or]at hc
 by_cases ec:c=s.heap.objs.size
 ·subst ec
  rw[bQ _ rfl]at e
  cases e
  exact hp
 ·rw[qS _ _ _ ec]at e
  exact hk c o hc.1 hc.2.2.1 hc.2.2.2.1 hc.2.2.2.2 e
theorem JM{z TI TO i1 i2 a b S:Addr}{xs ys:List V}{A:bm}{R:Result->ah->Prop}{res:ac}(D:ZipApart z TI TO i1 i2 a b)(hh:A.handled=none)(hl:xs.length=ys.length)(hsz:xs.length<=sizeLine)(hS:S∉[z,TI,TO,i1,i2]):
 ∀(k i:Nat)(s:ah)(H:Hp)(ls:List V),xs.length - i=k->i<=xs.length->Inv X pins σ H s->dl s.heap z TI TO i1 i2 a b i->H a=some (.tup xs)->H b=some (.tup ys)->H S=some (.lst ls)->ZL H ls (xs.take i) (ys.take i)->(∀c∈[z,TI,TO,i1,i2],dM X pins H c)->
  (∀s' H' ls',Inv X pins σ H' s'->(∀c o,c≠S->H c=some o->H' c=some o)->H' S=some (.lst ls')->ZL H' ls' xs ys->R (.ok (.ret res)) s')->
  codeAny (model X.prog X.w) A (.builtin "list.extend.loop" ⟨[.ref S,.ref z,res],[]⟩) R s:=by
 intro k
 induction k with
 |zero=>
  intro i s H ls hk hi I hz ha hb hSl hZ hf hR
  have hin:i=xs.length:=by omega
  subst hin
  obtain⟨its1,rv1,p1,_⟩:=I.tuple (aj.of ha)
  have l1:=rv1.length
  refine ya yX ?_
  rw[zE u6 _]
  show wpAny _ A.in1 (pyNext (ac.ref z) >>= _) _ _ s
  refine ag (z_pnone hh D hz p1 (by simp;omega) fun h' hk'=>aP ?_)
  rw[qW,hl,qW]at hZ
  refine hR _ H ls ?_ (fun _ _ _ e=>e) hSl hZ
  refine L2.Inv.turnedL (t':=s.toks) (ch:=[z,TI,TO,i1,i2]) I (fun c o hc e=>?_) hf
  simp only[bo,eL,or_false,not_or]at hc
  exact hk' c o hc.1 hc.2.2.2.1 e
 |succ k ih=>
  intro i s H ls hk hi I hz ha hb hSl hZ hf hR
  have hlt:i<xs.length:=by omega
  obtain⟨its1,rv1,p1,_⟩:=I.tuple (aj.of ha)
  obtain⟨its2,rv2,p2,_⟩:=I.tuple (aj.of hb)
  have hx:xs[i]?=some xs[i]:=zGE hlt
  have hy:ys[i]?=some (ys[i]'(by omega)):=zGE (by omega)
  obtain⟨u,hu,ru⟩:=rv1.get hx
  obtain⟨v,hv,rv⟩:=rv2.get hy
  refine ya yX ?_
  rw[zE u6 _]
  show wpAny _ A.in1 (pyNext (ac.ref z) >>= _) _ _ s
  refine ag (z_pn D hz p1 p2 (x:=u) (y:=v) (by simpa using hu) (by simpa using hv) fun h' q=>?_)
  obtain⟨J,hf',hfr⟩:=z_inv I hf hz ru rv q
  generalize hT:s.heap.objs.size=T at J hf' hfr q
  have nST:S≠T:=aF hSl hfr
  have gS:ad H T (.tup [xs[i],ys[i]'(by omega)]) S=some (.lst ls):=by rw[am nST];exact hSl
  obtain⟨zS,its,n,rS,hlS,eS⟩:=J.lstM gS
  have hls:=hZ.1
  rw[zLT]at hls
  show wpAny _ A.in1 (updateSeq S (·.push (ac.ref T)) >>= _) _ _ _
  refine ag ?_
  have J3:=J.lset (its':=its++[ac.ref T]) (ys:=ls++[.ref T]) (f:=(·.push (ac.ref T))) (t':=s.toks) gS eS (by simp) (rS.append (.cons (show aW (V.ref T) (ac.ref T)from rfl) .nil)) (by rw[zLA,yw];omega)
  refine lA eS rfl (aP ⟨qK u6 _,ih (i+1) _ _ (ls++[.ref T]) (by omega) hlt J3 ?_ ?_ ?_ au ?_ (fun c hc=>?_) fun s' H' ls' I' hk' g1 g2=>?_⟩) (by rw[bX];omega) (by show (its.toArray.push (ac.ref T)).size<=sizeLine+1;rw[Array.size_push,bX];omega)
  ·exact q.1.keep fun c hc o e=>(jz _ _ (fun y:S=c=>hS (y▸hc))).trans e
  ·rw[am (by rintro rfl;rw[ha]at hSl;cases hSl),am (aF ha hfr)]
   exact ha
  ·rw[am (by rintro rfl;rw[hb]at hSl;cases hSl),am (aF hb hfr)]
   exact hb
  ·rw[zTS hlt,zTS (by omega:i<ys.length)]
   refine hZ.snoc (by rw[zLT,zLT];omega) (fun r us e=>?_) ?_
   ·rw[am (by rintro rfl;rw[e]at hSl;cases hSl),am (aF e hfr)]
    exact e
   ·rw[am nST.symm,au]
  ·have nc:c≠S:=fun y=>hS (y▸hc)
   exact⟨by rw[am nc];exact(hf' c hc).1,(hf' c hc).2⟩
  ·refine hR s' H' ls' I' (fun c o hc e=>hk' c o hc ?_) g1 g2
   rw[am hc,am (aF e hfr)]
   exact e
theorem zip_nolen:typeLookup (.type "zip") "__len__"=pure none:=by rw[hG,hJ];kernel_rfl
theorem zip_nohint:typeLookup (.type "zip") "__length_hint__"=pure none:=by rw[hG,hJ];kernel_rfl
theorem z_hint{prog:aQ}{w:aH}{A:bm}{E:ac->ah->Prop}{s:ah}{z:Addr}{Q:Bool->ah->Prop}(hT:s.TypeIs (.ref z) "zip")(h:Q true s):wpAny (model prog w) A (ni (.ref z)) Q E s:=by
 unfold ni
 refine ag (fN hT zip_nolen ?_)
 show wpAny _ _ (specialOf (ac.ref z) (bL "__length_hint__") >>= _) _ _ _
 exact ag (fN hT zip_nohint (aP h))
def JN(K:aA)(ta:TA):TE:=fun σ H Q=>ta σ H fun vs H1=>∃a b xs ys,vs=[.ref a,.ref b]/\H1 a=some (.tup xs)/\H1 b=some (.tup ys)/\xs.length=ys.length/\∀l ls H2,av H1 H2->H1 l=none->H2 l=some (.lst ls)->ZL H2 ls xs ys->Q (.ref l) H2
theorem JO{s:ah}{H:Hp}{z TI TO i1 i2 a b:Addr}{xs ys:List V}{Q:VK}(hc:X.calm=true)(D:ZipApart z TI TO i1 i2 a b)(I:Inv X pins σ H s)(hz:dl s.heap z TI TO i1 i2 a b 0)(hf:∀c∈[z,TI,TO,i1,i2],dM X pins H c)(ha:H a=some (.tup xs))(hb:H b=some (.tup ys))(hl:xs.length=ys.length)
 (q:∀l ls H2,av H H2->H l=none->H2 l=some (.lst ls)->ZL H2 ls xs ys->Q (.ref l) H2):wpAny (model X.prog X.w) X.A (call (.type "list") [.ref z]) (EP X pins σ Q) X.xe s:=by
 have hsz:xs.length<=sizeLine:=(I.tuple (aj.of ha)).choose_spec.2.2
 have lt:∀c∈[z,TI,TO,i1,i2],c<s.heap.objs.size:=fun c hc=>by
  simp only[bo,eL,or_false]at hc
  rcases hc with rfl|rfl|rfl|rfl|rfl
  ·exact let ⟨_,_,_,e⟩:=hz.z;bn e
  ·exact bn hz.ti
  ·exact let ⟨_,_,e⟩:=hz.to;bn e
  ·exact let ⟨_,e,_⟩:=hz.i1;bn e
  ·exact let ⟨_,e,_⟩:=hz.i2;bn e
 refine callType_codes (Q₁:=fun obj s₁=>obj= .ref s.heap.objs.size/\s₁={ s with heap:=s.heap.push { cls:= .type "list",data:= .seq #[]}}) yS (yT _) yU (code_list_new _ ⟨rfl,rfl⟩) fun obj s₁ g=>?_
 obtain⟨rfl,rfl⟩:=g
 have J:Inv X pins σ (ad H s.heap.objs.size (.lst [])) { s with heap:=s.heap.push { cls:= .type "list",data:= .seq #[]}}:=I.lnew (ys:=[]) (its:=[]) (t':=s.toks) .nil (cQ _)
 have hfr:=I.fresh
 have zJ:dl (s.heap.push { cls:= .type "list",data:= .seq #[]}) z TI TO i1 i2 a b 0:=hz.keep fun c _ o e=>bj _ e
 have fJ:∀c∈[z,TI,TO,i1,i2],dM X pins (ad H s.heap.objs.size (.lst [])) c:=fun c hc=>⟨by rw[am (dg (lt c hc))];exact(hf c hc).1,(hf c hc).2⟩
 have gS:(s.heap.push { cls:= .type "list",data:= .seq #[]}).get? s.heap.objs.size=some { cls:= .type "list",data:= .seq #[]}:=bQ _ rfl
 refine⟨⟨_,gS,rfl⟩,yV _ _,?_⟩
 have nS:s.heap.objs.size∉[z,TI,TO,i1,i2]:=fun y=>j8 _ (lt _ y)
 generalize hS:s.heap.objs.size=S at J fJ gS hfr nS
 generalize hh1:s.heap.push { cls:= .type "list",data:= .seq #[]}=h1 at J zJ gS
 show wpAny _ _ (do let old <-rF (.ref S);zx (.ref S) (fun _=>#[]);letGo old.toList.reverse;lM (.ref S) (.ref z) .none) _ _ _
 refine ag ?_
 unfold rF
 refine ag (jv gS rfl (aP ?_))
 show wpAny _ _ (updateSeq S (fun _=>#[]) >>= fun _=>letGo (#[]:Array ac).toList.reverse >>= fun _=>lM (.ref S) (.ref z) .none) _ _ _
 refine ag (lA gS rfl ?_)
 have J2:=J.lset (its:=[]) (its':=[]) (ys:=[]) (n:=0) (f:=fun _=>(#[]:Array ac)) (t':=s.toks) au gS rfl .nil (cQ _)
 rw[rM]at J2
 have g2:=iF (eB (fun _=>(#[]:Array ac))) gS rfl
 have z2:dl (h1.update S (eB (fun _=>(#[]:Array ac)))) z TI TO i1 i2 a b 0:=zJ.keep fun c hc o e=>(jz _ _ (fun y:S=c=>nS (y▸hc))).trans e
 generalize h1.update S (eB (fun _=>(#[]:Array ac)))=h2 at J2 g2 z2
 refine ag (oS ?_)
 unfold lM
 have hT:ah.TypeIs { s with heap:=h2} (.ref z) "zip":=let ⟨_,_,_,e⟩:=z2.z;⟨_,e,rfl⟩
 refine ag (uj (T:="zip") hT ?_)
 have nz:S≠z:=fun y=>nS (y▸by simp)
 have e1:rE (.ref S) (.ref z)=false:=by simp[rE,nz]
 have e2:(ac.type "zip"==ac.type "list")=false:=by decide
 have e3:(ac.type "zip"==ac.type "tuple")=false:=by decide
 simp only[e1,e2,e3,rq,iI,if_false]
 refine ag (z_self z2 ?_)
 refine ag (iU (z_hint hT ?_))
 simp only[Bool.true_or,if_true]
 refine ag (iW (ag ?_))
 show wpAny _ _ (updateSeq S (·.push .none) >>= fun _=>updateSeq S (·.pop)) _ _ _
 refine ag (lA g2 rfl ?_)
 have J3:=J2.lset (its:=[]) (its':=[.none]) (ys:=[.non]) (n:=_) (f:=(·.push ac.none)) (t':=s.toks) au g2 rfl (.cons rfl .nil) (by show 1<=sizeLine;decide)
 rw[rM]at J3
 have g3:=iF (eB (·.push ac.none)) g2 rfl
 have z3:dl (h2.update S (eB (·.push ac.none))) z TI TO i1 i2 a b 0:=z2.keep fun c hc o e=>(jz _ _ (fun y:S=c=>nS (y▸hc))).trans e
 generalize h2.update S (eB (·.push ac.none))=h3 at J3 g3 z3
 refine lA (hz:=by seq_fits) g3 rfl ?_
 have J4:=J3.lset (its:=[.none]) (its':=[]) (ys:=[]) (n:=_) (f:=(·.pop)) (t':=s.toks) au g3 rfl .nil (cQ _)
 rw[rM]at J4
 have z4:dl (h3.update S (eB (·.pop))) z TI TO i1 i2 a b 0:=z3.keep fun c hc o e=>(jz _ _ (fun y:S=c=>nS (y▸hc))).trans e
 generalize h3.update S (eB (·.pop))=h4 at J4 z4
 refine aP ⟨qK u5 _,JM (A:=X.A.in1) (S:=S) (xs:=xs) (ys:=ys) D (show X.A.in1.handled=none from I.ok.hd hc) hl hsz nS xs.length 0 _ _ [] (by omega) (cQ _) J4 z4 ?_ ?_ au ⟨rfl,fun i x y e=>by simp at e⟩ fJ fun s' H' ls' I' hk g1 g2=>?_⟩
 ·rw[am (aF ha hfr)];exact ha
 ·rw[am (aF hb hfr)];exact hb
 ·refine⟨rfl,.ref S,H',I',rfl,q S ls' H' (fun c o e=>hk c o (aF e hfr) ?_) hfr g1 g2⟩
  rw[am (aF e hfr)]
  exact e
theorem JP{a b:Expr}{ta:TA}{p p' pos pos':Pos}(hm:X.mg "list"=none)(hm':X.mg "zip"=none)(h:PA X [a,b] ta)(hc:X.calm=true:=by rfl)(hg:Gl X "list":=by rfl)(hg':Gl X "zip":=by rfl)
 (h1:starEach [.Call (.Name "zip" p') [a,b] [] pos'] X.env=[(false,eval (.Call (.Name "zip" p') [a,b] [] pos') X.env)]:=by rfl) (hs:starEach [a,b] X.env=[(false,eval a X.env),(false,eval b X.env)]:=by rfl) (hs2:starEach [b] X.env=[(false,eval b X.env)]:=by rfl):
 PE X (.Call (.Name "list" p) [.Call (.Name "zip" p') [a,b] [] pos'] [] pos) (JN X.K ta):=by
 intro pins s σ H Q I hw
 refine Call_ (fq I hg hm kR (gg ?_ h1 rfl))
 rw[h1]
 refine ia ?_
 refine Call_ (fq I hg' hm' B7 (gg (aK (h pos' pins s σ H _ I hw) fun us s1 ⟨vs,H1,I1,r1,q1⟩=>?_) (by rw[hs,hs2]) (by rw[hs2];rfl)))
 obtain⟨l1,l2,xs,ys,e,ha,hb,hl,q⟩:=q1
 subst e
 obtain⟨u,u',rfl,ru,ru'⟩:=vH r1
 cases ru
 cases ru'
 obtain⟨its1,rv1,p1,_⟩:=I1.tuple (aj.of ha)
 obtain⟨its2,rv2,p2,_⟩:=I1.tuple (aj.of hb)
 have lt1:@LT.lt Nat _ l1 s1.heap.objs.size:=let ⟨o,ho,_⟩:=p1;bn ho
 have lt2:@LT.lt Nat _ l2 s1.heap.objs.size:=let ⟨o,ho,_⟩:=p2;bn ho
 refine C7 p1 p2 (iJ ?_)
 obtain⟨z5,z4,zz,zk⟩:=zt_all s1.heap l1 l2
 have I2:Inv X pins σ H1 { s1 with heap:=zt5 s1.heap l1 l2}:=I1.kept (t':=s1.toks) zk
 refine JO (z:=s1.heap.objs.size+4) (s:={ s1 with heap:=zt5 s1.heap l1 l2}) hc (zt_apart lt1 lt2) I2 zz (fun c hc=>?_) ha hb hl q
 have hc':s1.heap.objs.size<=c:=by
  simp only[bo,eL,or_false]at hc
  rcases hc with rfl|rfl|rfl|rfl|rfl<;>first|exact aE _|exact yn _ _
 exact I1.fpOk hc' (I1.hok.fresh hc')
end
end BF
namespace K09
open PySem L2 BF
theorem bP{x:V}{xs:List V}:dU (x::xs) (0:Int)=some x:=eO (j:=0) rfl
theorem bW{x y:V}{xs:List V}:dU (x::y::xs) (1:Int)=some y:=eO (j:=1) rfl
section
variable{P:aQ}{w:aH}{K:aA}{mg:aa->Option ac}{base:az}
def dm:Tm->List Dt
 |.num n=>[.str "number",.int n]
 |.name w=>[.str "name",.str w]
 |.blank w=>[.str "blank",.str w]
 |.thing w ps=>[.str "thing",.str w,.int ps.length]
def wS(t u:Tm):Prop:=cV t=false/\cV u=false/\dm t≠dm u
theorem JQ{t u:Tm}(h:cb t=false\/cb u=false):dm t≠dm u↔t≠u:=by
 cases t<;>cases u<;>simp[dm,cb,kJ,jM,kK,jN,kL,kM,kN,kO,ma,kP,md,kQ]at h |-
theorem JR{w v:aa}{ps qs:List Tm}:dm (.thing w ps)≠dm (.thing v qs)↔(w≠v\/ps.length≠qs.length):=by
 simp only[dm,ne_eq,jG,Dt.str.injEq,Dt.int.injEq,true_and,and_true,Int.natCast_inj]
 exact Classical.not_and_iff_not_or_not
inductive C8(vs:List V)(H:Hp)(Q:VK):Prop
 |mk:∀(v:V)(t:Tm),(vs=[v])->(ay H v t)->(∀x H',av H H'->aV H' x (.tup (dm t))->Q x H')->C8 vs H Q
def tO:Sp:=fun vs H Q _=>C8 vs H Q
theorem JS{f:Addr}{fd:be}(F:bB K "head" "head" nQ f fd)(T:Bi mg):bf P w K mg base bp 1 f fd ["term"] tO:=by
 refine F.ok Jq (fun vs H Q E h=>?_) (fun cdv A outer s H vs Q E hr h=>?_)
 ·obtain⟨_,_,rfl,_⟩:=h
  rfl
 obtain⟨v,t,rfl,ht,q⟩:=h
 refine⟨_,(al (aZ (aU cf (ao aw (pv 0) ai (fun _ _=>rfl)) aS (aT _)) (aq (aM (bO (ae aS (ae (ao aw (pv 0) ai (fun _ _=>rfl)) (ae (ca dk T.b_len cU (ae (ao aw (pv 0) ai (fun _ _=>rfl)) af)) af)))))) bg)
  (aq (aM (pv 0)))),?_⟩
 cases t with
 |num n=>
  obtain⟨a1,e0,e1⟩:=fF.mp ht
  subst e0
  exact⟨_,rfl,_,_,_,_,rfl,rfl,aj.of e1,rfl,rfl,_,rfl,bc (by decide +kernel) ⟨_,rfl,q _ H (av.refl _) ht⟩⟩
 |name n=>
  obtain⟨a1,e0,e1⟩:=eP.mp ht
  subst e0
  exact⟨_,rfl,_,_,_,_,rfl,rfl,aj.of e1,rfl,rfl,_,rfl,bc (by decide +kernel) ⟨_,rfl,q _ H (av.refl _) ht⟩⟩
 |blank n=>
  obtain⟨a1,e0,e1⟩:=dN.mp ht
  subst e0
  exact⟨_,rfl,_,_,_,_,rfl,rfl,aj.of e1,rfl,rfl,_,rfl,bc (by decide +kernel) ⟨_,rfl,q _ H (av.refl _) ht⟩⟩
 |thing n ps=>
  obtain⟨a1,b1,us1,e0,e1,g1,k1⟩:=dF.mp ht
  subst e0
  have l1:=k1.len
  refine⟨_,rfl,_,_,_,_,rfl,rfl,aj.of e1,rfl,rfl,_,rfl,cK (by decide +kernel) ⟨_,rfl,_,_,_,_,rfl,rfl,aj.of e1,rfl,_,rfl,_,_,_,_,rfl,rfl,aj.of e1,rfl,b1,us1,rfl,.inr (aj.of g1),(by show 3<=sizeLine;decide),fun g fg=>?_⟩⟩
  refine q _ _ (bG fg _) ?_
  simp only[dm,aV,bU]
  exact⟨g,_,rfl,au,_,_,rfl,rfl,_,_,rfl,rfl,_,_,rfl,by rw[l1],rfl⟩
theorem C9(t:Tm):(Dt.tup (dm t)).dep<=4:=by
 cases t<;>simp[dm,Dt.dep,d8]
def eV(H:Hp)(us:List V)(ps:List Ln):Prop:=Paired (fun x p=>∃g a b,x= .ref g/\H g=some (.tup [a,b])/\ay H a p.1/\ay H b p.2) us ps
theorem eV.mono{H H':Hp}{us:List V}{ps:List Ln}(k:aR H H')(h:eV H us ps):eV H' us ps:=
 ml (fun _ _ ⟨g,a,b,e,h1,h2,h3⟩=>⟨g,a,b,e,k _ _ h1,h2.mono k,h3.mono k⟩) h
theorem eV.snoc{H:Hp}:∀{us:List V}{u:V}{ds:List Ln}{d:Ln},eV H (us++[u]) (ds++[d])->eV H us ds/\∃g a b,u= .ref g/\H g=some (.tup [a,b])/\ay H a d.1/\ay H b d.2
 |[],_,[],_,.cons h .nil=>⟨.nil,h⟩
 |[],_,_::[],_,.cons _ r=>nomatch r
 |[],_,_::_::_,_,.cons _ r=>nomatch r
 |_::[],_,[],_,.cons _ r=>nomatch r
 |_::_::_,_,[],_,.cons _ r=>nomatch r
 |_::_,_,_::_,_,.cons h r=>let ⟨a,b⟩:=eV.snoc r;⟨.cons h a,b⟩
theorem eV.app{H:Hp}{us vs:List V}{ps qs:List Ln}(h:eV H us ps)(h':eV H vs qs):eV H (us++vs) (ps++qs):=by
 unfold eV at h h' |-
 induction h with
 |nil=>exact h'
 |cons a _ ih=>exact .cons a ih
theorem wT{t u:Tm}(h:dm t=dm u):t=u\/∃w ps qs,t= .thing w ps/\u= .thing w qs/\ps.length=qs.length:=by
 by_cases c:cb t=false\/cb u=false
 ·exact .inl (ic fun z=>(JQ c).mpr z h)
 ·cases t<;>cases u<;>simp[cb]at c
  rename_i w ps v qs
  have:¬(w≠v\/ps.length≠qs.length):=fun z=>JR.mpr z h
  have hw:w=v:=ic fun z=>this (.inl z)
  have hl:ps.length=qs.length:=ic fun z=>this (.inr z)
  subst hw
  exact .inr ⟨w,ps,qs,rfl,rfl,hl⟩
theorem Da{ps qs:List Tm}(hl:ps.length=qs.length):ps=qs↔∀z∈ps.zip qs,z.1=z.2:=by
 induction ps generalizing qs with
 |nil=>cases qs<;>simp at hl |-
 |cons p r ih=>
  cases qs with
  |nil=>simp at hl
  |cons q s=>
   simp only[zLC,yk]at hl
   simp only[jG,yC,bo,forall_eq_or_imp,ih hl]
theorem Db{α β:Type}{F:α->β->Prop}:∀{l:List α}{m:List β},l.length=m.length->(∀(i:Nat)(h1:i<l.length)(h2:i<m.length),F l[i] m[i])->Paired F l m
 |[],[],_,_=>.nil
 |_::_,_::_,hl,h=>.cons (h 0 (by simp) (by simp)) (Db (by simpa using hl) fun i h1 h2=>h (i+1) (by simpa using h1) (by simpa using h2))
 |[],_::_,hl,_=>by simp at hl
 |_::_,[],hl,_=>by simp at hl
theorem ZL.prs{H:Hp}{ls xs ys:List V}{ts us:List Tm}(h:ZL H ls xs ys)(h1:aN H xs ts)(h2:aN H ys us)(hl:ts.length=us.length):eV H ls (ts.zip us):=by
 have l1:=h1.len
 have l2:=h2.len
 refine Db (by rw[m5,h.1,l1];omega) fun i h3 h4=>?_
 have hi:i<xs.length:=by have:=h.1;omega
 obtain⟨p,e1,e2⟩:=h.2 i _ _ (zGE hi) (zGE (by omega))
 rw[zGE h3]at e1
 refine⟨p,_,_,cv e1,e2,?_,?_⟩
 ·rw[pe]
  exact h1.at i hi (by omega)
 ·rw[pe]
  exact h2.at i (by omega) (by omega)
inductive Dc(vs:List V)(H:Hp)(Q:VK):Prop
 |mk:∀(v v':V)(t u:Tm),(vs=[v,v'])->(ay H v t)->(ay H v' u)->(t.nodes<=30000)->(∀(b:Bool) H',av H H'->(b=true↔t=u)->Q (.bl b) H')->Dc vs H Q
def wU:Sp:=fun vs H Q _=>Dc vs H Q
theorem JT{f:Addr}{fd:be}(F:bB K "same" "same" nR f fd)(T:Bi mg)(TZ:mg "zip"=none)(c_head:aO P w K mg base 1 "head" ["term"] tO):bf P w K mg base bp 2 f fd ["one","other"] wU:=by
 refine F.ok wK (fun vs H Q E h=>?_) (fun cdv A outer s H vs Q E hr h=>?_)
 ·obtain⟨_,_,_,_,rfl,_⟩:=h
  rfl
 obtain⟨v,v',t,u,rfl,ht,hu,hn,q⟩:=h
 have hun:=hr.un
 refine⟨_,(al (aB (i:=2) wK.nd rfl (Or.inl rfl) (bR (ae (bO (ae (pv 0) (ae (pv 1) af))) af)))
  (al (ig cx (ny (pv 2) (fun _=>rfl)) (al (aB (i:=3) wK.nd rfl (Or.inl rfl) (kF bY kl km kH (pv 2)))
        (al (aZ (aU sr (a0 c_head (hr.mono (by decide)) (ae (ao aw (pv 3) ai (fun _ _=>rfl)) af)) (a0 c_head (hr.mono (by decide)) (ae (ao aw (pv 3) ai (fun _ _=>rfl)) af)) (aT _)) (aq (aM dq)) bg)
        (aq (aZ (aU cf (ao aw (ao aw (pv 3) ai (fun _ _=>rfl)) ai (fun _ _=>rfl)) aS (aT _)) (aq (cj (cp bY pj pk pG (pv 2) (ae (JP T.b_list TZ (ae (ao aw (ao aw (pv 3) ai (fun _ _=>rfl)) ai (fun _ _=>rfl)) (ae (ao aw (ao aw (pv 3) ai (fun _ _=>rfl)) ai (fun _ _=>rfl)) af))) af)))) bg)))))
  (aq (aM dq)))),?_⟩
 refine⟨_,rfl,_,rfl,(by show 2<=sizeLine;decide),fun g0 hg0=>?_⟩
 generalize e_:ad H g0 (HO.tup [v,v'])=H1
 obtain⟨s1,x1⟩:=aI hg0 e_
 refine⟨(by show 1<=sizeLine;decide),fun p hp1=>?_⟩
 have hp:H p=none:=s1.free hp1
 have s2:=bG hp1 (HO.lst [.ref g0])
 refine⟨fun m σ H3=>∃(o:Option V)(us:List V)(ps:List Ln),σ=[some v,some v',some (.ref p),o]/\av H H3/\H3 p=some (.lst us)/\eV H3 us ps/\aJ (ps.map (·.1))=m/\m<=t.nodes/\((∀z∈ps,z.1=z.2)↔t=u),
  ⟨_,none,[.ref g0],[(t,u)],rfl,s1.trans s2,au,.cons ⟨g0,v,v',rfl,s2 _ _ x1,ht.mono (.of (s1.trans s2)),hu.mono (.of (s1.trans s2))⟩ .nil,rfl,by simp[aJ],by simp⟩,?_⟩
 rintro m σ H3 ⟨o,us,ps,rfl,s3,g2,hps,hm,hmt,hiff⟩
 refine⟨_,rfl,_,.inl ⟨us,ak.of g2,rfl⟩,bE (fun c=>⟨_,fun _ _ h=>h,?_⟩) (fun c=>?_)⟩
 ·have hne:us≠[]:=by intro z;rw[z]at c;exact absurd c (by decide)
  have hlen:=Paired.length hps
  obtain⟨us0,x,rfl⟩:=iw hne
  obtain⟨ps0,⟨t1,u1⟩,rfl⟩:=iw (l:=ps) (by intro z;rw[z]at hlen;simp at hlen)
  obtain⟨h0,g,a,b,rfl,hg,ha,hb⟩:=hps.snoc
  rw[zMA,gM]at hm
  simp only[bM,i0,aJ]at hm
  have hn1:=t1.nodes_pos
  refine⟨_,rfl,.inl ⟨rfl,_,ak.of g2⟩,p,_,.ref g,rfl,rfl,g2,by simp,?_⟩
  rw[lF]
  have k4:aR H3 (ad H3 p (HO.lst us0)):= .lst g2
  have x4:ad H3 p (HO.lst us0) p=some _:=au
  have s4:av H (ad H3 p (HO.lst us0)):=fun b ob z=>by rw[am (aF z hp)];exact s3 _ _ z
  generalize ad H3 p (HO.lst us0)=H4 at k4 x4 s4 |-
  have hg4:=k4 _ _ hg
  have ha4:=ha.mono k4
  have hb4:=hb.mono k4
  have h04:=h0.mono k4
  refine⟨_,rfl,_,_,_,_,rfl,rfl,aj.of hg4,bP,_,t1,rfl,ha4,fun y1 H5 s5 d1=>?_⟩
  refine⟨_,rfl,_,_,_,_,rfl,rfl,aj.of (s5 _ _ hg4),bW,_,u1,rfl,hb4.mono (.of s5),fun y2 H6 s6 d2=>?_⟩
  have hdd:=C9 t1
  refine⟨dm t1,dm u1,d1.same s6,d2,(by show (A.deeper _).units+_<cLine;omega),fun b hb'=>⟨_,rfl,bE (fun c2=>?_) (fun c2=>?_)⟩⟩
  ·refine q false H6 (s4.trans (s5.trans s6)) ⟨fun z=>(by cases z),fun z=>?_⟩
   have:=hiff.mpr z (t1,u1) (by simp)
   exact absurd (congrArg dm this) (hb'.mp c2)
  ·have s46:=s5.trans s6
   have heq:dm t1=dm u1:=ic fun z=>c2 (hb'.mpr z)
   have ha6:=ha4.mono (.of s46)
   have hb6:=hb4.mono (.of s46)
   have x6:=s46 _ _ x4
   have hg6:=s46 _ _ hg4
   have h06:=h04.mono (.of s46)
   have s6':=s4.trans s46
   obtain⟨a1,xs1,kk,rfl,f1,_,hT1⟩:=ha6.kind
   refine⟨_,rfl,_,_,_,_,rfl,rfl,aj.of hg6,bP,_,_,_,_,rfl,rfl,aj.of f1,bP,rfl,_,rfl,bE (fun c3=>?_) (fun c3=>?_)⟩
   ·have c1:cb t1=true:=hT1.mp (by simpa using c3)
    obtain⟨w1,ps1,qs1,e1,e2,hl⟩:∃w ps qs,t1= .thing w ps/\u1= .thing w qs/\ps.length=qs.length:=by
     rcases wT heq with z|z
     ·subst z
      cases t1 with
      |num _=>cases c1
      |name _=>cases c1
      |blank _=>cases c1
      |thing w ps=>exact⟨w,ps,ps,rfl,rfl,rfl⟩
     ·exact z
    subst e1 e2
    obtain⟨b1,d1',us1,e1,j1,g1,m1⟩:=dF.mp ha6
    obtain⟨b2,d2',us2,e2,j2,g2',m2⟩:=dF.mp hb6
    cases e1
    subst e2
    have l1:=m1.len
    have l2:=m2.len
    have hpn:=gq ps1
    simp only[Tm.nodes]at hm
    have hlen0:us0.length<=aJ (ps0.map (·.1)):=by
     have:=Paired.length h06
     have:=gq (ps0.map (·.1))
     rw[zLM]at this
     omega
    refine⟨_,rfl,.inl ⟨rfl,_,ak.of x6⟩,_,rfl,_,_,_,_,rfl,rfl,aj.of hg6,bP,_,_,_,_,rfl,rfl,aj.of j1,rfl,_,rfl,_,_,_,_,rfl,rfl,aj.of hg6,bW,_,_,_,_,rfl,rfl,aj.of j2,rfl,d1',d2',us1,us2,rfl,g1,g2',by omega,fun l ls H7 s7 fl x7 hzl=>?_⟩
    refine⟨p,l,us0,ls,rfl,rfl,s7 _ _ x6,x7,d9 (by have:=hzl.1;omega),?_⟩
    have k8:aR H7 (ad H7 p (HO.lst (us0++ls))):= .lst (s7 _ _ x6)
    refine⟨aJ ((ps0++ps1.zip qs1).map (·.1)),?_,_,us0++ls,ps0++ps1.zip qs1,rfl,fun b' ob z=>by rw[am (aF z hp)];exact s7 _ _ (s6' _ _ z),au,(eV.app (h06.mono (.of s7)) (ZL.prs hzl (m1.mono (.of s7)) (m2.mono (.of s7)) hl)).mono k8,rfl,?_,?_⟩
    ·rw[zMA,gM,uU (by omega)]
     omega
    ·rw[zMA,gM,uU (by omega)]
     omega
    ·rw[<-hiff]
     constructor
     ·intro hz z hz'
      rcases br.mp hz' with y|y
      ·exact hz z (eu _ y)
      ·cases bx.mp y
       show Tm.thing w1 ps1= .thing w1 qs1
       rw[(Da hl).mpr fun z hz'=>hz z (d6 _ hz')]
     ·intro hz z hz'
      rcases br.mp hz' with y|y
      ·exact hz z (eu _ y)
      ·have:=hz (.thing w1 ps1,.thing w1 qs1) (by simp)
       exact(Da hl).mp (Tm.thing.inj this).2 z y
   ·have c1:cb t1=false:=h9.mpr fun z=>c3 (by simpa using hT1.mpr z)
    have e0:t1=u1:=by
     rcases wT heq with z|⟨_,_,_,z,_⟩
     ·exact z
     ·rw[z]at c1;cases c1
    refine⟨aJ (ps0.map (·.1)),by omega,_,us0,ps0,rfl,s6',x6,h06,rfl,by omega,?_⟩
    rw[<-hiff]
    constructor
    ·intro hz z hz'
     rcases br.mp hz' with y|y
     ·exact hz z y
     ·cases bx.mp y
      exact e0
    ·intro hz z hz'
     exact hz z (eu _ hz')
 ·have e:us=[]:=by
   cases us with
   |nil=>rfl
   |cons a b=>exact absurd rfl c
  subst e
  have hlen:=Paired.length hps
  have e:ps=[]:=jb.mp hlen.symm
  subst e
  exact q true H3 s3 ⟨fun _=>hiff.mp fun z hz=>(by cases hz),fun _=>rfl⟩
end
section
variable{P:aQ}{w:aH}{K:aA}{mg:aa->Option ac}{base:az}
inductive De(vs:List V)(H:Hp)(Q:VK):Prop
 |mk:∀(v:V)(t:Tm),(vs=[v])->(ay H v t)->(t.Ok)->((∀x ps,t≠ .thing x ps))->(∀x:aa,x.cps.toList=t.line->Q (.str x) H)->De vs H Q
def wV:Sp:=fun vs H Q _=>De vs H Q
theorem JU{f:Addr}{fd:be}(F:bB K "shown_leaf" "shown_leaf" nW f fd)(T:Bi mg):bf P w K mg base bp 1 f fd ["term"] wV:=by
 refine F.ok Js (fun vs H Q E h=>?_) (fun cdv A outer s H vs Q E hr h=>?_)
 ·obtain⟨v,t,rfl,_⟩:=h
  rfl
 obtain⟨v,t,rfl,ht,hok,hno,q⟩:=h
 refine⟨_,(al (aZ (aU cf (ao aw (pv 0) ai (fun _ _=>rfl)) aS (aT _)) (aq (aM (jm FH T.b_str nG (ae (ao aw (pv 0) ai (fun _ _=>rfl)) af)))) bg)
  (al (aZ (aU cf (ao aw (pv 0) ai (fun _ _=>rfl)) aS (aT _)) (aq (aM (aY kz aS (ao aw (pv 0) ai (fun _ _=>rfl))))) bg)
  (aq (aM (ao aw (pv 0) ai (fun _ _=>rfl)))))),?_⟩
 cases t with
 |thing x ps=>exact absurd rfl (hno x ps)
 |num n=>
  obtain⟨a,rfl,h1⟩:=fF.mp ht
  refine⟨_,rfl,_,_,_,_,rfl,rfl,aj.of h1,rfl,rfl,_,rfl,cK (by decide +kernel) ?_⟩
  refine⟨_,rfl,_,_,_,_,rfl,rfl,aj.of h1,rfl,n,rfl,HL hok,?_⟩
  exact q _ rfl
 |name x=>
  obtain⟨a,rfl,h1⟩:=eP.mp ht
  refine⟨_,rfl,_,_,_,_,rfl,rfl,aj.of h1,rfl,rfl,_,rfl,bc (by decide +kernel) ?_⟩
  refine⟨_,rfl,_,_,_,_,rfl,rfl,aj.of h1,rfl,rfl,_,rfl,bc (by decide +kernel) ?_⟩
  refine⟨_,rfl,_,_,_,_,rfl,rfl,aj.of h1,rfl,?_⟩
  exact q _ rfl
 |blank x=>
  obtain⟨a,rfl,h1⟩:=dN.mp ht
  refine⟨_,rfl,_,_,_,_,rfl,rfl,aj.of h1,rfl,rfl,_,rfl,bc (by decide +kernel) ?_⟩
  refine⟨_,rfl,_,_,_,_,rfl,rfl,aj.of h1,rfl,rfl,_,rfl,cK (by decide +kernel) ?_⟩
  simp only[Tm.Ok]at hok
  refine⟨_,rfl,_,_,_,_,rfl,rfl,aj.of h1,rfl,_,_,rfl,rfl,?_,?_⟩
  ·rw[eQ,eQ,Bj]
   have:=hok.2.1
   exact d9 (by simp only[zLC,zLN];omega)
  ·exact q _ (by rw[fG,Bj];simp only[Tm.line,eA,iH])
inductive Df(vs:List V)(H:Hp)(Q:VK):Prop
 |mk:∀(p b:Addr)(us pv:List V)(t:Tm)(ts:List Tm),(vs=[.ref p,.ref b])->(H p=some (.lst us))->(H b=some (.tup pv))->(aN H pv (t::ts))->(us.length+2 * pv.length<=5000)->(∀(ws:List V)(H':Hp),(∀c o,H c=some o->c≠p->H' c=some o)->H' p=some (.lst (us++ws))->dr H' ws (jO t ts)->Q .non H')->Df vs H Q
def wW(K:aA):Sp:=fun vs H Q _=>Df vs H Q
theorem JV{f:Addr}{fd:be}(F:bB K "push_parts" "push_parts" nV f fd)(T:Bi mg):bf P w K mg base bp 1 f fd ["coming","parts"] (wW K):=by
 refine F.ok CY (fun vs H Q E h=>?_) (fun cdv A outer s H vs Q E hr h=>?_)
 ·obtain⟨p,b,us,pv,t,ts,rfl,_⟩:=h
  rfl
 obtain⟨p,b,us,pv,t,ts,rfl,hp,hb,ht,hlen,q⟩:=h
 have hpl:=ht.len
 obtain⟨v0,rv,rfl⟩:∃v0 rv,pv=v0::rv:=by
  cases pv with
  |nil=>simp at hpl
  |cons a r=>exact⟨a,r,rfl⟩
 simp only[zLC]at hpl hlen
 have npb:b≠p:=ce hb hp (by intro z;cases z)
 have htt:ay H v0 t/\aN H rv ts:=by
  have h:=ht
  simp only[aN,dE,bU]at h
  obtain⟨v,us',e,h1,h2⟩:=h
  cases e
  exact⟨h1,h2⟩
 refine⟨_,(al (cj (cp bY cX cY cT (pv 0) (ae aS af)))
  (al (dR cx rfl (HG rfl T.b_reversed (ae (gn Gq (pv 1) (fT ai) gI) af)) (cz (i:=2) CY.nd rfl (Or.inl rfl)) (al (cj (cp bY cX cY cT (pv 0) (ae (pv 2) af)))
        (aq (cj (cp bY cX cY cT (pv 0) (ae aS af))))))
  (aq (cj (cp bY cX cY cT (pv 0) (ae (ao aw (pv 1) ai (fun _ _=>rfl)) af)))))),?_⟩
 refine⟨_,rfl,.inl ⟨rfl,_,ak.of hp⟩,p,us,_,rfl,rfl,hp,big (by omega),?_⟩
 have k1:aR H (ad H p (HO.lst (us++[.str ")"]))):= .lst hp
 have x1:ad H p (HO.lst (us++[.str ")"])) p=some _:=au
 have y1:∀c o,H c=some o->c≠p->ad H p (HO.lst (us++[.str ")"])) c=some o:=fun c o e n=>by rw[am n];exact e
 have z1:∀c,c≠p->ad H p (HO.lst (us++[.str ")"])) c=H c:=fun c n=>am n
 generalize ad H p (HO.lst (us++[.str ")"]))=H1 at k1 x1 y1 z1 |-
 refine⟨_,rfl,_,rfl,b,_,rfl,aj.of (y1 _ _ hb npb),?_,fun sl hsl=>?_⟩
 ·rintro⟨z,_⟩
  have es:HT.sIx (v0::rv).length 0 (some 1)=min 1 (v0::rv).length:=HT.sIx_nat _ _ 1
  rw[es]at z
  simp only[zLC]at z
  omega
 have ecut:d7 (v0::rv) (some 1) none=rv:=by
  rw[qi _ _ (by decide) (by simp only[zLC];omega)]
  rfl
 rw[ecut]
 generalize e_:ad H1 sl (HO.tup rv)=H2
 obtain⟨s2,x2⟩:=aI hsl e_
 refine⟨sl,rv,rfl,aj.of x2,HH (K:=K) (a:=sl) (xs:=rv) (fun i σ H3=>∃(ws:List V)(o:Option V),σ=[some (.ref p),some (.ref b),o]/\(∀c o,H2 c=some o->c≠p->H3 c=some o)/\H3 p=some (.lst (us++ws))/\
  dr H3 ws ([Pc.sg ")"]++(ts.reverse.take i).flatMap fun u=>[Pc.tm u,Pc.sg ","]))
  ⟨[.str ")"],none,rfl,fun c o e _=>e,s2 _ _ x1,.cons rfl .nil⟩ (fun i σ H3 _ ⟨_,_,_,kp,_,_⟩=>aj.of (kp _ _ x2 (ce x2 (s2 _ _ x1) (by intro z;cases z)))) ?_ ?_⟩
 ·rintro i x σ H3 hi ⟨ws,o,rfl,kp,hp3,hw⟩
  have hit:i<rv.reverse.length:=(bI.mp hi).1
  rw[cR]at hit
  have hwl:=hw.len
  have hfl:∀l:List Tm,(l.flatMap fun u=>[Pc.tm u,Pc.sg ","]).length=2 * l.length:=fun l=>by
   induction l with
   |nil=>rfl
   |cons a r ih=>simp only[o0,zLA,zLC,zLN,ih];omega
  rw[zLA,hfl,zLT,cR]at hwl
  simp only[zLC,zLN]at hwl
  have k3:aR H H3:=fun c xs e=>kp _ _ (s2 _ _ (k1 _ _ e)) (ce e hp (by intro z;cases z))
  have tl:ts.length=rv.length:=by omega
  have tlr:i<ts.reverse.length:=by rw[cR];omega
  have hx:ay H3 x ts.reverse[i]:=by
   rw[oZ hit]at hi
   have h1:rv.length - 1 - i<rv.length:=by omega
   rw[zGE h1]at hi
   cases hi
   rw[yF]
   have:=htt.2.at (rv.length - 1 - i) h1 (by omega)
   have e:ts.length - 1 - i=rv.length - 1 - i:=by omega
   simp only[e]
   exact this.mono k3
  refine⟨_,rfl,.inl ⟨rfl,_,ak.of hp3⟩,_,rfl,p,_,_,rfl,rfl,hp3,big (by rw[zLA];omega),?_⟩
  refine⟨_,rfl,.inl ⟨rfl,_,ak.of au⟩,p,_,_,rfl,rfl,au,big (by rw[zLA,zLA];simp only[zLC,zLN];omega),?_⟩
  rw[rM]
  have k4:aR H3 (ad H3 p (HO.lst (us++ws++[x]++[.str ","]))):= .lst hp3
  refine⟨ws++[x]++[.str ","],_,rfl,fun c o e n=>by rw[am n];exact kp c o e n,by rw[au];simp only[dL],?_⟩
  have e:(ts.reverse.take (i+1)).flatMap (fun u=>[Pc.tm u,Pc.sg ","])=(ts.reverse.take i).flatMap (fun u=>[Pc.tm u,Pc.sg ","])++[Pc.tm ts.reverse[i]]++[Pc.sg ","]:=by
   rw[zTS (by rw[cR];omega),mZ]
   simp
  rw[e,<-dL,<-dL]
  exact dr.app (dr.app (dr.mono k4 hw) (.cons (ay.mono k4 hx) .nil)) (.cons rfl .nil)
 ·rintro σ H3 ⟨ws,o,rfl,kp,hp3,hw⟩
  have hwl:=hw.len
  have hfl:∀l:List Tm,(l.flatMap fun u=>[Pc.tm u,Pc.sg ","]).length=2 * l.length:=fun l=>by
   induction l with
   |nil=>rfl
   |cons a r ih=>simp only[o0,zLA,zLC,zLN,ih];omega
  rw[zLA,hfl,zLT,cR]at hwl
  simp only[zLC,zLN]at hwl
  have k3:aR H H3:=fun c xs e=>kp _ _ (s2 _ _ (k1 _ _ e)) (ce e hp (by intro z;cases z))
  have hb3:H3 b=some (.tup (v0::rv)):=k3 _ _ hb
  refine⟨_,rfl,.inl ⟨rfl,_,ak.of hp3⟩,_,rfl,_,_,_,_,rfl,rfl,aj.of hb3,eO (j:=0) rfl,p,_,_,rfl,rfl,hp3,big (by rw[zLA];omega),?_⟩
  have k4:aR H3 (ad H3 p (HO.lst (us++ws++[v0]))):= .lst hp3
  refine q (ws++[v0]) _ (fun c o e n=>by rw[am n];exact kp c o (s2 _ _ (y1 c o e n)) n) (by rw[au,dL]) ?_
  have e:ts.reverse.take rv.length=ts.reverse:=dD (by rw[cR];omega)
  rw[e]at hw
  exact dr.app (dr.mono k4 hw) (.cons (ay.mono k4 (htt.1.mono k3)) .nil)
inductive Dg(vs:List V)(H:Hp)(Q:VK):Prop
 |mk:∀(v:V)(t:Tm),(vs=[v])->(ay H v t)->(t.Ok)->(t.nodes<=300)->(∀(x:aa)(H':Hp),av H H'->x.cps.toList=t.line->Q (.str x) H')->Dg vs H Q
def tP:Sp:=fun vs H Q _=>Dg vs H Q
theorem JW{f:Addr}{fd:be}(F:bB K "shown" "shown" nU f fd)(T:Bi mg)(c_shown_leaf:aO P w K mg base 1 "shown_leaf" ["term"] wV)(c_push_parts:aO P w K mg base 1 "push_parts" ["coming","parts"] (wW K)):
 bf P w K mg base bp 2 f fd ["term"] tP:=by
 refine F.ok tz (fun vs H Q E h=>?_) (fun cdv A outer s H vs Q E hr h=>?_)
 ·obtain⟨v,t,rfl,_⟩:=h
  rfl
 obtain⟨v,t,rfl,ht,hok,hn,q⟩:=h
 have hll:=Tm.line_len t hok
 refine⟨_,(al (aB (i:=1) tz.nd rfl (Or.inl rfl) (bR af))
  (al (aB (i:=2) tz.nd rfl (Or.inl rfl) (bR (ae (pv 0) af)))
  (al (ig cx (ny (pv 2) (fun _=>rfl)) (al (aB (i:=3) tz.nd rfl (Or.inl rfl) (kF bY kl km kH (pv 2)))
        (aq (aZ (dX (ca ir T.b_isinstance iu (ae (pv 3) (ae (ix T.b_str nG) af)))) (aq (cj (cp bY cX cY cT (pv 1) (ae (pv 3) af)))) (aq (aZ (aU cf (ao aw (pv 3) ai (fun _ _=>rfl)) aS (aT _)) (al (cj (cp bY cX cY cT (pv 1) (ae (aY kz (ao aw (pv 3) ai (fun _ _=>rfl)) aS) af)))
         (aq (cj (a0 c_push_parts (hr.mono (by decide)) (ae (pv 2) (ae (ao aw (pv 3) ai (fun _ _=>rfl)) af)))))) (aq (cj (cp bY cX cY cT (pv 1) (ae (a0 c_shown_leaf (hr.mono (by decide)) (ae (pv 3) af)) af))))))))))
  (aq (aM (cp yY yZ y8 Bv aS (ae (pv 1) af))))))),?_⟩
 refine⟨(by show 0<=sizeLine;decide),fun p1 hp1=>?_⟩
 generalize e_:ad H p1 (HO.lst [])=H1
 obtain⟨s1,x1⟩:=aI hp1 e_
 refine⟨_,rfl,(by show 1<=sizeLine;decide),fun p2 hp2=>?_⟩
 have s2:=bG hp2 (HO.lst [v])
 have x2:ad H1 p2 (HO.lst [v]) p2=some _:=au
 have n12:p1≠p2:=aF x1 hp2
 have f2:H p2=none:=s1.free hp2
 have k2:aR H1 (ad H1 p2 (HO.lst [v])):= .new hp2
 generalize ad H1 p2 (HO.lst [v])=H2 at s2 x2 k2 |-
 refine⟨fun m σ H3=>∃(o:Option V)(xs:List aa)(us:List V)(l:List Pc),σ=[some v,some (.ref p1),some (.ref p2),o]/\av H H3/\H3 p1=some (.lst (xs.map V.str))/\H3 p2=some (.lst us)/\dr H3 us l/\(∀c∈l,jl c)/\
  eD l=m/\fV xs++fU l=t.line/\xs.length+m<=3 * t.nodes,
  ⟨_,none,[],[v],[Pc.tm t],rfl,s1.trans s2,s2 _ _ x1,x2,.cons (ht.mono (.of (s1.trans s2))) .nil,by simpa[jl]using hok,rfl,by simp[fV,fU,Pc.out],by simp[eD,Pc.wt]⟩,?_⟩
 rintro m σ H3 ⟨o,xs,us,l,rfl,s3,g1,g2,hus,hpo,hm,hout,hsz⟩
 refine⟨_,rfl,_,.inl ⟨us,ak.of g2,rfl⟩,bE (fun c=>⟨_,fun _ _ h=>h,?_⟩) (fun c=>?_)⟩
 ·
  have hne:us≠[]:=by intro z;rw[z]at c;exact absurd c (by decide)
  have hlen:=hus.len
  obtain⟨us0,u,rfl⟩:=iw hne
  obtain⟨l0,pc,rfl⟩:=iw (l:=l) (by intro z;rw[z]at hlen;simp at hlen)
  obtain⟨h0,hu⟩:=hus.snoc
  have hpo0:∀c∈l0,jl c:=fun c hc=>hpo c (by simp[hc])
  have hpc:jl pc:=hpo pc (by simp)
  rw[sk]at hm
  rw[vW]at hout
  have hl0:=Bd l0
  have hu0:=h0.len
  refine⟨_,rfl,.inl ⟨rfl,_,ak.of g2⟩,p2,_,u,rfl,rfl,g2,by simp,?_⟩
  rw[lF]
  have k4:aR H3 (ad H3 p2 (HO.lst us0)):= .lst g2
  have x4:ad H3 p2 (HO.lst us0) p2=some _:=au
  have y4:ad H3 p2 (HO.lst us0) p1=some (.lst (xs.map V.str)):=by rw[am n12];exact g1
  have s4:av H (ad H3 p2 (HO.lst us0)):=fun b ob z=>by rw[am (aF z f2)];exact s3 _ _ z
  generalize ad H3 p2 (HO.lst us0)=H4 at k4 x4 y4 s4 |-
  have h4:=h0.mono k4
  have hxl:(xs.map V.str).length=xs.length:=zLM _
  have put:∀(D:cZ)(z:aa)(l':List Pc)(us':List V)(H5:Hp),av H H5->H5 p1=some (.lst (xs.map V.str))->H5 p2=some (.lst us')->dr H5 us' l'->(∀c∈l',jl c)->eD l'<m->fV xs++z.cps.toList++fU l'=t.line->
        D.nx=(fun σ' H'=>∃m',m'<m/\∃(o:Option V)(xs:List aa)(us:List V)(l:List Pc),σ'=[some v,some (.ref p1),some (.ref p2),o]/\av H H'/\H' p1=some (.lst (xs.map V.str))/\H' p2=some (.lst us)/\dr H' us l/\(∀c∈l,jl c)/\
         eD l=m'/\fV xs++fU l=t.line/\xs.length+m'<=3 * t.nodes)->
        AT (.ref p1) [.str z] H5 (fun _ H1=>D.nx [some v,some (.ref p1),some (.ref p2),some u] H1):=fun D z l' us' H5 s5 e1 e2 hp' ho' hw' hf' hD=>by
   refine⟨p1,_,_,rfl,rfl,e1,big (by rw[hxl];omega),?_⟩
   rw[hD]
   have k6:aR H5 (ad H5 p1 (HO.lst (xs.map V.str++[.str z]))):= .lst e1
   refine⟨eD l',hw',some u,xs++[z],us',l',rfl,fun b ob q'=>by rw[am (aF q' hp1)];exact s5 _ _ q',by rw[au,zMA];rfl,by rw[am n12.symm];exact e2,hp'.mono k6,ho',rfl,?_,?_⟩
   ·rw[BL];exact hf'
   ·rw[zLA];simp only[zLC,zLN];omega
  cases pc with
  |sg x=>
   cases (show u=V.str x from hu)
   refine⟨_,rfl,_,_,_,_,rfl,.str _,.ss,_,rfl,jg ?_⟩
   refine⟨_,rfl,.inl ⟨rfl,_,ak.of y4⟩,_,rfl,?_⟩
   exact put _ x l0 us0 H4 s4 y4 x4 h4 hpo0 (by simp only[Pc.wt]at hm;omega) (by simpa[Pc.out,dL]using hout) rfl
  |tm t1=>
   have ht1:ay H4 u t1:=ay.mono k4 hu
   have n1:=t1.nodes_pos
   have hwt:(Pc.tm t1).wt=3 * t1.nodes - 1:=rfl
   have leafc:∀a vs,u= .ref a->H4 a=some (.tup vs)->(∀x ps,t1≠ .thing x ps)->vs[0]?≠none->True:=fun _ _ _ _ _ _=>trivial
   cases t1 with
   |thing x ps=>
    obtain⟨a,b,pv,rfl,e1,e2,e3⟩:=dF.mp ht1
    simp only[jl,Tm.Ok]at hpc
    obtain⟨hx,hps,hop⟩:=hpc
    have hpl:=e3.len
    have hpn:=gq ps
    simp only[Tm.nodes]at hwt
    rw[hwt]at hm
    obtain⟨t0,ts,rfl⟩:∃t0 ts,ps=t0::ts:=by
     cases ps with
     |nil=>exact absurd rfl hps
     |cons t0 ts=>exact⟨t0,ts,rfl⟩
    refine⟨_,rfl,_,_,_,_,rfl,.tup e1,.ts,_,rfl,cg ?_⟩
    refine⟨_,rfl,_,_,_,_,rfl,rfl,aj.of e1,rfl,rfl,_,rfl,cK (by decide +kernel) ?_⟩
    have hxb:x.length+(bL "(").length<=sizeLine:=by
     rw[eQ,eQ,Bh];have:=hx.2.1;exact d9 (by simp only[zLC,zLN];omega)
    refine⟨_,rfl,.inl ⟨rfl,_,ak.of y4⟩,_,rfl,_,_,_,_,rfl,rfl,aj.of e1,rfl,_,_,rfl,rfl,hxb,p1,_,_,rfl,rfl,y4,big (by rw[hxl];omega),?_⟩
    have k6:aR H4 (ad H4 p1 (HO.lst (xs.map V.str++[.str (x++"(")]))):= .lst y4
    have x6:ad H4 p1 (HO.lst (xs.map V.str++[.str (x++"(")])) p1=some _:=au
    have y6:ad H4 p1 (HO.lst (xs.map V.str++[.str (x++"(")])) p2=some (.lst us0):=by rw[am n12.symm];exact x4
    have s6:av H (ad H4 p1 (HO.lst (xs.map V.str++[.str (x++"(")]))):=fun b ob z=>by rw[am (aF z hp1)];exact s4 _ _ z
    generalize ad H4 p1 (HO.lst (xs.map V.str++[.str (x++"(")]))=H6 at k6 x6 y6 s6 |-
    refine⟨_,rfl,_,rfl,_,_,_,_,rfl,rfl,aj.of (k6 _ _ e1),rfl,p2,b,us0,pv,t0,ts,rfl,y6,k6 _ _ e2,e3.mono k6,by omega,fun ws H7 kp x7 hw=>?_⟩
    have k7:aR H6 H7:=fun c zs e=>kp _ _ e (ce e y6 (by intro z;cases z))
    have w7:=He t0 ts
    refine⟨eD (l0++jO t0 ts),?_,_,xs++[x++"("],us0++ws,l0++jO t0 ts,rfl,fun c ob z=>kp _ _ (s6 _ _ z) (aF z f2),?_,x7,dr.app ((h4.mono k6).mono k7) hw,?_,rfl,?_,?_⟩
    ·rw[vX,w7];omega
    ·rw[zMA];exact kp _ _ x6 n12
    ·intro c hc
     rcases br.mp hc with hc|hc
     ·exact hpo0 c hc
     ·exact HN hop c hc
    ·rw[BL,vY,Hc,fG,Bh]
     have e:(Pc.tm (Tm.thing x (t0::ts))).out=x.cps.toList++40::(nF (t0::ts)++[41]):=by simp only[Pc.out,Tm.line]
     rw[e]at hout
     simpa[dL]using hout
    ·rw[zLA,vX,w7];simp only[zLC,zLN];omega
   |num n=>
    obtain⟨a,rfl,e1⟩:=fF.mp ht1
    refine⟨_,rfl,_,_,_,_,rfl,.tup e1,.ts,_,rfl,cg ?_⟩
    refine⟨_,rfl,_,_,_,_,rfl,rfl,aj.of e1,rfl,rfl,_,rfl,bc (by decide +kernel) ?_⟩
    refine⟨_,rfl,.inl ⟨rfl,_,ak.of y4⟩,_,rfl,_,_,rfl,ht1,hpc,(fun _ _ z=>nomatch z),fun z hz=>?_⟩
    exact put _ z l0 us0 H4 s4 y4 x4 h4 hpo0 (by rw[hwt]at hm;simp only[Tm.nodes]at hm;omega) (by rw[hz];simpa[Pc.out,dL]using hout) rfl
   |name n=>
    obtain⟨a,rfl,e1⟩:=eP.mp ht1
    refine⟨_,rfl,_,_,_,_,rfl,.tup e1,.ts,_,rfl,cg ?_⟩
    refine⟨_,rfl,_,_,_,_,rfl,rfl,aj.of e1,rfl,rfl,_,rfl,bc (by decide +kernel) ?_⟩
    refine⟨_,rfl,.inl ⟨rfl,_,ak.of y4⟩,_,rfl,_,_,rfl,ht1,hpc,(fun _ _ z=>nomatch z),fun z hz=>?_⟩
    exact put _ z l0 us0 H4 s4 y4 x4 h4 hpo0 (by rw[hwt]at hm;simp only[Tm.nodes]at hm;omega) (by rw[hz];simpa[Pc.out,dL]using hout) rfl
   |blank n=>
    obtain⟨a,rfl,e1⟩:=dN.mp ht1
    refine⟨_,rfl,_,_,_,_,rfl,.tup e1,.ts,_,rfl,cg ?_⟩
    refine⟨_,rfl,_,_,_,_,rfl,rfl,aj.of e1,rfl,rfl,_,rfl,bc (by decide +kernel) ?_⟩
    refine⟨_,rfl,.inl ⟨rfl,_,ak.of y4⟩,_,rfl,_,_,rfl,ht1,hpc,(fun _ _ z=>nomatch z),fun z hz=>?_⟩
    exact put _ z l0 us0 H4 s4 y4 x4 h4 hpo0 (by rw[hwt]at hm;simp only[Tm.nodes]at hm;omega) (by rw[hz];simpa[Pc.out,dL]using hout) rfl
 ·have hnil:us=[]:=by
   cases us with
   |nil=>rfl
   |cons a r=>exact absurd rfl c
  subst hnil
  have hl0:l=[]:=by
   have:=hus.len
   exact jb.mp this.symm
  subst hl0
  have hfl:fV xs=t.line:=by simpa[fU]using hout
  refine⟨rfl,_,rfl,p1,xs,rfl,rfl,g1,?_,?_⟩
  ·rw[<-BM,hfl];omega
  ·exact q _ _ s3 (by rw[BN,hfl])
end
end K09
namespace BF
open PySem PySem.Spec PyProof.Rows L2
open Sem (wp)
section
variable{prog:aQ}{w:aH}{A:bm}{E:ac->ah->Prop}{s:ah}{z TI TO i1 i2 a b e:Addr}{k:Nat}{xs ys:Array ac}{x y old:ac}
structure Dh(s:ah)(e z TI TO i1 i2 a b:Addr)(k:Nat)(x y:ac)(h':az):Prop where
 en:IsEnumOut h' e z ((k:Int)+1) (.ref s.heap.objs.size) (s.heap.objs.size+1)
 zz:dl h' z TI TO i1 i2 a b (k+1)
 pr:IsPair h' s.heap.objs.size x y
 tp:h'.get? (s.heap.objs.size+1)=some { cls:= .type "tuple",data:= .seq #[.int k s.toks,.ref s.heap.objs.size]}
 kp:∀c o,c∉[e,z,TI,TO,i1,i2]->s.heap.get? c=some o->h'.get? c=some o
theorem JX{Q:ac->ah->Prop}(D:ZipApart z TI TO i1 i2 a b)(he:IsEnum s.heap e z k old)(hne:e∉[z,TI,TO,i1,i2])(hz:dl s.heap z TI TO i1 i2 a b k)(t1:cw s.heap a xs)(t2:cw s.heap b ys)(hx:xs[k]?=some x)(hy:ys[k]?=some y)
 (hQ:∀h',Dh s e z TI TO i1 i2 a b k x y h'->Q (.ref (s.heap.objs.size+1)) { s with heap:=h',toks:=s.toks+1}):
 wpAny (model prog w) A (dc.«enumerate.__next__» ⟨[.ref e],[]⟩) (fun fin s'=>∃v,fin= .done (.ret v)/\Q v s') E s:=by
 obtain⟨hp,g,d,tk,os⟩:=s
 simp only[bo,eL,or_false,not_or]at hne
 obtain⟨n1,n2,n3,n4,n5⟩:=hne
 have hel:e<hp.objs.size:=bn he
 show wpAny _ _ (field (ac.ref e) 2 >>= _) _ _ _
 refine ag (cn he rfl (x:=ac.ref z) rfl (ag (z_draw D hz t1 t2 hx hy fun g1 q1=>?_)))
 obtain⟨zz1,pr1,sz1,kp1⟩:=q1
 have pr1:IsPair g1 hp.objs.size x y:=pr1
 have sz1:g1.objs.size=hp.objs.size+1:=sz1
 have kp1:∀c o,c≠z->c≠TO->c≠i1->c≠i2->hp.get? c=some o->g1.get? c=some o:=kp1
 have e1:IsEnum g1 e z k old:=kp1 _ _ n1 n3 n4 n5 he
 have base:∀c∈[z,TI,TO,i1,i2],c≠e:=fun c hc y=>by
  subst y
  simp only[bo,eL,or_false]at hc
  rcases hc with y|y|y|y|y<;>contradiction
 show wpAny _ _ (field (ac.ref e) 3 >>= _) _ _ ⟨g1,g,d,tk,os⟩
 refine ag (cn e1 rfl (x:=rawInt k) rfl ?_)
 show wpAny _ _ (field (ac.ref e) 4 >>= _) _ _ ⟨g1,g,d,tk,os⟩
 refine ag (cn e1 rfl (x:=ac.none) rfl ?_)
 show wpAny _ _ (mkInt k >>= _) _ _ ⟨g1,g,d,tk,os⟩
 refine ag (oR ?_)
 show wpAny _ _ (setField (ac.ref e) 3 (rawInt ((k:Int)+1)) >>= _) _ _ ⟨g1,g,d,tk+1,os⟩
 refine ag (iC e1 (by simp) fun g2 e2 s2=>?_)
 replace s2:gf e g1 g2:=s2
 replace e2:IsEnum g2 e z ((k:Int)+1) old:=e2
 show wpAny _ _ (setField (ac.ref e) 4 ac.none >>= _) _ _ ⟨g2,g,d,tk+1,os⟩
 refine ag (iC e2 (by simp) fun g3 e3 s3=>?_)
 replace s3:gf e g2 g3:=s3
 replace e3:IsEnum g3 e z ((k:Int)+1) old:=e3
 show wpAny _ _ (newTuple [ac.int k tk,ac.ref hp.objs.size] >>= _) _ _ ⟨g3,g,d,tk+1,os⟩
 refine ag (uv ?_)
 have sz3:g3.objs.size=hp.objs.size+1:=by rw[s3.1,s2.1,sz1]
 have up3:∀c o,c≠e->g1.get? c=some o->g3.get? c=some o:=fun c o hc q=>s3.extBut _ _ hc (s2.extBut _ _ hc q)
 have e4:IsEnum (g3.push { cls:= .type "tuple",data:= .seq #[.int k tk,.ref hp.objs.size]}) e z ((k:Int)+1) old:=bj _ e3
 have t4:(g3.push { cls:= .type "tuple",data:= .seq #[.int k tk,.ref hp.objs.size]}).get? (hp.objs.size+1)=some { cls:= .type "tuple",data:= .seq #[.int k tk,.ref hp.objs.size]}:=by rw[<-sz3];exact bQ _ rfl
 have up4:∀c o,c≠e->g1.get? c=some o->(g3.push { cls:= .type "tuple",data:= .seq #[.int k tk,.ref hp.objs.size]}).get? c=some o:=fun c o hc q=>bj _ (up3 c o hc q)
 show wpAny _ _ (na (ac.ref e) >>= _) _ _ ⟨g3.push { cls:= .type "tuple",data:= .seq #[.int k tk,.ref hp.objs.size]},g,d,tk+1,os⟩
 rw[sz3]
 generalize g3.push { cls:= .type "tuple",data:= .seq #[.int k tk,.ref hp.objs.size]}=g4 at e4 t4 up4
 refine ag ?_
 unfold na
 refine ag (cn e4 rfl (x:=ac.none) rfl (aP ?_))
 simp only[if_true]
 refine ag (iW (ag (cn e4 rfl (x:=old) rfl ?_)))
 refine ag (iC e4 (by simp) fun g5 e5 s5=>?_)
 replace s5:gf e g4 g5:=s5
 replace e5:IsEnum g5 e z ((k:Int)+1) (.ref hp.objs.size):=e5
 show wpAny _ _ (rB (ac.ref e) (ac.ref (hp.objs.size+1)) >>= _) _ _ ⟨g5,g,d,tk+1,os⟩
 refine ag ?_
 unfold rB
 refine ag (iC e5 (by simp) fun g6 e6 s6=>?_)
 replace s6:gf e g5 g6:=s6
 replace e6:IsEnumOut g6 e z ((k:Int)+1) (.ref hp.objs.size) (hp.objs.size+1):=e6
 refine iC e6 (by simp) fun g7 e7 s7=>?_
 replace s7:gf e g6 g7:=s7
 replace e7:IsEnumOut g7 e z ((k:Int)+1) (.ref hp.objs.size) (hp.objs.size+1):=e7
 have up7:∀c o,c≠e->g4.get? c=some o->g7.get? c=some o:=fun c o hc q=>s7.extBut _ _ hc (s6.extBut _ _ hc (s5.extBut _ _ hc q))
 refine ag (oS (aP ⟨_,rfl,hQ g7 ⟨e7,?_,?_,?_,?_⟩⟩))
 ·exact zz1.keep fun c hc o q=>up7 c o (base c hc) (up4 c o (base c hc) q)
 ·exact up7 _ _ (iX hel) (up4 _ _ (iX hel) pr1)
 ·exact up7 _ _ (by have:e<hp.objs.size+1:=uH hel;exact iX this) t4
 ·intro c o hc q
  simp only[bo,eL,or_false,not_or]at hc
  exact up7 c o hc.1 (up4 c o hc.1 (kp1 c o hc.2.1 hc.2.2.2.1 hc.2.2.2.2.1 hc.2.2.2.2.2 q))
theorem JY{Q:Option ac->ah->Prop}(D:ZipApart z TI TO i1 i2 a b)(he:IsEnum s.heap e z k old)(hne:e∉[z,TI,TO,i1,i2])(hz:dl s.heap z TI TO i1 i2 a b k)(t1:cw s.heap a xs)(t2:cw s.heap b ys)(hx:xs[k]?=some x)(hy:ys[k]?=some y)
 (hQ:∀h',Dh s e z TI TO i1 i2 a b k x y h'->Q (some (.ref (s.heap.objs.size+1))) { s with heap:=h',toks:=s.toks+1}):wpAny (model prog w) A (pyNext (.ref e)) Q E s:=by
 have hT:s.TypeIs (.ref e) "enumerate":=⟨_,he,rfl⟩
 unfold pyNext
 exact ag (hW (gv (name:=bL "__next__") hT rl (d4 rl hT y9 (JX D he hne hz t1 t2 hx hy fun h' q=>aP (hQ h' q)) (za _))))
theorem JZ{Q:Option ac->ah->Prop}(hh:A.handled=none)(D:ZipApart z TI TO i1 i2 a b)(he:IsEnum s.heap e z k old)(hz:dl s.heap z TI TO i1 i2 a b k)(t1:cw s.heap a xs)(hx:xs[k]?=none)
 (hQ:∀h',(∀c o,c≠z->c≠i1->s.heap.get? c=some o->h'.get? c=some o)->Q none { s with heap:=h'}):wpAny (model prog w) A (pyNext (.ref e)) Q E s:=by
 have hT:s.TypeIs (.ref e) "enumerate":=⟨_,he,rfl⟩
 unfold pyNext
 refine ag (hW (gv (name:=bL "__next__") hT rl (d4 rl hT y9 ?_ (za _))))
 show wpAny _ _ (field (ac.ref e) 2 >>= _) _ _ _
 refine ag (cn he rfl (x:=ac.ref z) rfl (ag (z_drawn hh D hz t1 hx fun h' x hk hx'=>?_)))
 obtain⟨o,ho,hc⟩:=hx'
 exact ag (ju (T:="StopIteration") (b:=true) ⟨o,ho,hc⟩ qH (aP (hQ _ hk)))
end
abbrev oO(z:Addr):aG:={ cls:= .type "enumerate",data:= .fields #[.none,.bool false,.ref z,rawInt 0,.none,.none]}
theorem J0(z TI TO i1 i2 a b:Addr):
 Meets (dc.«enumerate.__new__» ⟨[.type "enumerate",.ref z],[]⟩) (fun _ R s=>dl s.heap z TI TO i1 i2 a b 0/\R (.ok (.ret (.ref s.heap.objs.size))) { s with heap:=s.heap.push (oO z)}):=
 .of_wp fun prog w A R s h=>by
  obtain⟨hp,g,d,tk,os⟩:=s;obtain⟨hz,h⟩:=h
  have hsub:=sub_enumerate
  have hZ:dl (vv ⟨hp,g,d,tk,os⟩) z TI TO i1 i2 a b 0:=hz
  wp_walk
  refine wpAny_stack_any fun st=>aP ?_
  split
  ·rename_i c _ _ _ _ _
   cases (c==ac.type "enumerate")
   ·wp_walk using z_self hZ
    exact⟨_,rfl,h⟩
   ·wp_walk using z_self hZ
    exact⟨_,rfl,h⟩
  ·wp_walk using z_self hZ
   exact⟨_,rfl,h⟩
theorem J5{prog:aQ}{w:aH}{A:bm}{E:ac->ah->Prop}{s:ah}{z TI TO i1 i2 a b:Addr}{Q:ac->ah->Prop}(hz:dl s.heap z TI TO i1 i2 a b 0)(h:Q (.ref s.heap.objs.size) { s with heap:=s.heap.push (oO z)}):
 wpAny (model prog w) A (call (.type "enumerate") [.ref z]) Q E s:=by
 refine qJ F.called_enumerate (by decide) (F.typeCall_enumerate_1 _) (F.newCall_enumerate_1 _) (fun obj=>F.args_object_init_2 obj _) F.entry_enumerate_new (J0 z TI TO i1 i2 a b) ⟨hz,?_⟩
 exact⟨⟨_,bQ _ rfl,rfl⟩,h⟩
theorem J6:bootBuiltins "enumerate"=some (.type "enumerate"):=by decide +kernel
def qj(a b:Addr)(xs ys:List V):It:=
 ⟨fun i H=>H a=some (.tup xs)/\H b=some (.tup ys)/\i<xs.length/\i<ys.length,
    fun i H x H'=>∃p q u v,H p=none/\ad H p (.tup [u,v]) q=none/\x= .ref q/\xs[i]?=some u/\ys[i]?=some v/\H'=ad (ad H p (.tup [u,v])) q (.tup [.int (i:Nat),.ref p]),
    fun i H=>H a=some (.tup xs)/\xs.length<=i⟩
theorem J7{P:aQ}{w:aH}{K:aA}{elts:List Expr}{ek}{epos:Pos}(e z TI TO i1 i2 a b:Addr)(xs ys:List V)(D:ZipApart z TI TO i1 i2 a b)(hne:e∉[z,TI,TO,i1,i2]):
 jd P w K (.Tuple elts ek epos) (qj a b xs ys) [e,z,TI,TO,i1,i2] e (fun i h=>(∃old,IsEnum h e z i old)/\dl h z TI TO i1 i2 a b i) where
 mem:=by simp
 obj:=fun i h st c hc=>by
  obtain⟨⟨old,he⟩,hz⟩:=st
  simp only[bo,eL,or_false]at hc
  rcases hc with rfl|rfl|rfl|rfl|rfl|rfl
  ·exact⟨_,he,fun v e=>by cases e⟩
  ·obtain⟨_,_,_,g⟩:=hz.z
   exact⟨_,g,fun v e=>by cases e⟩
  ·exact⟨_,hz.ti,fun v e=>by cases e⟩
  ·obtain⟨_,_,g⟩:=hz.to
   exact⟨_,g,fun v e=>by cases e⟩
  ·obtain⟨_,g,_,d⟩:=hz.i1
   exact⟨_,g,fun v e=>by rw[d]at e;cases e⟩
  ·obtain⟨_,g,_,d⟩:=hz.i2
   exact⟨_,g,fun v e=>by rw[d]at e;cases e⟩
 keep:=fun i h h' st k=>by
  obtain⟨⟨old,he⟩,hz⟩:=st
  exact⟨⟨old,k e (by simp) _ he⟩,hz.keep fun c hc o q=>k c (by simp only[bo]at hc |-;exact .inr hc) o q⟩
 item:=by
  intro X hP hw hK hc i pins s σ H E I hf st hg
  subst hP hw hK
  obtain⟨ha,hb,hi1,hi2⟩:=hg
  obtain⟨⟨old,he⟩,hz⟩:=st
  obtain⟨its1,rv1,p1,_⟩:=I.tuple (aj.of ha)
  obtain⟨its2,rv2,p2,_⟩:=I.tuple (aj.of hb)
  have hx:xs[i]?=some xs[i]:=zGE hi1
  have hy:ys[i]?=some ys[i]:=zGE hi2
  obtain⟨u,hu,ru⟩:=rv1.get hx
  obtain⟨v,hv,rv⟩:=rv2.get hy
  refine JY D he hne hz p1 p2 (x:=u) (y:=v) (by simpa using hu) (by simpa using hv) fun h' q=>?_
  have lt:∀c∈[e,z,TI,TO,i1,i2],c<s.heap.objs.size:=fun c hc=>by
   simp only[bo,eL,or_false]at hc
   rcases hc with rfl|rfl|rfl|rfl|rfl|rfl
   ·exact bn he
   ·exact let ⟨_,_,_,g⟩:=hz.z;bn g
   ·exact bn hz.ti
   ·exact let ⟨_,_,g⟩:=hz.to;bn g
   ·exact let ⟨_,g,_⟩:=hz.i1;bn g
   ·exact let ⟨_,g,_⟩:=hz.i2;bn g
  have hfr:H s.heap.objs.size=none:=I.fresh
  have J:Inv X pins σ (ad H s.heap.objs.size (.tup [xs[i],ys[i]])) { s with heap:=s.heap.push { cls:= .type "tuple",data:= .seq #[u,v]},toks:=s.toks+1}:=
   I.laid (t':=s.toks+1) (fun b u e=>bj _ e) (aE _) ⟨by show 2<=sizeLine;decide,[u,v],.cons ru (.cons rv .nil),⟨_,bQ _ rfl,rfl,_,rfl⟩⟩
  have sz1:(s.heap.push { cls:= .type "tuple",data:= .seq #[u,v]}).objs.size=s.heap.objs.size+1:=iE ..
  have hfr2:ad H s.heap.objs.size (.tup [xs[i],ys[i]]) (s.heap.objs.size+1)=none:=by
   have:=J.fresh
   simp only[sz1]at this
   exact this
  have J2:Inv X pins σ (ad (ad H s.heap.objs.size (.tup [xs[i],ys[i]])) (s.heap.objs.size+1) (.tup [.int (i:Nat),.ref s.heap.objs.size])) { s with heap:=(s.heap.push { cls:= .type "tuple",data:= .seq #[u,v]}).push { cls:= .type "tuple",data:= .seq #[.int i s.toks,.ref s.heap.objs.size]},toks:=s.toks+1}:=
   J.laid (t':=s.toks+1) (fun b u e=>bj _ e) (uE sz1) ⟨by show 2<=sizeLine;decide,[.int i s.toks,.ref s.heap.objs.size],.cons ⟨_,rfl⟩ (.cons rfl .nil),⟨_,by rw[<-sz1];exact bQ _ rfl,rfl,_,rfl⟩⟩
  have hf':∀c∈[e,z,TI,TO,i1,i2],dM X pins (ad (ad H s.heap.objs.size (.tup [xs[i],ys[i]])) (s.heap.objs.size+1) (.tup [.int (i:Nat),.ref s.heap.objs.size])) c:=fun c hc=>by
   have:=lt c hc
   refine⟨?_,(hf c hc).2⟩
   rw[am (dg (uH this)),am (dg this)]
   exact(hf c hc).1
  refine⟨_,rfl,wpAny_letOwnedTupleGo_enum q.en fun h'' he'' hs''=>?_⟩
  have nin:∀c,s.heap.objs.size<=c->c≠e:=fun c hc y=>by have:=lt e (by simp);subst y;exact absurd this (Nat.not_lt.mpr hc)
  have J3:Inv X pins σ (ad (ad H s.heap.objs.size (.tup [xs[i],ys[i]])) (s.heap.objs.size+1) (.tup [.int (i:Nat),.ref s.heap.objs.size])) { s with heap:=h'',toks:=s.toks+1}:=by
   refine L2.Inv.turnedL (s:={ s with heap:=(s.heap.push { cls:= .type "tuple",data:= .seq #[u,v]}).push { cls:= .type "tuple",data:= .seq #[.int i s.toks,.ref s.heap.objs.size]},toks:=s.toks+1}) (t':=s.toks+1) (ch:=[e,z,TI,TO,i1,i2]) J2 (fun c o hc g=>?_) hf'
   have hce:c≠e:=fun y=>hc (by simp[y])
   refine(hs''.2 c hce).trans ?_
   by_cases e2:c=s.heap.objs.size+1
   ·subst e2
    have g':((s.heap.push { cls:= .type "tuple",data:= .seq #[u,v]}).push { cls:= .type "tuple",data:= .seq #[.int i s.toks,.ref s.heap.objs.size]}).get? (s.heap.push { cls:= .type "tuple",data:= .seq #[u,v]}).objs.size=some o:=by rw[sz1];exact g
    rw[bQ _ rfl]at g'
    cases g'
    exact q.tp
   ·have g1:(s.heap.push { cls:= .type "tuple",data:= .seq #[u,v]}).get? c=some o:=by
       rw[qS _ _ _ (by rw[sz1];exact e2)]at g
       exact g
    by_cases e1:c=s.heap.objs.size
    ·subst e1
     rw[bQ _ rfl]at g1
     cases g1
     exact q.pr
    ·rw[qS _ _ _ e1]at g1
     exact q.kp c o hc g1
  refine⟨.ref (s.heap.objs.size+1),_,J3,rfl,⟨s.heap.objs.size,s.heap.objs.size+1,xs[i],ys[i],hfr,hfr2,rfl,hx,hy,rfl⟩,⟨⟨_,he''⟩,?_⟩,fun c hc=>(hf' c hc).1⟩
  exact q.zz.keep fun c hc o g=>(hs''.2 c (fun y=>hne (y▸hc))).trans g
 done:=by
  intro X hP hw hK hc i pins s σ H E I hf st hg
  subst hP hw hK
  obtain⟨ha,hi⟩:=hg
  obtain⟨⟨old,he⟩,hz⟩:=st
  obtain⟨its1,rv1,p1,_⟩:=I.tuple (aj.of ha)
  have l1:=rv1.length
  refine JZ (I.ok.hd hc) D he hz p1 (by simp;omega) fun h' k=>⟨rfl,L2.Inv.turnedL (t':=s.toks) (ch:=[e,z,TI,TO,i1,i2]) I (fun c o hc g=>?_) hf⟩
  simp only[bo,eL,or_false,not_or]at hc
  exact k c o hc.2.1 hc.2.2.2.2.1 g
 self:=fun _ _ _ _ _ st h=>let ⟨_,he⟩:=st.1;yb he h
section
variable{X:Cx}{elts:List Expr}{epos:Pos}
def J8(ta:TA):TI:=fun σ H R=>ta σ H fun vs H1=>∃a b xs ys,vs=[.ref a,.ref b]/\H1 a=some (.tup xs)/\H1 b=some (.tup ys)/\R (qj a b xs ys) H1
theorem J9{a b:Expr}{ek}{ta:TA}{p p' pos pos':Pos}(hg:Gl X "enumerate")(hm:X.mg "enumerate"=none)(hg':Gl X "zip")(hm':X.mg "zip"=none)(ha:PA X [a,b] ta)
 (h1:starEach [.Call (.Name "zip" p') [a,b] [] pos'] X.env=[(false,eval (.Call (.Name "zip" p') [a,b] [] pos') X.env)]:=by rfl) (hs:starEach [a,b] X.env=[(false,eval a X.env),(false,eval b X.env)]:=by rfl) (hs2:starEach [b] X.env=[(false,eval b X.env)]:=by rfl):
 PI X (.Tuple elts ek epos) (.Call (.Name "enumerate" p) [.Call (.Name "zip" p') [a,b] [] pos'] [] pos) (J8 ta):=by
 intro pins s σ H R I h
 refine Call_ (fq I hg hm J6 (gg ?_ h1 rfl))
 rw[h1]
 refine ia ?_
 refine Call_ (fq I hg' hm' B7 (gg (aK (ha pos' pins s σ H _ I h) fun us s1 ⟨vs,H1,I1,r1,q1⟩=>?_) (by rw[hs,hs2]) (by rw[hs2];rfl)))
 obtain⟨l1,l2,xs,ys,e,ha,hb,q⟩:=q1
 subst e
 obtain⟨u,u',rfl,ru,ru'⟩:=vH r1
 cases ru
 cases ru'
 obtain⟨its1,rv1,p1,_⟩:=I1.tuple (aj.of ha)
 obtain⟨its2,rv2,p2,_⟩:=I1.tuple (aj.of hb)
 have lt1:@LT.lt Nat _ l1 s1.heap.objs.size:=let ⟨o,ho,_⟩:=p1;bn ho
 have lt2:@LT.lt Nat _ l2 s1.heap.objs.size:=let ⟨o,ho,_⟩:=p2;bn ho
 refine C7 p1 p2 (iJ ?_)
 obtain⟨z5,z4,zz,zk⟩:=zt_all s1.heap l1 l2
 have I2:Inv X pins σ H1 { s1 with heap:=zt5 s1.heap l1 l2}:=I1.kept (t':=s1.toks) zk
 refine J5 (s:={ s1 with heap:=zt5 s1.heap l1 l2}) zz ?_
 have I3:Inv X pins σ H1 { s1 with heap:=(zt5 s1.heap l1 l2).push (oO (s1.heap.objs.size+4))}:=I2.kept (t':=s1.toks) fun c o g=>bj _ g
 have gE:((zt5 s1.heap l1 l2).push (oO (s1.heap.objs.size+4))).get? (s1.heap.objs.size+5)=some (oO (s1.heap.objs.size+4)):=by rw[<-z5];exact bQ _ rfl
 show wpAny _ _ (pyIter (ac.ref (zt5 s1.heap l1 l2).objs.size)) _ _ _
 rw[z5]
 refine yb (s:={ s1 with heap:=(zt5 s1.heap l1 l2).push (oO (s1.heap.objs.size+4))}) gE ?_
 refine⟨s1.heap.objs.size+5,[s1.heap.objs.size+5,s1.heap.objs.size+4,s1.heap.objs.size+2,s1.heap.objs.size+3,s1.heap.objs.size,s1.heap.objs.size+1],_,_,H1,rfl,I3,J7 (s1.heap.objs.size+5) (s1.heap.objs.size+4) (s1.heap.objs.size+2) (s1.heap.objs.size+3) s1.heap.objs.size (s1.heap.objs.size+1) l1 l2 xs ys (zt_apart lt1 lt2) ?_,⟨⟨_,gE⟩,zz.keep fun c _ o g=>bj _ g⟩,fun c hc=>?_,q⟩
 ·generalize s1.heap.objs.size=n
  intro y
  simp only[bo,eL,or_false]at y
  rcases y with y|y|y|y|y<;>(have y':(n:Nat)+5=_:=y;omega)
 ·have hc':s1.heap.objs.size<=c:=by
   simp only[bo,eL,or_false]at hc
   rcases hc with rfl|rfl|rfl|rfl|rfl|rfl<;>first|exact aE _|exact yn _ _
  exact I1.fpOk hc' (I1.hok.fresh hc')
end
theorem Ka{a b:Addr}{xs ys:List V}{g:TG}{tb:TS}{D:cZ}{σ:L2.St}{H:Hp}(n:Nat)(h1:xs.length=n)(h2:ys.length=n)(Pv:Nat->L2.St->Hp->Prop)(h0:Pv 0 σ H)(hl:∀i σ H,i<=n->Pv i σ H->H a=some (.tup xs)/\H b=some (.tup ys))
 (hs:∀i x y p q σ H,xs[i]?=some x->ys[i]?=some y->Pv i σ H->H p=none->ad H p (.tup [x,y]) q=none->g (.ref q) σ (ad (ad H p (.tup [x,y])) q (.tup [.int (i:Nat),.ref p])) fun σ2 H2=>tb { D with nx:=Pv (i+1),ct:=Pv (i+1),bk:=D.nx} σ2 H2) (hd:∀σ H,Pv n σ H->D.nx σ H):
 ∃W:Nat->Nat->L2.St->Hp->Prop,(∃m,W 0 m σ H)/\∀i m σ H,W i m σ H->
  ((qj a b xs ys).stop i H/\D.nx σ H)\/((qj a b xs ys).go i H/\∃N:L2.St->Hp->Prop,(∀σ' H',N σ' H'->∃m',m'<m/\W (i+1) m' σ' H')/\∀x H',(qj a b xs ys).yld i H x H'->g x σ H' fun σ2 H2=>tb { D with nx:=N,ct:=N,bk:=D.nx} σ2 H2):=by
 refine⟨fun i m σ H=>m=n - i/\i<=n/\Pv i σ H,⟨n,by simp,cQ _,h0⟩,?_⟩
 rintro i m σ H ⟨rfl,hi,p⟩
 obtain⟨q1,q2⟩:=hl i σ H hi p
 by_cases c:i=n
 ·subst c
  exact .inl ⟨⟨q1,by omega⟩,hd σ H p⟩
 ·refine .inr ⟨⟨q1,q2,by omega,by omega⟩,Pv (i+1),fun σ' H' k=>⟨n - (i+1),by omega,rfl,by omega,k⟩,?_⟩
  rintro x H' ⟨p',q',u,v,hp',hq',rfl,hu,hv,rfl⟩
  exact hs i u v p' q' σ H hu hv p hp' hq'
end BF
namespace K09
open PySem L2 BF
structure RG(K:aA)(C:Addr):Prop where
 cl:ik K C
 nl:jI K C "lines"
 no:jI K C "onward"
 nc:jI K C "clash"
section
variable{P:aQ}{w:aH}{K:aA}{mg:aa->Option ac}{base:az}{C:Addr}
inductive Di(C:Addr)(vs:List V)(H:Hp)(Q:VK):Prop
 |mk:∀(p dx:Addr)(v1 v2:V)(g:Ln),(vs=[.ref p,v1,v2])->(H p=some (.ins C dx []))->(ay H v1 g.1)->(ay H v2 g.2)->(g.1.Ok)->(g.2.Ok)->(g.1.nodes<=90)->(g.2.nodes<=90)->(∀(L O:Addr)(H':Hp),H L=none->H O=none->(∀b o,H b=some o->b≠p->H' b=some o)->RK C p dx L O g (bH g) H' [(g,.giv)] (fun _=>none) .non 1->Q .non H')->Di C vs H Q
def wX(C:Addr):Sp:=fun vs H Q _=>Di C vs H Q
theorem Kb{f:Addr}{fd:be}(F:bB K "__init__" "Reckoning.__init__" nX f fd)(R:RG K C):bf P w K mg base bp 1 f fd ["self","one","other"] (wX C):=by
 refine F.ok Jt (fun vs H Q E h=>?_) (fun cdv A outer s H vs Q E hr h=>?_)
 ·obtain⟨_,_,_,_,_,rfl,_⟩:=h
  rfl
 obtain⟨p,dx,v1,v2,g,rfl,hp,h1,h2,ho1,ho2,hn1,hn2,q⟩:=h
 refine⟨_,(al (rZ (pv 0) (bR (ae (bO (ae (pv 1) (ae (pv 2) (ae (bO (ae aS af)) af)))) af)) rfl)
  (al (rZ (pv 0) lY rfl)
  (aq (rZ (pv 0) fS rfl)))),?_⟩
 refine⟨_,rfl,_,rfl,(by show 1<=sizeLine;decide),fun r fr=>?_⟩
 generalize e_:ad H r (HO.tup [.str "given"])=H1
 obtain⟨t1,x1⟩:=aI fr e_
 refine⟨(by show 3<=sizeLine;decide),fun t ft=>?_⟩
 generalize e_:ad H1 t (HO.tup [v1,v2,.ref r])=H2
 obtain⟨t2,x2⟩:=aI ft e_
 refine⟨(by show 1<=sizeLine;decide),fun L fL=>?_⟩
 generalize e_:ad H2 L (HO.lst [.ref t])=H3
 obtain⟨t3,x3⟩:=aI fL e_
 have s3:=t1.trans (t2.trans t3)
 have hp3:=s3 _ _ hp
 refine⟨_,rfl,p,C,dx,[],rfl,hp3,R.cl,R.nl,(by show 0<1000;decide),?_⟩
 have npL:p≠L:=aF ((t1.trans t2) _ _ hp) fL
 have k4:∀b o,H3 b=some o->b≠p->ad H3 p (HO.ins C dx (L2.bZ "lines" (.ref L) [])) b=some o:=fun b o e hb=>by rw[am hb];exact e
 have x4:ad H3 p (HO.ins C dx (L2.bZ "lines" (.ref L) [])) p=some _:=au
 generalize ad H3 p (HO.ins C dx (L2.bZ "lines" (.ref L) []))=H4 at k4 x4 |-
 refine fun O fO=>?_
 generalize e_:ad H4 O (HO.dK [])=H5
 obtain⟨t5,x5⟩:=aI fO e_
 have npO:p≠O:=aF x4 fO
 refine⟨_,rfl,p,C,dx,_,rfl,t5 _ _ x4,R.cl,R.no,?_,?_⟩
 ·have h2:=L2.pD (bL "lines") (V.ref L) []
  simp only[zLN]at h2
  omega
 have k6:∀b o,H5 b=some o->b≠p->ad H5 p (HO.ins C dx (L2.bZ "onward" (.ref O) (L2.bZ "lines" (.ref L) []))) b=some o:=fun b o e hb=>by rw[am hb];exact e
 have x6:ad H5 p (HO.ins C dx (L2.bZ "onward" (.ref O) (L2.bZ "lines" (.ref L) []))) p=some _:=au
 generalize ad H5 p (HO.ins C dx (L2.bZ "onward" (.ref O) (L2.bZ "lines" (.ref L) [])))=H6 at k6 x6 |-
 refine⟨_,rfl,p,C,dx,_,rfl,x6,R.cl,R.nc,?_,?_⟩
 ·have h1:=L2.pD (bL "onward") (V.ref O) (L2.bZ (bL "lines") (V.ref L) [])
  have h2:=L2.pD (bL "lines") (V.ref L) []
  simp only[zLN]at h2
  omega
 have kk:∀b o,H b=some o->b≠p->ad H6 p (HO.ins C dx (L2.bZ "clash" .non (L2.bZ "onward" (.ref O) (L2.bZ "lines" (.ref L) [])))) b=some o:=fun b o e hb=>by
  rw[am hb]
  exact k6 _ _ (t5 _ _ (k4 _ _ (s3 _ _ e) hb)) hb
 have k36:∀b o,H3 b=some o->b≠p->ad H6 p (HO.ins C dx (L2.bZ "clash" .non (L2.bZ "onward" (.ref O) (L2.bZ "lines" (.ref L) [])))) b=some o:=fun b o e hb=>by
  rw[am hb]
  exact k6 _ _ (t5 _ _ (k4 _ _ e hb)) hb
 have kT:aR H3 (ad H6 p (HO.ins C dx (L2.bZ "clash" .non (L2.bZ "onward" (.ref O) (L2.bZ "lines" (.ref L) []))))):=fun b xs e=>k36 _ _ e (ce e hp3 (by intro z;cases z))
 have fO0:H O=none:=by
  cases e:H O with
  |none=>rfl
  |some o=>rw[k4 _ _ (s3 _ _ e) npO.symm]at fO;cases fO
 refine q L O _ ((t1.trans t2).free fL) fO0 kk ⟨?_,⟨[.ref t],k36 _ _ x3 npL.symm,.cons ⟨t,v1,v2,r,rfl,kT _ _ (t3 _ _ x2),kT _ _ ((t2.trans t3) _ _ x1),(h1.mono (.of s3)).mono kT,(h2.mono (.of s3)).mono kT⟩ .nil⟩,⟨[],?_,fun _ _ _ _=>rfl,by simp⟩,by simp,⟨⟨⟨_,rfl,rfl⟩,trivial⟩,fun x hx=>?_,fun t n e=>by cases e⟩,fun t ht=>?_⟩
 ·rw[au,Jn]
 ·rw[am npO.symm]
  exact k6 _ _ x5 npO.symm
 ·cases bx.mp hx
  exact⟨eu _ (qc _),d6 _ (qc _)⟩
 ·rcases br.mp ht with z|z
  ·exact⟨sW ho1 _ z,cO (Co z) hn1⟩
  ·exact⟨sW ho2 _ z,cO (Co z) hn2⟩
inductive Dj(C:Addr)(vs:List V)(H:Hp)(Q:VK):Prop
 |mk:∀(p dx L O:Addr)(g:Ln)(U:List Tm)(fs:List Lf)(on:On)(cl:V)(N:Nat)(v1 v2:V)(r:Addr)(a b:Tm)(ri:RI),(vs=[.ref p,v1,v2,.ref r])->(RK C p dx L O g U H fs on cl N)->(ay H v1 a)->(ay H v2 b)->(H r=some (.tup (wx ri)))->(lg (fs.map (·.1)) g ri (a,b))->(a∈U)->(b∈U)->(N<=90000)->(∀H',cE p L O H H'->RK C p dx L O g U H' (fs++[((a,b),ri)]) on cl (N+1)->Q (.int (fs.length:Nat)) H')->Dj C vs H Q
def qk(C:Addr):Sp:=fun vs H Q _=>Dj C vs H Q
theorem Kc{f:Addr}{fd:be}(F:bB K "added" "Reckoning.added" oj f fd)(R:RG K C)(T:Bi mg):bf P w K mg base bp 1 f fd ["self","one","other","reason"] (qk C):=by
 refine F.ok Jx (fun vs H Q E h=>?_) (fun cdv A outer s H vs Q E hr h=>?_)
 ·obtain⟨_,_,_,_,_,_,_,_,_,_,_,_,_,_,_,_,rfl,_⟩:=h
  rfl
 obtain⟨p,dx,L,O,g,U,fs,on,cl,N,v1,v2,r,a,b,ri,rfl,hk,h1,h2,hr0,hl,ha,hb,hN,q⟩:=h
 obtain⟨ls,gL,hls⟩:=hk.ls
 have hll:ls.length=fs.length:=Paired.length hls
 obtain⟨npL,npO,nLO⟩:=hk.ne
 have hlen:=hk.len
 refine⟨_,(al (cj (cp bY cX cY cT (dS (pv 0) rfl) (ae (bO (ae (pv 1) (ae (pv 2) (ae (pv 3) af)))) af)))
  (aq (aM (aY nv (ca dk T.b_len cU (ae (dS (pv 0) rfl) af)) ai)))),?_⟩
 refine⟨_,rfl,p,C,dx,_,_,rfl,hk.self,R.cl,R.nl,fj,.inl ⟨rfl,_,ak.of gL⟩,_,rfl,_,rfl,_,rfl,(by show 3<=sizeLine;decide),fun t ft=>?_⟩
 generalize e_:ad H t (HO.tup [v1,v2,.ref r])=H1
 obtain⟨s1,x1⟩:=aI ft e_
 have gL1:=s1 _ _ gL
 refine⟨L,_,_,rfl,rfl,gL1,big (by omega),?_⟩
 have hk1:=hk.same s1
 have kT:aR H1 (ad H1 L (HO.lst (ls++[.ref t]))):= .lst gL1
 have self2:ad H1 L (HO.lst (ls++[.ref t])) p=some (.ins C dx (eK L O cl)):=by rw[am npL];exact hk1.self
 have gL2:ad H1 L (HO.lst (ls++[.ref t])) L=some _:=au
 have new:RK C p dx L O g U (ad H1 L (HO.lst (ls++[.ref t]))) (fs++[((a,b),ri)]) on cl (N+1):=by
  obtain⟨k,e1,e2,e3⟩:=hk1.dic
  exact⟨self2,⟨_,gL2,ld (eG.mono kT (eG.mono (.of s1) hls)) ⟨t,v1,v2,r,rfl,kT _ _ x1,kT _ _ (s1 _ _ hr0),(h1.mono (.of s1)).mono kT,(h2.mono (.of s1)).mono kT⟩⟩,⟨k,by rw[am nLO.symm];exact e1,e2,by omega⟩,by rw[zLA];simp only[zLC,zLN];omega,(hk.st.add hl ha hb).1,hk.ok⟩
 have fr:cE p L O H (ad H1 L (HO.lst (ls++[.ref t]))):=fun b o e _ h2 _=>by rw[am h2];exact s1 _ _ e
 generalize ad H1 L (HO.lst (ls++[.ref t]))=H2 at self2 gL2 new fr |-
 refine⟨_,rfl,p,C,dx,_,_,rfl,self2,R.cl,R.nl,fj,L,_,rfl,.inl (ak.of gL2),_,_,rfl,rfl,?_⟩
 have e:(((ls++[V.ref t]).length:Nat):Int) - 1=((fs.length:Nat):Int):=by rw[zLA,hll];simp
 have:=q H2 fr new
 rw[<-e]at this
 exact this
inductive Dk(C:Addr)(vs:List V)(H:Hp)(Q:VK):Prop
 |mk:∀(p dx L O:Addr)(g:Ln)(U:List Tm)(fs:List Lf)(on:On)(cl:V)(N n:Nat)(x:Lf),(vs=[.ref p,.int (n:Nat)])->(RK C p dx L O g U H fs on cl N)->(fs[n]?=some x)->(N<=90000)->(∀H',cE p L O H H'->RK C p dx L O g U H' (fs++[((x.1.2,x.1.1),.turn (n:Nat))]) on cl (N+1)->Q (.int (fs.length:Nat)) H')->Dk C vs H Q
def tQ(C:Addr):Sp:=fun vs H Q _=>Dk C vs H Q
theorem Kd{f:Addr}{fd:be}(F:bB K "turned" "Reckoning.turned" og f fd)(R:RG K C)(m_added:cL P w K mg base 1 C "added" ["self","one","other","reason"] (qk C)):bf P w K mg base bp 2 f fd ["self","number"] (tQ C):=by
 refine F.ok C0 (fun vs H Q E h=>?_) (fun cdv A outer s H vs Q E hr h=>?_)
 ·obtain⟨_,_,_,_,_,_,_,_,_,_,_,_,rfl,_⟩:=h
  rfl
 obtain⟨p,dx,L,O,g,U,fs,on,cl,N,n,x,rfl,hk,hx,hN,q⟩:=h
 obtain⟨ls,gL,hls⟩:=hk.ls
 obtain⟨a,u,v,r,hat,ha,hr',hu,hv⟩:=iS hls hx
 have hin:=hk.st.inU x (zMG hx)
 refine⟨_,(al (aB (i:=2) C0.nd rfl (Or.inl rfl) (ao cI (dS (pv 0) rfl) (pv 1) (fun _ _=>rfl)))
  (aq (aM (dP m_added (hr.mono (by decide)) (pv 0) (ae (ao aw (pv 2) ai (fun _ _=>rfl)) (ae (ao aw (pv 2) ai (fun _ _=>rfl)) (ae (bO (ae aS (ae (pv 1) af))) af))))))),?_⟩
 refine⟨_,rfl,p,C,dx,_,_,rfl,hk.self,R.cl,R.nl,fj,_,rfl,L,_,_,_,rfl,rfl,ak.of gL,hat,?_⟩
 refine⟨_,rfl,p,dx,_,rfl,hk.self,dH (by decide +kernel) (by decide +kernel) (by decide +kernel),_,rfl,_,_,_,_,rfl,rfl,aj.of ha,bW,_,rfl,_,_,_,_,rfl,rfl,aj.of ha,bP,_,rfl,(by show 2<=sizeLine;decide),fun c fc=>?_⟩
 generalize e_:ad H c (HO.tup [.str "turn",.int (n:Nat)])=H1
 obtain⟨s1,x1⟩:=aI fc e_
 exact⟨p,dx,L,O,g,U,fs,on,cl,N,v,u,c,x.1.2,x.1.1,.turn (n:Nat),rfl,hk.same s1,hv.mono (.of s1),hu.mono (.of s1),x1,wF hx,hin.2,hin.1,hN,fun H' f' k'=>q H' ((cE.of s1).trans f') k'⟩
inductive Dl(C:Addr)(vs:List V)(H:Hp)(Q:VK):Prop
 |mk:∀(p dx L O:Addr)(g:Ln)(U:List Tm)(fs:List Lf)(on:On)(cl:V)(N n m:Nat)(x y:Lf),(vs=[.ref p,.int (n:Nat),.int (m:Nat)])->(RK C p dx L O g U H fs on cl N)->(fs[n]?=some x)->(fs[m]?=some y)->(x.1.2=y.1.1)->(N<=90000)->(∀H',cE p L O H H'->RK C p dx L O g U H' (fs++[((x.1.1,y.1.2),.chain (n:Nat) (m:Nat))]) on cl (N+1)->Q (.int (fs.length:Nat)) H')->Dl C vs H Q
def tR(C:Addr):Sp:=fun vs H Q _=>Dl C vs H Q
theorem Ke{f:Addr}{fd:be}(F:bB K "chained" "Reckoning.chained" oh f fd)(R:RG K C)(m_added:cL P w K mg base 1 C "added" ["self","one","other","reason"] (qk C)):bf P w K mg base bp 2 f fd ["self","number","further"] (tR C):=by
 refine F.ok Jw (fun vs H Q E h=>?_) (fun cdv A outer s H vs Q E hr h=>?_)
 ·obtain⟨_,_,_,_,_,_,_,_,_,_,_,_,_,_,rfl,_⟩:=h
  rfl
 obtain⟨p,dx,L,O,g,U,fs,on,cl,N,n,m,x,y,rfl,hk,hx,hy,hxy,hN,q⟩:=h
 obtain⟨ls,gL,hls⟩:=hk.ls
 obtain⟨a,u,v,r,hat,ha,hr',hu,hv⟩:=iS hls hx
 obtain⟨a2,u2,v2,r2,hat2,ha2,hr2,hu2,hv2⟩:=iS hls hy
 have hin:=hk.st.inU x (zMG hx)
 have hin2:=hk.st.inU y (zMG hy)
 refine⟨_,(aq (aM (dP m_added (hr.mono (by decide)) (pv 0) (ae (ao aw (ao cI (dS (pv 0) rfl) (pv 1) (fun _ _=>rfl)) ai (fun _ _=>rfl)) (ae (ao aw (ao cI (dS (pv 0) rfl) (pv 2) (fun _ _=>rfl)) ai (fun _ _=>rfl)) (ae (bO (ae aS (ae (pv 1) (ae (pv 2) af)))) af)))))),?_⟩
 refine⟨_,rfl,p,dx,_,rfl,hk.self,dH (by decide +kernel) (by decide +kernel) (by decide +kernel),_,rfl,p,C,dx,_,_,rfl,hk.self,R.cl,R.nl,fj,_,rfl,L,_,_,_,rfl,rfl,ak.of gL,hat,_,_,_,_,rfl,rfl,aj.of ha,bP,?_⟩
 refine⟨_,rfl,p,C,dx,_,_,rfl,hk.self,R.cl,R.nl,fj,_,rfl,L,_,_,_,rfl,rfl,ak.of gL,hat2,_,_,_,_,rfl,rfl,aj.of ha2,bW,_,rfl,_,rfl,(by show 3<=sizeLine;decide),fun c fc=>?_⟩
 generalize e_:ad H c (HO.tup [.str "chain",.int (n:Nat),.int (m:Nat)])=H1
 obtain⟨s1,x1⟩:=aI fc e_
 exact⟨p,dx,L,O,g,U,fs,on,cl,N,u,v2,c,x.1.1,y.1.2,.chain (n:Nat) (m:Nat),rfl,hk.same s1,hu.mono (.of s1),hv2.mono (.of s1),x1,sT hx hy hxy,hin.1,hin2.2,hN,fun H' f' k'=>q H' ((cE.of s1).trans f') k'⟩
inductive Dm(C:Addr)(vs:List V)(H:Hp)(Q:VK):Prop
 |mk:∀(p dx L O:Addr)(g:Ln)(U:List Tm)(fs:List Lf)(on:On)(cl:V)(N n:Nat)(x:Lf),(vs=[.ref p,.int (n:Nat)])->(RK C p dx L O g U H fs on cl N)->(fs[n]?=some x)->(N<=90000)->(∀H',cE p L O H H'->RK C p dx L O g U H' fs (mw on x.1.1 n) cl (N+1)->Q .non H')->Dm C vs H Q
def tS(C:Addr):Sp:=fun vs H Q _=>Dm C vs H Q
theorem Kf{f:Addr}{fd:be}(F:bB K "lead_on" "Reckoning.lead_on" mB f fd)(R:RG K C)(c_shown:aO P w K mg base 2 "shown" ["term"] tP):bf P w K mg base bp 3 f fd ["self","number"] (tS C):=by
 refine F.ok Ju (fun vs H Q E h=>?_) (fun cdv A outer s H vs Q E hr h=>?_)
 ·obtain⟨_,_,_,_,_,_,_,_,_,_,_,_,rfl,_⟩:=h
  rfl
 obtain⟨p,dx,L,O,g,U,fs,on,cl,N,n,x,rfl,hk,hx,hN,q⟩:=h
 have hun:=hr.un
 have hu:(A.deeper (gh "Reckoning.lead_on" (ax mB) s.heap.objs.size f cdv)).units+1<cLine:=by omega
 obtain⟨ls,gL,hls⟩:=hk.ls
 obtain⟨kvs,gO,hon,hkl⟩:=hk.dic
 obtain⟨a,u,v,r,hat,ha,hr',hu1,hv⟩:=iS hls hx
 have hin:=hk.st.inU x (zMG hx)
 have hok:=hk.ok _ hin.1
 obtain⟨npL,npO,nLO⟩:=hk.ne
 refine⟨_,(aq (lX hu (dS (pv 0) rfl) (a0 c_shown (hr.mono (by decide)) (ae (ao aw (ao cI (dS (pv 0) rfl) (pv 1) (fun _ _=>rfl)) ai (fun _ _=>rfl)) af)) (pv 1) rfl)),?_⟩
 refine⟨_,rfl,_,rfl,p,C,dx,_,_,rfl,hk.self,R.cl,R.no,CU,_,rfl,p,C,dx,_,_,rfl,hk.self,R.cl,R.nl,fj,_,rfl,L,_,_,_,rfl,rfl,ak.of gL,hat,_,_,_,_,rfl,rfl,aj.of ha,bP,u,x.1.1,rfl,hu1,hok.1,by omega,fun y H1 s1 hy=>?_⟩
 have gO1:=s1 _ _ gO
 refine⟨O,_,rfl,gK.k (k:=Sum.inr y) gO1 (big (by omega)),?_⟩
 have hk1:=hk.same s1
 have kT:aR H1 (ad H1 O (HO.dK (bS kvs (Sum.inr y) (.int (n:Nat))))):=fun b ys z=>by rw[am (ce z gO1 (by intro z;cases z))];exact z
 have hlp:=nD kvs (Sum.inr y) (V.int (n:Nat))
 have hlen:=hk.len
 refine q _ (fun b o e _ _ h3=>by rw[am h3];exact s1 _ _ e) ⟨by rw[am npO];exact hk1.self,⟨ls,by rw[am nLO];exact s1 _ _ gL,eG.mono kT (eG.mono (.of s1) hls)⟩,⟨_,au,hon.put hk.ok hin.1 hy,by omega⟩,by omega,(hk.st.lead hx).1,hk.ok⟩
inductive Dn(C:Addr)(vs:List V)(H:Hp)(Q:VK):Prop
 |mk:∀(p dx L O:Addr)(g:Ln)(U:List Tm)(fs:List Lf)(on:On)(cl:V)(N:Nat)(v:V)(t:Tm),(vs=[.ref p,v])->(RK C p dx L O g U H fs on cl N)->(ay H v t)->(t∈U)->(∀H',av H H'->Q (cN (on t)) H')->Dn C vs H Q
def wY(C:Addr):Sp:=fun vs H Q _=>Dn C vs H Q
theorem Kg{f:Addr}{fd:be}(F:bB K "line_on" "Reckoning.line_on" mC f fd)(R:RG K C)(c_shown:aO P w K mg base 2 "shown" ["term"] tP):bf P w K mg base bp 3 f fd ["self","term"] (wY C):=by
 refine F.ok Jv (fun vs H Q E h=>?_) (fun cdv A outer s H vs Q E hr h=>?_)
 ·obtain⟨_,_,_,_,_,_,_,_,_,_,_,_,rfl,_⟩:=h
  rfl
 obtain⟨p,dx,L,O,g,U,fs,on,cl,N,v,t,rfl,hk,hv,ht,q⟩:=h
 have hun:=hr.un
 have hu:(A.deeper (gh "Reckoning.line_on" (ax mC) s.heap.objs.size f cdv)).units+1<cLine:=by omega
 obtain⟨kvs,gO,hon,hkl⟩:=hk.dic
 have hok:=hk.ok t ht
 refine⟨_,(aq (aM (G4 hu (dS (pv 0) rfl) (a0 c_shown (hr.mono (by decide)) (ae (pv 1) af)) ⟨rfl,rfl,rfl,rfl⟩))),?_⟩
 refine⟨_,rfl,p,C,dx,_,_,rfl,hk.self,R.cl,R.no,CU,O,rfl,.inl ⟨kvs,.inl gO⟩,_,rfl,v,t,rfl,hv,hok.1,by omega,fun y H1 s1 hy=>⟨_,bT.k (k:=Sum.inr y) (s1 _ _ gO),?_⟩⟩
 have:=q H1 s1
 rw[hon t ht y hy]
 cases e:on t with
 |none=>rw[e]at this;exact this
 |some n=>rw[e]at this;exact this
end
section
variable{P:aQ}{w:aH}{K:aA}{mg:aa->Option ac}{base:az}{C:Addr}
def dA(fs fs':List Lf):Prop:=∃gs,fs'=fs++gs
theorem dA.refl{fs:List Lf}:dA fs fs:=⟨[],by simp⟩
theorem dA.trans{a b c:List Lf}(h:dA a b)(k:dA b c):dA a c:=by
 obtain⟨x,rfl⟩:=h
 obtain⟨y,rfl⟩:=k
 exact⟨x++y,by rw[dL]⟩
theorem dA.one{fs:List Lf}{x:Lf}:dA fs (fs++[x]):=⟨[x],rfl⟩
theorem dA.get{fs fs':List Lf}(h:dA fs fs'){n:Nat}{x:Lf}(e:fs[n]?=some x):fs'[n]?=some x:=by
 obtain⟨y,rfl⟩:=h
 exact nO e
theorem dA.nums{fs fs':List Lf}(h:dA fs fs'){ns:List Nat}{pd:List Ln}(e:iz fs ns pd):iz fs' ns pd:=by
 obtain⟨y,rfl⟩:=h
 exact e.app
theorem lu(fs:List Lf)(x:Lf):(fs++[x])[fs.length]?=some x:=by simp
inductive Do(C:Addr)(vs:List V)(H:Hp)(Q:VK):Prop
 |mk:∀(p dx L O:Addr)(g:Ln)(U:List Tm)(fs:List Lf)(on:On)(cl:V)(N:Nat)(v:V)(t e:Tm)(k:Nat),(vs=[.ref p,v])->(RK C p dx L O g U H fs on cl N)->(ay H v t)->(t∈U)->(aX (bd fs on) k t e)->(N+2 * U.length<=90000)->(∀(mo:Option Nat) H' fs' on',cE p L O H H'->RK C p dx L O g U H' fs' on' cl (N+2 * U.length)->dA fs fs'->fi g (bd fs on) (bd fs' on')->(mo=none->t=e)->(∀m,mo=some m->∃x,fs'[m]?=some x/\x.1=(t,e))->(bd fs on t=none->mo=none)->Q (cN mo) H')->Do C vs H Q
def ql(C:Addr):Sp:=fun vs H Q _=>Do C vs H Q
theorem Kh{f:Addr}{fd:be}(F:bB K "line_to_end" "Reckoning.line_to_end" n0 f fd)(R:RG K C)(T:Bi mg)(m_line_on:cL P w K mg base 3 C "line_on" ["self","term"] (wY C))(m_chained:cL P w K mg base 2 C "chained" ["self","number","further"] (tR C))(m_lead_on:cL P w K mg base 3 C "lead_on" ["self","number"] (tS C)):
 bf P w K mg base bp 4 f fd ["self","term"] (ql C):=by
 refine F.ok mD (fun vs H Q E h=>?_) (fun cdv A outer s H vs Q E hr h=>?_)
 ·obtain⟨_,_,_,_,_,_,_,_,_,_,_,_,_,_,rfl,_⟩:=h
  rfl
 obtain⟨p,dx,L,O,g,U,fs,on,cl,N,v,t,e,k,rfl,hk,hv,ht,hrc,hN,q⟩:=h
 have hkU:=Jk hk.st hrc
 refine⟨_,(al (aB (i:=2) mD.nd rfl (Or.inl rfl) (bR af))
  (al (aB (i:=3) mD.nd rfl (Or.inl rfl) (dP m_line_on (hr.mono (by decide)) (pv 0) (ae (pv 1) af)))
  (al (ig cx (aU nw (pv 3) fS (aT _)) (al (cj (cp bY cX cY cT (pv 2) (ae (pv 3) af)))
        (aq (aB (i:=3) mD.nd rfl (Or.inl rfl) (dP m_line_on (hr.mono (by decide)) (pv 0) (ae (ao aw (ao cI (dS (pv 0) rfl) (pv 3) (fun _ _=>rfl)) ai (fun _ _=>rfl)) af))))))
  (al (aB (i:=4) mD.nd rfl (Or.inl rfl) fS)
  (al (dR cx rfl (B5 rfl T.b_reversed (ae (pv 2) af)) (cz (i:=5) mD.nd rfl (Or.inl rfl)) (al (aB (i:=4) mD.nd rfl (Or.inl rfl) (zQ (aU vG (pv 4) fS (aT _)) (pv 5) (dP m_chained (hr.mono (by decide)) (pv 0) (ae (pv 5) (ae (pv 4) af)))))
        (aq (cj (dP m_lead_on (hr.mono (by decide)) (pv 0) (ae (pv 4) af))))))
  (aq (aM (pv 4)))))))),?_⟩
 refine⟨(by show 0<=sizeLine;decide),fun sp fsp=>?_⟩
 generalize e_:ad H sp (HO.lst [])=H1
 obtain⟨s1,x1⟩:=aI fsp e_
 have hk1:=hk.same s1
 have nsL:sp≠L:=fun z=>by
  obtain⟨ls,e1,_⟩:=hk.ls
  rw[z,e1]at fsp
  cases fsp
 have nsp:sp≠p:=fun z=>by rw[z,hk.self]at fsp;cases fsp
 have nsO:sp≠O:=fun z=>by
  obtain⟨ls,e1,_⟩:=hk.dic
  rw[z,e1]at fsp
  cases fsp
 refine⟨_,rfl,p,dx,_,rfl,hk1.self,dH (by decide +kernel) (by decide +kernel) (by decide +kernel),_,rfl,p,dx,L,O,g,U,fs,on,cl,N,v,t,rfl,hk1,hv.mono (.of s1),ht,fun H2 s2=>?_⟩
 refine⟨fun m σ HA=>∃(ns:List Nat)(c:Tm),σ=[some (.ref p),some v,some (.ref sp),some (cN (on c)),none,none]/\av H HA/\HA sp=some (.lst (bN ns))/\RK C p dx L O g U HA fs on cl N/\jp fs on t ns c/\aX (bd fs on) m c e/\c∈U/\ns.length+m=k,
  ⟨k,[],t,rfl,s1.trans s2,s2 _ _ x1,hk1.same s2,.nil,hrc,ht,by simp⟩,?_⟩
 rintro m σ HA ⟨ns,c,rfl,sA,gA,kA,hway,hrm,hcU,hsum⟩
 refine⟨_,rfl,rfl,_,rfl,bE (fun c1=>⟨_,fun _ _ h=>h,?_⟩) (fun c1=>?_)⟩
 ·cases hrm with
  |root hn=>
   rw[(CQ hk.st).mp hn]at c1
   simp[cN]at c1
  |@step m' _ u _ hs hrm'=>
   obtain⟨n,x,e1,e2,e3⟩:=aX.mono_app hk.st hs
   obtain⟨ls,gL,hls⟩:=kA.ls
   rw[e1]
   have hnl:bN ns=ns.map fun n=>V.int (n:Nat):=rfl
   refine⟨_,rfl,.inl ⟨rfl,_,ak.of gA⟩,_,rfl,sp,_,_,rfl,rfl,gA,big (by rw[hnl,zLM];omega),?_⟩
   have kT:aR HA (ad HA sp (HO.lst (bN ns++[cN (some n)]))):= .lst gA
   have x3:ad HA sp (HO.lst (bN ns++[cN (some n)])) sp=some _:=au
   have kk:∀b o,HA b=some o->b≠sp->ad HA sp (HO.lst (bN ns++[cN (some n)])) b=some o:=fun b o z hb=>by rw[am hb];exact z
   have s3:av H (ad HA sp (HO.lst (bN ns++[cN (some n)]))):=fun b o z=>by rw[am (aF z fsp)];exact sA _ _ z
   have k3:RK C p dx L O g U (ad HA sp (HO.lst (bN ns++[cN (some n)]))) fs on cl N:=by
        obtain⟨kvs,gO,ho⟩:=kA.dic
        exact⟨kk _ _ kA.self nsp.symm,⟨ls,kk _ _ gL nsL.symm,eG.mono kT hls⟩,⟨kvs,kk _ _ gO nsO.symm,ho⟩,kA.len,kA.st,kA.ok⟩
   generalize ad HA sp (HO.lst (bN ns++[cN (some n)]))=HB at kT x3 s3 k3 kk |-
   obtain⟨ls',gL',hls'⟩:=k3.ls
   obtain⟨a,u1,v1,r,hat,ha,hr',hu1,hv1⟩:=iS hls' e2
   have hin:=hk.st.inU x (zMG e2)
   refine⟨_,rfl,p,dx,_,rfl,k3.self,dH (by decide +kernel) (by decide +kernel) (by decide +kernel),_,rfl,p,C,dx,_,_,rfl,k3.self,R.cl,R.nl,fj,_,rfl,L,_,_,_,rfl,rfl,ak.of gL',hat,_,_,_,_,rfl,rfl,aj.of ha,bW,p,dx,L,O,g,U,fs,on,cl,N,v1,x.1.2,rfl,k3,hv1,hin.2,fun HC sC=>?_⟩
   refine⟨m',by omega,ns++[n],x.1.2,rfl,s3.trans sC,?_,k3.same sC,.snoc hway e1 e2 (by rw[e3]),?_,hin.2,by rw[zLA];simp only[zLC,zLN];omega⟩
   ·have:=sC _ _ x3
    simp only[bN,zMA,bM,i0,cN]at this |-
    exact this
   ·rw[e3];exact hrm'
 ·have hn:on c=none:=by
   cases z:on c with
   |none=>rfl
   |some n=>rw[z]at c1;simp[cN]at c1
  have hm:=hrm.of_root ((CQ hk.st).mpr hn)
  obtain⟨hm0,rfl⟩:=hm
  have hlen:(bN ns).length=ns.length:=by simp[bN]
  rw[hn]
  refine⟨_,rfl,sp,bN ns,rfl,ak.of gA,B6 (K:=K) (a:=sp) (xs:=bN ns) (fun i σ HB=>∃(o5:Option V)(mo:Option Nat)(fs':List Lf)(on':On)(d:Tm),σ=[some (.ref p),some v,some (.ref sp),some .non,some (cN mo),o5]/\cE p L O H HB/\HB sp=some (.lst (bN ns))/\RK C p dx L O g U HB fs' on' cl (N+2 * i)/\dA fs fs'/\fi g (bd fs on) (bd fs' on')/\
        jp fs on t (ns.take (ns.length - i)) d/\(i=0->mo=none/\d=e)/\(0<i->∃m x,mo=some m/\fs'[m]?=some x/\x.1=(d,e)))
   ⟨none,none,fs,on,e,rfl,.of sA,gA,kA,.refl,.refl,by rw[Nat.sub_zero,dD (aE _)];exact hway,fun _=>⟨rfl,rfl⟩,fun z=>absurd z (j8 _)⟩ (fun i σ HB _ ⟨_,_,_,_,_,_,_,z,_⟩=>ak.of z) ?_ ?_⟩
  ·rintro i y σ HB hy ⟨o5,mo,fs',on',d,rfl,fB,gB,kB,hext,hkeep,hway',hz,hp⟩
   have hi:i<ns.length:=by
        have:=(bI.mp hy).1
        rw[cR,hlen]at this
        exact this
   have hj:ns.length - 1 - i<ns.length:=by omega
   have ey:y= .int ((ns[ns.length - 1 - i]:Nat):Int):=by
        have h1:=(bI.mp hy).2
        rw[yF]at h1
        simp only[bN,jE,zLM]at h1
        exact h1.symm
   subst ey
   generalize hn':ns[ns.length - 1 - i]=n
   have etk:ns.take (ns.length - i)=ns.take (ns.length - (i+1))++[n]:=by
        have:ns.length - i=(ns.length - (i+1))+1:=by omega
        rw[this,zTS (by omega)]
        congr 2
        rw[<-hn']
        congr 1
        omega
   obtain⟨d0,x,hway0,on0,ex,ex1⟩:=hway'.unsnoc etk
   obtain⟨j0,hrj,_⟩:=hway0.rch hrc
   have hnx0:bd fs on d0=some d:=by unfold bd;rw[on0];simp[ex,ex1]
   obtain⟨j1,hrj1⟩:∃j1,aX (bd fs on) (j1+1) d0 e:=by
        cases hrj with
        |root z=>rw[z]at hnx0;cases hnx0
        |step a b=>exact⟨_,.step a b⟩
   show fu _ _ _ _ _
   refine fW (fun σ HC=>∃(m:Nat)(fs2:List Lf)(z:Lf),σ=[some (.ref p),some v,some (.ref sp),some .non,some (.int (m:Nat)),some (.int (n:Nat))]/\cE p L O H HC/\HC sp=some (.lst (bN ns))/\RK C p dx L O g U HC fs2 on' cl (N+2 * i+1)/\dA fs fs2/\bd fs2 on'=bd fs' on'/\fs2[m]?=some z/\z.1=(d0,e)) ?_ (fun key=>?_)
   rotate_left
   ·by_cases ci:i=0
    ·obtain⟨rfl,rfl⟩:=hz ci
     refine⟨_,rfl,rfl,_,rfl,jg ⟨_,rfl,key _ _ ⟨n,fs',x,rfl,fB,gB,kB.more (by omega),hext,rfl,hext.get ex,ex1⟩⟩⟩
    ·obtain⟨m,y,rfl,hy',ey1⟩:=hp (by omega)
     have hx':=hext.get ex
     refine⟨_,rfl,rfl,_,rfl,bc (by simp[cN]) ⟨_,rfl,p,dx,_,rfl,kB.self,dH (by decide +kernel) (by decide +kernel) (by decide +kernel),_,rfl,_,rfl,p,dx,L,O,g,U,fs',on',cl,N+2 * i,n,m,x,y,rfl,kB,hx',hy',by rw[ex1,ey1],by omega,fun HC fC kC=>?_⟩⟩
     refine key _ _ ⟨fs'.length,_,_,rfl,fB.trans fC,kB.lst fC gB nsL,kC,hext.trans .one,?_,lu _ _,by rw[ex1,ey1]⟩
     exact(kB.st.add (sT hx' hy' (by rw[ex1,ey1])) (by have:=kB.st.inU x (zMG hx');exact this.1) (by have:=kB.st.inU y (zMG hy');exact this.2)).2
   rintro σ HC ⟨m,fs2,z,rfl,fC,gC,kC,hext2,hnx2,hz',ez⟩
   refine⟨_,rfl,p,dx,_,rfl,kC.self,dH (by decide +kernel) (by decide +kernel) (by decide +kernel),_,rfl,p,dx,L,O,g,U,fs2,on',cl,N+2 * i+1,m,z,rfl,kC,hz',by omega,fun HD fD kD=>?_⟩
   obtain⟨j2,hr2⟩:=hkeep.pos hrj1
   refine⟨_,some m,fs2,_,d0,rfl,fC.trans fD,kC.lst fD gC nsL,kD,hext2,?_,hway0,fun z=>absurd z (by omega),fun _=>⟨m,z,rfl,hz',ez⟩⟩
   rw[(kC.st.lead hz').2,hnx2,ez]
   exact hkeep.trans (.short hr2)
  ·rintro σ HB ⟨o5,mo,fs',on',d,rfl,fB,gB,kB,hext,hkeep,hway',hz,hp⟩
   rw[hlen,Nat.sub_self,List.take_zero]at hway'
   have ed:d=t:=by
        generalize hnl:([]:List Nat)=l at hway'
        cases hway' with
        |nil=>rfl
        |snoc _ _ _ _=>simp at hnl
   subst ed
   refine⟨_,rfl,q mo HB fs' on' fB (kB.more (by rw[hlen];omega)) hext hkeep (fun z=>?_) (fun m z=>?_) (fun z=>?_)⟩
   ·rw[hlen]at hz hp
    by_cases c0:ns.length=0
    ·exact(hz c0).2
    ·obtain⟨m,x,e1,_⟩:=hp (by omega)
     rw[z]at e1
     cases e1
   ·rw[hlen]at hz hp
    by_cases c0:ns.length=0
    ·rw[(hz c0).1]at z;cases z
    ·obtain⟨m',x,e1,e2,e3⟩:=hp (by omega)
     rw[z]at e1
     cases e1
     exact⟨x,e2,e3⟩
   ·have hk0:=(hrc.of_root z).1
    rw[hlen]at hz
    exact(hz (by omega)).1
inductive Dp(C:Addr)(vs:List V)(H:Hp)(Q:VK):Prop
 |mk:∀(p dx L O:Addr)(g:Ln)(U:List Tm)(fs:List Lf)(on:On)(cl:V)(N:Nat)(v:V)(t e:Tm)(k:Nat),(vs=[.ref p,v])->(RK C p dx L O g U H fs on cl N)->(ay H v t)->(t∈U)->(aX (bd fs on) k t e)->(N+2 * U.length<=90000)->(∀(v':V) H' fs' on',cE p L O H H'->RK C p dx L O g U H' fs' on' cl (N+2 * U.length)->dA fs fs'->fi g (bd fs on) (bd fs' on')->ay H' v' e->Q v' H')->Dp C vs H Q
def wZ(C:Addr):Sp:=fun vs H Q _=>Dp C vs H Q
theorem Ki{f:Addr}{fd:be}(F:bB K "end_of" "Reckoning.end_of" n6 f fd)(R:RG K C)(m_line_to_end:cL P w K mg base 4 C "line_to_end" ["self","term"] (ql C)):bf P w K mg base bp 5 f fd ["self","term"] (wZ C):=by
 refine F.ok CZ (fun vs H Q E h=>?_) (fun cdv A outer s H vs Q E hr h=>?_)
 ·obtain⟨_,_,_,_,_,_,_,_,_,_,_,_,_,_,rfl,_⟩:=h
  rfl
 obtain⟨p,dx,L,O,g,U,fs,on,cl,N,v,t,e,k,rfl,hk,hv,ht,hrc,hN,q⟩:=h
 refine⟨_,(al (aB (i:=2) CZ.nd rfl (Or.inl rfl) (dP m_line_to_end (hr.mono (by decide)) (pv 0) (ae (pv 1) af)))
  (aq (aM (zQ (aU vG (pv 2) fS (aT _)) (pv 1) (ao aw (ao cI (dS (pv 0) rfl) (pv 2) (fun _ _=>rfl)) ai (fun _ _=>rfl)))))),?_⟩
 refine⟨_,rfl,p,dx,_,rfl,hk.self,dH (by decide +kernel) (by decide +kernel) (by decide +kernel),_,rfl,p,dx,L,O,g,U,fs,on,cl,N,v,t,e,k,rfl,hk,hv,ht,hrc,hN,fun mo H1 fs' on' f1 k1 hext hkeep h0 h1 _=>?_⟩
 cases mo with
 |none=>
  have:=h0 rfl
  subst this
  exact⟨_,rfl,rfl,_,rfl,jg ⟨_,rfl,q v H1 fs' on' f1 k1 hext hkeep (hv.mono (hk.ts f1))⟩⟩
 |some m=>
  obtain⟨x,hx,ex⟩:=h1 m rfl
  obtain⟨ls,gL,hls⟩:=k1.ls
  obtain⟨a,u1,v1,r,hat,ha,hr',hu1,hv1⟩:=iS hls hx
  rw[ex]at hv1
  exact⟨_,rfl,rfl,_,rfl,bc (by simp[cN]) ⟨_,rfl,p,C,dx,_,_,rfl,k1.self,R.cl,R.nl,fj,_,rfl,L,_,_,_,rfl,rfl,ak.of gL,hat,_,_,_,_,rfl,rfl,aj.of ha,bW,q v1 H1 fs' on' f1 k1 hext hkeep hv1⟩⟩
inductive Dq(C:Addr)(vs:List V)(H:Hp)(Q:VK):Prop
 |mk:∀(p dx L O:Addr)(g:Ln)(U:List Tm)(fs:List Lf)(on:On)(cl:V)(N n:Nat)(x:Lf)(a b:Tm)(k j:Nat),(vs=[.ref p,.int (n:Nat)])->(RK C p dx L O g U H fs on cl N)->(fs[n]?=some x)->(aX (bd fs on) k x.1.1 a)->(aX (bd fs on) j x.1.2 b)->(N+4 * U.length+3<=90000)->(∀(m:Nat)(z:Lf) H' fs' on',cE p L O H H'->RK C p dx L O g U H' fs' on' cl (N+4 * U.length+3)->dA fs fs'->fi g (bd fs on) (bd fs' on')->fs'[m]?=some z->z.1=(a,b)->Q (.int (m:Nat)) H')->Dq C vs H Q
def w6(C:Addr):Sp:=fun vs H Q _=>Dq C vs H Q
theorem Kj{f:Addr}{fd:be}(F:bB K "between_ends" "Reckoning.between_ends" n8 f fd)(R:RG K C)(m_line_to_end:cL P w K mg base 4 C "line_to_end" ["self","term"] (ql C))(m_turned:cL P w K mg base 2 C "turned" ["self","number"] (tQ C))(m_chained:cL P w K mg base 2 C "chained" ["self","number","further"] (tR C)):
 bf P w K mg base bp 5 f fd ["self","number"] (w6 C):=by
 refine F.ok mE (fun vs H Q E h=>?_) (fun cdv A outer s H vs Q E hr h=>?_)
 ·obtain⟨_,_,_,_,_,_,_,_,_,_,_,_,_,_,_,_,rfl,_⟩:=h
  rfl
 obtain⟨p,dx,L,O,g,U,fs,on,cl,N,n,x,a,b,k,j,rfl,hk,hx,hra,hrb,hN,q⟩:=h
 obtain⟨ls,gL,hls⟩:=hk.ls
 obtain⟨la,u1,v1,r,hat,hla,hr',hu1,hv1⟩:=iS hls hx
 have hin:=hk.st.inU x (zMG hx)
 refine⟨_,(al (aB (i:=2) mE.nd rfl (Or.inl rfl) (ao cI (dS (pv 0) rfl) (pv 1) (fun _ _=>rfl)))
  (al (aB (i:=3) mE.nd rfl (Or.inl rfl) (dP m_line_to_end (hr.mono (by decide)) (pv 0) (ae (ao aw (pv 2) ai (fun _ _=>rfl)) af)))
  (al (aB (i:=4) mE.nd rfl (Or.inl rfl) (dP m_line_to_end (hr.mono (by decide)) (pv 0) (ae (ao aw (pv 2) ai (fun _ _=>rfl)) af)))
  (al (aB (i:=5) mE.nd rfl (Or.inl rfl) (pv 1))
  (al (aZ (aU nw (pv 3) fS (aT _)) (aq (aB (i:=5) mE.nd rfl (Or.inl rfl) (dP m_chained (hr.mono (by decide)) (pv 0) (ae (dP m_turned (hr.mono (by decide)) (pv 0) (ae (pv 3) af)) (ae (pv 5) af))))) bg)
  (al (aZ (aU nw (pv 4) fS (aT _)) (aq (aB (i:=5) mE.nd rfl (Or.inl rfl) (dP m_chained (hr.mono (by decide)) (pv 0) (ae (pv 5) (ae (pv 4) af))))) bg)
  (aq (aM (pv 5))))))))),?_⟩
 refine⟨_,rfl,p,C,dx,_,_,rfl,hk.self,R.cl,R.nl,fj,_,rfl,L,_,_,_,rfl,rfl,ak.of gL,hat,?_⟩
 refine⟨_,rfl,p,dx,_,rfl,hk.self,dH (by decide +kernel) (by decide +kernel) (by decide +kernel),_,rfl,_,_,_,_,rfl,rfl,aj.of hla,bP,p,dx,L,O,g,U,fs,on,cl,N,u1,x.1.1,a,k,rfl,hk,hu1,hin.1,hra,by omega,fun mo1 H1 fs1 on1 f1 k1 hext1 hkeep1 h10 h11 _=>?_⟩
 have t1:=hk.ts f1
 obtain⟨j',hrb'⟩:=hkeep1.rch _ _ _ hrb
 refine⟨_,rfl,p,dx,_,rfl,k1.self,dH (by decide +kernel) (by decide +kernel) (by decide +kernel),_,rfl,_,_,_,_,rfl,rfl,aj.of (t1 _ _ hla),bW,p,dx,L,O,g,U,fs1,on1,cl,_,v1,x.1.2,b,j',rfl,k1,hv1.mono t1,hin.2,hrb',by omega,fun mo2 H2 fs2 on2 f2 k2 hext2 hkeep2 h20 h21 _=>?_⟩
 have hext:=hext1.trans hext2
 have hkeep:=hkeep1.trans hkeep2
 have hx2:=hext.get hx
 refine⟨_,rfl,?_⟩
 show cZ.nx _ _ _
 with_reducible show fu _ _ _ _ _
 refine fW (fun σ H3=>∃(m:Nat)(z:Lf)(fs3:List Lf),σ=[some (.ref p),some (.int (n:Nat)),some (.ref la),some (cN mo1),some (cN mo2),some (.int (m:Nat))]/\cE p L O H H3/\RK C p dx L O g U H3 fs3 on2 cl (N+4 * U.length+2)/\dA fs2 fs3/\bd fs3 on2=bd fs2 on2/\fs3[m]?=some z/\z.1=(a,x.1.2)) ?_ (fun key=>?_)
 rotate_left
 ·cases mo1 with
  |none=>
   have:=h10 rfl
   exact⟨_,rfl,rfl,_,rfl,bc (by simp[cN]) (key _ _ ⟨n,x,fs2,rfl,f1.trans f2,k2.more (by omega),.refl,rfl,hx2,by rw[<-this]⟩)⟩
  |some m1=>
   obtain⟨y,hy,ey⟩:=h11 m1 rfl
   have hy2:=hext2.get hy
   refine⟨_,rfl,rfl,_,rfl,cK (by simp[cN]) ⟨_,rfl,p,dx,_,rfl,k2.self,dH (by decide +kernel) (by decide +kernel) (by decide +kernel),_,rfl,p,dx,_,rfl,k2.self,dH (by decide +kernel) (by decide +kernel) (by decide +kernel),_,rfl,p,dx,L,O,g,U,fs2,on2,cl,_,m1,y,rfl,k2,hy2,by omega,fun H3 f3 k3=>?_⟩⟩
   have e3:=(k2.st.add (wF (g:=g) hy2) (k2.st.inU y (zMG hy2)).2 (k2.st.inU y (zMG hy2)).1).2
   refine⟨_,rfl,p,dx,L,O,g,U,_,on2,cl,_,fs2.length,n,_,x,rfl,k3,lu _ _,nO hx2,by rw[ey],by omega,fun H4 f4 k4=>?_⟩
   refine key _ _ ⟨_,_,_,rfl,(f1.trans f2).trans (f3.trans f4),k4.more (by omega),dA.one.trans .one,?_,lu _ _,by rw[ey]⟩
   rw[<-e3]
   exact(k3.st.add (sT (g:=g) (lu _ _) (nO hx2) (by rw[ey])) (by show _∈U;exact(k2.st.inU y (zMG hy2)).2) hin.2).2
 rintro σ H3 ⟨m,z,fs3,rfl,f3,k3,hext3,hnx3,hz,ez⟩
 with_reducible show fu _ _ _ _ _
 refine fW (fun σ H4=>∃(m:Nat)(z:Lf)(fs4:List Lf),σ=[some (.ref p),some (.int (n:Nat)),some (.ref la),some (cN mo1),some (cN mo2),some (.int (m:Nat))]/\cE p L O H H4/\RK C p dx L O g U H4 fs4 on2 cl (N+4 * U.length+3)/\dA fs3 fs4/\bd fs4 on2=bd fs2 on2/\fs4[m]?=some z/\z.1=(a,b)) ?_ (fun key=>?_)
 rotate_left
 ·cases mo2 with
  |none=>
   have:=h20 rfl
   exact⟨_,rfl,rfl,_,rfl,bc (by simp[cN]) (key _ _ ⟨m,z,fs3,rfl,f3,k3.more (by omega),.refl,hnx3,hz,by rw[ez,this]⟩)⟩
  |some m2=>
   obtain⟨y,hy,ey⟩:=h21 m2 rfl
   have hy3:=hext3.get hy
   refine⟨_,rfl,rfl,_,rfl,cK (by simp[cN]) ⟨_,rfl,p,dx,_,rfl,k3.self,dH (by decide +kernel) (by decide +kernel) (by decide +kernel),_,rfl,_,rfl,p,dx,L,O,g,U,fs3,on2,cl,_,m,m2,z,y,rfl,k3,hz,hy3,by rw[ez,ey],by omega,fun H4 f4 k4=>?_⟩⟩
   refine key _ _ ⟨_,_,_,rfl,f3.trans f4,k4,.one,?_,lu _ _,by rw[ez,ey]⟩
   rw[<-hnx3]
   exact(k3.st.add (sT (g:=g) hz hy3 (by rw[ez,ey])) (k3.st.inU z (zMG hz)).1 (k3.st.inU y (zMG hy3)).2).2
 rintro σ H4 ⟨m4,z4,fs4,rfl,f4,k4,hext4,hnx4,hz4,ez4⟩
 exact⟨_,rfl,q m4 z4 H4 fs4 on2 f4 k4 (hext.trans (hext3.trans hext4)) (hnx4▸hkeep) hz4 ez4⟩
end
section
variable{P:aQ}{w:aH}{K:aA}{mg:aa->Option ac}{base:az}{C:Addr}
theorem Dr{x y z:V}{xs:List V}:dU (x::y::z::xs) (2:Int)=some z:=eO (j:=2) rfl
inductive Ds(C:Addr)(vs:List V)(H:Hp)(Q:VK):Prop
 |mk:∀(p dx L O:Addr)(g:Ln)(U:List Tm)(fs:List Lf)(on:On)(cl:V)(N n:Nat)(w:aa)(ps qs:List Tm)(r:RI),(vs=[.ref p,.int (n:Nat)])->(RK C p dx L O g U H fs on cl N)->(fs[n]?=some ((.thing w ps,.thing w qs),r))->(ps.length=qs.length)->(N+ps.length<=90000)->((∀x∈ps,x∈U))->((∀x∈qs,x∈U))->(∀(l:Addr)(ns:List Nat) H' fs',cE p L O H H'->RK C p dx L O g U H' fs' on cl (N+ps.length)->dA fs fs'->bd fs' on=bd fs on->H l=none->H' l=some (.lst (bN ns))->iz fs' ns (ps.zip qs).reverse->Q (.ref l) H')->Ds C vs H Q
def w8(C:Addr):Sp:=fun vs H Q _=>Ds C vs H Q
theorem Kk{f:Addr}{fd:be}(F:bB K "part_lines" "Reckoning.part_lines" n9 f fd)(R:RG K C)(T:Bi mg)(TZ:mg "zip"=none)(TE:mg "enumerate"=none)(m_added:cL P w K mg base 1 C "added" ["self","one","other","reason"] (qk C)):
 bf P w K mg base bp 2 f fd ["self","number"] (w8 C):=by
 refine F.ok qe (fun vs H Q E h=>?_) (fun cdv A outer s H vs Q E hr h=>?_)
 ·obtain⟨_,_,_,_,_,_,_,_,_,_,_,_,_,_,_,rfl,_⟩:=h
  rfl
 obtain⟨p,dx,L,O,g,U,fs,on,cl,N,n,w1,ps,qs,r,rfl,hk,hx,hl,hN,hpU,hqU,q⟩:=h
 obtain⟨ls,gL,hls⟩:=hk.ls
 obtain⟨la,u1,v1,r1,hat,hla,hr',hu1,hv1⟩:=iS hls hx
 obtain⟨a1,b1,us1,rfl,e1,g1,m1⟩:=dF.mp hu1
 obtain⟨a2,b2,us2,rfl,e2,g2,m2⟩:=dF.mp hv1
 have l1:=m1.len
 have l2:=m2.len
 apply aD;intro T1
 apply aD;intro T2
 apply aD;intro T3
 refine⟨_,(al (aB (i:=2) qe.nd rfl (Or.inl rfl) (ao cI (dS (pv 0) rfl) (pv 1) (fun _ _=>rfl))) (aC T3 (al (aB (i:=3) qe.nd rfl (Or.inl rfl) (bR af)) (aC T2 (al (dR cx rfl (J9 rfl TE rfl TZ (ae (ao aw (ao aw (pv 2) ai (fun _ _=>rfl)) ai (fun _ _=>rfl)) (ae (ao aw (ao aw (pv 2) ai (fun _ _=>rfl)) ai (fun _ _=>rfl)) af))) (zV rfl (rR (cz (i:=4) qe.nd rfl (Or.inl rfl)) (rR (cz (i:=5) qe.nd rfl (Or.inl rfl)) zU))) (aC T1 (aq (cj (cp bY cX cY cT (pv 3) (ae (dP m_added (hr.mono (by decide)) (pv 0) (ae (ao aw (pv 5) ai (fun _ _=>rfl)) (ae (ao aw (pv 5) ai (fun _ _=>rfl)) (ae (bO (ae aS (ae (pv 1) (ae (pv 4) af)))) af)))) af)))))) (aq (aM (BR T.b_list T.b_reversed (pv 3))))))))),?_⟩
 refine⟨_,rfl,p,C,dx,_,_,rfl,hk.self,R.cl,R.nl,fj,_,rfl,L,_,_,_,rfl,rfl,ak.of gL,hat,?_⟩
 refine⟨(by show 0<=sizeLine;decide),fun lp flp=>?_⟩
 generalize e_:ad H lp (HO.lst [])=H1
 obtain⟨s1,x1⟩:=aI flp e_
 have hk1:=hk.same s1
 have npL:lp≠L:=fun z=>by rw[z,gL]at flp;cases flp
 refine⟨_,rfl,_,_,_,_,rfl,rfl,aj.of (s1 _ _ hla),bP,_,_,_,_,rfl,rfl,aj.of (s1 _ _ e1),Dr,_,rfl,_,_,_,_,rfl,rfl,aj.of (s1 _ _ hla),bW,_,_,_,_,rfl,rfl,aj.of (s1 _ _ e2),Dr,b1,b2,us1,us2,rfl,s1 _ _ g1,s1 _ _ g2,?_⟩
 refine Ka ps.length l1 (by omega) (fun i σ HX=>∃(o4 o5:Option V)(ns:List Nat)(fs':List Lf),σ=[some (.ref p),some (.int (n:Nat)),some (.ref la),some (.ref lp),o4,o5]/\cE p L O H HX/\HX lp=some (.lst (bN ns))/\RK C p dx L O g U HX fs' on cl (N+i)/\dA fs fs'/\bd fs' on=bd fs on/\iz fs' ns ((ps.zip qs).take i))
  ⟨none,none,[],fs,rfl,.of s1,x1,hk1,.refl,rfl,.nil⟩ (fun i σ HX _ ⟨_,_,_,_,_,fX,_⟩=>⟨hk.ts fX _ _ g1,hk.ts fX _ _ g2⟩) ?_ ?_
 ·rintro i x y p0 q0 σ HX hxi hyi ⟨o4,o5,ns,fs',rfl,fX,glp,kX,hext,hnx,hns⟩ fp0 fq0
  have t1:=bG fp0 (HO.tup [x,y])
  have z1:ad HX p0 (HO.tup [x,y]) p0=some _:=au
  generalize ad HX p0 (HO.tup [x,y])=J1 at t1 z1 fq0 |-
  generalize e_:ad J1 q0 (HO.tup [.int (i:Nat),.ref p0])=J2
  obtain⟨t2,z2⟩:=aI fq0 e_
  have hi:i<us1.length:=(bI.mp hxi).1
  have hi1:i<ps.length:=by omega
  have hi2:i<qs.length:=by omega
  have s2:=t1.trans t2
  have k2:=kX.same s2
  have hts:=(hk.ts fX).trans (.of s2)
  refine⟨q0,_,rfl,aj.of z2,rfl,_,_,rfl,_,_,rfl,rfl,?_⟩
  have glp2:=s2 _ _ glp
  refine⟨_,rfl,.inl ⟨rfl,_,ak.of glp2⟩,_,rfl,p,dx,_,rfl,k2.self,dH (by decide +kernel) (by decide +kernel) (by decide +kernel),_,rfl,_,_,_,_,rfl,rfl,aj.of (t2 _ _ z1),bP,_,rfl,_,_,_,_,rfl,rfl,aj.of (t2 _ _ z1),bW,_,rfl,_,rfl,(by show 3<=sizeLine;decide),fun c fc=>?_⟩
  generalize e_:ad J2 c (HO.tup [.str "part",.int (n:Nat),.int (i:Nat)])=J3
  obtain⟨t3,z3⟩:=aI fc e_
  have s3:=s2.trans t3
  have k3:=k2.same t3
  have hxt:ay J3 x ps[i]:=by
   have h1:=m1.at i hi hi1
   rw[(bI.mp hxi).2]at h1
   exact h1.mono (hts.trans (.of t3))
  have hyt:ay J3 y qs[i]:=by
   have h1:=m2.at i (by omega) hi2
   rw[(bI.mp hyi).2]at h1
   exact h1.mono (hts.trans (.of t3))
  have hlead:lg (fs'.map (·.1)) g (.part (n:Nat) (i:Nat)) (ps[i],qs[i]):=Jj (hext.get hx) hl (zGE hi1) (zGE hi2)
  refine⟨p,dx,L,O,g,U,fs',on,cl,N+i,x,y,c,ps[i],qs[i],.part (n:Nat) (i:Nat),rfl,k3,hxt,hyt,z3,hlead,hpU _ (zGM hi1),hqU _ (zGM hi2),by omega,fun J4 f4 k4=>?_⟩
  have glp4:=k3.lst f4 (t3 _ _ glp2) npL
  have hnl:(bN ns).length<=i:=by
   have:=Paired.length hns
   rw[zLT]at this
   simp only[bN,zLM]
   omega
  refine⟨lp,_,_,rfl,rfl,glp4,big (by omega),?_⟩
  have hzi:i<(ps.zip qs).length:=by rw[m5];omega
  refine⟨_,_,ns++[fs'.length],fs'++[((ps[i],qs[i]),.part (n:Nat) (i:Nat))],rfl,?_,by rw[au];simp[bN],(k4.put glp4 npL),hext.trans .one,?_,?_⟩
  ·intro b o e h1 h2 h3
   rw[am (aF e flp)]
   exact f4 _ _ (s3 _ _ (fX b o e h1 h2 h3)) h1 h2 h3
  ·rw[(k3.st.add hlead (hpU _ (zGM hi1)) (hqU _ (zGM hi2))).2,hnx]
  ·rw[zTS hzi]
   exact ld hns.app ⟨_,lu _ _,by rw[pe]⟩
 ·rintro σ HX ⟨o4,o5,ns,fs',rfl,fX,glp,kX,hext,hnx,hns⟩
  rw[dD (by rw[m5];omega)]at hns
  refine⟨_,rfl,lp,bN ns,rfl,ak.of glp,fun l fl=>?_⟩
  have t1:=bG fl (HO.lst (bN ns).reverse)
  exact q l ns.reverse _ fs' (fX.trans (.of t1)) (kX.same t1) hext hnx (kX.free fX fl) (by rw[au];simp[bN,List.map_reverse]) (Jo hns)
def w9(fs:List Lf)(cl:V):Prop:=∃(m:Nat)(z:Lf),cl= .int (m:Nat)/\fs[m]?=some z/\wS z.1.1 z.1.2
inductive Du(C:Addr)(vs:List V)(H:Hp)(Q:VK):Prop
 |mk:∀(p dx L O:Addr)(g:Ln)(U:List Tm)(fs:List Lf)(on:On)(N n:Nat)(x:Lf)(pd:List Ln),(vs=[.ref p,.int (n:Nat)])->(RK C p dx L O g U H fs on .non N)->(fs[n]?=some x)->(dw g (bd fs on) (pd++[x.1]))->((∀w ps,Tm.thing w ps∈U->∀q∈ps,q∈U))->(N+8 * U.length+100<=90000)->(∀(l:Addr)(ns:List Nat)(pdn:List Ln) H' fs' on' cl',cE p L O H H'->RK C p dx L O g U H' fs' on' cl' (N+8 * U.length+100)->dA fs fs'->H l=none->H' l=some (.lst (bN ns))->iz fs' ns pdn->ns.length<=90->((cl'= .non/\dw g (bd fs' on') (pd++pdn)/\iR U (bd fs' on')+pdn.length<=iR U (bd fs on))\/w9 fs' cl')->Q (.ref l) H')->Du C vs H Q
def xa(C:Addr):Sp:=fun vs H Q _=>Du C vs H Q
theorem Kl{f:Addr}{fd:be}(F:bB K "led_together" "Reckoning.led_together" nZ f fd)(R:RG K C)(c_same:aO P w K mg base 2 "same" ["one","other"] wU)(c_head:aO P w K mg base 1 "head" ["term"] tO)(m_end_of:cL P w K mg base 5 C "end_of" ["self","term"] (wZ C))(m_between_ends:cL P w K mg base 5 C "between_ends" ["self","number"] (w6 C))
 (m_lead_on:cL P w K mg base 3 C "lead_on" ["self","number"] (tS C)) (m_turned:cL P w K mg base 2 C "turned" ["self","number"] (tQ C)) (m_part_lines:cL P w K mg base 2 C "part_lines" ["self","number"] (w8 C)):
 bf P w K mg base bp 6 f fd ["self","number"] (xa C):=by
 refine F.ok qd (fun vs H Q E h=>?_) (fun cdv A outer s H vs Q E hr h=>?_)
 ·obtain⟨_,_,_,_,_,_,_,_,_,_,_,_,rfl,_⟩:=h
  rfl
 obtain⟨p,dx,L,O,g,U,fs,on,N,n,x,pd,rfl,hk,hx,hinv,hcl,hN,q⟩:=h
 have hun:=hr.un
 obtain⟨ls,gL,hls⟩:=hk.ls
 obtain⟨la,u1,v1,r1,hat,hla,hr',hu1,hv1⟩:=iS hls hx
 have hin:=hk.st.inU x (zMG hx)
 obtain⟨k,a,hra⟩:=hinv.tot x.1.1
 obtain⟨j,b,hrb⟩:=hinv.tot x.1.2
 have haU:=CS hk.st hra hin.1
 have hbU:=CS hk.st hrb hin.2
 apply aD;intro T1
 apply aD;intro T2
 apply aD;intro T3
 apply aD;intro T4
 apply aD;intro T5
 apply aD;intro T6
 apply aD;intro T7
 apply aD;intro T8
 apply aD;intro T9
 apply aD;intro T10
 refine⟨_,(al (aB (i:=2) qd.nd rfl (Or.inl rfl) (ao cI (dS (pv 0) rfl) (pv 1) (fun _ _=>rfl))) (aC T10 (al (aZ (dX (a0 c_same (hr.mono (by decide)) (ae (dP m_end_of (hr.mono (by decide)) (pv 0) (ae (ao aw (pv 2) ai (fun _ _=>rfl)) af)) (ae (dP m_end_of (hr.mono (by decide)) (pv 0) (ae (ao aw (pv 2) ai (fun _ _=>rfl)) af)) af)))) (aq (aM (bR af))) bg) (aC T9 (al (aB (i:=3) qd.nd rfl (Or.inl rfl) (dP m_between_ends (hr.mono (by decide)) (pv 0) (ae (pv 1) af))) (aC T8 (al (aB (i:=4) qd.nd rfl (Or.inl rfl) (ao aw (ao cI (dS (pv 0) rfl) (pv 3) (fun _ _=>rfl)) ai (fun _ _=>rfl))) (aC T7 (al (aB (i:=5) qd.nd rfl (Or.inl rfl) (ao aw (ao cI (dS (pv 0) rfl) (pv 3) (fun _ _=>rfl)) ai (fun _ _=>rfl))) (aC T6 (al (aZ (aU cf (ao aw (pv 4) ai (fun _ _=>rfl)) aS (aT _)) (aC T1 (al (cj (dP m_lead_on (hr.mono (by decide)) (pv 0) (ae (pv 3) af))) (aq (aM (bR af))))) bg) (aC T5 (al (aZ (aU cf (ao aw (pv 5) ai (fun _ _=>rfl)) aS (aT _)) (aC T2 (al (cj (dP m_lead_on (hr.mono (by decide)) (pv 0) (ae (dP m_turned (hr.mono (by decide)) (pv 0) (ae (pv 3) af)) af))) (aq (aM (bR af))))) bg) (aC T4 (al (aZ (aU sr (a0 c_head (hr.mono (by decide)) (ae (pv 4) af)) (a0 c_head (hr.mono (by decide)) (ae (pv 5) af)) (aT _)) (al (rZ (pv 0) (pv 3) rfl) (aq (aM (bR af)))) bg) (aC T3 (al (cj (dP m_lead_on (hr.mono (by decide)) (pv 0) (ae (pv 3) af))) (aq (aM (dP m_part_lines (hr.mono (by decide)) (pv 0) (ae (pv 3) af))))))))))))))))))))),?_⟩
 refine⟨_,rfl,p,C,dx,_,_,rfl,hk.self,R.cl,R.nl,fj,_,rfl,L,_,_,_,rfl,rfl,ak.of gL,hat,?_⟩
 refine⟨_,rfl,p,dx,_,rfl,hk.self,dH (by decide +kernel) (by decide +kernel) (by decide +kernel),_,rfl,_,_,_,_,rfl,rfl,aj.of hla,bP,p,dx,L,O,g,U,fs,on,.non,N,u1,x.1.1,a,k,rfl,hk,hu1,hin.1,hra,by omega,fun va H1 fs1 on1 f1 k1 hext1 hkeep1 hva=>?_⟩
 have t1:=hk.ts f1
 obtain⟨j1,hrb1⟩:=hkeep1.rch _ _ _ hrb
 refine⟨_,rfl,p,dx,_,rfl,k1.self,dH (by decide +kernel) (by decide +kernel) (by decide +kernel),_,rfl,_,_,_,_,rfl,rfl,aj.of (t1 _ _ hla),bW,p,dx,L,O,g,U,fs1,on1,.non,_,v1,x.1.2,b,j1,rfl,k1,hv1.mono t1,hin.2,hrb1,by omega,fun vb H2 fs2 on2 f2 k2 hext2 hkeep2 hvb=>?_⟩
 have hext:=hext1.trans hext2
 have hkeep:=hkeep1.trans hkeep2
 have f12:=f1.trans f2
 have hinv2:=hkeep.inv _ hinv
 obtain⟨k2',hra2⟩:=hkeep.rch _ _ _ hra
 obtain⟨j2',hrb2⟩:=hkeep.rch _ _ _ hrb
 have hna:=(hk.ok a haU).2
 refine⟨va,vb,a,b,rfl,hva.mono (k1.ts f2),hvb,by omega,fun bb H3 s3 hbb=>⟨_,rfl,bE (fun c=>?_) (fun c=>?_)⟩⟩
 ·have hab:a=b:=hbb.mp c
  subst hab
  refine⟨(by show 0<=sizeLine;decide),fun l fl=>?_⟩
  have t4:=bG fl (HO.lst [])
  have f4:=f12.trans (.of (s3.trans t4))
  refine q l [] [] _ fs2 on2 .non f4 ((k2.same (s3.trans t4)).more (by omega)) hext ((k2.same s3).free (f12.trans (.of s3)) fl) au .nil (by simp) (.inl ⟨rfl,?_,?_⟩)
  ·rw[jB];exact hinv2.done hra2 hrb2
  ·rw[sU hkeep];simp
 have hab:a≠b:=fun z=>c (hbb.mpr z)
 have k3:=k2.same s3
 have f3:=f12.trans (.of s3)
 refine⟨_,rfl,p,dx,_,rfl,k3.self,dH (by decide +kernel) (by decide +kernel) (by decide +kernel),_,rfl,p,dx,L,O,g,U,fs2,on2,.non,_,n,x,a,b,k2',j2',rfl,k3,hext.get hx,hra2,hrb2,by omega,fun m z H4 fs4 on4 f4 k4 hext4 hkeep4 hz ez=>?_⟩
 have hextA:=hext.trans hext4
 have hkeepA:=hkeep.trans hkeep4
 have fA:=f3.trans f4
 have hinv4:=hkeepA.inv _ hinv
 obtain⟨k4',hra4⟩:=hkeepA.rch _ _ _ hra
 obtain⟨j4',hrb4⟩:=hkeepA.rch _ _ _ hrb
 obtain⟨ls4,gL4,hls4⟩:=k4.ls
 obtain⟨lb,y1,y2,r4,hat4,hlb,hr4,hy1,hy2⟩:=iS hls4 hz
 rw[ez]at hy1 hy2
 refine⟨_,rfl,p,C,dx,_,_,rfl,k4.self,R.cl,R.nl,fj,_,rfl,L,_,_,_,rfl,rfl,ak.of gL4,hat4,_,_,_,_,rfl,rfl,aj.of hlb,bP,?_⟩
 refine⟨_,rfl,p,C,dx,_,_,rfl,k4.self,R.cl,R.nl,fj,_,rfl,L,_,_,_,rfl,rfl,ak.of gL4,hat4,_,_,_,_,rfl,rfl,aj.of hlb,bW,?_⟩
 obtain⟨c1,xs1,kk1,rfl,e1,hB1,hT1⟩:=hy1.kind
 obtain⟨c2,xs2,kk2,rfl,e2,hB2,hT2⟩:=hy2.kind
 have ez1:z.1.1=a:=by rw[ez]
 have ez2:z.1.2=b:=by rw[ez]
 refine⟨_,rfl,_,_,_,_,rfl,rfl,aj.of e1,bP,rfl,_,rfl,bE (fun cB=>?_) (fun cB=>?_)⟩
 ·have nb:cV a=true:=hB1.mp (by simpa using cB)
  refine⟨_,rfl,p,dx,_,rfl,k4.self,dH (by decide +kernel) (by decide +kernel) (by decide +kernel),_,rfl,p,dx,L,O,g,U,fs4,on4,.non,_,m,z,rfl,k4,hz,by omega,fun H5 f5 k5=>?_⟩
  refine⟨(by show 0<=sizeLine;decide),fun l fl=>?_⟩
  have t6:=bG fl (HO.lst [])
  refine q l [] [] _ fs4 _ .non ((fA.trans f5).trans (.of t6)) ((k5.same t6).more (by omega)) hextA (k5.free (fA.trans f5) fl) au .nil (by simp) (.inl ⟨rfl,?_,?_⟩)
  ·rw[jB,(k4.st.lead hz).2,ez1,ez2]
   exact hinv4.join hra4 hrb4 hab (.inl ⟨rfl,rfl⟩) (fun _ h=>h) (.inl nb)
  ·rw[(k4.st.lead hz).2,ez1,ez2,<-sU (U:=U) hkeepA]
   have:=wH (U:=U) (d:=b) hra4.end' haU
   simp only[zLN]
   omega
 have nba:cV a=false:=h9.mpr fun y=>cB (by simpa using hB1.mpr y)
 refine⟨_,rfl,_,_,_,_,rfl,rfl,aj.of e2,bP,rfl,_,rfl,bE (fun cC=>?_) (fun cC=>?_)⟩
 ·have nb:cV b=true:=hB2.mp (by simpa using cC)
  have hzU:=k4.st.inU z (zMG hz)
  refine⟨_,rfl,p,dx,_,rfl,k4.self,dH (by decide +kernel) (by decide +kernel) (by decide +kernel),_,rfl,p,dx,_,rfl,k4.self,dH (by decide +kernel) (by decide +kernel) (by decide +kernel),_,rfl,p,dx,L,O,g,U,fs4,on4,.non,_,m,z,rfl,k4,hz,by omega,fun H5 f5 k5=>?_⟩
  refine⟨p,dx,L,O,g,U,_,on4,.non,_,fs4.length,_,rfl,k5,lu _ _,by omega,fun H6 f6 k6=>?_⟩
  refine⟨(by show 0<=sizeLine;decide),fun l fl=>?_⟩
  have t6:=bG fl (HO.lst [])
  have f46:=fA.trans (f5.trans f6)
  have e5:=(k4.st.add (wF (g:=g) hz) hzU.2 hzU.1).2
  have e6:=(k5.st.lead (lu _ _)).2
  refine q l [] [] _ _ _ .non (f46.trans (.of t6)) ((k6.same t6).more (by omega)) (hextA.trans .one) (k6.free f46 fl) au .nil (by simp) (.inl ⟨rfl,?_,?_⟩)
  ·rw[jB,e6,e5]
   simp only[ez1,ez2]
   exact hinv4.join hra4 hrb4 hab (.inr ⟨rfl,rfl⟩) (fun _ h=>h) (.inl nb)
  ·rw[e6,e5,<-sU (U:=U) hkeepA]
   simp only[ez1,ez2]
   have:=wH (U:=U) (d:=a) hrb4.end' hbU
   simp only[zLN]
   omega
 have nbb:cV b=false:=h9.mpr fun y=>cC (by simpa using hB2.mpr y)
 have hdd:=C9 a
 refine⟨_,rfl,_,a,rfl,hy1,fun w1 H5 s5 d1=>⟨_,rfl,_,b,rfl,hy2.mono (.of s5),fun w2 H6 s6 d2=>⟨dm a,dm b,d1.same s6,d2,(by show (A.deeper _).units+_<cLine;omega),fun b3 hb3=>⟨_,rfl,bE (fun cD=>?_) (fun cD=>?_)⟩⟩⟩⟩
 ·have hne:=hb3.mp cD
  have s56:=s5.trans s6
  have k6:=k4.same s56
  obtain⟨npL,npO,nLO⟩:=k6.ne
  refine⟨_,rfl,_,rfl,p,C,dx,_,rfl,k6.self,R.cl,R.nc,(by show 3<1000;decide),?_⟩
  rw[Jm]
  have k7:RK C p dx L O g U (ad H6 p (HO.ins C dx (eK L O (.int (m:Nat))))) fs4 on4 (.int (m:Nat)) (N+8 * U.length+100):=by
   have kk:=k6.more (M:=N+8 * U.length+100) (by omega)
   obtain⟨l6,g6,h6⟩:=kk.ls
   obtain⟨kv,g7,h7⟩:=kk.dic
   have kt:aR H6 (ad H6 p (HO.ins C dx (eK L O (.int (m:Nat))))):=fun bq ys y=>by rw[am (ce y kk.self (by intro z;cases z))];exact y
   exact⟨au,⟨l6,by rw[am npL.symm];exact g6,eG.mono kt h6⟩,⟨kv,by rw[am npO.symm];exact g7,h7⟩,kk.len,kk.st,kk.ok⟩
  have f7:cE p L O H (ad H6 p (HO.ins C dx (eK L O (.int (m:Nat))))):=fun bq o y h1 h2 h3=>by rw[am h1];exact s56 _ _ (fA _ _ y h1 h2 h3)
  generalize ad H6 p (HO.ins C dx (eK L O (.int (m:Nat))))=H7 at k7 f7 |-
  refine⟨(by show 0<=sizeLine;decide),fun l fl=>?_⟩
  have t8:=bG fl (HO.lst [])
  exact q l [] [] _ fs4 on4 (.int (m:Nat)) (f7.trans (.of t8)) (k7.same t8) hextA (k7.free f7 fl) au .nil (by simp) (.inr ⟨m,z,rfl,hz,by rw[ez1,ez2];exact⟨nba,nbb,hne⟩⟩)
 ·have heq:dm a=dm b:=ic fun y=>cD (hb3.mpr y)
  obtain⟨w3,ps,qs,ea,eb,hlp⟩:∃w ps qs,a= .thing w ps/\b= .thing w qs/\ps.length=qs.length:=by
   rcases wT heq with y|y
   ·exact absurd y hab
   ·exact y
  have s56:=s5.trans s6
  have k6:=k4.same s56
  have f6:=fA.trans (.of s56)
  refine⟨_,rfl,p,dx,_,rfl,k6.self,dH (by decide +kernel) (by decide +kernel) (by decide +kernel),_,rfl,p,dx,L,O,g,U,fs4,on4,.non,_,m,z,rfl,k6,hz,by omega,fun H7 f7 k7=>?_⟩
  have hpn:ps.length<=90:=by
   have:=(hk.ok a haU).2
   have:=gq ps
   rw[ea]at *
   simp only[Tm.nodes]at *
   omega
  have f67:=f6.trans f7
  refine⟨_,rfl,p,dx,_,rfl,k7.self,dH (by decide +kernel) (by decide +kernel) (by decide +kernel),_,rfl,p,dx,L,O,g,U,fs4,_,.non,_,m,w3,ps,qs,z.2,rfl,k7,?_,hlp,by omega,fun y hy=>hcl w3 ps (ea▸haU) y hy,fun y hy=>hcl w3 qs (eb▸hbU) y hy,fun l ns H8 fs8 f8 k8 hext8 hnx8 fl gl hns=>?_⟩
  ·rw[hz,<-ea,<-eb,<-ez]
  ·refine q l ns (ps.zip qs).reverse H8 fs8 _ .non (f67.trans f8) (k8.more (by omega)) (hextA.trans hext8) (k7.free f67 fl) gl hns (by have:=Paired.length hns;rw[cR,m5]at this;omega) (.inl ⟨rfl,?_,?_⟩)
   ·rw[hnx8,(k4.st.lead hz).2,ez1,ez2]
    refine hinv4.join hra4 hrb4 hab (.inl ⟨rfl,rfl⟩) (fun _ h=>eu _ h) (.inr ⟨w3,ps,qs,ea,eb,hlp,fun y hy=>.inl (d6 _ (mY.mpr hy))⟩)
   ·rw[hnx8,(k4.st.lead hz).2,ez1,ez2,<-sU (U:=U) hkeepA]
    have:=wH (U:=U) (d:=b) hra4.end' haU
    rw[cR,m5]
    have ear:ar a=ps.length:=by rw[ea];rfl
    omega
inductive Dv(C:Addr)(vs:List V)(H:Hp)(Q:VK):Prop
 |mk:∀(p dx L O:Addr)(g:Ln),(vs=[.ref p])->(RK C p dx L O g (bH g) H [(g,.giv)] (fun _=>none) .non 1)->(g.1.nodes+g.2.nodes<=80)->(∀H' fs' on' cl',cE p L O H H'->RK C p dx L O g (bH g) H' fs' on' cl' 60000->((cl'= .non/\dw g (bd fs' on') [])\/w9 fs' cl')->Q .non H')->Dv C vs H Q
def xb(C:Addr):Sp:=fun vs H Q _=>Dv C vs H Q
theorem Km{f:Addr}{fd:be}(F:bB K "work_out" "Reckoning.work_out" nY f fd)(R:RG K C)(m_led_together:cL P w K mg base 6 C "led_together" ["self","number"] (xa C)):bf P w K mg base bp 7 f fd ["self"] (xb C):=by
 refine F.ok wL (fun vs H Q E h=>?_) (fun cdv A outer s H vs Q E hr h=>?_)
 ·obtain⟨_,_,_,_,_,rfl,_⟩:=h
  rfl
 obtain⟨p,dx,L,O,g,rfl,hk,hsz,q⟩:=h
 have hUl:(bH g).length<=80:=by unfold bH;rw[zLA,gN,gN];exact hsz
 have hms:=Jl g
 apply aD;intro T1
 apply aD;intro T2
 apply aD;intro T3
 refine⟨_,(al (aB (i:=1) wL.nd rfl (Or.inl rfl) (bR (ae ai af))) (aC T3 (aq (ig cx (kr (ny (pv 1) (fun _=>rfl)) (kq (aU vG (dS (pv 0) rfl) fS (aT _)))).pt (aC T2 (al (aB (i:=2) wL.nd rfl (Or.inl rfl) (kF bY kl km kH (pv 1))) (aC T1 (aq (cj (cp bY pj pk pG (pv 1) (ae (dP m_led_together (hr.mono (by decide)) (pv 0) (ae (pv 2) af)) af))))))))))),?_⟩
 refine⟨(by show 1<=sizeLine;decide),fun lc flc=>?_⟩
 generalize e_:ad H lc (HO.lst [.int 0])=H1
 obtain⟨s1,x1⟩:=aI flc e_
 obtain⟨ls,gL,_⟩:=hk.ls
 have nlL:lc≠L:=fun z=>by rw[z,gL]at flc;cases flc
 have nx0:bd [(g,RI.giv)] (fun _=>none)=fun _=>none:=rfl
 refine⟨fun m σ HA=>∃(o2:Option V)(ns:List Nat)(pd:List Ln)(fs:List Lf)(on:On)(cl:V),σ=[some (.ref p),some (.ref lc),o2]/\m<=80/\cE p L O H HA/\HA lc=some (.lst (bN ns))/\ns.length<=1+(80 - m) * 90/\RK C p dx L O g (bH g) HA fs on cl (1+(80 - m) * 740)/\iz fs ns pd/\((cl= .non/\dw g (bd fs on) pd/\iR (bH g) (bd fs on)+pd.length<=m)\/w9 fs cl),
  ⟨80,none,[0],[g],[(g,.giv)],fun _=>none,.non,rfl,aE _,.of s1,x1,by simp,(hk.same s1).more (by omega),.cons ⟨_,rfl,rfl⟩ .nil,.inl ⟨rfl,by rw[nx0];exact dw.start g,by rw[nx0];simp;omega⟩⟩,?_⟩
 rintro m σ HA ⟨o2,ns,pd,fs,on,cl,rfl,hm80,fA,gA,hnl,kA,hns,hst⟩
 refine⟨_,rfl,_,.inl ⟨_,ak.of gA,rfl⟩,bE (fun c=>?_) (fun c=>cg ?_)⟩
 ·refine⟨_,rfl,p,C,dx,_,_,rfl,kA.self,R.cl,R.nc,tj,rfl,_,rfl,bE (fun c2=>⟨_,fun _ _ h=>h,?_⟩) (fun c2=>?_)⟩
  ·rcases hst with⟨rfl,hinv,hmeas⟩|⟨m0,z,rfl,_⟩
   ·have hne:ns≠[]:=by intro z;rw[z]at c;simp[bN]at c
    have hlen:=Paired.length hns
    obtain⟨ns0,n,rfl⟩:=iw hne
    obtain⟨pd0,p0,rfl⟩:=iw (l:=pd) (by intro z;rw[z]at hlen;simp at hlen)
    obtain⟨hns0,x,hx,ex⟩:=CV hns
    have hm1:1<=m:=by rw[zLA]at hmeas;simp at hmeas;omega
    have enat:bN (ns0++[n])=bN ns0++[.int (n:Nat)]:=by simp[bN]
    rw[enat]at gA
    refine⟨_,rfl,.inl ⟨rfl,_,ak.of gA⟩,lc,_,.int (n:Nat),rfl,rfl,gA,by simp,?_⟩
    rw[lF]
    have kB:=kA.put (ys:=bN ns0) gA nlL
    have gB:ad HA lc (HO.lst (bN ns0)) lc=some _:=au
    have fB:cE p L O H (ad HA lc (HO.lst (bN ns0))):=fun b o y h1 h2 h3=>by rw[am (aF y flc)];exact fA _ _ y h1 h2 h3
    generalize ad HA lc (HO.lst (bN ns0))=HB at kB gB fB |-
    rw[<-ex]at hinv
    refine⟨_,rfl,.inl ⟨rfl,_,ak.of gB⟩,_,rfl,p,dx,_,rfl,kB.self,dH (by decide +kernel) (by decide +kernel) (by decide +kernel),_,rfl,p,dx,L,O,g,bH g,fs,on,_,n,x,pd0,rfl,kB,hx,hinv,fun w ps h q hq=>wI h hq,?_,fun l ns1 pdn HC fs' on' cl' fC kC hextC fl gl hns1 hnew hst'=>?_⟩
    ·have:(80 - m) * 740<=80 * 740:=iY _ (by omega)
     omega
    ·have gC:=kB.lst fC gB nlL
     have hpl:pdn.length<=90\/True:= .inr trivial
     have hn1:=Paired.length hns1
     have hlen1:=hnew
     have hlc:l≠lc:=fun z=>by rw[z,gB]at fl;cases fl
     refine⟨lc,l,bN ns0,bN ns1,rfl,rfl,gC,gl,d9 (by simp only[bN,zLM];rw[zLA]at hnl;have:(80 - m) * 90<=80 * 90:=iY _ (by omega);omega),?_⟩
     have e1:(80 - (m - 1))=(80 - m)+1:=by omega
     refine⟨m - 1,by omega,_,ns0++ns1,pd0++pdn,fs',on',cl',rfl,by omega,fun b o y h1 h2 h3=>by rw[am (aF y flc)];exact fC _ _ (fB _ _ y h1 h2 h3) h1 h2 h3,by rw[au];simp[bN],?_,(kC.put gC nlL).more ?_,Jp (hextC.nums hns0) hns1,?_⟩
     ·rw[e1,jx,zLA]
      rw[zLA]at hnl
      simp only[zLC,zLN]at hnl
      omega
     ·rw[e1,jx]
      omega
     ·refine hst'.imp (fun⟨h1,h2,h3⟩=>⟨h1,h2,?_⟩) id
      rw[zLA]at hmeas |-
      simp only[zLC,zLN]at hmeas
      omega
   ·simp at c2
  ·refine q HA fs on cl fA (kA.more ?_) (.inr ?_)
   ·have:(80 - m) * 740<=80 * 740:=iY _ (by omega)
    omega
   ·rcases hst with⟨rfl,_⟩|z
    ·simp at c2
    ·exact z
 ·refine q HA fs on cl fA (kA.more ?_) (hst.imp (fun⟨h1,h2,_⟩=>⟨h1,?_⟩) id)
  ·have:(80 - m) * 740<=80 * 740:=iY _ (by omega)
   omega
  ·have e0:ns=[]:=by
        cases ns with
        |nil=>rfl
        |cons a b=>exact absurd (by simp[bN]) c
   subst e0
   have hlen:=Paired.length hns
   have e1:pd=[]:=jb.mp hlen.symm
   subst e1
   exact h2
end
end K09
namespace BF
open PySem PySem.Spec PyProof.Rows L2
open Sem (wp)
section
variable{X:Cx}{pins:List (Addr×aG)}{σ:L2.St}{H:Hp}{s:ah}{a:Addr}{kvs:List (Key×V)}
theorem Dw{u u':HO}(I:Inv X pins σ H s)(ha:H a=some u)(ht:∀xs,u≠ .tup xs)(ho:∀y,u≠ .own y)(hb:∀ps,u≠ .tbl ps)(hf:∀o v,X.H₀ a≠some (.frz o v))(new:cF X.prog X.w (ad H a u') s.heap a u'):Inv X pins σ (ad H a u') s:=by
 have ne:∀b,H b=none->b≠a:=fun b e z=>by rw[z,ha]at e;cases e
 refine⟨I.ok,I.os,I.bare,⟨I.base.keep,I.base.slot,fun b o e n hx=>?_,I.base.there,fun b xs e=>?_,fun b o v e=>?_,fun b ps e=>?_⟩,I.loc,I.cell,?_,fun x c e=>?_,fun p hp=>?_,fun b o e=>?_,I.len⟩
 ·have z:=I.base.free b o e n hx
  rw[am (ne b z)];exact z
 ·have z:=I.base.tups b xs e
  rw[am (fun y=>by rw[y,ha]at z;exact ht xs (cv z))];exact z
 ·have z:=I.base.frzs b o v e
  rw[am (fun (y:b=a)=>hf o v (by rw[<-y];exact e))];exact z
 ·obtain⟨more,z⟩:=I.base.tbls b ps e
  exact⟨more,by rw[am (fun y=>by rw[y,ha]at z;exact hb _ (cv z))];exact z⟩
 ·rw[am (ne _ I.free)];exact I.free
 ·have z:=I.freeC x c e
  rw[am (ne _ z)];exact z
 ·obtain⟨h1,h2,h3⟩:=I.pin p hp
  exact⟨h1,by rw[am (ne _ h2)];exact h2,h3⟩
 ·by_cases c:b=a
  ·subst c
   rw[au]at e
   cases e
   exact new
  ·rw[am c]at e
   refine(I.hok b o e).stay (fun _ _ _ q=>q) (fun c' q=>?_) (fun c' xs q=>?_)
   ·rw[am (fun y=>by rw[y,ha]at q;exact ho _ (cv q))];exact q
   ·rw[am (fun y=>by rw[y,ha]at q;exact ht _ (cv q))];exact q
theorem xc(I:Inv X pins σ H s)(ha:H a=some (.dK kvs)):∀o v,X.H₀ a≠some (.frz o v):=fun o v e=>by
 have:=I.base.frzs a o v e
 rw[ha]at this
 cases this
theorem Dx(I:Inv X pins σ H s)(ha:H a=some (.dK kvs)):∃o vs ep,s.heap.get? a=some o/\(a==sysModules)=false/\KV kvs vs/\uD (dn X.prog X.w) o vs ep/\Inv X pins σ (ad H a (.frz o (.dK kvs))) s:=by
 obtain⟨z,lo,vs,rel,dd⟩:=sf I.hok ha
 obtain⟨ep,hat⟩:=dd.dictAt
 obtain⟨o,es,h1,h2⟩:=id hat
 refine⟨o,vs,ep,h1,lo,rel,⟨es,h2⟩,Dw I ha (fun _ z=>by cases z) (fun _ z=>by cases z) (fun _ z=>by cases z) (xc I ha) ⟨h1,?_⟩⟩
 exact I.hok a _ ha
theorem Dy{o:aG}(I:Inv X pins σ H s)(ha:H a=some (.frz o (.dK kvs)))(hf:∀o v,X.H₀ a≠some (.frz o v)):Inv X pins σ (ad H a (.dK kvs)) s:=
 Dw I ha (fun _ z=>by cases z) (fun _ z=>by cases z) (fun _ z=>by cases z) hf (I.hok a _ ha).2
theorem tT{o:aG}{u:HO}(I:Inv X pins σ H s)(ha:H a=some (.frz o u)):s.heap.get? a=some o:=(I.hok a _ ha).1
end
section
variable{X:Cx}
theorem Dz{e:Expr}{te:TE}(h:PE X e te):PE X e (fun σ H Q=>∃a kvs,H a=some (.dK kvs)/\te σ H fun v H2=>∃o,H2 a=some (.frz o (.dK kvs))/\Q v (ad H2 a (.dK kvs))):=by
 intro pins s σ H Q I ⟨a,kvs,ha,ht⟩
 have hf:=xc I ha
 refine aK (h pins s σ H _ I ht) fun u s1 ⟨v,H2,I2,r2,o,h2,q2⟩=>⟨v,_,Dy I2 h2 hf,r2,q2⟩
theorem Kn{st:Stmt}{t:TS}(h:PS X st t):PS X st (fun D σ H=>∃a kvs,H a=some (.dK kvs)/\t { nx:=fun σ' H2=>∃o,H2 a=some (.frz o (.dK kvs))/\D.nx σ' (ad H2 a (.dK kvs)),rt:=fun _ _=>False} σ H):=by
 intro pins s σ H D I ⟨a,kvs,ha,ht⟩
 have hf:=xc I ha
 refine aK (h pins s σ H _ I ht) fun f s1 q=>?_
 cases f with
 |next=>
  obtain⟨σ',H2,I2,o,h2,q2⟩:=q
  exact⟨σ',_,Dy I2 h2 hf,q2⟩
 |brk=>obtain⟨_,_,_,q2⟩:=q;exact q2.elim
 |cont=>obtain⟨_,_,_,q2⟩:=q;exact q2.elim
 |ret u=>obtain⟨_,_,_,_,_,q2⟩:=q;exact q2.elim
end
def xg(a:Addr)(o:aG)(kvs:List (Key×V)):It:=
 ⟨fun i H=>H a=some (.frz o (.dK kvs))/\i<kvs.length,fun i H x H'=>H'=H/\∃kv,kvs[i]?=some kv/\x=kV kv.1,fun i H=>H a=some (.frz o (.dK kvs))/\kvs.length<=i⟩
theorem Ko{P:aQ}{w:aH}{K:aA}{tg:Expr}(a it:Addr)(o:aG)(kvs:List (Key×V))(vs:List (Key×ac))(ep:Nat)(rel:KV kvs vs)(hat:uD (dn P w) o vs ep):
 jd P w K tg (xg a o kvs) [it] it (fun i h=>h.IsKeyIter it a i vs.length ep) where
 mem:=by simp
 obj:=fun i h st b hb=>by
  have e:b=it:=by simpa using hb
  subst e
  obtain⟨o,e,c,d⟩:=st
  exact⟨o,e,fun v z=>by rw[d]at z;cases z⟩
 keep:=fun i h h' st k=>by
  obtain⟨o,e,c,d⟩:=st
  exact⟨o,k it (by simp) o e,c,d⟩
 item:=by
  intro X hP hw hK hc i pins s σ H E I hf st hg
  subst hP hw hK
  obtain⟨ha,hi⟩:=hg
  have hget:=tT I ha
  have hl:=rel.length
  have hk:=rel.keys
  obtain⟨k,x,hx⟩:∃k x,vs[i]?=some (k,x):=⟨_,_,zGE (by omega)⟩
  obtain⟨f0,f1,f2,f3,f4,f5⟩:=hf it (by simp)
  refine wpAny_pyNext_dict_item st (hat.dictAt hget) hx fun key h' hkey st' sb=>?_
  have I1:Inv X pins σ H { s with heap:=h'}:=I.turned (t':=s.toks) (fun b o hb e=>(sb.2 b hb).trans e) f0 f1 f3 f4 f5
  have hkv:kvs[i]?.map (·.1)=some k:=by rw[<-cW,hk,cW,hx];rfl
  rw[zGE hi]at hkv
  refine⟨key,rfl,letGo_keyiter (s':={ s with heap:=h'}) st' ⟨kV k,H,I1,sv hkey,⟨rfl,_,zGE hi,by rw[<-cv hkv]⟩,st',fun b hb=>(hf b hb).1⟩⟩
 done:=by
  intro X hP hw hK hc i pins s σ H E I hf st hg
  subst hP hw hK
  obtain⟨ha,hi⟩:=hg
  have hget:=tT I ha
  have hl:=rel.length
  obtain⟨f0,f1,f2,f3,f4,f5⟩:=hf it (by simp)
  exact wpAny_pyNext_dict_end (I.ok.hd hc) st (hat.dictAt hget) (uV (by omega)) fun h' eb=>⟨rfl,I.turned (t':=s.toks) (fun b o hb e=>eb b o hb e) f0 f1 f3 f4 f5⟩
 self:=fun _ _ _ _ _ st h=>wpAny_pyIter_keyiter st h
def Kp(td:TE):TI:=fun σ H R=>td σ H fun x H1=>∃a kvs,x= .ref a/\H1 a=some (.dK kvs)/\∀o,R (xg a o kvs) (ad H1 a (.frz o (.dK kvs)))
theorem DA{X:Cx}{tg l:Expr}{td:TE}(hl:PE X l td):PI X tg l (Kp td):=by
 intro pins s σ H R I h
 refine aK (hl pins s σ H _ I h) fun v s1 ⟨x,H1,I1,r1,q1⟩=>?_
 obtain⟨a,kvs,e,hq,q⟩:=q1
 subst e
 cases r1
 obtain⟨o,vs,ep,hget,lo,rel,hat,I2⟩:=Dx I1 hq
 refine wpAny_pyIter_dict lo (hat.dictAt hget) ?_
 have ha2:ad H1 a (.frz o (.dK kvs)) a=some _:=au
 refine⟨s1.heap.objs.size,[s1.heap.objs.size],_,_,ad H1 a (.frz o (.dK kvs)),rfl,I2.kept (t':=s1.toks) fun b o e=>bj _ e,Ko a _ o kvs vs ep rel hat,⟨_,bQ _ rfl,rfl,rfl⟩,fun b hb=>?_,q o⟩
 have e:b=s1.heap.objs.size:=by simpa using hb
 subst e
 exact I2.fpOk (aE _) (I2.hok.fresh (aE _))
theorem DB{a D:Addr}{o:aG}{kvs:List (Key×V)}{g:TG}{tt:TT}{te:TE}{σ:L2.St}{H:Hp}{Q:Hp->Prop}(Pv:Nat->L2.St->Hp->Prop)(h0:Pv 0 σ H)(hl:∀i σ H,i<=kvs.length->Pv i σ H->H a=some (.frz o (.dK kvs)))
 (hs:∀i kv σ H,kvs[i]?=some kv->Pv i σ H->g (kV kv.1) σ H fun σ2 H2=>tt σ2 H2 fun b H3=>if b=true then te σ2 H3 fun y H4=>∃ys,H4 D=some (.lst ys)/\ys.length<sizeLine/\Pv (i+1) σ2 (ad H4 D (.lst (ys++[y])))else Pv (i+1) σ2 H3)
 (hd:∀σ H,Pv kvs.length σ H->Q H):mj g tt te (xg a o kvs) σ H D Q:=by
 refine⟨fun i m σ H=>m=kvs.length - i/\i<=kvs.length/\Pv i σ H,⟨kvs.length,by simp,cQ _,h0⟩,?_⟩
 rintro i m σ H ⟨rfl,hi,p⟩
 have q:=hl i σ H hi p
 by_cases hlt:i<kvs.length
 ·refine .inr ⟨⟨q,hlt⟩,Pv (i+1),fun σ' H' p'=>⟨kvs.length - (i+1),by omega,rfl,hlt,p'⟩,fun x H' y=>?_⟩
  obtain⟨e,kv,hkv,ex⟩:=y
  subst e ex
  exact hs i kv σ _ hkv p
 ·have e:i=kvs.length:=by omega
  subst e
  exact .inl ⟨⟨q,aE _⟩,hd σ H p⟩
theorem Kq:entryFor table "dict_itemiterator.__iter__"=some dc.«dict_keyiterator.__iter__»:=
 entryFor_alias (id':="dict_keyiterator.__iter__") (by kernel_rfl) rfl (by decide +kernel) (by kernel_rfl)
theorem Kr{prog:aQ}{w:aH}{A:bm}{E:ac->ah->Prop}{s:ah}{it d:Addr}{i n ep:Nat}{ok ov:ac}{Q:ac->ah->Prop}(hit:IsItemIter s.heap it d i n ep ok ov)(h:Q (.ref it) s):wpAny (model prog w) A (pyIter (.ref it)) Q E s:=by
 have hT:s.TypeIs (.ref it) "dict_itemiterator":=⟨_,hit,rfl⟩
 refine qI hT zb (d4 zb hT Kq ?_ (F.args_dict_itemiterator_iter_1 _))
 show wpAny _ _ (ret (.ref it)) _ _ s
 exact aP ⟨_,rfl,"dict_itemiterator",_,hT,F.slot_dict_itemiterator_next.lookup,h⟩
def qm(a:Addr)(o:aG)(kvs:List (Key×V)):It:=
 ⟨fun i H=>H a=some (.frz o (.dK kvs))/\i<kvs.length,fun i H x H'=>∃kv q,kvs[i]?=some kv/\H q=none/\x= .ref q/\H'=ad H q (.tup [kV kv.1,kv.2]),fun i H=>H a=some (.frz o (.dK kvs))/\kvs.length<=i⟩
theorem Ks{P:aQ}{w:aH}{K:aA}{elts:List Expr}{ek}{epos:Pos}(a it:Addr)(o:aG)(kvs:List (Key×V))(vs:List (Key×ac))(ep:Nat)(rel:KV kvs vs)(hat:uD (dn P w) o vs ep):
 jd P w K (.Tuple elts ek epos) (qm a o kvs) [it] it (fun i h=>∃ok ov,IsItemIter h it a i vs.length ep ok ov) where
 mem:=by simp
 obj:=fun i h st b hb=>by
  have e:b=it:=by simpa using hb
  subst e
  obtain⟨ok,ov,st⟩:=st
  exact⟨_,st,fun v z=>by
    have z':j4.fields _=j4.cell v:=z
    cases z'⟩
 keep:=fun i h h' st k=>by
  obtain⟨ok,ov,st⟩:=st
  exact⟨ok,ov,k it (by simp) _ st⟩
 item:=by
  intro X hP hw hK hc i pins s σ H E I hf st hg
  subst hP hw hK
  obtain⟨ok,ov,st⟩:=st
  obtain⟨ha,hi⟩:=hg
  have hget:=tT I ha
  have hl:=rel.length
  have hk:=rel.keys
  obtain⟨k,x,hx⟩:∃k x,vs[i]?=some (k,x):=⟨_,_,zGE (by omega)⟩
  obtain⟨f0,f1,f2,f3,f4,f5⟩:=hf it (by simp)
  obtain⟨kv,hkv,hrel⟩:∃kv,kvs[i]?=some kv/\kv.1=k/\aW kv.2 x:=by
   obtain⟨b,hb,e1,e2⟩:=pP rel (zGE hi)
   rw[hx]at hb
   cases hb
   exact⟨_,zGE hi,e1,e2⟩
  refine wpAny_pyNext_items_item st (hat.dictAt hget) hx fun key h' hkey st' htup hsz hkeep=>⟨_,rfl,?_⟩
  refine wpAny_letOwnedTupleGo_items (s:={ s with heap:=h'}) st' fun h2 st2 sb2=>?_
  have hne:s.heap.objs.size≠it:=iX (bn st)
  have fr:H s.heap.objs.size=none:=I.hok.fresh (aE _)
  have ru:aW (kV k) key:=sv hkey
  have J:Inv X pins σ (ad H s.heap.objs.size (.tup [kV k,kv.2])) { s with heap:=s.heap.push { cls:= .type "tuple",data:= .seq #[key,x]}}:=
   I.laid (t':=s.toks) (fun b u e=>bj _ e) (aE _) ⟨by show 2<=sizeLine;decide,[key,x],.cons ru (.cons hrel.2 .nil),⟨_,bQ _ rfl,rfl,_,rfl⟩⟩
  have hf':∀b∈[it],dM X pins (ad H s.heap.objs.size (.tup [kV k,kv.2])) b:=fun b hb=>by
   have e:b=it:=by simpa using hb
   subst e
   exact⟨by rw[am hne.symm];exact f0,(hf b hb).2⟩
  have I2:Inv X pins σ (ad H s.heap.objs.size (.tup [kV k,kv.2])) { s with heap:=h2,toks:=s.toks}:=by
   refine L2.Inv.turnedL (s:={ s with heap:=s.heap.push { cls:= .type "tuple",data:= .seq #[key,x]}}) (t':=s.toks) (ch:=[it]) J (fun c o hc e=>?_) hf'
   have hc':c≠it:=by simpa using hc
   refine(sb2.2 c hc').trans ?_
   by_cases z:c=s.heap.objs.size
   ·subst z
    have e':(s.heap.push { cls:= .type "tuple",data:= .seq #[key,x]}).get? s.heap.objs.size=some o:=e
    rw[bQ _ rfl]at e'
    cases e'
    exact htup
   ·have e':(s.heap.push { cls:= .type "tuple",data:= .seq #[key,x]}).get? c=some o:=e
    rw[qS _ _ _ z]at e'
    exact hkeep c o hc' e'
  refine⟨.ref s.heap.objs.size,_,I2,rfl,⟨kv,s.heap.objs.size,hkv,fr,rfl,by rw[hrel.1]⟩,⟨key,x,st2⟩,fun b hb=>(hf' b hb).1⟩
 done:=by
  intro X hP hw hK hc i pins s σ H E I hf st hg
  subst hP hw hK
  obtain⟨ok,ov,st⟩:=st
  obtain⟨ha,hi⟩:=hg
  have hget:=tT I ha
  have hl:=rel.length
  obtain⟨f0,f1,f2,f3,f4,f5⟩:=hf it (by simp)
  exact wpAny_pyNext_items_end (I.ok.hd hc) st (hat.dictAt hget) (uV (by omega)) fun h' eb=>⟨rfl,I.turned (t':=s.toks) (fun b o hb e=>eb b o hb e) f0 f1 f3 f4 f5⟩
 self:=fun _ _ _ _ _ st h=>by
  obtain⟨ok,ov,st⟩:=st
  exact Kr st h
def Kt(td:TE):TI:=fun σ H R=>td σ H fun x H1=>∃a kvs,x= .ref a/\H1 a=some (.dK kvs)/\∀o,R (qm a o kvs) (ad H1 a (.frz o (.dK kvs)))
theorem Ku{X:Cx}{l:Expr}{td:TE}{elts:List Expr}{ek}{epos apos cpos:Pos}(hl:PE X l td)(hbase:attributeBase l "items" X.env (eval l X.env)=eval l X.env:=by rfl)(hline:(apos.endLine==cpos.line)=true:=by rfl):
 PI X (.Tuple elts ek epos) (.Call (.Attribute l "items" apos) [] [] cpos) (Kt td):=by
 intro pins s σ H R I h
 refine xT hbase hline (aK (hl pins s σ H _ I h) fun v s1 ⟨x,H1,I1,r1,q1⟩=>?_)
 obtain⟨a,kvs,e,hq,q⟩:=q1
 subst e
 cases r1
 obtain⟨o,vs,ep,hget,lo,rel,hat,I2⟩:=Dx I1 hq
 have hm:=(hat.dictAt hget).dictOf
 refine⟨"dict","dict.items",F.plainAttrs_dict,zc,F.type_dict_items,hm.typeIs,hm.mapOf.noDict,?_⟩
 show wpAny _ _ (callWith cpos (.builtin "dict.items") [.ref a] [] []) _ _ s1
 refine method_meetsIn zc F.entry_dict_items rfl (xU ⟨rfl,hm.typeIs,F.args_dict_items_1 _,_,meets_dict_items _ a lo,⟨vs,hm⟩,?_⟩)
 have I3:Inv X pins σ (ad H1 a (.frz o (.dK kvs))) { s1 with heap:=s1.heap.push { cls:= .type "dict_items",data:= .fields #[.ref a]}}:=I2.kept (t':=s1.toks) fun b o e=>bj _ e
 refine wpAny_pyIter_items (knd:=dn X.prog X.w) (d:=a) (kvs:=vs) (ep:=ep) ⟨_,bQ _ rfl,rfl,rfl⟩ ((hat.dictAt hget).push _) ?_
 refine⟨_,[_],_,_,ad H1 a (.frz o (.dK kvs)),rfl,I3.kept (t':=s1.toks) fun b o e=>bj _ e,Ks a _ o kvs vs ep rel hat,⟨_,_,bQ _ rfl⟩,fun b hb=>?_,q o⟩
 have e:=bx.mp hb
 subst e
 exact I3.fpOk (aE _) (I3.hok.fresh (aE _))
theorem Kv{a:Addr}{o:aG}{kvs:List (Key×V)}{g:TG}{tb:TS}{D:cZ}{σ:L2.St}{H:Hp}(Pv:Nat->L2.St->Hp->Prop)(h0:Pv 0 σ H)(hl:∀i σ H,i<=kvs.length->Pv i σ H->H a=some (.frz o (.dK kvs)))
 (hs:∀i kv q σ H,kvs[i]?=some kv->Pv i σ H->H q=none->g (.ref q) σ (ad H q (.tup [kV kv.1,kv.2])) fun σ2 H2=>tb { D with nx:=Pv (i+1),ct:=Pv (i+1),bk:=D.nx} σ2 H2) (hd:∀σ H,Pv kvs.length σ H->D.nx σ H):
 ∃W:Nat->Nat->L2.St->Hp->Prop,(∃m,W 0 m σ H)/\∀i m σ H,W i m σ H->
  ((qm a o kvs).stop i H/\D.nx σ H)\/((qm a o kvs).go i H/\∃N:L2.St->Hp->Prop,(∀σ' H',N σ' H'->∃m',m'<m/\W (i+1) m' σ' H')/\∀x H',(qm a o kvs).yld i H x H'->g x σ H' fun σ2 H2=>tb { D with nx:=N,ct:=N,bk:=D.nx} σ2 H2):=by
 refine⟨fun i m σ H=>m=kvs.length - i/\i<=kvs.length/\Pv i σ H,⟨kvs.length,by simp,cQ _,h0⟩,?_⟩
 rintro i m σ H ⟨rfl,hi,p⟩
 have q:=hl i σ H hi p
 by_cases hlt:i<kvs.length
 ·refine .inr ⟨⟨q,hlt⟩,Pv (i+1),fun σ' H' p'=>⟨kvs.length - (i+1),by omega,rfl,hlt,p'⟩,fun x H' y=>?_⟩
  obtain⟨kv,q0,hkv,hq0,ex,eh⟩:=y
  subst ex eh
  exact hs i kv q0 σ _ hkv p hq0
 ·have e:i=kvs.length:=by omega
  subst e
  exact .inl ⟨⟨q,aE _⟩,hd σ H p⟩
end BF
namespace K09
open PySem L2 BF
section
variable{P:aQ}{w:aH}{K:aA}{mg:aa->Option ac}{base:az}{C:Addr}
structure DS(kvs:List (Key×V))(ks:List aa):Prop where
 keys:kvs.map (·.1)=ks.map Sum.inr
 nd:ks.Nodup
theorem DC{kvs:List (Key×V)}{ks:List aa}(h:DS kvs ks)(x:aa):(kvs.any fun kv=>decide (kv.1=Sum.inr x))=true↔x∈ks:=by
 rw[uP]
 constructor
 ·rintro⟨kv,h1,h2⟩
  have:kv.1∈ks.map Sum.inr:=by rw[<-h.keys];exact bK.mpr ⟨kv,h1,rfl⟩
  obtain⟨y,hy,e⟩:=bK.mp this
  have h3:kv.1=Sum.inr x:=of_decide_eq_true h2
  rw[h3]at e
  exact lH e▸hy
 ·intro hx
  have:(Sum.inr x:Key)∈kvs.map (·.1):=by rw[h.keys];exact bK.mpr ⟨x,hx,rfl⟩
  obtain⟨kv,h1,h2⟩:=bK.mp this
  exact⟨kv,h1,decide_eq_true h2⟩
theorem DS.put{kvs:List (Key×V)}{ks:List aa}(h:DS kvs ks)(x:aa)(v:V):DS (bS kvs (Sum.inr x) v) (if x∈ks then ks else ks++[x]):=by
 unfold bS
 by_cases c:x∈ks
 ·rw[if_pos ((DC h x).mpr c),if_pos c]
  refine⟨?_,h.nd⟩
  rw[kj,<-h.keys]
  refine lE fun kv _=>?_
  simp only[vw]
  split<;>rfl
 ·rw[if_neg (fun z=>c ((DC h x).mp z)),if_neg c]
  refine⟨by rw[zMA,zMA,h.keys];rfl,?_⟩
  rw[qU]
  refine⟨h.nd,by simp,fun a ha b hb=>?_⟩
  rw[bx.mp hb]
  rintro rfl
  exact c ha
theorem DS.get{kvs:List (Key×V)}{ks:List aa}(h:DS kvs ks){i:Nat}{kv:Key×V}(e:kvs[i]?=some kv):∃x,ks[i]?=some x/\kv.1=Sum.inr x/\ck kvs (Sum.inr x)=some kv.2:=by
 have h1:(kvs.map (·.1))[i]?=some kv.1:=by rw[cW,e];rfl
 rw[h.keys,cW]at h1
 cases hx:ks[i]? with
 |none=>rw[hx]at h1;cases h1
 |some x=>
  rw[hx]at h1
  have ek:kv.1=Sum.inr x:=(cv h1).symm
  refine⟨x,rfl,ek,?_⟩
  have hk:=h.keys
  have hn:=h.nd
  clear h h1
  induction kvs generalizing ks i with
  |nil=>cases e
  |cons a r ih=>
   cases ks with
   |nil=>cases hx
   |cons y s=>
    simp only[bM,jG]at hk
    rw[iZ]at hn
    cases i with
    |zero=>
     cases e
     rw[we,if_pos ek]
    |succ j=>
     simp only[yB]at e hx
     rw[we,if_neg]
     ·exact ih e hx hk.2 hn.2
     ·intro z
      rw[hk.1]at z
      exact hn.1 (lH z▸zMG hx)
inductive DD(C:Addr)(vs:List V)(H:Hp)(Q:VK):Prop
 |mk:∀(p dx L O:Addr)(g:Ln)(U:List Tm)(fs:List Lf)(on:On)(cl:V)(N:Nat)(lw:Addr)(ws:List aa),(vs=[.ref p,.ref lw])->(RK C p dx L O g U H fs on cl N)->(H lw=some (.lst (ws.map V.str)))->(lw≠L)->((∀x∈ws,Tm.blank x∈U))->((∀t,∃k e,aX (bd fs on) k t e))->(N+ws.length * (2 * U.length)<=90000)->(ws.length<=1000)->(∀(d:Addr)(kvs:List (Key×V))(ks:List aa) H' fs' on',cE p L O H H'->RK C p dx L O g U H' fs' on' cl (N+ws.length * (2 * U.length))->dA fs fs'->fi g (bd fs on) (bd fs' on')->H d=none->H' d=some (.dK kvs)->DS kvs ks->(∀x,x∈ks↔x∈ws/\bd fs on (.blank x)≠none)->(∀x∈ks,∃(n:Nat)(z:Lf)(e:Tm)(k:Nat),ck kvs (Sum.inr x)=some (.int (n:Nat))/\fs'[n]?=some z/\z.1=(.blank x,e)/\aX (bd fs on) k (.blank x) e)->Q (.ref d) H')->DD C vs H Q
def xh(C:Addr):Sp:=fun vs H Q _=>DD C vs H Q
theorem Kw{f:Addr}{fd:be}(F:bB K "lines_by_word" "lines_by_word" mG f fd)(m_line_to_end:cL P w K mg base 4 C "line_to_end" ["self","term"] (ql C)):bf P w K mg base bp 5 f fd ["reckoning","words"] (xh C):=by
 refine F.ok tD (fun vs H Q E h=>?_) (fun cdv A outer s H vs Q E hr h=>?_)
 ·obtain⟨_,_,_,_,_,_,_,_,_,_,_,_,rfl,_⟩:=h
  rfl
 obtain⟨p,dx,L,O,g,U,fs,on,cl,N,lw,ws,rfl,hk,hlw,nlw,hwU,htot,hN,hwl,q⟩:=h
 have hun:=hr.un
 have hu:(A.deeper (gh "lines_by_word" (ax mG) s.heap.objs.size f cdv)).units+1<cLine:=by omega
 refine⟨_,(al (aB (i:=2) tD.nd rfl (Or.inl rfl) lY)
  (al (dR cx rfl (eC (pv 1)) (cz (i:=3) tD.nd rfl (Or.inl rfl)) (al (aB (i:=4) tD.nd rfl (Or.inl rfl) (dP m_line_to_end (hr.mono (by decide)) (pv 0) (ae (bO (ae aS (ae (pv 3) af))) af)))
        (aq (aZ (aU nw (pv 4) fS (aT _)) (aq (lX hu (pv 2) (pv 3) (pv 4) rfl)) bg))))
  (aq (aM (pv 2))))),?_⟩
 refine fun d fd0=>?_
 generalize e_:ad H d (HO.dK [])=H1
 obtain⟨s1,x1⟩:=aI fd0 e_
 have ndO:d≠O:=fun z=>by
  obtain⟨kv,e1,_⟩:=hk.dic
  rw[z,e1]at fd0
  cases fd0
 refine⟨_,rfl,lw,rfl,⟨_,ak.of (s1 _ _ hlw)⟩,ij (K:=K) (a:=lw) (xs:=ws.map V.str) (fun i σ HX=>∃(o3 o4:Option V)(kvs:List (Key×V))(ks:List aa)(fs':List Lf)(on':On),σ=[some (.ref p),some (.ref lw),some (.ref d),o3,o4]/\cE p L O H HX/\HX lw=some (.lst (ws.map V.str))/\RK C p dx L O g U HX fs' on' cl (N+i * (2 * U.length))/\dA fs fs'/\fi g (bd fs on) (bd fs' on')/\HX d=some (.dK kvs)/\DS kvs ks/\kvs.length<=i/\
  (∀x,x∈ks↔x∈ws.take i/\bd fs on (.blank x)≠none)/\∀x∈ks,∃(n:Nat)(z:Lf)(e:Tm)(k:Nat),ck kvs (Sum.inr x)=some (.int (n:Nat))/\fs'[n]?=some z/\z.1=(.blank x,e)/\aX (bd fs on) k (.blank x) e)
  ⟨none,none,[],[],fs,on,rfl,.of s1,s1 _ _ hlw,(hk.same s1).more (by omega),.refl,.refl,x1,⟨rfl,.nil⟩,aE _,fun x=>by simp,fun x hx=>(by cases hx)⟩ (fun i σ HX _ ⟨_,_,_,_,_,_,_,_,z,_⟩=>ak.of z) ?_ ?_⟩
 ·rintro i y σ HX hy ⟨o3,o4,kvs,ks,fs',on',rfl,fX,glw,kX,hext,hkeep,gd,hds,hkl,hdom,hval⟩
  have hi:i<ws.length:=by have:=(bI.mp hy).1;simpa using this
  have ey:y= .str ws[i]:=by
   rw[cW,zGE hi]at hy
   exact(cv hy).symm
  subst ey
  have hmul:(i+1) * (2 * U.length)<=ws.length * (2 * U.length):=iY _ (by omega)
  rw[jx,qQ]at hmul
  obtain⟨k,e,hrc⟩:=htot (.blank ws[i])
  obtain⟨k',hrc'⟩:=hkeep.rch _ _ _ hrc
  refine⟨_,rfl,p,dx,_,rfl,kX.self,dH (by decide +kernel) (by decide +kernel) (by decide +kernel),_,rfl,(by show 2<=sizeLine;decide),fun b fb=>?_⟩
  generalize e_:ad HX b (HO.tup [.str "blank",.str ws[i]])=HY
  obtain⟨t1,z1⟩:=aI fb e_
  have kY:=kX.same t1
  refine⟨p,dx,L,O,g,U,fs',on',cl,_,.ref b,.blank ws[i],e,k',rfl,kY,dN.mpr ⟨b,rfl,z1⟩,hwU _ (zGM hi),hrc',by omega,fun mo HZ fs2 on2 fZ kZ hext2 hkeep2 h0 h1 h2n=>?_⟩
  have fXZ:=fX.trans ((cE.of t1).trans fZ)
  have gdZ:=kY.dct fZ (t1 _ _ gd) ndO
  have glwZ:=kY.lst fZ (t1 _ _ glw) nlw
  have etk:ws.take (i+1)=ws.take i++[ws[i]]:=zTS hi
  have hNe:N+i * (2 * U.length)+2 * U.length=N+(i+1) * (2 * U.length):=by rw[jx];omega
  have hval2:∀x∈ks,∃(n:Nat)(z:Lf)(e:Tm)(k:Nat),ck kvs (Sum.inr x)=some (.int (n:Nat))/\fs2[n]?=some z/\z.1=(.blank x,e)/\aX (bd fs on) k (.blank x) e:=fun x hx=>by
   obtain⟨n,z,e,k,h1,h2,h3,h4⟩:=hval x hx
   exact⟨n,z,e,k,h1,hext2.get h2,h3,h4⟩
  cases mo with
  |none=>
   have e0:=h0 rfl
   have hnn:bd fs on (.blank ws[i])=none:=by
        cases hrc with
        |root z=>exact z
        |step z r=>
         have:=r.end'
         rw[<-e0]at this
         exact this
   refine⟨_,rfl,rfl,_,rfl,bc (by simp[cN]) ⟨_,_,kvs,ks,fs2,on2,rfl,fXZ,glwZ,hNe▸kZ,hext.trans hext2,hkeep.trans hkeep2,gdZ,hds,by omega,fun x=>?_,hval2⟩⟩
   rw[etk,hdom x]
   constructor
   ·rintro⟨h1,h2⟩
    exact⟨eu _ h1,h2⟩
   ·rintro⟨h1,h2⟩
    rcases br.mp h1 with z|z
    ·exact⟨z,h2⟩
    ·rw[bx.mp z]at h2
     exact absurd hnn h2
  |some m=>
   obtain⟨z,hz,ez⟩:=h1 m rfl
   refine⟨_,rfl,rfl,_,rfl,cK (by simp[cN]) ⟨_,rfl,_,rfl,_,rfl,d,_,rfl,gK.k (k:=Sum.inr ws[i]) gdZ (big (by omega)),?_⟩⟩
   have kT:∀b' o',HZ b'=some o'->b'≠d->ad HZ d (HO.dK (bS kvs (Sum.inr ws[i]) (cN (some m)))) b'=some o':=fun b' o' z hb=>by rw[am hb];exact z
   have hlp:=nD kvs (Sum.inr ws[i]) (cN (some m))
   have hnn:bd fs on (.blank ws[i])≠none:=fun y=>by
        have:=h2n ((hkeep.non _).mpr y)
        cases this
   have kZ2:RK C p dx L O g U (ad HZ d (HO.dK (bS kvs (Sum.inr ws[i]) (cN (some m))))) fs2 on2 cl (N+(i+1) * (2 * U.length)):=by
        have kk:=hNe▸kZ
        obtain⟨l6,g6,h6⟩:=kk.ls
        obtain⟨kv,g7,h7⟩:=kk.dic
        have kt:aR HZ (ad HZ d (HO.dK (bS kvs (Sum.inr ws[i]) (cN (some m))))):=fun bq ys y=>kT _ _ y (ce y gdZ (by intro z;cases z))
        exact⟨kT _ _ kk.self (ce kk.self gdZ (by intro z;cases z)),⟨l6,kT _ _ g6 (ce g6 gdZ (by intro z;cases z)),eG.mono kt h6⟩,⟨kv,kT _ _ g7 ndO.symm,h7⟩,kk.len,kk.st,kk.ok⟩
   refine⟨_,_,_,_,fs2,on2,rfl,fun b' o' y h1 h2 h3=>by rw[am (aF y fd0)];exact fXZ _ _ y h1 h2 h3,kT _ _ glwZ (ce glwZ gdZ (by intro z;cases z)),kZ2,hext.trans hext2,hkeep.trans hkeep2,au,hds.put ws[i] (cN (some m)),by omega,fun x=>?_,fun x hx=>?_⟩
   ·have hin:(x∈if ws[i]∈ks then ks else ks++[ws[i]])↔x∈ks\/x=ws[i]:=by
     by_cases c:ws[i]∈ks
     ·rw[if_pos c]
      exact⟨.inl,fun y=>y.elim id fun y=>y▸c⟩
     ·rw[if_neg c,br,bx]
    rw[hin,etk,hdom x]
    constructor
    ·rintro(⟨h1,h2⟩|rfl)
     ·exact⟨eu _ h1,h2⟩
     ·exact⟨d6 _ (bx.mpr rfl),hnn⟩
    ·rintro⟨h1,h2⟩
     rcases br.mp h1 with y|y
     ·exact .inl ⟨y,h2⟩
     ·exact .inr (bx.mp y)
   ·by_cases c:x=ws[i]
    ·subst c
     exact⟨m,z,e,k,by rw[se,if_pos rfl];rfl,hz,ez,hrc⟩
    ·have hx':x∈ks:=by
      by_cases c2:ws[i]∈ks
      ·rw[if_pos c2]at hx;exact hx
      ·rw[if_neg c2]at hx
       rcases br.mp hx with y|y
       ·exact y
       ·exact absurd (bx.mp y) c
     obtain⟨n,z',e',k'',h1,h2,h3,h4⟩:=hval2 x hx'
     exact⟨n,z',e',k'',by rw[se,if_neg (fun y=>c (lH y))];exact h1,h2,h3,h4⟩
 ·rintro σ HX ⟨o3,o4,kvs,ks,fs',on',rfl,fX,glw,kX,hext,hkeep,gd,hds,hkl,hdom,hval⟩
  rw[zLM]at kX hdom
  rw[dD (aE _)]at hdom
  exact⟨_,rfl,q d kvs ks HX fs' on' fX kX hext hkeep fd0 gd hds hdom hval⟩
end
theorem DE(t:Tm):t.firsts.Nodup:=by
 unfold Tm.firsts
 have:∀(l acc:List aa),acc.Nodup->(eF acc l).Nodup:=by
  intro l
  induction l with
  |nil=>intro acc h;exact h
  |cons x r ih=>
   intro acc h
   simp only[eF]
   split
   ·exact ih acc h
   ·rename_i hx
    refine ih _ ?_
    rw[qU]
    refine⟨h,by simp,fun a ha b hb=>?_⟩
    rw[bx.mp hb]
    rintro rfl
    exact hx ha
 exact this _ _ List.nodup_nil
theorem oP(t:Tm):t.firsts.length<=t.bl.length:=iQ (DE t) fun x hx=>jn.mp hx
end K09
namespace BF
open PySem PySem.Spec PyProof.Rows L2
section
variable{X:Cx}{e e1 e2:Expr}{es:List Expr}{t:TA}{te te1 te2:TE}{pos:Pos}
end
end BF
namespace K09
open PySem L2 BF
section
variable{P:aQ}{w:aH}{K:aA}{mg:aa->Option ac}{base:az}
theorem tU{H:Hp}{vs:List V}{ts:List Tm}(h:aN H vs ts):aN H vs.reverse ts.reverse:=by
 induction ts generalizing vs with
 |nil=>have:=h.len;rw[jb.mp this];exact .nil
 |cons t r ih=>
  simp only[aN,dE,bU]at h
  obtain⟨v,us,rfl,h1,h2⟩:=h
  rw[gz,gz]
  exact(ih h2).app (.cons h1 .nil)
inductive DF(vs:List V)(H:Hp)(Q:VK):Prop
 |mk:∀(v:V)(t:Tm),(vs=[v])->(ay H v t)->(t.nodes<=5000000)->(∀l us H',av H H'->H l=none->H' l=some (.lst us)->aN H' us t.lp->Q (.ref l) H')->DF vs H Q
def tV:Sp:=fun vs H Q _=>DF vs H Q
theorem Kx{f:Addr}{fd:be}(F:bB K "all_parts" "all_parts" nP f fd)(T:Bi mg):bf P w K mg base bp 1 f fd ["term"] tV:=by
 refine F.ok tu (fun vs H Q E h=>?_) (fun cdv A outer s H vs Q E hr h=>?_)
 ·obtain⟨_,_,rfl,_⟩:=h
  rfl
 obtain⟨v,t,rfl,ht,hn,q⟩:=h
 apply aD;intro T1
 apply aD;intro T2
 apply aD;intro T3
 apply aD;intro T4
 apply aD;intro T5
 apply aD;intro T6
 refine⟨_,(al (aB (i:=1) tu.nd rfl (Or.inl rfl) (bR af)) (aC T6 (al (aB (i:=2) tu.nd rfl (Or.inl rfl) (bR (ae (pv 0) af))) (aC T5 (al (ig cx (ny (pv 2) (fun _=>rfl)) (aC T4 (al (aB (i:=3) tu.nd rfl (Or.inl rfl) (kF bY kl km kH (pv 2))) (aC T3 (al (cj (cp bY cX cY cT (pv 1) (ae (pv 3) af))) (aC T2 (aq (aZ (aU cf (ao aw (pv 3) ai (fun _ _=>rfl)) aS (aT _)) (aC T1 (aq (cj (cp bY pj pk pG (pv 2) (ae (HV T.b_list T.b_reversed (ao aw (pv 3) ai (fun _ _=>rfl))) af))))) bg)))))))) (aq (aM (pv 1)))))))),?_⟩
 refine⟨(by show 0<=sizeLine;decide),fun p1 hp1=>?_⟩
 generalize e_:ad H p1 (HO.lst [])=H1
 obtain⟨s1,x1⟩:=aI hp1 e_
 refine⟨_,rfl,(by show 1<=sizeLine;decide),fun p2 hp2=>?_⟩
 have s2:=bG hp2 (HO.lst [v])
 have x2:ad H1 p2 (HO.lst [v]) p2=some _:=au
 have n12:p1≠p2:=aF x1 hp2
 have f2:H p2=none:=s1.free hp2
 generalize ad H1 p2 (HO.lst [v])=H2 at s2 x2 |-
 refine⟨fun m σ H3=>∃(o:Option V)(rs us:List V)(done ts:List Tm),σ=[some v,some (.ref p1),some (.ref p2),o]/\av H H3/\H3 p1=some (.lst rs)/\aN H3 rs done/\H3 p2=some (.lst us)/\aN H3 us ts/\
  aJ ts=m/\done++ef ts.reverse=t.lp/\done.length+m<=t.nodes,
  ⟨_,none,[],[v],[],[t],rfl,s1.trans s2,s2 _ _ x1,.nil,x2,.cons (ht.mono (.of (s1.trans s2))) .nil,rfl,by simp[ef],by simp[aJ]⟩,?_⟩
 rintro m σ H3 ⟨o,rs,us,done,ts,rfl,s3,g1,hrs,g2,hus,hm,hout,hsz⟩
 refine⟨_,rfl,_,.inl ⟨us,ak.of g2,rfl⟩,bE (fun c=>⟨_,fun _ _ h=>h,?_⟩) (fun c=>?_)⟩
 ·
  have hne:us≠[]:=by intro z;rw[z]at c;exact absurd c (by decide)
  have hlen:=hus.len
  obtain⟨us0,u,rfl⟩:=iw hne
  obtain⟨ts0,t1,rfl⟩:=iw (l:=ts) (by intro z;rw[z]at hlen;simp at hlen)
  obtain⟨h0,hu1⟩:=hus.snoc
  rw[gM]at hm
  simp only[aJ]at hm
  rw[lD]at hout
  simp only[gz,List.reverse_nil,iH,uR,ef]at hout
  have hl0:=gq ts0
  have hu0:=h0.len
  have hr0:=hrs.len
  have hn1:=t1.nodes_pos
  refine⟨_,rfl,.inl ⟨rfl,_,ak.of g2⟩,p2,_,u,rfl,rfl,g2,by simp,?_⟩
  rw[lF]
  have k4:aR H3 (ad H3 p2 (HO.lst us0)):= .lst g2
  have x4:ad H3 p2 (HO.lst us0) p2=some _:=au
  have y4:ad H3 p2 (HO.lst us0) p1=some (.lst rs):=by rw[am n12];exact g1
  have s4:av H (ad H3 p2 (HO.lst us0)):=fun b ob z=>by rw[am (aF z f2)];exact s3 _ _ z
  generalize ad H3 p2 (HO.lst us0)=H4 at k4 x4 y4 s4 |-
  refine⟨_,rfl,.inl ⟨rfl,_,ak.of y4⟩,_,rfl,p1,_,_,rfl,rfl,y4,big (by omega),?_⟩
  have k5:aR H4 (ad H4 p1 (HO.lst (rs++[u]))):= .lst y4
  have x5:ad H4 p1 (HO.lst (rs++[u])) p1=some _:=au
  have y5:ad H4 p1 (HO.lst (rs++[u])) p2=some (.lst us0):=by rw[am n12.symm];exact x4
  have s5:av H (ad H4 p1 (HO.lst (rs++[u]))):=fun b ob z=>by rw[am (aF z hp1)];exact s4 _ _ z
  generalize ad H4 p1 (HO.lst (rs++[u]))=H5 at k5 x5 y5 s5 |-
  have h5:=(h0.mono k4).mono k5
  have ht1:=(hu1.mono k4).mono k5
  have hd5:aN H5 (rs++[u]) (done++[t1]):=((hrs.mono k4).mono k5).app (.cons ht1 .nil)
  cases t1 with
  |num n=>
   obtain⟨a,rfl,e1⟩:=fF.mp ht1
   refine⟨_,rfl,_,_,_,_,rfl,rfl,aj.of e1,rfl,rfl,_,rfl,bc (by decide +kernel) ?_⟩
   exact⟨aJ ts0,by omega,_,_,us0,_,ts0,rfl,s5,x5,hd5,y5,h5,rfl,by simpa[Tm.lp]using hout,by rw[zLA];simp only[zLC,zLN];omega⟩
  |name n=>
   obtain⟨a,rfl,e1⟩:=eP.mp ht1
   refine⟨_,rfl,_,_,_,_,rfl,rfl,aj.of e1,rfl,rfl,_,rfl,bc (by decide +kernel) ?_⟩
   exact⟨aJ ts0,by omega,_,_,us0,_,ts0,rfl,s5,x5,hd5,y5,h5,rfl,by simpa[Tm.lp]using hout,by rw[zLA];simp only[zLC,zLN];omega⟩
  |blank n=>
   obtain⟨a,rfl,e1⟩:=dN.mp ht1
   refine⟨_,rfl,_,_,_,_,rfl,rfl,aj.of e1,rfl,rfl,_,rfl,bc (by decide +kernel) ?_⟩
   exact⟨aJ ts0,by omega,_,_,us0,_,ts0,rfl,s5,x5,hd5,y5,h5,rfl,by simpa[Tm.lp]using hout,by rw[zLA];simp only[zLC,zLN];omega⟩
  |thing n qs=>
   obtain⟨a,b,pv,rfl,e1,e2,e3⟩:=dF.mp ht1
   have hpl:=e3.len
   have hpn:=gq qs
   simp only[Tm.nodes]at hm
   refine⟨_,rfl,_,_,_,_,rfl,rfl,aj.of e1,rfl,rfl,_,rfl,cK (by decide +kernel) ?_⟩
   refine⟨_,rfl,.inl ⟨rfl,_,ak.of y5⟩,_,rfl,_,_,_,_,rfl,rfl,aj.of e1,rfl,b,pv,rfl,aj.of e2,fun l hl=>?_⟩
   generalize e_:ad H5 l (HO.lst pv.reverse)=H6
   obtain⟨s6,x6⟩:=aI hl e_
   refine⟨p2,l,us0,pv.reverse,rfl,rfl,s6 _ _ y5,x6,d9 (by rw[cR];omega),?_⟩
   have k7:aR H6 (ad H6 p2 (HO.lst (us0++pv.reverse))):= .lst (s6 _ _ y5)
   refine⟨aJ ts0+aJ qs,by omega,_,_,us0++pv.reverse,_,ts0++qs.reverse,rfl,fun b' ob z=>by rw[am (aF z f2)];exact s6 _ _ (s5 _ _ z),by rw[am n12];exact s6 _ _ x5,aN.mono k7 (hd5.mono (.of s6)),au,
        aN.mono k7 ((h5.mono (.of s6)).app (tU (e3.mono (.of s6)))),by rw[gM,Ha],?_,by rw[zLA];simp only[zLC,zLN];omega⟩
   rw[lD,List.reverse_reverse,Ir,<-hout]
   simp[Tm.lp]
 ·have e:us=[]:=by
   cases us with
   |nil=>rfl
   |cons a b=>exact absurd rfl c
  subst e
  have hlen:=hus.len
  have e:ts=[]:=jb.mp hlen.symm
  subst e
  have e2:done=t.lp:=by simpa[ef]using hout
  refine⟨_,rfl,?_⟩
  exact q p1 rs H3 s3 hp1 g1 (by rw[<-e2];exact hrs)
inductive DG(vs:List V)(H:Hp)(Q:VK):Prop
 |mk:∀(p:Addr)(us:List V)(n:Nat),(vs=[.ref p,.int n])->(H p=some (.lst us))->(n<=us.length)->(us.length<=1000)->(∀l H',wf p H H'->H l=none->H' p=some (.lst (us.take (us.length - n)))->H' l=some (.lst (us.drop (us.length - n)).reverse)->Q (.ref l) H')->DG vs H Q
def xi:Sp:=fun vs H Q _=>DG vs H Q
theorem Ky{f:Addr}{fd:be}(F:bB K "taken" "taken" nT f fd)(T:Bi mg):bf P w K mg base bp 1 f fd ["made","count"] xi:=by
 refine F.ok CW (fun vs H Q E h=>?_) (fun cdv A outer s H vs Q E hr h=>?_)
 ·obtain⟨_,_,_,rfl,_⟩:=h
  rfl
 obtain⟨p,us,n,rfl,hp,hn,hsz,q⟩:=h
 apply aD;intro T1
 apply aD;intro T2
 refine⟨_,(al (aB (i:=2) CW.nd rfl (Or.inl rfl) (bR af)) (aC T2 (al (ig cx (aU rW (ca dk T.b_len cU (ae (pv 2) af)) (pv 1) (aT _)) (aC T1 (aq (cj (cp bY cX cY cT (pv 2) (ae (kF bY kl km kH (pv 0)) af)))))) (aq (aM (pv 2)))))),?_⟩
 refine⟨(by show 0<=sizeLine;decide),fun l hl=>?_⟩
 have npl:p≠l:=aF hp hl
 refine⟨fun m σ H3=>∃j:Nat,j<=n/\m=n - j/\σ=[some (.ref p),some (.int n),some (.ref l)]/\wf p H H3/\H3 p=some (.lst (us.take (us.length - j)))/\H3 l=some (.lst (us.drop (us.length - j)).reverse),
  ⟨_,0,cQ _,rfl,rfl,fun b o _ z=>bG hl _ _ _ z,by rw[am npl];simpa using hp,by rw[au];simp⟩,?_⟩
 rintro m σ H3 ⟨j,hj,rfl,rfl,sx,g1,g2⟩
 have hjl:((us.drop (us.length - j)).reverse).length=j:=by rw[cR,dh];omega
 refine⟨_,rfl,l,_,rfl,.inl (ak.of g2),_,rfl,_,_,rfl,rfl,_,rfl,bE (fun c=>⟨_,fun _ _ h=>h,?_⟩) (fun c=>?_)⟩
 ·have c':j<n:=by
   have:=of_decide_eq_true c
   rw[hjl]at this
   omega
  obtain⟨y,hy⟩:∃y,us[us.length - j - 1]?=some y:=⟨_,zGE (by omega)⟩
  have hlast:(us.take (us.length - j))[(us.take (us.length - j)).length - 1]?=some y:=by
   have e:(us.take (us.length - j)).length - 1=us.length - j - 1:=by rw[zLT];omega
   rw[e,yv (by omega)]
   exact hy
  have hdl:(us.take (us.length - j)).dropLast=us.take (us.length - (j+1)):=by
   rw[List.dropLast_eq_take,List.take_take,zLT]
   congr 1
   omega
  refine⟨_,rfl,.inl ⟨rfl,_,ak.of g2⟩,_,rfl,.inl ⟨rfl,_,ak.of g1⟩,p,_,y,rfl,rfl,g1,hlast,?_⟩
  rw[hdl]
  have x4:ad H3 p (HO.lst (us.take (us.length - (j+1)))) p=some _:=au
  have y4:ad H3 p (HO.lst (us.take (us.length - (j+1)))) l=some (.lst (us.drop (us.length - j)).reverse):=by rw[am npl.symm];exact g2
  have s4:wf p H (ad H3 p (HO.lst (us.take (us.length - (j+1))))):=fun b o hb z=>by rw[am hb];exact sx b o hb z
  generalize ad H3 p (HO.lst (us.take (us.length - (j+1))))=H4 at x4 y4 s4 |-
  refine⟨l,_,y,rfl,rfl,y4,big (by rw[hjl];omega),n - (j+1),by omega,j+1,by omega,rfl,rfl,fun b o hb z=>?_,by rw[am npl];exact x4,?_⟩
  ·rw[am (aF z hl)]
   exact s4 b o hb z
  ·rw[au]
   have e:us.drop (us.length - (j+1))=y::us.drop (us.length - j):=by
        have h1:us.length - (j+1)<us.length:=by omega
        rw[uW h1]
        have h2:us.length - (j+1)+1=us.length - j:=by omega
        rw[h2]
        congr 1
        have h3:us.length - j - 1=us.length - (j+1):=by omega
        rw[h3,zGE h1]at hy
        exact cv hy
   rw[e,gz]
 ·have c':¬j<n:=by
   intro z
   refine c (decide_eq_true ?_)
   rw[hjl]
   omega
  have e:j=n:=by omega
  subst e
  exact⟨_,rfl,q l H3 sx hl g1 g2⟩
inductive DH(vs:List V)(H:Hp)(Q:VK):Prop
 |mk:∀(v:V)(t:Tm)(d:Addr)(kvs:List (Key×V))(f:Fl),(vs=[v,.ref d])->(ay H v t)->(t.nodes<=200)->(H d=some (.dK kvs))->(nK H kvs f)->(∀v' H',av H H'->ay H' v' (t.fill f)->Q v' H')->DH vs H Q
def xj:Sp:=fun vs H Q _=>DH vs H Q
theorem Kz{f0:Addr}{fd:be}(F:bB K "replaced" "replaced" my f0 fd)(T:Bi mg)(c_all_parts:aO P w K mg base 1 "all_parts" ["term"] tV)(c_taken:aO P w K mg base 1 "taken" ["made","count"] xi):
 bf P w K mg base bp 2 f0 fd ["term","terms"] xj:=by
 refine F.ok tw (fun vs H Q E h=>?_) (fun cdv A outer s H vs Q E hr h=>?_)
 ·obtain⟨_,_,_,_,_,rfl,_⟩:=h
  rfl
 obtain⟨v,t,d,kvs,f,rfl,ht,hn,hd,hD,q⟩:=h
 have hu:(A.deeper (gh "replaced" (ax my) s.heap.objs.size f0 cdv)).units+1<cLine:=by have:=hr.un;omega
 apply aD;intro T1
 apply aD;intro T2
 apply aD;intro T3
 apply aD;intro T4
 apply aD;intro T5
 apply aD;intro T6
 apply aD;intro T7
 refine⟨_,(al (aB (i:=2) tw.nd rfl (Or.inl rfl) (bR af)) (aC T7 (al (dR cx rfl (B5 rfl T.b_reversed (ae (a0 c_all_parts (hr.mono (by decide)) (ae (pv 0) af)) af)) (cz (i:=3) tw.nd rfl (Or.inl rfl)) (aC T6 (aq (aZ (aU cf (ao aw (pv 3) ai (fun _ _=>rfl)) aS (aT _)) (aC T4 (al (aB (i:=4) tw.nd rfl (Or.inl rfl) (a0 c_taken (hr.mono (by decide)) (ae (pv 2) (ae (ca dk T.b_len cU (ae (ao aw (pv 3) ai (fun _ _=>rfl)) af)) af)))) (aC T1 (aq (cj (cp bY cX cY cT (pv 2) (ae (bO (ae aS (ae (ao aw (pv 3) ai (fun _ _=>rfl)) (ae (jm nC T.b_tuple jk (ae (pv 4) af)) af)))) af))))))) (aC T5 (aq (aZ (aU cf (ao aw (pv 3) ai (fun _ _=>rfl)) aS (aT _)) (aC T2 (aq (cj (cp bY cX cY cT (pv 2) (ae (vS hu (pv 1) (ao aw (pv 3) ai (fun _ _=>rfl)) (pv 3) ⟨rfl,rfl,rfl,rfl⟩) af))))) (aC T3 (aq (cj (cp bY cX cY cT (pv 2) (ae (pv 3) af)))))))))))) (aq (aM (ao cI (pv 2) ai (fun _ _=>rfl))))))),?_⟩
 refine⟨(by show 0<=sizeLine;decide),fun p hp=>?_⟩
 generalize e_:ad H p (HO.lst [])=H1
 obtain⟨s1,x1⟩:=aI hp e_
 refine⟨_,rfl,v,t,rfl,ht.mono (.of s1),by omega,fun l us H2 s2 fl hl hus=>?_⟩
 have npl:p≠l:=aF x1 fl
 have hfl:H l=none:=s1.free fl
 have hul:=hus.len
 have hll:=Ce t
 have hlen:us.length=t.nodes:=by omega
 refine⟨l,us,rfl,ak.of hl,let I1:Nat->L2.St->Hp->Prop:=(fun i σ H3=>∃(o3 o4:Option V)(ms:List V)(made:List Tm),σ=[some v,some (.ref d),some (.ref p),o3,o4]/\av H H3/\H3 l=some (.lst us)/\aN H3 us t.lp/\H3 p=some (.lst ms)/\aN H3 ms made/\
  made=iy f [] (t.lp.reverse.take i)/\cq made.length (t.lp.reverse.drop i)/\made.length<=i);B6 (K:=K) (a:=l) (xs:=us) I1
  ⟨none,none,[],[],rfl,s1.trans s2,hl,hus,s2 _ _ x1,.nil,by simp[iy],by simpa using Iz t,aE _⟩ (fun i σ H3 _ ⟨_,_,_,_,_,_,g,_⟩=>ak.of g) ?_ ?_⟩
 ·rintro i x σ H3 hx ⟨o3,o4,ms,made,rfl,s3,gl,gus,gp,gms,hmade,hfit,hml⟩
  have hi:i<us.length:=by have:=(bI.mp hx).1;simpa using this
  have hir:i<t.lp.reverse.length:=by rw[cR];omega
  have hxt:ay H3 x (t.lp.reverse[i]):=by
   have h1:=(tU gus).at i (by rw[cR];exact hi) hir
   have h2:us.reverse[i]'(by rw[cR];exact hi)=x:=(bI.mp hx).2
   rw[h2]at h1
   exact h1
  have hrun:iy f [] (t.lp.reverse.take (i+1))=wc f made (t.lp.reverse[i]):=by
   rw[zTS hir,sG,<-hmade]
   rfl
  rw[uW hir]at hfit
  have gd:H3 d=some (.dK kvs):=s3 _ _ hd
  have gD:nK H3 kvs f:=hD.mono (.of s3)
  have gml:=gms.len
  generalize hpt:t.lp.reverse[i]=pt at hxt hrun hfit
  cases pt with
  |num n=>
   obtain⟨a,rfl,e1⟩:=fF.mp hxt
   refine⟨_,rfl,_,_,_,_,rfl,rfl,aj.of e1,rfl,rfl,_,rfl,bc (by decide +kernel) ?_⟩
   refine⟨_,rfl,_,_,_,_,rfl,rfl,aj.of e1,rfl,rfl,_,rfl,bc (by decide +kernel) ?_⟩
   refine⟨_,rfl,.inl ⟨rfl,_,ak.of gp⟩,_,rfl,p,_,_,rfl,rfl,gp,big (by omega),?_⟩
   have k4:aR H3 (ad H3 p (HO.lst (ms++[.ref a]))):= .lst gp
   refine⟨_,_,_,made++[.num n],rfl,fun b ob z=>by rw[am (aF z hp)];exact s3 _ _ z,by rw[am npl.symm];exact gl,gus.mono k4,au,aN.mono k4 (gms.app (.cons hxt .nil)),by rw[hrun];rfl,by simpa[cq]using hfit,by simp;omega⟩
  |name n=>
   obtain⟨a,rfl,e1⟩:=eP.mp hxt
   refine⟨_,rfl,_,_,_,_,rfl,rfl,aj.of e1,rfl,rfl,_,rfl,bc (by decide +kernel) ?_⟩
   refine⟨_,rfl,_,_,_,_,rfl,rfl,aj.of e1,rfl,rfl,_,rfl,bc (by decide +kernel) ?_⟩
   refine⟨_,rfl,.inl ⟨rfl,_,ak.of gp⟩,_,rfl,p,_,_,rfl,rfl,gp,big (by omega),?_⟩
   have k4:aR H3 (ad H3 p (HO.lst (ms++[.ref a]))):= .lst gp
   refine⟨_,_,_,made++[.name n],rfl,fun b ob z=>by rw[am (aF z hp)];exact s3 _ _ z,by rw[am npl.symm];exact gl,gus.mono k4,au,aN.mono k4 (gms.app (.cons hxt .nil)),by rw[hrun];rfl,by simpa[cq]using hfit,by simp;omega⟩
  |blank n=>
   obtain⟨a,rfl,e1⟩:=dN.mp hxt
   refine⟨_,rfl,_,_,_,_,rfl,rfl,aj.of e1,rfl,rfl,_,rfl,bc (by decide +kernel) ?_⟩
   refine⟨_,rfl,_,_,_,_,rfl,rfl,aj.of e1,rfl,rfl,_,rfl,cK (by decide +kernel) ?_⟩
   obtain⟨u,hu',htu⟩:∃u,(ck kvs (Sum.inr n)).getD (.ref a)=u/\ay H3 u ((look f n).getD (.blank n)):=by
        refine⟨_,rfl,?_⟩
        cases e:look f n with
        |none=>rw[(gD n).1 e];exact hxt
        |some t'=>
         obtain⟨v',h1,h2⟩:=(gD n).2 t' e
         rw[h1]
         exact h2
   refine⟨_,rfl,.inl ⟨rfl,_,ak.of gp⟩,_,rfl,d,rfl,.inl ⟨kvs,.inl gd⟩,_,rfl,_,_,_,_,rfl,rfl,aj.of e1,rfl,_,rfl,_,bT.k (k:=Sum.inr n) gd,?_⟩
   rw[hu']
   refine⟨p,_,_,rfl,rfl,gp,big (by omega),?_⟩
   have k4:aR H3 (ad H3 p (HO.lst (ms++[u]))):= .lst gp
   refine⟨_,_,_,made++[(look f n).getD (.blank n)],rfl,fun b ob z=>by rw[am (aF z hp)];exact s3 _ _ z,by rw[am npl.symm];exact gl,gus.mono k4,au,aN.mono k4 (gms.app (.cons htu .nil)),by rw[hrun];rfl,by simpa[cq]using hfit,by simp;omega⟩
  |thing n qs=>
   obtain⟨a,b,pv,rfl,e1,e2,e3⟩:=dF.mp hxt
   have hpl:=e3.len
   simp only[cq]at hfit
   obtain⟨hf1,hf2⟩:=hfit
   refine⟨_,rfl,_,_,_,_,rfl,rfl,aj.of e1,rfl,rfl,_,rfl,cK (by decide +kernel) ?_⟩
   refine⟨_,rfl,_,rfl,_,_,_,_,rfl,rfl,aj.of e1,rfl,b,pv,rfl,.inr (aj.of e2),p,ms,pv.length,rfl,gp,by omega,by omega,fun l2 H4 sx fl2 h4p h4l=>?_⟩
   have e4:ms.length - pv.length=made.length - qs.length:=by omega
   rw[e4]at h4p h4l
   have k4:aR H3 H4:=fun b' ys z=>sx b' _ (ce z gp (by intro z;cases z)) z
   have s4:av H H4:=fun b' ob z=>sx b' ob (aF z hp) (s3 _ _ z)
   have g4l:H4 l=some (.lst us):=sx _ _ npl.symm gl
   have t4:aN H4 ms made:=gms.mono k4
   have tk4:=t4.takeN (made.length - qs.length)
   have dr4:=tU (t4.dropN (made.length - qs.length))
   refine⟨_,rfl,.inl ⟨rfl,_,ak.of h4p⟩,_,rfl,_,_,_,_,rfl,rfl,aj.of (k4 _ _ e1),rfl,_,rfl,l2,_,rfl,.inl ⟨ak.of h4l,fun b2 hb2=>?_⟩⟩
   generalize e_:ad H4 b2 (HO.tup (ms.drop (made.length - qs.length)).reverse)=H5
   obtain⟨s5,x5⟩:=aI hb2 e_
   refine⟨(by show 3<=sizeLine;decide),fun g hg=>?_⟩
   generalize e_:ad H5 g (HO.tup [.str "thing",.str n,.ref b2])=H6
   obtain⟨s6,x6⟩:=aI hg e_
   have up:=s5.trans s6
   have g6p:=up _ _ h4p
   refine⟨p,_,_,rfl,rfl,g6p,big (by rw[zLT];omega),?_⟩
   have k7:aR H6 (ad H6 p (HO.lst (ms.take (made.length - qs.length)++[.ref g]))):= .lst g6p
   refine⟨_,_,_,made.take (made.length - qs.length)++[.thing n (made.drop (made.length - qs.length)).reverse],rfl,fun b' ob z=>by rw[am (aF z hp)];exact up _ _ (s4 _ _ z),by rw[am npl.symm];exact up _ _ g4l,((gus.mono k4).mono (.of up)).mono k7,au,
        aN.mono k7 ((tk4.mono (.of up)).app (.cons (dF.mpr ⟨g,b2,_,rfl,x6,s6 _ _ x5,dr4.mono (.of up)⟩) .nil)),by rw[hrun];rfl,?_,by simp only[zLA,zLT,zLC,zLN];omega⟩
   have e5:(made.take (made.length - qs.length)++[Tm.thing n (made.drop (made.length - qs.length)).reverse]).length=made.length - qs.length+1:=by
        simp only[zLA,zLT,zLC,zLN];omega
   rw[e5]
   exact hf2
 ·rintro σ H3 ⟨o3,o4,ms,made,rfl,s3,gl,gus,gp,gms,hmade,hfit,hml⟩
  have e:made=[t.fill f]:=by
   rw[hmade,dD (by rw[cR];omega),Iw]
   rfl
  subst e
  have gml:=gms.len
  match ms,gml,gms,gp with
  |[u],_,gms,gp=>
   refine⟨_,rfl,p,_,_,u,rfl,rfl,ak.of gp,rfl,?_⟩
   exact q u H3 s3 (gms.at 0 (by simp) (by simp))
inductive DI(vs:List V)(H:Hp)(Q:VK):Prop
 |mk:∀(v:V)(t:Tm),(vs=[v])->(ay H v t)->(t.nodes<=5000000)->(∀l H',av H H'->H' l=some (.lst (t.firsts.map V.str))->Q (.ref l) H')->DI vs H Q
def lv:Sp:=fun vs H Q _=>DI vs H Q
def wd(acc:List aa):List (Key×V):=acc.map fun x=>(Sum.inr x,V.bl true)
theorem DJ(acc:List aa)(x:aa):((wd acc).any fun kv=>decide (kv.1=Sum.inr x))=true↔x∈acc:=by
 simp only[wd,List.any_map,uP,vw,decide_eq_true_eq,Sum.inr.injEq]
 constructor
 ·rintro⟨y,h1,rfl⟩;exact h1
 ·intro h;exact⟨x,h,rfl⟩
theorem KA(acc:List aa)(x:aa):bS (wd acc) (Sum.inr x) (V.bl true)=wd (if x∈acc then acc else acc++[x]):=by
 unfold bS
 by_cases h:x∈acc
 ·rw[if_pos ((DJ acc x).mpr h),if_pos h]
  unfold wd
  rw[kj]
  refine lE fun y _=>?_
  simp only[vw]
  split<;>rfl
 ·rw[if_neg (fun z=>h ((DJ acc x).mp z)),if_neg h]
  simp[wd]
theorem KB{f:Addr}{fd:be}(F:bB K "blanks_of" "blanks_of" mx f fd)(T:Bi mg)(c_all_parts:aO P w K mg base 1 "all_parts" ["term"] tV):bf P w K mg base bp 2 f fd ["term"] lv:=by
 refine F.ok wJ (fun vs H Q E h=>?_) (fun cdv A outer s H vs Q E hr h=>?_)
 ·obtain⟨_,_,rfl,_⟩:=h
  rfl
 obtain⟨v,t,rfl,ht,hn,q⟩:=h
 have hu:(A.deeper (gh "blanks_of" (ax mx) s.heap.objs.size f cdv)).units+1<cLine:=by have:=hr.un;omega
 apply aD;intro T1
 apply aD;intro T2
 refine⟨_,(al (aB (i:=1) wJ.nd rfl (Or.inl rfl) lY) (aC T2 (al (dR cx rfl (eC (a0 c_all_parts (hr.mono (by decide)) (ae (pv 0) af))) (cz (i:=2) wJ.nd rfl (Or.inl rfl)) (aC T1 (aq (aZ (aU cf (ao aw (pv 2) ai (fun _ _=>rfl)) aS (aT _)) (aq (lX hu (pv 1) (ao aw (pv 2) ai (fun _ _=>rfl)) dq rfl)) bg)))) (aq (aM (HU T.b_list (ae (pv 1) af))))))),?_⟩
 refine fun p1 hp1=>?_
 generalize e_:ad H p1 (HO.dK [])=H1
 obtain⟨s1,x1⟩:=aI hp1 e_
 refine⟨_,rfl,v,t,rfl,ht.mono (.of s1),hn,fun l us H2 s2 fl hl hus=>?_⟩
 have n1l:p1≠l:=aF x1 fl
 have hul:=hus.len
 have hll:=Ce t
 refine⟨l,rfl,⟨_,ak.of hl⟩,let I1:Nat->L2.St->Hp->Prop:=(fun i σ H3=>∃(o:Option V)(acc:List aa),σ=[some v,some (.ref p1),o]/\av H H3/\aR H2 H3/\H3 l=some (.lst us)/\H3 p1=some (.dK (wd acc))/\acc=eF [] ((t.lp.take i).flatMap Tm.b1)/\acc.length<=i);ij (K:=K) (a:=l) (xs:=us) I1
  ⟨none,[],rfl,s1.trans s2,.refl _,hl,s2 _ _ x1,rfl,aE _⟩ (fun i σ H3 _ ⟨_,_,_,_,_,g,_⟩=>ak.of g) ?_ ?_⟩
 ·rintro i x σ H3 hx ⟨o,acc,rfl,s3,k3,gl,g1,hacc,hal⟩
  have hi:i<us.length:=(bI.mp hx).1
  have hi':i<t.lp.length:=by omega
  have hxt:ay H3 x (t.lp[i]):=by
   have h1:=(hus.mono k3).at i hi hi'
   rw[(bI.mp hx).2]at h1
   exact h1
  have hstep:eF [] ((t.lp.take (i+1)).flatMap Tm.b1)=eF acc (t.lp[i]).b1:=by
   rw[zTS hi',mZ,Ca,<-hacc]
   simp
  generalize t.lp[i]=pt at hxt hstep
  cases pt with
  |num n=>
   obtain⟨a,rfl,e1⟩:=fF.mp hxt
   refine⟨_,rfl,_,_,_,_,rfl,rfl,aj.of e1,rfl,rfl,_,rfl,bc (by decide +kernel) ?_⟩
   exact⟨_,acc,rfl,s3,k3,gl,g1,by rw[hstep];rfl,by omega⟩
  |name n=>
   obtain⟨a,rfl,e1⟩:=eP.mp hxt
   refine⟨_,rfl,_,_,_,_,rfl,rfl,aj.of e1,rfl,rfl,_,rfl,bc (by decide +kernel) ?_⟩
   exact⟨_,acc,rfl,s3,k3,gl,g1,by rw[hstep];rfl,by omega⟩
  |thing n qs=>
   obtain⟨a,b,pv,rfl,e1,e2,e3⟩:=dF.mp hxt
   refine⟨_,rfl,_,_,_,_,rfl,rfl,aj.of e1,rfl,rfl,_,rfl,bc (by decide +kernel) ?_⟩
   exact⟨_,acc,rfl,s3,k3,gl,g1,by rw[hstep];rfl,by omega⟩
  |blank n=>
   obtain⟨a,rfl,e1⟩:=dN.mp hxt
   refine⟨_,rfl,_,_,_,_,rfl,rfl,aj.of e1,rfl,rfl,_,rfl,cK (by decide +kernel) ?_⟩
   refine⟨_,rfl,_,rfl,_,_,_,_,rfl,rfl,aj.of e1,rfl,p1,_,rfl,gK.k (k:=Sum.inr n) g1 ?_,?_⟩
   ·simp only[wd,zLM];exact eX (show acc.length<6000000 by omega) (by decide)
   rw[KA]
   have k5:aR H3 (ad H3 p1 (HO.dK (wd (if n∈acc then acc else acc++[n])))):=fun b ys z=>by rw[am (ce z g1 (by intro z;cases z))];exact z
   refine⟨_,if n∈acc then acc else acc++[n],rfl,fun b ob z=>by rw[am (aF z hp1)];exact s3 _ _ z,k3.trans k5,by rw[am n1l.symm];exact gl,au,?_,?_⟩
   ·rw[hstep]
    simp only[Tm.b1,eF]
   ·split
    ·omega
    ·rw[zLA];simp only[zLC,zLN];omega
 ·rintro σ H3 ⟨o,acc,rfl,s3,k3,gl,g1,hacc,hal⟩
  have e2:acc=t.firsts:=by
   rw[hacc,dD (by omega),IM]
   rfl
  refine⟨_,rfl,p1,_,rfl,g1,fun l hl=>?_⟩
  refine q l _ (s3.trans (bG hl _)) ?_
  rw[au,<-e2]
  simp only[wd,kj]
  rfl
inductive DK(vs:List V)(H:Hp)(Q:VK):Prop
 |mk:∀(v:V)(t:Tm),(vs=[v])->(ay H v t)->(t.nodes<=5000000)->(∀l us H',av H H'->H l=none->H' l=some (.lst us)->aN H' us t.rp.reverse->Q (.ref l) H')->DK vs H Q
def tW:Sp:=fun vs H Q _=>DK vs H Q
theorem KC{f:Addr}{fd:be}(F:bB K "_law_steps" "_law_steps" oz f fd)(T:Bi mg):bf P w K mg base bp 1 f fd ["_law_term"] tW:=by
 refine F.ok tH (fun vs H Q E h=>?_) (fun cdv A outer s H vs Q E hr h=>?_)
 ·obtain⟨_,_,rfl,_⟩:=h
  rfl
 obtain⟨v,t,rfl,ht,hn,q⟩:=h
 apply aD;intro T1
 apply aD;intro T2
 apply aD;intro T3
 apply aD;intro T4
 apply aD;intro T5
 apply aD;intro T6
 refine⟨_,(al (aB (i:=1) tH.nd rfl (Or.inl rfl) (bR af)) (aC T6 (al (aB (i:=2) tH.nd rfl (Or.inl rfl) (bR (ae (pv 0) af))) (aC T5 (al (ig cx (aU (su hr.units0) (pv 2) (bR af) (aT _)) (aC T4 (al (aB (i:=3) tH.nd rfl (Or.inl rfl) (kF bY kl km kH (pv 2))) (aC T3 (al (cj (cp bY cX cY cT (pv 1) (ae (pv 3) af))) (aC T2 (aq (aZ (aU cf (ao aw (pv 3) ai (fun _ _=>rfl)) aS (aT _)) (aC T1 (aq (cj (cp bY pj pk pG (pv 2) (ae (jm AQ T.b_list kR (ae (ao aw (pv 3) ai (fun _ _=>rfl)) af)) af))))) bg)))))))) (aq (aM (BR T.b_list T.b_reversed (pv 1))))))))),?_⟩
 refine⟨(by show 0<=sizeLine;decide),fun p1 hp1=>?_⟩
 generalize e_:ad H p1 (HO.lst [])=H1
 obtain⟨s1,x1⟩:=aI hp1 e_
 refine⟨_,rfl,(by show 1<=sizeLine;decide),fun p2 hp2=>?_⟩
 have s2:=bG hp2 (HO.lst [v])
 have x2:ad H1 p2 (HO.lst [v]) p2=some _:=au
 have n12:p1≠p2:=aF x1 hp2
 have f2:H p2=none:=s1.free hp2
 generalize ad H1 p2 (HO.lst [v])=H2 at s2 x2 |-
 refine⟨fun m σ H3=>∃(o:Option V)(rs us:List V)(done ts:List Tm),σ=[some v,some (.ref p1),some (.ref p2),o]/\av H H3/\H3 p1=some (.lst rs)/\aN H3 rs done/\H3 p2=some (.lst us)/\aN H3 us ts/\
  aJ ts=m/\done++bV ts=t.rp/\done.length+m<=t.nodes,
  ⟨_,none,[],[v],[],[t],rfl,s1.trans s2,s2 _ _ x1,.nil,x2,.cons (ht.mono (.of (s1.trans s2))) .nil,rfl,by simp[bV],by simp[aJ]⟩,?_⟩
 rintro m σ H3 ⟨o,rs,us,done,ts,rfl,s3,g1,hrs,g2,hus,hm,hout,hsz⟩
 refine⟨_,rfl,(by show 0<=sizeLine;decide),fun e he=>?_⟩
 generalize e_:ad H3 e (HO.lst [])=HE
 obtain⟨sE,xE⟩:=aI he e_
 have g1:=sE _ _ g1
 have g2:=sE _ _ g2
 have s3:=s3.trans sE
 have hus:=hus.mono (.of sE)
 have hrs:=hrs.mono (.of sE)
 refine⟨p2,e,us,rfl,rfl,g2,xE,_,rfl,bE (fun c=>⟨_,fun _ _ h=>h,?_⟩) (fun c=>?_)⟩
 ·
  have hne:us≠[]:=by intro z;rw[z]at c;exact absurd c (by decide)
  have hlen:=hus.len
  obtain⟨us0,u,rfl⟩:=iw hne
  obtain⟨ts0,t1,rfl⟩:=iw (l:=ts) (by intro z;rw[z]at hlen;simp at hlen)
  obtain⟨h0,hu1⟩:=hus.snoc
  rw[gM]at hm
  simp only[aJ]at hm
  rw[wb]at hout
  simp only[bV,iH]at hout
  have hl0:=gq ts0
  have hu0:=h0.len
  have hr0:=hrs.len
  have hn1:=t1.nodes_pos
  refine⟨_,rfl,.inl ⟨rfl,_,ak.of g2⟩,p2,_,u,rfl,rfl,g2,by simp,?_⟩
  rw[lF]
  have k4:aR HE (ad HE p2 (HO.lst us0)):= .lst g2
  have x4:ad HE p2 (HO.lst us0) p2=some _:=au
  have y4:ad HE p2 (HO.lst us0) p1=some (.lst rs):=by rw[am n12];exact g1
  have s4:av H (ad HE p2 (HO.lst us0)):=fun b ob z=>by rw[am (aF z f2)];exact s3 _ _ z
  generalize ad HE p2 (HO.lst us0)=H4 at k4 x4 y4 s4 |-
  refine⟨_,rfl,.inl ⟨rfl,_,ak.of y4⟩,_,rfl,p1,_,_,rfl,rfl,y4,big (by omega),?_⟩
  have k5:aR H4 (ad H4 p1 (HO.lst (rs++[u]))):= .lst y4
  have x5:ad H4 p1 (HO.lst (rs++[u])) p1=some _:=au
  have y5:ad H4 p1 (HO.lst (rs++[u])) p2=some (.lst us0):=by rw[am n12.symm];exact x4
  have s5:av H (ad H4 p1 (HO.lst (rs++[u]))):=fun b ob z=>by rw[am (aF z hp1)];exact s4 _ _ z
  generalize ad H4 p1 (HO.lst (rs++[u]))=H5 at k5 x5 y5 s5 |-
  have h5:=(h0.mono k4).mono k5
  have ht1:=(hu1.mono k4).mono k5
  have hd5:aN H5 (rs++[u]) (done++[t1]):=((hrs.mono k4).mono k5).app (.cons ht1 .nil)
  cases t1 with
  |num n=>
   obtain⟨a,rfl,e1⟩:=fF.mp ht1
   refine⟨_,rfl,_,_,_,_,rfl,rfl,aj.of e1,rfl,rfl,_,rfl,bc (by decide +kernel) ?_⟩
   exact⟨aJ ts0,by omega,_,_,us0,_,ts0,rfl,s5,x5,hd5,y5,h5,rfl,by simpa[Tm.rp]using hout,by rw[zLA];simp only[zLC,zLN];omega⟩
  |name n=>
   obtain⟨a,rfl,e1⟩:=eP.mp ht1
   refine⟨_,rfl,_,_,_,_,rfl,rfl,aj.of e1,rfl,rfl,_,rfl,bc (by decide +kernel) ?_⟩
   exact⟨aJ ts0,by omega,_,_,us0,_,ts0,rfl,s5,x5,hd5,y5,h5,rfl,by simpa[Tm.rp]using hout,by rw[zLA];simp only[zLC,zLN];omega⟩
  |blank n=>
   obtain⟨a,rfl,e1⟩:=dN.mp ht1
   refine⟨_,rfl,_,_,_,_,rfl,rfl,aj.of e1,rfl,rfl,_,rfl,bc (by decide +kernel) ?_⟩
   exact⟨aJ ts0,by omega,_,_,us0,_,ts0,rfl,s5,x5,hd5,y5,h5,rfl,by simpa[Tm.rp]using hout,by rw[zLA];simp only[zLC,zLN];omega⟩
  |thing n qs=>
   obtain⟨a,b,pv,rfl,e1,e2,e3⟩:=dF.mp ht1
   have hpl:=e3.len
   have hpn:=gq qs
   simp only[Tm.nodes]at hm
   refine⟨_,rfl,_,_,_,_,rfl,rfl,aj.of e1,rfl,rfl,_,rfl,cK (by decide +kernel) ?_⟩
   refine⟨_,rfl,.inl ⟨rfl,_,ak.of y5⟩,_,rfl,_,_,_,_,rfl,rfl,aj.of e1,rfl,b,pv,rfl,.inr (aj.of e2),fun l hl=>?_⟩
   generalize e_:ad H5 l (HO.lst pv)=H6
   obtain⟨s6,x6⟩:=aI hl e_
   refine⟨p2,l,us0,pv,rfl,rfl,s6 _ _ y5,x6,d9 (by omega),?_⟩
   have k7:aR H6 (ad H6 p2 (HO.lst (us0++pv))):= .lst (s6 _ _ y5)
   refine⟨aJ ts0+aJ qs,by omega,_,_,us0++pv,_,ts0++qs,rfl,fun b' ob z=>by rw[am (aF z f2)];exact s6 _ _ (s5 _ _ z),by rw[am n12];exact s6 _ _ x5,aN.mono k7 (hd5.mono (.of s6)),au,
        aN.mono k7 ((h5.mono (.of s6)).app (e3.mono (.of s6))),by rw[gM],?_,by rw[zLA];simp only[zLC,zLN];omega⟩
   rw[wb,<-hout]
   simp[Tm.rp]
 ·have e:us=[]:=by
   cases us with
   |nil=>rfl
   |cons a b=>exact absurd rfl c
  subst e
  have hlen:=hus.len
  have e:ts=[]:=jb.mp hlen.symm
  subst e
  have e2:done=t.rp:=by simpa[bV]using hout
  refine⟨_,rfl,p1,rs,rfl,ak.of g1,fun l hl=>?_⟩
  refine q l _ _ (s3.trans (bG hl _)) (s3.free hl) au ?_
  rw[<-e2]
  exact(tU hrs).mono (.new hl)
theorem DL(x:aa)(acc:List aa):pF (.str x) (acc.map V.str)=decide (x∈acc):=by
 induction acc with
 |nil=>rfl
 |cons y r ih=>
  have e:pF (.str x) ((y::r).map V.str)=(iL (.str y) (.str x)||pF (.str x) (r.map V.str)):=rfl
  rw[e,ih]
  by_cases z:y=x
  ·subst z;simp[iL]
  ·have z':¬x=y:=fun q=>z q.symm
   simp[iL,z,z']
theorem KD(acc:List aa):(acc.map V.str).all jf=true:=by
 simp[List.all_map,lC,jf]
theorem KE{f:Addr}{fd:be}(F:bB K "_law_blanks" "_law_blanks" oB f fd)(T:Bi mg)(c__law_steps:aO P w K mg base 1 "_law_steps" ["_law_term"] tW):bf P w K mg base bp 2 f fd ["_law_term"] lv:=by
 refine F.ok wN (fun vs H Q E h=>?_) (fun cdv A outer s H vs Q E hr h=>?_)
 ·obtain⟨_,_,rfl,_⟩:=h
  rfl
 obtain⟨v,t,rfl,ht,hn,q⟩:=h
 apply aD;intro T1
 apply aD;intro T2
 apply aD;intro T3
 refine⟨_,(al (aB (i:=1) wN.nd rfl (Or.inl rfl) (bR af)) (aC T3 (al (dR cx rfl (eC (a0 c__law_steps (hr.mono (by decide)) (ae (pv 0) af))) (cz (i:=2) wN.nd rfl (Or.inl rfl)) (aC T2 (aq (aZ (kr (aU cf (ao aw (pv 2) ai (fun _ _=>rfl)) aS (aT _)) (kq (aU GC (ao aw (pv 2) ai (fun _ _=>rfl)) (pv 1) (by with_unfolding_all rfl)))).pt (aC T1 (aq (cj (cp bY cX cY cT (pv 1) (ae (ao aw (pv 2) ai (fun _ _=>rfl)) af))))) bg)))) (aq (aM (pv 1)))))),?_⟩
 refine⟨(by show 0<=sizeLine;decide),fun p hp=>?_⟩
 generalize e_:ad H p (HO.lst [])=H1
 obtain⟨s1,x1⟩:=aI hp e_
 refine⟨_,rfl,v,t,rfl,ht.mono (.of s1),hn,fun l us H2 s2 _ g2 hus=>⟨l,rfl,⟨_,ak.of g2⟩,?_⟩⟩
 have npl:p≠l:=by
  rintro rfl
  have z:=s2 _ _ x1
  rw[g2]at z
  cases z
  have:=hus.len
  rw[cR,gN]at this
  have:=t.nodes_pos
  simp at *
  omega
 have hlu:=hus.len
 rw[cR,gN]at hlu
 refine let I1:Nat->L2.St->Hp->Prop:=(fun i σ H3=>∃(o:Option V)(acc:List aa),σ=[some v,some (.ref p),o]/\av H H3/\H3 l=some (.lst us)/\aN H3 us t.rp.reverse/\H3 p=some (.lst (acc.map V.str))/\
  acc.length<=i/\eF [] ((t.rp.reverse.take i).flatMap Tm.b1)=acc);ij (K:=K) (a:=l) (xs:=us) I1
  ⟨none,[],rfl,s1.trans s2,g2,hus,s2 _ _ x1,cQ _,rfl⟩ (fun i σ H3 _ ⟨_,_,_,_,g,_⟩=>ak.of g) ?_ ?_
 ·rintro i y σ H3 hi ⟨o,acc,rfl,s3,g3,h3,gp,hal,hacc⟩
  obtain⟨hi1,hi2⟩:=bI.mp hi
  have hti:i<t.rp.reverse.length:=by rw[cR,gN];omega
  have hy:=h3.at i hi1 hti
  rw[hi2]at hy
  have etk:(t.rp.reverse.take (i+1)).flatMap Tm.b1=(t.rp.reverse.take i).flatMap Tm.b1++(t.rp.reverse[i]).b1:=by
   rw[zTS hti,mZ]
   simp
  generalize t.rp.reverse[i]=u at hy etk
  cases u with
  |num n=>
   obtain⟨a,rfl,e1⟩:=fF.mp hy
   refine⟨_,rfl,_,_,_,_,rfl,rfl,aj.of e1,rfl,rfl,_,rfl,bc (by decide +kernel) ?_⟩
   exact⟨_,acc,rfl,s3,g3,h3,gp,by omega,by rw[etk,<-hacc];simp[Tm.b1]⟩
  |name n=>
   obtain⟨a,rfl,e1⟩:=eP.mp hy
   refine⟨_,rfl,_,_,_,_,rfl,rfl,aj.of e1,rfl,rfl,_,rfl,bc (by decide +kernel) ?_⟩
   exact⟨_,acc,rfl,s3,g3,h3,gp,by omega,by rw[etk,<-hacc];simp[Tm.b1]⟩
  |thing n qs=>
   obtain⟨a,b,pv,rfl,e1,e2,e3⟩:=dF.mp hy
   refine⟨_,rfl,_,_,_,_,rfl,rfl,aj.of e1,rfl,rfl,_,rfl,bc (by decide +kernel) ?_⟩
   exact⟨_,acc,rfl,s3,g3,h3,gp,by omega,by rw[etk,<-hacc];simp[Tm.b1]⟩
  |blank n=>
   obtain⟨a,rfl,e1⟩:=dN.mp hy
   have en:eF [] ((t.rp.reverse.take (i+1)).flatMap Tm.b1)=if n∈acc then acc else acc++[n]:=by
        rw[etk,Ca,hacc]
        simp only[Tm.b1,eF]
   refine⟨_,rfl,_,_,_,_,rfl,rfl,aj.of e1,rfl,rfl,_,rfl,cK (by decide +kernel) ?_⟩
   refine⟨_,rfl,_,_,_,_,rfl,rfl,aj.of e1,rfl,_,rfl,p,_,rfl,.inl (ak.of gp),rfl,KD acc,_,rfl,bE (fun c=>?_) (fun c=>?_)⟩
   ·have c':n∉acc:=by
     intro z
     rw[DL]at c
     simp[z]at c
    refine⟨_,rfl,.inl ⟨rfl,_,ak.of gp⟩,_,rfl,_,_,_,_,rfl,rfl,aj.of e1,rfl,p,_,_,rfl,rfl,gp,big (by rw[zLM];omega),?_⟩
    have k4:aR H3 (ad H3 p (HO.lst (acc.map V.str++[.str n]))):= .lst gp
    refine⟨_,acc++[n],rfl,fun b ob z=>by rw[am (aF z hp)];exact s3 _ _ z,by rw[am npl.symm];exact g3,h3.mono k4,by rw[au,zMA];rfl,by rw[zLA];simp only[zLC,zLN];omega,by rw[en,if_neg c']⟩
   ·have c':n∈acc:=by
     rw[DL]at c
     simpa using c
    exact⟨_,acc,rfl,s3,g3,h3,gp,by omega,by rw[en,if_pos c']⟩
 ·rintro σ H3 ⟨o,acc,rfl,s3,g3,h3,gp,hal,hacc⟩
  rw[hlu,<-gN,<-cR,qW,Cb]at hacc
  refine⟨_,rfl,q p H3 s3 ?_⟩
  rw[gp,<-hacc]
  rfl
inductive DM(vs:List V)(H:Hp)(Q:VK):Prop
 |mk:∀(v:V)(t:Tm)(l:Addr)(ps:List V)(f:Fl),(vs=[v,.ref l])->(ay H v t)->(t.nodes<=5000000)->(H l=some (.lst ps))->(dQ H ps f)->((f.map (·.1)).Nodup)->(∀v' H',av H H'->ay H' v' (t.fill f)->Q v' H')->DM vs H Q
def qo:Sp:=fun vs H Q _=>DM vs H Q
theorem KF{f0:Addr}{fd:be}(F:bB K "_law_fill" "_law_fill" oA f0 fd)(T:Bi mg)(c__law_steps:aO P w K mg base 1 "_law_steps" ["_law_term"] tW):bf P w K mg base bp 2 f0 fd ["_law_term","_law_pairs"] qo:=by
 refine F.ok jV (fun vs H Q E h=>?_) (fun cdv A outer s H vs Q E hr h=>?_)
 ·obtain⟨_,_,_,_,_,rfl,_⟩:=h
  rfl
 obtain⟨v,t,l,ps,f,rfl,ht,hn,hl,hf,hnd,q⟩:=h
 have hfl:=hf.len
 apply aD;intro T1
 apply aD;intro T2
 apply aD;intro T3
 apply aD;intro T4
 apply aD;intro T5
 apply aD;intro T6
 apply aD;intro T7
 apply aD;intro T8
 apply aD;intro T9
 refine⟨_,(al (aB (i:=2) jV.nd rfl (Or.inl rfl) (bR af)) (aC T9 (al (dR cx rfl (eC (a0 c__law_steps (hr.mono (by decide)) (ae (pv 0) af))) (cz (i:=3) jV.nd rfl (Or.inl rfl)) (aC T8 (al (aB (i:=4) jV.nd rfl (Or.inl rfl) (pv 3)) (aC T7 (al (aZ (aU cf (ao aw (pv 3) ai (fun _ _=>rfl)) aS (aT _)) (aC T4 (al (aB (i:=5) jV.nd rfl (Or.inl rfl) (aY nv (ca dk T.b_len cU (ae (pv 2) af)) (ca dk T.b_len cU (ae (ao aw (pv 3) ai (fun _ _=>rfl)) af)))) (aC T1 (al (aB (i:=4) jV.nd rfl (Or.inl rfl) (bO (ae aS (ae (ao aw (pv 3) ai (fun _ _=>rfl)) (ae (jm nC T.b_tuple jk (ae (gn gJ (pv 2) (fT (pv 5)) gI) af)) af))))) (aq (aB (i:=2) jV.nd rfl (Or.inl rfl) (gn gJ (pv 2) gI (fT (pv 5))))))))) (aC T5 (aq (aZ (aU cf (ao aw (pv 3) ai (fun _ _=>rfl)) aS (aT _)) (aC T3 (aq (dR cx rfl (eC (pv 1)) (cz (i:=6) jV.nd rfl (Or.inl rfl)) (aC T2 (aq (aZ (aU cf (ao aw (pv 6) ai (fun _ _=>rfl)) (ao aw (pv 3) ai (fun _ _=>rfl)) (aT _)) (aq (aB (i:=4) jV.nd rfl (Or.inl rfl) (ao aw (pv 6) ai (fun _ _=>rfl)))) bg)))))) bg)))) (aC T6 (aq (cj (cp bY cX cY cT (pv 2) (ae (pv 4) af)))))))))) (aq (aM (ao cI (pv 2) ai (fun _ _=>rfl))))))),?_⟩
 refine⟨(by show 0<=sizeLine;decide),fun p0 hp0=>?_⟩
 generalize e_:ad H p0 (HO.lst [])=H1
 obtain⟨s1,x1⟩:=aI hp0 e_
 refine⟨_,rfl,v,t,rfl,ht.mono (.of s1),hn,fun ls us H2 s2 fls hls hus=>?_⟩
 have s02:=s1.trans s2
 have hul:=hus.len
 rw[cR,gN]at hul
 refine⟨ls,rfl,⟨_,ak.of hls⟩,let I1:Nat->L2.St->Hp->Prop:=(fun i σ H3=>∃(o3 o4 o5 o6:Option V)(p:Addr)(ms:List V)(made:List Tm),σ=[some v,some (.ref l),some (.ref p),o3,o4,o5,o6]/\av H H3/\H3 ls=some (.lst us)/\aR H2 H3/\p≠ls/\H p=none/\H3 p=some (.lst ms)/\aN H3 ms made/\
  made=gR f [] (t.rp.reverse.take i)/\cq made.length (t.rp.reverse.drop i)/\made.length<=i);ij (K:=K) (a:=ls) (xs:=us) I1
  ⟨none,none,none,none,p0,[],[],rfl,s02,hls,.refl _,aF x1 fls,hp0,s2 _ _ x1,.nil,by simp[gR],by simpa using IF t,aE _⟩ (fun i σ H3 _ ⟨_,_,_,_,_,_,_,_,_,g,_⟩=>ak.of g) ?_ ?_⟩
 ·rintro i x σ H3 hx ⟨o3,o4,o5,o6,p,ms,made,rfl,s3,gl,k3,npl,fp,gp,gms,hmade,hfit,hml⟩
  have hi:i<us.length:=(bI.mp hx).1
  have hir:i<t.rp.reverse.length:=by rw[cR,gN];omega
  have hxt:ay H3 x (t.rp.reverse[i]):=by
   have h1:=(hus.mono k3).at i hi hir
   rw[(bI.mp hx).2]at h1
   exact h1
  have hrun:gR f [] (t.rp.reverse.take (i+1))=sK f made (t.rp.reverse[i]):=by
   rw[zTS hir,sL,<-hmade]
   rfl
  rw[uW hir]at hfit
  have gml:=gms.len
  generalize hpt:t.rp.reverse[i]=pt at hxt hrun hfit
  refine⟨_,rfl,?_⟩
  show cZ.nx _ _ _
  with_reducible show fu _ _ _ _ _
  refine let I2:L2.St->Hp->Prop:=(fun σ H4=>∃(o5 o6:Option V)(p:Addr)(ms:List V)(made:List Tm)(mv:V)(tm:Tm),σ=[some v,some (.ref l),some (.ref p),some x,some mv,o5,o6]/\av H H4/\H4 ls=some (.lst us)/\aR H2 H4/\p≠ls/\H p=none/\H4 p=some (.lst ms)/\aN H4 ms made/\ay H4 mv tm/\
   sK f (gR f [] (t.rp.reverse.take i)) pt=made++[tm]/\cq (made.length+1) (t.rp.reverse.drop (i+1))/\made.length<=i);fW I2 ?_ (fun key=>?_)
  rotate_left
  ·rw[hmade]at hrun
   cases pt with
   |num n=>
    obtain⟨a,rfl,e1⟩:=fF.mp hxt
    refine⟨_,rfl,_,_,_,_,rfl,rfl,aj.of e1,rfl,rfl,_,rfl,bc (by decide +kernel) ?_⟩
    refine⟨_,rfl,_,_,_,_,rfl,rfl,aj.of e1,rfl,rfl,_,rfl,bc (by decide +kernel) ?_⟩
    exact key _ _ ⟨_,_,p,ms,made,_,.num n,rfl,s3,gl,k3,npl,fp,gp,gms,hxt,by rw[<-hmade];rfl,by simpa[cq]using hfit,hml⟩
   |name n=>
    obtain⟨a,rfl,e1⟩:=eP.mp hxt
    refine⟨_,rfl,_,_,_,_,rfl,rfl,aj.of e1,rfl,rfl,_,rfl,bc (by decide +kernel) ?_⟩
    refine⟨_,rfl,_,_,_,_,rfl,rfl,aj.of e1,rfl,rfl,_,rfl,bc (by decide +kernel) ?_⟩
    exact key _ _ ⟨_,_,p,ms,made,_,.name n,rfl,s3,gl,k3,npl,fp,gp,gms,hxt,by rw[<-hmade];rfl,by simpa[cq]using hfit,hml⟩
   |blank n=>
    obtain⟨a,rfl,e1⟩:=dN.mp hxt
    refine⟨_,rfl,_,_,_,_,rfl,rfl,aj.of e1,rfl,rfl,_,rfl,bc (by decide +kernel) ?_⟩
    refine⟨_,rfl,_,_,_,_,rfl,rfl,aj.of e1,rfl,rfl,_,rfl,cK (by decide +kernel) ?_⟩
    refine⟨_,rfl,l,rfl,⟨_,ak.of (s3 _ _ hl)⟩,let I3:Nat->L2.St->Hp->Prop:=(fun j σ H4=>H3=H4/\∃(o6:Option V)(mv:V),σ=[some v,some (.ref l),some (.ref p),some (.ref a),some mv,o5,o6]/\ay H3 mv ((look (f.take j) n).getD (.blank n)));ij (K:=K) (a:=l) (xs:=ps) I3
     ⟨rfl,_,_,rfl,by simpa[look]using hxt⟩ (fun j σ H4 _ ⟨e,_⟩=>by rw[<-e];exact ak.of (s3 _ _ hl)) ?_ ?_⟩
    ·rintro j y σ H4 hy ⟨rfl,o6,mv,rfl,hmv⟩
     have hj:j<ps.length:=(bI.mp hy).1
     have hj':j<f.length:=by omega
     obtain⟨a2,v2,ea,ha0,hv0⟩:=hf.get j hj hj'
     have ey:y= .ref a2:=by rw[<-ea];exact((bI.mp hy).2).symm
     subst ey
     have ha:=s3 _ _ ha0
     refine⟨_,rfl,_,_,_,_,rfl,rfl,aj.of ha,rfl,_,rfl,_,_,_,_,rfl,rfl,aj.of e1,rfl,rfl,_,rfl,bE (fun c=>?_) (fun c=>?_)⟩
     ·have c':f[j].1=n:=V.str.inj (of_decide_eq_true c)
      refine⟨_,rfl,_,_,_,_,rfl,rfl,aj.of ha,rfl,rfl,_,_,rfl,?_⟩
      have e2:look (f.take (j+1)) n=some f[j].2:=by
          rw[zTS hj',pU]
          have:look (f.take j) n=none:=kW fun z=>by
           obtain⟨q,hq,eq⟩:=bK.mp z
           obtain⟨k,hk,ek⟩:=qT hq
           rw[zLT]at hk
           rw[oX]at ek
           have:=m6.mp hnd k j (by rw[zLM];omega) (by rw[zLM];omega) (by omega)
           rw[jE,jE,ek,eq,c']at this
           exact this rfl
          rw[this,pq,sH,if_pos c']
      rw[e2]
      exact hv0.mono (.of s3)
     ·have c':¬f[j].1=n:=fun z=>c (decide_eq_true (congrArg V.str z))
      refine⟨rfl,_,mv,rfl,?_⟩
      rw[zTS hj',pU,sH,if_neg c']
      have:look ([]:Fl) n=none:=rfl
      rw[this,nk]
      exact hmv
    ·rintro σ H4 ⟨rfl,o6,mv,rfl,hmv⟩
     rw[dD (by omega)]at hmv
     exact key _ _ ⟨_,_,p,ms,made,mv,_,rfl,s3,gl,k3,npl,fp,gp,gms,hmv,by rw[<-hmade];rfl,by simpa[cq]using hfit,hml⟩
   |thing n qs=>
    obtain⟨a,b,pv,rfl,e1,e2,e3⟩:=dF.mp hxt
    have hpl:=e3.len
    simp only[cq]at hfit
    obtain⟨hf1,hf2⟩:=hfit
    have j0:0<=(ms.length:Int) - (pv.length:Int):=by omega
    have j1:(ms.length:Int) - (pv.length:Int)<=ms.length:=by omega
    have ej:((ms.length:Int) - (pv.length:Int)).toNat=made.length - qs.length:=by omega
    refine⟨_,rfl,_,_,_,_,rfl,rfl,aj.of e1,rfl,rfl,_,rfl,cK (by decide +kernel) ?_⟩
    refine⟨_,rfl,p,ms,rfl,.inl (ak.of gp),_,rfl,_,_,_,_,rfl,rfl,aj.of e1,rfl,b,pv,rfl,.inr (aj.of e2),_,_,rfl,rfl,?_⟩
    refine⟨_,rfl,_,_,_,_,rfl,rfl,aj.of e1,rfl,_,rfl,_,rfl,_,rfl,p,ms,rfl,ak.of gp,fun l2 hl2=>?_⟩
    rw[qi ms _ j0 j1,ej]
    generalize e_:ad H3 l2 (HO.lst (ms.drop (made.length - qs.length)))=H4
    obtain⟨s4,x4⟩:=aI hl2 e_
    refine⟨l2,_,rfl,.inl ⟨ak.of x4,fun b2 hb2=>?_⟩⟩
    generalize e_:ad H4 b2 (HO.tup (ms.drop (made.length - qs.length)))=H5
    obtain⟨s5,x5⟩:=aI hb2 e_
    refine⟨(by show 3<=sizeLine;decide),fun g hg=>?_⟩
    generalize e_:ad H5 g (HO.tup [.str "thing",.str n,.ref b2])=H6
    obtain⟨s6,x6⟩:=aI hg e_
    have s36:=s4.trans (s5.trans s6)
    refine⟨_,rfl,_,rfl,_,rfl,p,ms,rfl,ak.of (s36 _ _ gp),fun p7 hp7=>?_⟩
    rw[tL ms _ j0 j1,ej]
    have s7:=bG hp7 (HO.lst (ms.take (made.length - qs.length)))
    have x7:ad H6 p7 (HO.lst (ms.take (made.length - qs.length))) p7=some _:=au
    have np7:p7≠ls:=fQ (aF (s36 _ _ gl) hp7)
    have fp7:H p7=none:=(s3.trans s36).free hp7
    generalize ad H6 p7 (HO.lst (ms.take (made.length - qs.length)))=H7 at s7 x7 |-
    have s37:=s36.trans s7
    refine key _ _ ⟨_,_,p7,_,made.take (made.length - qs.length),_,.thing n (made.drop (made.length - qs.length)),rfl,s3.trans s37,s37 _ _ gl,k3.trans (.of s37),np7,fp7,x7,(gms.mono (.of s37)).takeN _,?_,by rw[<-hmade];rfl,?_,?_⟩
    ·exact dF.mpr ⟨g,b2,_,rfl,s7 _ _ x6,s7 _ _ (s6 _ _ x5),(gms.mono (.of s37)).dropN _⟩
    ·have e5:(made.take (made.length - qs.length)).length=made.length - qs.length:=by rw[zLT];omega
     rw[e5]
     exact hf2
    ·rw[zLT];omega
  rintro σ H4 ⟨o5,o6,p,ms,made2,mv,tm,rfl,s4,gl4,k4,npl4,fp4,gp4,gms4,hmv,hgt,hfit4,hml4⟩
  have hl4:=gms4.len
  refine⟨_,rfl,.inl ⟨rfl,_,ak.of gp4⟩,_,rfl,p,_,_,rfl,rfl,gp4,big (by omega),?_⟩
  have k5:aR H4 (ad H4 p (HO.lst (ms++[mv]))):= .lst gp4
  refine⟨_,_,_,_,p,_,made2++[tm],rfl,fun b ob z=>by rw[am (aF z fp4)];exact s4 _ _ z,by rw[am (fQ npl4)];exact gl4,k4.trans k5,npl4,fp4,au,aN.mono k5 (gms4.app (.cons hmv .nil)),?_,by simpa using hfit4,by simp;omega⟩
  rw[hrun,<-hgt,hmade]
 ·rintro σ H3 ⟨o3,o4,o5,o6,p,ms,made,rfl,s3,gl,k3,npl,fp,gp,gms,hmade,hfit,hml⟩
  have e:made=[t.fill f]:=by
   rw[hmade,dD (by rw[cR,gN];omega),IC]
   rfl
  subst e
  have gml:=gms.len
  match ms,gml,gms,gp with
  |[u],_,gms,gp=>
   refine⟨_,rfl,p,_,_,u,rfl,rfl,ak.of gp,rfl,?_⟩
   exact q u H3 s3 (gms.at 0 (by simp) (by simp))
end
section
variable{P:aQ}{w:aH}{K:aA}{mg:aa->Option ac}{base:az}
inductive DN(vs:List V)(H:Hp)(Q:VK):Prop
 |mk:∀k:Nat,(vs=[.int (k:Nat)])->(∀x:aa,x.cps.toList=eg k->Q (.str x) H)->DN vs H Q
def tX:Sp:=fun vs H Q _=>DN vs H Q
theorem tY(m:Nat)(h1:m<26):dU (bL "abcdefghijklmnopqrstuvwxyz").cps.toList ((m:Nat):Int)=some (97+m):=eO (Bw m h1)
theorem KG{f:Addr}{fd:be}(F:bB K "_law_called" "_law_called" oy f fd)(T:Bi mg):bf P w K mg base bp 1 f fd ["_law_k"] tX:=by
 refine F.ok tG (fun vs H Q E h=>?_) (fun cdv A outer s H vs Q E hr h=>?_)
 ·obtain⟨_,rfl,_⟩:=h
  rfl
 obtain⟨k,rfl,q⟩:=h
 have e1:dU (bL "abcdefghijklmnopqrstuvwxyz").cps.toList ((k:Int) % 3)=some (97+k % 3):=tY (k % 3) (by omega)
 have e2:dU (bL "abcdefghijklmnopqrstuvwxyz").cps.toList ((k:Int) / 3 % 3)=some (97+k / 3 % 3):=tY (k / 3 % 3) (by omega)
 have e3:dU (bL "abcdefghijklmnopqrstuvwxyz").cps.toList ((k:Int) / 9 % 3)=some (97+k / 9 % 3):=tY (k / 9 % 3) (by omega)
 have e4:dU (bL "abcdefghijklmnopqrstuvwxyz").cps.toList ((k:Int) / 27 % 26)=some (97+k / 27 % 26):=tY (k / 27 % 26) (by omega)
 apply aD;intro T1
 apply aD;intro T2
 apply aD;intro T3
 refine⟨_,(al (aB (i:=1) tG.nd rfl (Or.inl rfl) aS) (aC T3 (al (aB (i:=2) tG.nd rfl (Or.inl rfl) (aY kz (aY kz (ao nB (pv 1) (aY dj (pv 0) ai) (fun _ _=>rfl)) (ao nB (pv 1) (aY dj (aY e9 (pv 0) ai) ai) (fun _ _=>rfl))) (ao nB (pv 1) (aY dj (aY e9 (pv 0) ai) ai) (fun _ _=>rfl)))) (aC T2 (al (aZ (aU vF (pv 0) ai (aT _)) (aC T1 (aq (aB (i:=2) tG.nd rfl (Or.inl rfl) (aY kz (pv 2) (ao nB (pv 1) (aY dj (aY e9 (pv 0) ai) ai) (fun _ _=>rfl)))))) bg) (aq (aM (pv 2)))))))),?_⟩
 refine⟨_,rfl,_,rfl,_,_,rfl,rfl,(show (0:Int)<_ by decide),_,_,_,rfl,rfl,(by decide +kernel),e1,?_⟩
 refine⟨_,rfl,_,rfl,_,_,rfl,rfl,⟨by decide,by decide⟩,_,_,rfl,rfl,(show (0:Int)<_ by decide),_,_,_,rfl,rfl,(by decide +kernel),e2,_,_,rfl,rfl,?_,?_⟩
 ·rw[eQ,eQ]
  exact d9 (by simp)
 refine⟨_,rfl,_,rfl,_,_,rfl,rfl,⟨by decide,by decide⟩,_,_,rfl,rfl,(show (0:Int)<_ by decide),_,_,_,rfl,rfl,(by decide +kernel),e3,_,_,rfl,rfl,?_,?_⟩
 ·rw[eQ,eQ,fG]
  exact d9 (by simp)
 refine⟨_,rfl,_,_,rfl,rfl,_,rfl,bE (fun c=>?_) (fun c=>⟨_,rfl,q _ ?_⟩)⟩
 ·have c':(k:Int)>26:=of_decide_eq_true c
  refine⟨_,rfl,_,rfl,_,rfl,_,_,rfl,rfl,⟨by decide,by decide⟩,_,_,rfl,rfl,(show (0:Int)<_ by decide),_,_,_,rfl,rfl,(by decide +kernel),e4,_,_,rfl,rfl,?_,⟨_,rfl,q _ ?_⟩⟩
  ·rw[eQ,eQ,fG,fG]
   exact d9 (by simp)
  ·rw[fG,fG,fG]
   unfold eg
   rw[if_pos (by omega)]
   rfl
 ·have c':¬(k:Int)>26:=of_decide_eq_false (h9.mpr c)
  rw[fG,fG]
  unfold eg
  rw[if_neg (by omega)]
  rfl
inductive DO(K:aA)(vs:List V)(H:Hp)(Q:VK):Prop
 |mk:∀(a:Addr)(ns:List Int)(m:Nat),(vs=[.ref a,.int (m:Nat)])->(ak K H a (ns.map V.int))->(ns.length<=63)->(0<m)->(∀(r lf lp:Addr)(x0 x1 x2:V)(d:cr)(seen:List Tm)(pv:List V)(f:Fl)(H':Hp),av H H'->H' r=some (.tup [.ref lf,.ref lp])->H' lf=some (.lst [x0,x1,x2])->ay H' x0 d.1->ay H' x1 d.2.1->ay H' x2 d.2.2->er m seen d->d.2.2.nodes<=ns.length+2->H' lp=some (.lst pv)->dQ H' pv f->f.map (·.2)=seen->(∀i p,f[i]?=some p->p.1.cps.toList=eg i)->seen.length<=ns.length->(∀t∈seen,t.Ok/\t.nodes<=ns.length)->Q (.ref r) H')->DO K vs H Q
def xk(K:aA):Sp:=fun vs H Q _=>DO K vs H Q
theorem KH{f0:Addr}{fd:be}(F:bB K "_law_hidden" "_law_hidden" oC f0 fd)(T:Bi mg)(c__law_many_parts:aO P w K mg base 1 "_law_many_parts" ["_law_cell","_law_count"] wR)
 (c__law_leaf:aO P w K mg base 2 "_law_leaf" ["_law_cell"] tK) (c__law_head:aO P w K mg base 2 "_law_head" ["_law_cell"] wQ) (c__law_called:aO P w K mg base 1 "_law_called" ["_law_k"] tX):
 bf P w K mg base bp 3 f0 fd ["_law_cells","_law_many"] (xk K):=by
 refine F.ok fK (fun vs H Q E h=>?_) (fun cdv A outer s H vs Q E hr h=>?_)
 ·obtain⟨a,ns,m,rfl,_⟩:=h
  rfl
 obtain⟨a,ns,m,rfl,hS,hlen,hm,q⟩:=h
 have hun:=hr.un
 obtain⟨_,_,_,_,wrow,wend,_,_,_⟩:=Wd.lits
 apply aD;intro T1
 apply aD;intro T2
 apply aD;intro T3
 apply aD;intro T4
 apply aD;intro T5
 apply aD;intro T6
 apply aD;intro T7
 apply aD;intro T8
 apply aD;intro T9
 apply aD;intro T10
 apply aD;intro T11
 apply aD;intro T12
 apply aD;intro T13
 apply aD;intro T14
 apply aD;intro T15
 apply aD;intro T16
 apply aD;intro T17
 apply aD;intro T18
 apply aD;intro T19
 apply aD;intro T20
 apply aD;intro T21
 apply aD;intro T22
 refine⟨_,(al (aB (i:=2) fK.nd rfl (Or.inl rfl) (bR af)) (aC T22 (al (aB (i:=3) fK.nd rfl (Or.inr rfl) (bR af)) (aC T21 (al (dR cx rfl (eC (pv 0)) (cz (i:=4) fK.nd rfl (Or.inl rfl)) (aC T16 (al (aB (i:=7) fK.nd rfl (Or.inl rfl) (a0 c__law_many_parts (hr.mono (by decide)) (ae (pv 4) (ae (ca dk T.b_len cU (ae (pv 2) af)) af)))) (aC T15 (al (aB (i:=8) fK.nd rfl (Or.inl rfl) (a0 c__law_leaf (hr.mono (by decide)) (ae (aY e9 (pv 4) ai) af))) (aC T14 (al (aB (i:=9) fK.nd rfl (Or.inl rfl) (bR (ae (pv 8) (ae (pv 8) (ae (pv 8) af))))) (aC T13 (al (aZ (kr (aU vF (pv 7) ai (aT _)) (kq (aU FA (pv 7) (ca dk T.b_len cU (ae (pv 2) af)) (aT _)))).pt (aC T5 (al (aB (i:=12) fK.nd rfl (Or.inl rfl) (aY nv (ca dk T.b_len cU (ae (pv 2) af)) (pv 7))) (aC T4 (al (aB (i:=9) fK.nd rfl (Or.inl rfl) (bR af)) (aC T3 (al (dR cx rfl (pB rfl T.b_range (ae ai af)) (cz (i:=6) fK.nd rfl (Or.inr rfl)) (aC T2 (al (B0 (i:=13) (Nc:=["_law_one","_law_k"]) (k:=1) (js:=[6]) ⟨rfl,rfl,rfl,rfl,rfl,rfl⟩ fK.nd rfl (Or.inl rfl) (eC (gn gJ (pv 2) (fT (pv 12)) gI)) (fun _ _ _ _=>cz (i:=0) (show (["_law_one","_law_k"]:List aa).Nodup by decide +kernel) rfl (Or.inl rfl)) (fun _ _ _ _=>nH) (fun _ _ _ _=>(ao cI (pv 0) (pv 1) (fun _ _=>rfl)))) (aC T1 (aq (cj (cp bY cX cY cT (pv 9) (ae (bO (ae aS (ae (a0 c__law_head (hr.mono (by decide)) (ae (aY e9 (pv 4) ai) af)) (ae (jm nC T.b_tuple jk (ae (pv 13) af)) af)))) af)))))))) (aq (aB (i:=2) fK.nd rfl (Or.inl rfl) (gn gJ (pv 2) gI (fT (pv 12))))))))))) bg) (aC T12 (al (aZ (aU sy (ao cI (pv 9) ai (fun _ _=>rfl)) (pv 3) (by with_unfolding_all rfl)) (aC T6 (aq (cj (cp bY cX cY cT (pv 3) (ae (ao cI (pv 9) ai (fun _ _=>rfl)) af))))) bg) (aC T11 (al (aB (i:=10) fK.nd rfl (Or.inl rfl) (bO (ae aS (ae (a0 c__law_called (hr.mono (by decide)) (ae (aY dj (cp bY zd ze B4 (pv 3) (ae (ao cI (pv 9) ai (fun _ _=>rfl)) af)) (pv 1)) af)) af)))) (aC T10 (al (aB (i:=11) fK.nd rfl (Or.inl rfl) (aY dj (aY e9 (pv 4) ai) ai)) (aC T9 (al (aZ (eZ (aU cf (pv 11) ai (aT _)) (gk (aU cf (pv 11) ai (aT _)))).pt (aq (zX (pv 10) (zW (pv 9) ai AK))) bg) (aC T8 (al (aZ (eZ (aU cf (pv 11) ai (aT _)) (gk (aU cf (pv 11) ai (aT _)))).pt (aq (zX (pv 10) (zW (pv 9) ai AK))) bg) (aC T7 (aq (cj (cp bY cX cY cT (pv 2) (ae (pv 9) af)))))))))))))))))))))))) (aC T20 (al (aB (i:=5) fK.nd rfl (Or.inl rfl) (bR af)) (aC T19 (al (dR cx rfl (pB rfl T.b_range (ae ai af)) (cz (i:=6) fK.nd rfl (Or.inr rfl)) (aC T17 (aq (cj (cp bY cX cY cT (pv 5) (ae (bO (ae aS (ae aS (ae (jm nC T.b_tuple jk (ae (aY jK (kS (Nc:=["_law_one","_law_k"]) (k:=1) (js:=[6]) ⟨rfl,rfl,rfl,rfl,rfl,rfl⟩ (eC (pv 2)) (fun _ _ _ _=>cz (i:=0) (show (["_law_one","_law_k"]:List aa).Nodup by decide +kernel) rfl (Or.inl rfl)) (fun _ _ _ _=>nH) (fun _ _ _ _=>(ao cI (pv 0) (pv 1) (fun _ _=>rfl)))) (bR (ae (bO (ae aS (ae aS af))) af))) af)) af)))) af)))))) (aC T18 (aq (aM (bO (ae (pv 5) (ae (kS (Nc:=["_law_k","_law_seen"]) (k:=1) (js:=[3]) ⟨rfl,rfl,rfl,rfl,rfl,rfl⟩ (pB rfl T.b_range (ae (ca dk T.b_len cU (ae (pv 3) af)) af)) (fun _ _ _ _=>cz (i:=0) (show (["_law_k","_law_seen"]:List aa).Nodup by decide +kernel) rfl (Or.inl rfl)) (fun _ _ _ _=>nH) (fun _ _ _ _=>(bO (ae (a0 c__law_called (hr.mono (by decide)) (ae (pv 0) af)) (ae (ao cI (pv 1) (pv 0) (fun _ _=>rfl)) af))))) af))))))))))))))),?_⟩
 refine⟨(by show 0<=sizeLine;decide),fun p0 hp0=>?_⟩
 generalize e_:ad H p0 (HO.lst [])=H1
 obtain⟨s1,x1⟩:=aI hp0 e_
 refine⟨(by show 0<=sizeLine;decide),fun sn hsn1=>?_⟩
 have s2:=bG hsn1 (HO.lst [])
 have x2:ad H1 sn (HO.lst []) sn=some _:=au
 have n12:p0≠sn:=aF x1 hsn1
 have hsn:H sn=none:=s1.free hsn1
 generalize ad H1 sn (HO.lst [])=H2 at s2 x2 |-
 refine⟨_,rfl,a,rfl,⟨_,(s1.trans s2).seq hS⟩,let I1:Nat->L2.St->Hp->Prop:=(fun i σ H3=>∃(p:Addr)(us ss:List V)(ds:List cr)(seen:List Tm)(o4 o6 o7 o8 o9 o10 o11 o12 o13:Option V),
  σ=[some (.ref a),some (.int (m:Nat)),some (.ref p),some (.ref sn),o4,none,o6,o7,o8,o9,o10,o11,o12,o13]/\av H H3/\H p=none/\p≠sn/\H3 p=some (.lst us)/\H3 sn=some (.lst ss)/\aN H3 ss seen/\gr H3 us ds/\eT p us/\eT sn us/\
   (∀d∈ds,er m seen d)/\du ds<=i/\seen.length<=i/\(∀t∈seen,t.Ok/\t.nodes<=i)/\i<=ns.length);ij (K:=K) (a:=a) (xs:=ns.map V.int) I1
  ⟨p0,[],[],[],[],none,none,none,none,none,none,none,none,none,rfl,s1.trans s2,hp0,n12,s2 _ _ x1,x2,aN.nil,.nil,(fun _ z=>nomatch z),(fun _ z=>nomatch z),(fun _ z=>nomatch z),aE _,aE _,(fun _ z=>nomatch z),cQ _⟩
  (fun i σ H3 _ ⟨_,_,_,_,_,_,_,_,_,_,_,_,_,_,_,s3,_⟩=>s3.seq hS) ?_ ?_⟩
 ·rintro i y σ H3 hi ⟨p,us,ss,ds,seen,o4,o6,o7,o8,o9,o10,o11,o12,o13,rfl,s3,fp,npn,gp,gs,hss,hpl,ap,as,hds,htn,hsl,hso,hil⟩
  have hil':i<(ns.map V.int).length:=(bI.mp hi).1
  rw[zLM]at hil'
  obtain⟨c,rfl⟩:∃c,y=V.int c:=by
   rw[cW]at hi
   cases e:ns[i]? with
   |none=>rw[e]at hi;cases hi
   |some z=>rw[e]at hi;exact⟨z,(cv hi).symm⟩
  have hpl_len:us.length=ds.length:=Paired.length hpl
  have htl:=wu ds
  refine⟨_,rfl,_,rfl,p,us,rfl,.inl (ak.of gp),c,us.length,rfl,fun k H4 s4 hk=>?_⟩
  have hk0:0<=k:=by omega
  refine⟨_,rfl,_,_,rfl,rfl,⟨by decide,by decide⟩,_,rfl,fun v0 t0 H5 s5 hv0 hok0 hn0 hlf=>?_⟩
  have s35:=s4.trans s5
  refine⟨_,rfl,_,rfl,_,rfl,(by show 3<=sizeLine;decide),fun tr0 htr0=>?_⟩
  have s6:=bG htr0 (HO.lst [v0,v0,v0])
  have x6:ad H5 tr0 (HO.lst [v0,v0,v0]) tr0=some _:=au
  have ft0:H3 tr0=none:=s35.free htr0
  generalize ad H5 tr0 (HO.lst [v0,v0,v0])=H6 at s6 x6 |-
  have s36:=s35.trans s6
  have hv6:ay H6 v0 t0:=hv0.mono (.of s6)
  show cZ.nx _ _ _
  with_reducible show fu _ _ _ _ _
  refine let I2:L2.St->Hp->Prop:=(fun σ H7=>∃(p:Addr)(us:List V)(ds:List cr)(tr:Addr)(x0 x1 x2:V)(d:cr)(o6 o12 o13:Option V),
   σ=[some (.ref a),some (.int (m:Nat)),some (.ref p),some (.ref sn),some (.int c),none,o6,some (.int k),some v0,some (.ref tr),o10,o11,o12,o13]/\gc H m p sn tr us ss ds seen x0 x1 x2 d H7/\H p=none/\p≠sn/\BF.eT p us/\BF.eT sn us/\
   H tr=none/\tr≠p/\tr≠sn/\BF.eT tr us/\(∀d∈ds,er m seen d)/\du ds+d.2.2.nodes<=i+1);fW I2 ?_ (fun key=>?_)
  rotate_left
  ·have gp6:=s36 _ _ gp
   have gs6:=s36 _ _ gs
   have hss6:=hss.mono (.of s36)
   have hpl6:=hpl.same s36
   have plain:∀p_,p_=p->∃(p:Addr)(us:List V)(ds:List cr)(tr:Addr)(x0 x1 x2:V)(d:cr)(o6' o12' o13':Option V),
    [some (.ref a),some (.int (m:Nat)),some (.ref p_),some (.ref sn),some (.int c),none,o6,some (.int k),some v0,some (.ref tr0),o10,o11,o12,o13]=[some (.ref a),some (.int (m:Nat)),some (.ref p),some (.ref sn),some (.int c),none,o6',some (.int k),some v0,some (.ref tr),o10,o11,o12',o13']/\gc H m p sn tr us ss ds seen x0 x1 x2 d H6/\H p=none/\p≠sn/\BF.eT p us/\BF.eT sn us/\
    H tr=none/\tr≠p/\tr≠sn/\BF.eT tr us/\(∀d∈ds,er m seen d)/\du ds+d.2.2.nodes<=i+1:=fun _ e=>e▸
        ⟨p,us,ds,tr0,v0,v0,v0,(t0,t0,t0),o6,o12,o13,rfl,⟨s3.trans s36,gp6,gs6,hss6,hpl6,x6,hv6,hv6,hv6,er.leaf hlf hok0⟩,fp,npn,ap,as,s3.free ft0,(aF gp ft0).symm,(aF gs ft0).symm,hpl.apart ft0,hds,by show du ds+t0.nodes<=i+1;omega⟩
   refine⟨_,rfl,_,_,rfl,rfl,_,rfl,bE (fun c1=>⟨_,rfl,_,rfl,p,us,rfl,.inl (ak.of gp6),_,_,rfl,rfl,_,rfl,bE (fun c2=>?_) (fun c2=>key _ _ (plain _ rfl))⟩) (fun c1=>cg (key _ _ (plain _ rfl)))⟩
   have c1':k>0:=of_decide_eq_true c1
   have c2':k<=us.length:=of_decide_eq_true c2
   have j0:0<=(us.length:Int) - k:=by omega
   have j1:(us.length:Int) - k<=us.length:=by omega
   obtain⟨st,est,hst⟩:∃st:Nat,((us.length:Int) - k).toNat=st/\st<us.length:=⟨_,rfl,by omega⟩
   refine⟨_,rfl,p,us,rfl,.inl (ak.of gp6),_,rfl,_,_,rfl,rfl,?_⟩
   refine⟨(by show 0<=sizeLine;decide),fun tr ftr=>?_⟩
   generalize e_:ad H6 tr (HO.lst [])=H7
   obtain⟨s7,x7⟩:=aI ftr e_
   refine⟨3,rfl,by decide,by decide,let I3:Nat->L2.St->Hp->Prop:=(fun j σ H8=>∃(vs:List V)(wh:aa)(o6 o13:Option V),σ=[some (.ref a),some (.int (m:Nat)),some (.ref p),some (.ref sn),some (.int c),none,o6,some (.int k),some v0,some (.ref tr),o10,o11,some (.int ((us.length:Int) - k)),o13]/\av H6 H8/\H8 tr=some (.lst vs)/\Wd wh/\(j=0\/HW (c / 6) wh)/\aN H8 vs ((jA j).map fun n=>db n (fH wh (ds.drop st))));rU (lo:=0) (n:=3) I3
        ⟨[],"row",o6,o13,rfl,s7,x7,wrow,.inl rfl,aN.nil⟩ ?_ ?_⟩
   ·rintro j σ H8 hj ⟨vs,wh,o6',o13',rfl,s8,g8,hwh,hwj,hvs⟩
    have e0:(0:Int)+(j:Int)=((j:Nat):Int):=by omega
    rw[e0]
    refine⟨_,rfl,_,rfl,_,rfl,p,us,rfl,ak.of (s8 _ _ gp6),fun l fl=>?_⟩
    rw[qi us _ j0 j1,est]
    generalize e_:ad H8 l (HO.lst (us.drop st))=H9
    obtain⟨s9,x9⟩:=aI fl e_
    refine⟨l,rfl,⟨_,ak.of x9⟩,fun D hD _ _ _ _=>let I4:Nat->L2.St->Hp->Prop:=(fun n σ HA=>∃(o:Option V)(qs:List V),σ=[o,some (.int (j:Nat))]/\av H9 HA/\HA D=some (.lst qs)/\aN HA qs (((ds.drop st).take n).map (db j))/\qs.length<=n);pS (K:=K) (a:=l) (xs:=us.drop st) I4
     ⟨none,[],rfl,bG hD _,au,aN.nil,aE _⟩ (fun n σ HA _ ⟨_,_,_,sA,_⟩=>sA.seq (ak.of x9)) ?_ ?_⟩
    ·rintro n x σ HA hx ⟨o,qs,rfl,sA,gA,hqs,hql⟩
     have hnl:=(bI.mp hx).1
     rw[dh]at hnl
     obtain⟨d,hd,htri⟩:=sO (Cu st ((hpl6.same s8).same s9)) n x hx
     obtain⟨ta,xs,v,rfl,hta,hat,hv⟩:=Cv (htri.same sA) j hj
     refine⟨_,rfl,_,rfl,ta,xs,_,v,rfl,rfl,ak.of hta,hat,qs,gA,big (by omega),_,qs++[v],rfl,fun b ob z=>by rw[am (aF z hD)];exact sA _ _ z,au,?_,by rw[zLA];simp only[zLC,zLN];omega⟩
     rw[uX,hd,zC,zMA]
     exact aN.mono (.lst gA) (hqs.app (.cons hv .nil))
    rintro σc HA ⟨o,qs,rfl,sA,gA,hqs,hql⟩
    rw[dD (by rw[dh,dh];omega)]at hqs
    have s8A:=s9.trans sA
    refine⟨_,rfl,.inl ⟨rfl,_,ak.of (s8A _ _ g8)⟩,_,rfl,_,_,rfl,rfl,⟨by decide,by decide⟩,_,rfl,fun x HB sB hx hw=>?_⟩
    refine⟨_,rfl,D,_,rfl,.inl ⟨ak.of (sB _ _ gA),fun b fb=>?_⟩⟩
    generalize e_:ad HB b (HO.tup qs)=HC
    obtain⟨sC,xC⟩:=aI fb e_
    refine⟨(by show 3<=sizeLine;decide),fun g fg=>?_⟩
    generalize e_:ad HC g (HO.tup [.str "thing",.str x,.ref b])=HD
    obtain⟨sD,xD⟩:=aI fg e_
    have sAD:=sB.trans (sC.trans sD)
    have s8D:=s8A.trans sAD
    have hvl:=hvs.len
    rw[zLM,yG]at hvl
    refine⟨tr,_,_,rfl,rfl,s8D _ _ g8,big (by omega),?_⟩
    have kE:aR HD (ad HD tr (HO.lst (vs++[.ref g]))):= .lst (s8D _ _ g8)
    have ew:((jA j).map fun n=>db n (fH wh (ds.drop st)))=((jA j).map fun n=>db n (fH x (ds.drop st))):=by
     rcases hwj with rfl|z
     ·rfl
     ·rw[z.det hw]
    refine⟨vs++[.ref g],x,_,_,rfl,fun b' ob z=>by rw[am (aF z ftr)];exact s8D _ _ (s8 _ _ z),au,hx,.inr hw,?_⟩
    rw[yH,zMA,<-ew]
    refine aN.mono kE ((hvs.mono (.of s8D)).app (.cons ?_ .nil))
    show ay HD (.ref g) (db j (fH x (ds.drop st)))
    rw[Ct]
    exact dF.mpr ⟨g,b,qs,rfl,xD,sD _ _ xC,hqs.mono (.of sAD)⟩
   rintro σ H8 ⟨vs,wh,o6',o13',rfl,s8,g8,hwh,hwj,hvs⟩
   simp only[show jA 3=[0,1,2]from rfl,bM,i0,aN,dE,bU]at hvs
   obtain⟨y0,_,rfl,h0,y1,_,rfl,h1,y2,_,rfl,h2,rfl⟩:=hvs
   refine⟨_,rfl,_,rfl,_,rfl,p,us,rfl,ak.of (s8 _ _ gp6),fun p' fp'=>?_⟩
   rw[tL us _ j0 j1,est]
   generalize e_:ad H8 p' (HO.lst (us.take st))=H9
   obtain⟨s9,x9⟩:=aI fp' e_
   have s69:=s8.trans s9
   have hth:=er.th (m:=m) (seen:=seen) (w:=wh) (a:=ds.drop st) hwh (by intro z;have:=congrArg iG z;rw[dh]at this;simp only[zLN]at this;omega) (fun d hd=>hds d (uY hd))
   have hsp:=IS ds st
   have f6:H p'=none:=(s3.trans (s36.trans s8)).free fp'
   exact key _ _ ⟨p',us.take st,ds.take st,tr,y0,y1,y2,fH wh (ds.drop st),_,_,_,rfl,⟨s3.trans (s36.trans s69),x9,s69 _ _ gs6,hss6.mono (.of s69),ww st (hpl6.same s69),s9 _ _ g8,ay.mono (.of s9) h0,ay.mono (.of s9) h1,ay.mono (.of s9) h2,hth.1⟩,
        f6,(aF (s8 _ _ gs6) fp').symm,gr.apart fp' (ww st (hpl6.same s8)),as.sub fun x hx=>pf hx,(s3.trans s36).free ftr,aF g8 fp',(aF gs6 ftr).symm,(hpl6.apart ftr).sub fun x hx=>pf hx,fun d hd=>hds d (pf hd),by rw[hth.2];omega⟩
  rintro σ H7 ⟨p,us,ds,tr,x0,x1,x2,d,o6,o12,o13,rfl,M,fp,npn,ap,as,ftr,ntp,nts,atr,hds,htn⟩
  have hd22:=M.hd.2.2.2.2.1
  with_reducible show fu _ _ _ _ _
  refine let I5:L2.St->Hp->Prop:=(fun σ H8=>∃(ss':List V)(seen':List Tm),σ=[some (.ref a),some (.int (m:Nat)),some (.ref p),some (.ref sn),some (.int c),none,o6,some (.int k),some v0,some (.ref tr),o10,o11,o12,o13]/\gc H m p sn tr us ss' ds seen' x0 x1 x2 d H8/\(∀d∈ds,er m seen' d)/\
   d.2.2∈seen'/\seen'.length<=i+1/\(∀t∈seen',t.Ok/\t.nodes<=i+1));fW I5 ?_ (fun key=>?_)
  rotate_left
  ·refine⟨_,rfl,tr,_,_,_,rfl,rfl,ak.of M.gtr,rfl,_,rfl,d.2.2.dt,sn,ss,dE seen,M.h2,rfl,M.gs,M.hss,?_,fun b hb=>⟨_,rfl,bE (fun c3=>?_) (fun c3=>?_)⟩⟩
   ·intro e he
    rw[fz]at he
    obtain⟨t,ht,rfl⟩:=bK.mp he
    have h1:=t.dep_le
    have h2:=(hso t ht).2
    show (A.deeper _).units+1+_<cLine
    omega
   ·refine⟨_,rfl,.inl ⟨rfl,_,ak.of M.gs⟩,_,rfl,tr,_,_,_,rfl,rfl,ak.of M.gtr,rfl,sn,ss,x2,rfl,rfl,M.gs,big (by have:=M.hss.len;omega),?_⟩
    have k8:aR H7 (ad H7 sn (HO.lst (ss++[x2]))):= .lst M.gs
    refine key _ _ ⟨ss++[x2],seen++[d.2.2],rfl,⟨fun b ob z=>by rw[am (aF z hsn)];exact M.sm _ _ z,by rw[am npn];exact M.gp,au,aN.mono k8 (M.hss.app (.cons M.h2 .nil)),M.hpl.lst M.gs as,by rw[am nts];exact M.gtr,M.h0.mono k8,M.h1.mono k8,M.h2.mono k8,M.hd.app⟩,
     fun d' hd'=>(hds d' hd').app,by simp,by rw[zLA];simp only[zLC,zLN];omega,fun t ht=>?_⟩
    rcases br.mp ht with z|z
    ·have:=hso t z
     exact⟨this.1,by omega⟩
    ·cases bx.mp z
     exact⟨hd22,by omega⟩
   ·have hin:d.2.2∈seen:=by
     have:d.2.2.dt∈dE seen:=ic fun z=>c3 (hb.mpr z)
     rw[fz]at this
     obtain⟨t,ht,e⟩:=bK.mp this
     rw[<-Tm.dt_inj _ _ e]
     exact ht
    exact key _ _ ⟨ss,seen,rfl,M,hds,hin,by omega,fun t ht=>⟨(hso t ht).1,by have:=(hso t ht).2;omega⟩⟩
  rintro σ H8 ⟨ss',seen',rfl,M',hds',hin,hsl',hso'⟩
  obtain⟨j,hj,ej,hjm⟩:=Cw (x:=d.2.2.dt) (l:=dE seen') (by rw[fz];exact bK.mpr ⟨_,hin,rfl⟩)
  have hj':seen'[j]?=some d.2.2:=by
   have e1:(dE seen')[j]?=some d.2.2.dt:=by rw[zGE hj,ej]
   rw[fz,cW]at e1
   cases e2:seen'[j]? with
   |none=>rw[e2]at e1;cases e1
   |some t=>
    rw[e2]at e1
    rw[Tm.dt_inj _ _ (cv e1)]
  refine⟨_,rfl,.inl ⟨rfl,_,ak.of M'.gs⟩,_,rfl,tr,_,_,_,rfl,rfl,ak.of M'.gtr,rfl,sn,x2,ss',dE seen',_,j,rfl,rfl,M'.gs,M'.hss,M'.h2,?_,⟨hj,ej,hjm⟩,_,rfl,_,_,rfl,rfl,(show (0:Int)<(m:Int)by omega),j % m,rfl,fun xw hxw=>?_⟩
  ·intro e he
   rw[fz]at he
   obtain⟨t,ht,rfl⟩:=bK.mp he
   have h1:=t.dep_le
   have h2:=(hso' t ht).2
   show (A.deeper _).units+2+_<cLine
   omega
  refine⟨(by show 2<=sizeLine;decide),fun gb fb=>?_⟩
  generalize e_:ad H8 gb (HO.tup [.str "blank",.str xw])=H9
  obtain⟨s9,x9⟩:=aI fb e_
  have M9:=M'.same s9
  have hgb:ay H9 (.ref gb) (.blank xw):=dN.mpr ⟨gb,rfl,x9⟩
  have hhid:cm m seen' d.2.2 (.blank xw):= .inn ⟨xw,j,rfl,hxw,hj'⟩
  have hbo:(Tm.blank xw).Ok:=by simp only[Tm.Ok];exact Cp hxw
  have hbn:(Tm.blank xw).nodes<=d.2.2.nodes:=d.2.2.nodes_pos
  refine⟨_,rfl,_,_,rfl,rfl,⟨by decide,by decide⟩,_,_,rfl,rfl,(show (0:Int)<_ by decide),?_⟩
  show cZ.nx _ _ _
  with_reducible show fu _ _ _ _ _
  refine let I6:L2.St->Hp->Prop:=(fun σ HA=>∃(y0:V)(t0:Tm),σ=[some (.ref a),some (.int (m:Nat)),some (.ref p),some (.ref sn),some (.int c),none,o6,some (.int k),some v0,some (.ref tr),some (.ref gb),some (.int (c / 7 % 6)),o12,o13]/\gc H m p sn tr us ss' ds seen' y0 x1 x2 (t0,d.2) HA/\ay HA (.ref gb) (.blank xw));fW I6 ?_ (fun key=>?_)
  rotate_left
  ·have put:=key _ _ ⟨.ref gb,.blank xw,rfl,M9.put0 ftr ntp nts atr hgb hhid hbo hbn,hgb.mono (.lst M9.gtr)⟩
   refine⟨_,rfl,rfl,_,rfl,bE (fun _=>jg ?_) (fun _=>⟨_,rfl,rfl,_,rfl,bE (fun _=>?_) (fun _=>key _ _ ⟨x0,d.1,rfl,M9,hgb⟩)⟩)⟩
   ·exact⟨_,rfl,_,rfl,tr,_,_,0,rfl,rfl,M9.gtr,rfl,put⟩
   ·exact⟨_,rfl,_,rfl,tr,_,_,0,rfl,rfl,M9.gtr,rfl,put⟩
  rintro σ HA ⟨y0,t0',rfl,MA,hgbA⟩
  with_reducible show fu _ _ _ _ _
  refine let I7:L2.St->Hp->Prop:=(fun σ HB=>∃(y1:V)(t1:Tm),σ=[some (.ref a),some (.int (m:Nat)),some (.ref p),some (.ref sn),some (.int c),none,o6,some (.int k),some v0,some (.ref tr),some (.ref gb),some (.int (c / 7 % 6)),o12,o13]/\gc H m p sn tr us ss' ds seen' y0 y1 x2 (t0',t1,d.2.2) HB);fW I7 ?_ (fun key=>?_)
  rotate_left
  ·have put:=key _ _ ⟨.ref gb,.blank xw,rfl,gc.put1 (d:=(t0',d.2)) ftr ntp nts atr hgbA hhid hbo hbn MA⟩
   refine⟨_,rfl,rfl,_,rfl,bE (fun _=>jg ?_) (fun _=>⟨_,rfl,rfl,_,rfl,bE (fun _=>?_) (fun _=>key _ _ ⟨x1,d.2.1,rfl,MA⟩)⟩)⟩
   ·exact⟨_,rfl,_,rfl,tr,_,_,1,rfl,rfl,MA.gtr,rfl,put⟩
   ·exact⟨_,rfl,_,rfl,tr,_,_,1,rfl,rfl,MA.gtr,rfl,put⟩
  rintro σ HB ⟨y1,t1,rfl,MB⟩
  have hul:=Paired.length MB.hpl
  have htl:=wu ds
  refine⟨_,rfl,.inl ⟨rfl,_,ak.of MB.gp⟩,_,rfl,p,_,_,rfl,rfl,MB.gp,big (by omega),?_⟩
  have kC:aR HB (ad HB p (HO.lst (us++[.ref tr]))):= .lst MB.gp
  refine⟨p,us++[.ref tr],ss',ds++[(t0',t1,d.2.2)],seen',_,_,_,_,_,_,_,_,_,rfl,fun b ob z=>by rw[am (aF z fp)];exact MB.sm _ _ z,fp,npn,au,by rw[am npn.symm];exact MB.gs,MB.hss.mono kC,
   ld (gr.lst MB.gp ap MB.hpl) ⟨tr,_,_,_,rfl,by rw[am ntp];exact MB.gtr,MB.h0.mono kC,MB.h1.mono kC,MB.h2.mono kC⟩,ap.snoc ntp,as.snoc nts,fun d' hd'=>?_,?_,hsl',hso',by omega⟩
  ·rcases br.mp hd' with z|z
   ·exact hds' d' z
   ·cases bx.mp z
    exact MB.hd
  ·rw[wr]
   simp only[du]
   omega
 rintro σ H3 ⟨p,us,ss,ds,seen,o4,o6,o7,o8,o9,o10,o11,o12,o13,rfl,s3,fp,npn,gp,gs,hss,hpl,ap,as,hds,htn,hsl,hso,hil⟩
 rw[zLM]at htn hsl hso
 have hul:=Paired.length hpl
 have htl:=wu ds
 have hsslen:=hss.len
 refine⟨(by show 0<=sizeLine;decide),fun lf flf=>?_⟩
 generalize e_:ad H3 lf (HO.lst [])=H4
 obtain⟨s4,x4⟩:=aI flf e_
 refine⟨3,rfl,by decide,by decide,let I8:Nat->L2.St->Hp->Prop:=(fun j σ H5=>∃(vs:List V)(o6:Option V),σ=[some (.ref a),some (.int (m:Nat)),some (.ref p),some (.ref sn),o4,some (.ref lf),o6,o7,o8,o9,o10,o11,o12,o13]/\av H3 H5/\H5 lf=some (.lst vs)/\aN H5 vs ((jA j).map fun n=>db n (fH "row" (ds++[(.name "end",.name "end",.name "end")]))));rU (lo:=0) (n:=3) I8
  ⟨[],o6,rfl,s4,x4,aN.nil⟩ ?_ ?_⟩
 ·rintro j σ H5 hj ⟨vs,o6',rfl,s5,g5,hvs⟩
  have e0:(0:Int)+(j:Int)=((j:Nat):Int):=by omega
  rw[e0]
  have hvl:=hvs.len
  rw[zLM,yG]at hvl
  refine⟨_,rfl,.inl ⟨rfl,_,ak.of g5⟩,_,rfl,p,rfl,⟨_,ak.of (s5 _ _ gp)⟩,fun D hD _ _ _ _=>let I9:Nat->L2.St->Hp->Prop:=(fun n σ HA=>∃(o:Option V)(qs:List V),σ=[o,some (.int (j:Nat))]/\av H5 HA/\HA D=some (.lst qs)/\aN HA qs ((ds.take n).map (db j))/\qs.length<=n);pS (K:=K) (a:=p) (xs:=us) I9
   ⟨none,[],rfl,bG hD _,au,aN.nil,aE _⟩ (fun n σ HA _ ⟨_,_,_,sA,_⟩=>sA.seq (ak.of (s5 _ _ gp))) ?_ ?_⟩
  ·rintro n x σ HA hx ⟨o,qs,rfl,sA,gA,hqs,hql⟩
   have hnl:=(bI.mp hx).1
   obtain⟨d,hd,htri⟩:=sO (hpl.same s5) n x hx
   obtain⟨ta,xs,v,rfl,hta,hat,hv⟩:=Cv (htri.same sA) j hj
   refine⟨_,rfl,_,rfl,ta,xs,_,v,rfl,rfl,ak.of hta,hat,qs,gA,big (by omega),_,qs++[v],rfl,fun b ob z=>by rw[am (aF z hD)];exact sA _ _ z,au,?_,by rw[zLA];simp only[zLC,zLN];omega⟩
   rw[uX,hd,zC,zMA]
   exact aN.mono (.lst gA) (hqs.app (.cons hv .nil))
  rintro σc HA ⟨o,qs,rfl,sA,gA,hqs,hql⟩
  rw[dD (by omega)]at hqs
  refine⟨(by show 2<=sizeLine;decide),fun ge fe=>?_⟩
  generalize e_:ad HA ge (HO.tup [.str "name",.str "end"])=HB
  obtain⟨sB,xB⟩:=aI fe e_
  refine⟨(by show 1<=sizeLine;decide),fun le fl=>?_⟩
  generalize e_:ad HB le (HO.lst [.ref ge])=HC
  obtain⟨sC,xC⟩:=aI fl e_
  have sAC:=sB.trans sC
  refine⟨D,le,_,_,rfl,rfl,sAC _ _ gA,xC,d9 (by simp only[zLC,zLN];omega),fun l4 f4=>?_⟩
  generalize e_:ad HC l4 (HO.lst (qs++[.ref ge]))=HD
  obtain⟨sD,xD⟩:=aI f4 e_
  refine⟨l4,_,rfl,.inl ⟨ak.of xD,fun b fb=>?_⟩⟩
  generalize e_:ad HD b (HO.tup (qs++[.ref ge]))=HE
  obtain⟨sE,xE⟩:=aI fb e_
  refine⟨(by show 3<=sizeLine;decide),fun g fg=>?_⟩
  generalize e_:ad HE g (HO.tup [.str "thing",.str "row",.ref b])=HF
  obtain⟨sF,xF⟩:=aI fg e_
  have sBF:=sC.trans (sD.trans (sE.trans sF))
  have sAF:=sB.trans sBF
  have s5F:=sA.trans sAF
  refine⟨lf,_,_,rfl,rfl,s5F _ _ g5,big (by omega),?_⟩
  have kG:aR HF (ad HF lf (HO.lst (vs++[.ref g]))):= .lst (s5F _ _ g5)
  refine⟨vs++[.ref g],_,rfl,fun b' ob z=>by rw[am (aF z flf)];exact s5F _ _ (s5 _ _ z),au,?_⟩
  rw[yH,zMA]
  refine aN.mono kG ((hvs.mono (.of s5F)).app (.cons ?_ .nil))
  show ay HF (.ref g) (db j (fH "row" (ds++[(.name "end",.name "end",.name "end")])))
  rw[Ct]
  refine dF.mpr ⟨g,b,_,rfl,xF,sF _ _ xE,?_⟩
  rw[zMA]
  refine(hqs.mono (.of sAF)).app (.cons ?_ .nil)
  have e1:db j (Tm.name "end",Tm.name "end",Tm.name "end")=Tm.name "end":=by
   match j with
   |0=>rfl
   |1=>rfl
   |_+2=>rfl
  rw[e1]
  exact eP.mpr ⟨ge,rfl,sBF _ _ xB⟩
 rintro σ H5 ⟨vs,o6',rfl,s5,g5,hvs⟩
 simp only[show jA 3=[0,1,2]from rfl,bM,i0,aN,dE,bU]at hvs
 obtain⟨y0,_,rfl,h0,y1,_,rfl,h1,y2,_,rfl,h2,rfl⟩:=hvs
 have gs5:=s5 _ _ gs
 refine⟨_,rfl,_,rfl,sn,_,rfl,.inl (ak.of gs5),_,rfl,by omega,by omega,fun lp flp _ _ _ _=>let I10:Nat->L2.St->Hp->Prop:=(fun n σ H6=>∃(o:Option V)(pv:List V)(f:Fl),σ=[o,some (.ref sn)]/\av H5 H6/\H6 lp=some (.lst pv)/\dQ H6 pv f/\f.map (·.2)=seen.take n/\(∀i p,f[i]?=some p->p.1.cps.toList=eg i)/\pv.length=n);Ih (lo:=0) (n:=(((ss.length:Nat):Int)).toNat) I10
  ⟨none,[],[],rfl,bG flp _,au,.nil,rfl,fun i p z=>by simp at z,rfl⟩ ?_ ?_⟩
 ·rintro n σ H6 hn ⟨o,pv,f,rfl,s6,g6,hf,hfs,hfw,hpv⟩
  rw[lJ]at hn
  have e0:(0:Int)+(n:Int)=((n:Nat):Int):=by omega
  rw[e0]
  have hat:dU ss ((n:Nat):Int)=some ss[n]:=eO (zGE hn)
  refine⟨_,rfl,n,rfl,fun xw hxw=>⟨_,rfl,_,rfl,sn,ss,_,_,rfl,rfl,ak.of (s6 _ _ gs5),hat,(by show 2<=sizeLine;decide),fun g fg=>?_⟩⟩
  generalize e_:ad H6 g (HO.tup [.str xw,ss[n]])=H7
  obtain⟨s7,x7⟩:=aI fg e_
  have g7:=s7 _ _ g6
  have hfl:=hf.len
  have k8:aR H7 (ad H7 lp (HO.lst (pv++[.ref g]))):= .lst g7
  refine⟨pv,g7,big (by omega),_,pv++[.ref g],f++[(xw,seen[n]'(by omega))],rfl,fun b ob z=>by rw[am (aF z flp)];exact s7 _ _ (s6 _ _ z),au,?_,?_,fun i q' hq=>?_,by simp[hpv]⟩
  ·exact dQ.mono k8 (ld (hf.mono (.of s7)) ⟨g,_,rfl,x7,(hss.at n hn (by omega)).mono (.of (s5.trans (s6.trans s7)))⟩)
  ·rw[zMA,hfs,uX,zGE (by omega)]
   rfl
  ·by_cases c:i<f.length
   ·rw[kh c]at hq
    exact hfw i q' hq
   ·have hi:i=f.length:=by
     have:=(bI.mp hq).1
     rw[zLA]at this
     simp only[zLC,zLN]at this
     omega
    subst hi
    rw[mX (aE _),Nat.sub_self]at hq
    cases hq
    rw[<-hfl,hpv]
    exact hxw
 rintro σc H6 ⟨o,pv,f,rfl,s6,g6,hf,hfs,hfw,hpv⟩
 rw[lJ,dD (by omega)]at hfs
 have hend:er m seen ((.name "end",.name "end",.name "end"):cr):=er.leaf (by trivial) (by simp only[Tm.Ok];exact wend)
 have hth:=er.th (m:=m) (seen:=seen) (w:="row") (a:=ds++[(.name "end",.name "end",.name "end")]) wrow (by simp) (fun d hd=>by
  rcases br.mp hd with z|z
  ·exact hds d z
  ·cases bx.mp z
   exact hend)
 refine⟨(by show 2<=sizeLine;decide),fun r fr=>?_⟩
 have s7:=bG fr (HO.tup [.ref lf,.ref lp])
 have s57:=s6.trans s7
 refine q r lf lp y0 y1 y2 _ seen pv f _ (s3.trans (s5.trans s57)) au (s57 _ _ g5) (ay.mono (.of s57) h0) (ay.mono (.of s57) h1) (ay.mono (.of s57) h2) hth.1 ?_ (s7 _ _ g6) (hf.mono (.of s7)) hfs hfw hsl hso
 rw[hth.2,wr]
 simp only[du,Tm.nodes]
 omega
end
end K09
namespace BF
open PySem Classical
noncomputable def gZ(σ:aa->Tm)(m:Nat):List Tm->Nat
 |[]=>0
 |t::r=>(if cb t=true/\(t.sub σ).nodes<=m then 1 else 0)+gZ σ m r
theorem DQ{σ:aa->Tm}{m n:Nat}(h:m<=n):∀U:List Tm,gZ σ m U<=gZ σ n U
 |[]=>aE _
 |t::r=>by
  have ih:=DQ (σ:=σ) h r
  simp only[gZ]
  by_cases c:cb t=true/\(t.sub σ).nodes<=m
  ·rw[if_pos c,if_pos ⟨c.1,cO c.2 h⟩];omega
  ·rw[if_neg c];omega
theorem DR{σ:aa->Tm}{m:Nat}{t:Tm}(hT:cb t=true)(h:m<(t.sub σ).nodes):∀{U:List Tm},t∈U->gZ σ m U+1<=gZ σ (t.sub σ).nodes U
 |[],hU=>by cases hU
 |a::r,hU=>by
  simp only[gZ]
  rcases bo.mp hU with z|z
  ·subst z
   have:=DQ (σ:=σ) (mT h) r
   rw[if_neg (by omega),if_pos ⟨hT,aE _⟩]
   omega
  ·have ih:=DR hT h z
   by_cases c:cb a=true/\(a.sub σ).nodes<=m
   ·rw[if_pos c,if_pos ⟨c.1,by omega⟩];omega
   ·rw[if_neg c];omega
theorem DT{σ:aa->Tm}{m:Nat}:∀U:List Tm,gZ σ m U<=U.length
 |[]=>aE _
 |t::r=>by
  have ih:=DT (σ:=σ) (m:=m) r
  simp only[gZ,zLC]
  split<;>omega
structure oQ(σ:aa->Tm)(U:List Tm):Prop where
 part:∀w ps,Tm.thing w ps∈U->∀p∈ps,p∈U
 blank:∀x,Tm.blank x∈U->(σ x).nodes=1\/∃e∈U,cb e=true/\σ x=e.sub σ
theorem oQ.deepT{σ:aa->Tm}{U:List Tm}(h:oQ σ U):∀(n:Nat)(t:Tm),t∈U->cb t=true->(t.sub σ).nodes<=n->(t.sub σ).dp<=1+gZ σ (t.sub σ).nodes U:=by
 intro n
 induction n with
 |zero=>intro t _ _ hn;have:=(t.sub σ).nodes_pos;omega
 |succ n ih=>
  intro t ht hT hn
  cases t with
  |num _=>cases hT
  |name _=>cases hT
  |blank _=>cases hT
  |thing w ps=>
   have key:∀p∈ps,(p.sub σ).dp<=gZ σ ((Tm.thing w ps).sub σ).nodes U:=fun p hp=>by
        have hlt:(p.sub σ).nodes<((Tm.thing w ps).sub σ).nodes:=nL hp
        have hpU:=h.part w ps ht p hp
        have hc:=DR (σ:=σ) (m:=(p.sub σ).nodes) hT hlt ht
        have one:(p.sub σ).nodes=1->(p.sub σ).dp<=gZ σ ((Tm.thing w ps).sub σ).nodes U:=fun e=>by
         have:=Ci (p.sub σ)
         omega
        cases p with
        |num _=>exact one rfl
        |name _=>exact one rfl
        |thing v qs=>
         have:=ih _ hpU rfl (by omega)
         omega
        |blank x=>
         rcases h.blank x hpU with e|⟨e,he,hTe,ee⟩
         ·exact one e
         ·have es:(Tm.blank x).sub σ=e.sub σ:=ee
          rw[es]at hlt hc |-
          have:=ih e he hTe (by omega)
          omega
   have hd:((Tm.thing w ps).sub σ).dp=1+iO (ps.map (Tm.sub σ)):=by simp only[Tm.sub,gu,Tm.dp]
   have:=wj (n:=gZ σ ((Tm.thing w ps).sub σ).nodes U) (l:=ps.map (Tm.sub σ)) fun q hq=>by
        obtain⟨p,hp,rfl⟩:=bK.mp hq
        exact key p hp
   omega
theorem oQ.deep{σ:aa->Tm}{U:List Tm}(h:oQ σ U){t:Tm}(ht:t∈U):(t.sub σ).dp<=1+U.length:=by
 have one:(t.sub σ).nodes=1->(t.sub σ).dp<=1+U.length:=fun e=>by have:=Ci (t.sub σ);omega
 have thing:∀e∈U,cb e=true->(e.sub σ).dp<=1+U.length:=fun e he hT=>by
  have h1:=h.deepT _ e he hT (aE _)
  have h2:=DT (σ:=σ) (m:=(e.sub σ).nodes) U
  omega
 cases t with
 |num _=>exact one rfl
 |name _=>exact one rfl
 |thing v qs=>exact thing _ ht rfl
 |blank x=>
  rcases h.blank x ht with e|⟨e,he,hTe,ee⟩
  ·exact one e
  ·have es:(Tm.blank x).sub σ=e.sub σ:=ee
   rw[es]
   exact thing e he hTe
theorem xl{g:Ln}{x:aa}:Tm.blank x∈bH g↔x∈g.1.bl\/x∈g.2.bl:=by
 unfold bH
 rw[br,<-mY,wn,<-mY (as:=g.2.rp),wn]
theorem KI{g:Ln}{t:Tm}{x:aa}(ht:t∈bH g)(hx:x∈t.bl):x∈g.1.bl\/x∈g.2.bl:=by
 rw[<-xl]
 have hb:Tm.blank x∈t.rp:=by rw[<-mY];exact wn.mpr hx
 unfold bH at ht |-
 rcases br.mp ht with z|z
 ·exact eu _ (sV _ z _ hb)
 ·exact d6 _ (sV _ z _ hb)
def dI(ks:List aa)(E:aa->Tm):Fl:=ks.map fun x=>(x,E x)
theorem KJ(ks:List aa)(E:aa->Tm):(dI ks E).map (·.1)=ks:=by simp[dI,kj,zF]
theorem jY(ks:List aa)(E:aa->Tm)(x:aa):look (dI ks E) x=if x∈ks then some (E x)else none:=by
 induction ks with
 |nil=>rfl
 |cons a r ih=>
  have e:dI (a::r) E=(a,E a)::dI r E:=rfl
  have e2:look ((a,E a)::dI r E) x=if a=x then some (E a)else look (dI r E) x:=by
   by_cases c:a=x
   ·simp[look,c]
   ·simp[look,c]
  rw[e,e2,ih]
  by_cases c:a=x
  ·subst c;simp
  ·have c':¬x=a:=fun z=>c z.symm
   rw[if_neg c]
   simp[c']
structure jZ(g:Ln)(nx:Nx)(ks:List aa)(E:aa->Tm):Prop where
 nd:ks.Nodup
 dom:∀x,x∈ks↔(x∈g.1.bl\/x∈g.2.bl)/\nx (.blank x)≠none
 way:∀x∈ks,∃k,aX nx k (.blank x) (E x)
 inU:∀x∈ks,E x∈bH g
 key:∀x,nx (.blank x)≠none->x∈g.1.bl\/x∈g.2.bl
theorem jZ.none'{g:Ln}{nx:Nx}{ks:List aa}{E:aa->Tm}(h:jZ g nx ks E){x:aa}:x∉ks↔nx (.blank x)=none:=by
 constructor
 ·intro hx
  cases z:nx (.blank x)with
  |none=>rfl
  |some u=>exact absurd ((h.dom x).mpr ⟨h.key x (by rw[z];simp),by rw[z];simp⟩) hx
 ·intro z hx
  exact((h.dom x).mp hx).2 z
theorem jZ.sol{g:Ln}{nx:Nx}{ks:List aa}{E:aa->Tm}(h:jZ g nx ks E){f:Fl}(hs:dZ (dI ks E) f)(hall:∀x∈ks,x∈f.map (·.1)):∀x k e,aX nx k (.blank x) e->bh f x=e.sub (bh f):=fun x k e r=>by
 by_cases c:x∈ks
 ·obtain⟨k',r'⟩:=h.way x c
  rw[(r.det r').2]
  exact hs.eqn (by rw[jY,if_pos c]) (hall x c)
 ·rw[(r.of_root (h.none'.mp c)).2]
  rfl
theorem xm{ks:List aa}{E:aa->Tm}{f:Fl}(hs:dZ (dI ks E) f){x:aa}(c:x∉ks):bh f x= .blank x:=by
 have:=hs.out (w:=x) (by rw[jY,if_neg c])
 simp[bh,this]
theorem jZ.cov{g:Ln}{nx:Nx}{ks:List aa}{E:aa->Tm}(h:jZ g nx ks E){f:Fl}(hs:dZ (dI ks E) f)(hall:∀x∈ks,x∈f.map (·.1)):oQ (bh f) (bH g) where
 part:=fun w ps h p hp=>wI h hp
 blank:=fun x hx=>by
  by_cases c:x∈ks
  ·obtain⟨k,r⟩:=h.way x c
   have e:=h.sol hs hall x k _ r
   cases z:E x with
   |num n=>rw[z]at e;exact .inl (by rw[e];rfl)
   |name n=>rw[z]at e;exact .inl (by rw[e];rfl)
   |thing v qs=>exact .inr ⟨E x,h.inU x c,by rw[z];rfl,e⟩
   |blank y=>
    rw[z]at e r
    have hy:y∉ks:=h.none'.mpr r.end'
    refine .inl ?_
    rw[e]
    show (bh f y).nodes=1
    rw[xm hs hy]
    rfl
  ·exact .inl (by rw[xm hs c];rfl)
structure d3(g:Ln)(f:Fl)(fs:List Lf)(ns:List Nat):Prop where
 rise:f.Pairwise fun p q=>p.1.cps.toList<q.1.cps.toList
 own:∀p∈f,p.2≠ .blank p.1
 keys:∀p∈f,p.1∈g.1.bl\/p.1∈g.2.bl
 clean:∀p∈f,∀x∈p.2.bl,(x∈g.1.bl\/x∈g.2.bl)/\x∉f.map (·.1)
 same:g.1.fill f=g.2.fill f
 best:∀φ,dy φ g->∀x,(bh f x).sub φ=φ x
 nums:ns.length=f.length/\∀i (h:i<f.length)(h':i<ns.length),∃z,fs[ns[i]]?=some z/\z.1.1= .blank f[i].1/\z.1.2.fill f=f[i].2
 cov:oQ (bh f) (bH g)
 val:∀p∈f,∃e∈bH g,p.2=e.sub (bh f)/\∀y,e= .blank y->bh f y= .blank y
theorem KK{f:Fl}{ss:List aa}(hp:ss.Perm (f.map (·.1))):bh (cH f ss)=bh f:=by
 funext x
 unfold bh
 by_cases c:x∈ss
 ·exact wg c
 ·rw[IA c,kW fun z=>c (hp.mem_iff.mpr z)]
theorem KL{g:Ln}{fs:List Lf}{on:On}{ks:List aa}{E:aa->Tm}{num:aa->Nat}{f:Fl}{ss:List aa}(hst:gW g (bH g) fs on)(hU:dw g (bd fs on) [])(he:jZ g (bd fs on) ks E)
 (hnum:∀x∈ks,∃z,fs[num x]?=some z/\z.1=(.blank x,E x)) (hs:dZ (dI ks E) f) (hall:∀x∈ks,x∈f.map (·.1)) (hp:ss.Perm (f.map (·.1))) (hr:ss.Pairwise fun a b=>a.cps.toList<b.cps.toList):
 d3 g (cH f ss) fs ((cH f ss).map fun p=>num p.1):=by
 have hfs:=KK hp
 have hin:∀p∈cH f ss,p.1∈ks/\p.2=(E p.1).sub (bh f):=fun p h=>by
  obtain⟨h1,h2,h3⟩:=jR h
  obtain⟨e,h4,h5,h6,_⟩:=hs.inv.2 _ (gQ h2)
  simp only at h4 h5
  rw[jY]at h4
  split at h4
  ·rename_i c
   cases h4
   exact⟨c,by rw[h5,dv]⟩
  ·cases h4
 have sol:=he.sol hs hall
 have keysN:∀x,x∈(cH f ss).map (·.1)->x∈ks:=fun x hx=>by
  obtain⟨p,hp',rfl⟩:=bK.mp hx
  exact(hin p hp').1
 refine⟨Cf hr,fun p h=>(jR h).2.2,fun p h=>((he.dom _).mp (hin p h).1).1,fun p h x hx=>?_,?_,fun φ hφ x=>?_,⟨by simp,fun i h h'=>?_⟩,by rw[hfs];exact he.cov hs hall,fun p h=>⟨E p.1,he.inU _ (hin p h).1,by rw[hfs];exact(hin p h).2,fun y hy=>?_⟩⟩
 ·obtain⟨h1,h2,_⟩:=jR h
  obtain⟨c1,q,hq,c2⟩:=hs.clean _ (gQ h2) x hx
  obtain⟨y,hy,rfl⟩:=bK.mp hq
  refine⟨KI (he.inU y hy) c2,fun z=>?_⟩
  rw[jY,if_pos (keysN x z)]at c1
  cases c1
 ·rw[dv,dv,hfs]
  exact hU.both sol
 ·rw[hfs]
  refine hs.best (fun y e hy=>?_) x
  rw[jY]at hy
  split at hy
  ·rename_i c
   cases hy
   obtain⟨z,hz,ez⟩:=hnum y c
   have:=sQ hφ fs [] hst.snd (fun _ h=>by cases h) z (zMG hz)
   unfold dy at this
   rw[ez]at this
   exact this
  ·cases hy
 ·obtain⟨h1,h2⟩:=hin _ (zGM h)
  obtain⟨z,hz,ez⟩:=hnum _ h1
  refine⟨z,by rw[jE];exact hz,by rw[ez],?_⟩
  rw[ez,dv,hfs]
  exact h2.symm
 ·obtain⟨k,r⟩:=he.way _ (hin p h).1
  rw[hy]at r
  rw[hfs]
  exact xm hs (he.none'.mpr r.end')
theorem KM{g:Ln}{nx:Nx}{ks:List aa}{E:aa->Tm}(he:jZ g nx ks E){ws:List aa}(hne:ws≠[])(h:∀i (h:i<ws.length),∃e,look (dI ks E) ws[i]=some e/\ws[(i+1) % ws.length]'(d5 _ (by omega))∈e.bl/\look (dI ks E) (ws[(i+1) % ws.length]'(d5 _ (by omega)))≠none):
 sM (ws.map fun x=>(.blank x,E x)):=by
 have hE:∀i (h':i<ws.length),ws[(i+1) % ws.length]'(d5 _ (by omega))∈(E ws[i]).bl/\ws[i]∈ks/\ws[(i+1) % ws.length]'(d5 _ (by omega))∈ks:=fun i h'=>by
  obtain⟨e,h1,h2,h3⟩:=h i h'
  rw[jY]at h1 h3
  split at h1
  ·rename_i c
   cases h1
   refine⟨h2,c,?_⟩
   by_cases c2:ws[(i+1) % ws.length]'(d5 _ (by omega))∈ks
   ·exact c2
   ·rw[if_neg c2]at h3;exact absurd rfl h3
  ·cases h1
 refine⟨fun p hp=>?_,fun i hi=>?_,?_⟩
 ·obtain⟨x,_,rfl⟩:=bK.mp hp
  rfl
 ·have hi':i<ws.length:=by simpa using hi
  refine⟨ws[(i+1) % ws.length]'(d5 _ (by omega)),?_,?_⟩
  ·simp only[jE,zLM]
  ·simp only[jE]
   exact(hE i hi').1
 ·have h0:0<ws.length:=yI.mpr hne
  obtain⟨h1,h2,h3⟩:=hE 0 h0
  refine⟨(.blank ws[0],E ws[0]),bK.mpr ⟨_,zGM h0,rfl⟩,?_⟩
  obtain⟨k,r⟩:=he.way _ h2
  cases z:E ws[0]with
  |num n=>rw[z]at h1;simp[Tm.bl]at h1
  |name n=>rw[z]at h1;simp[Tm.bl]at h1
  |thing v qs=>rfl
  |blank y=>
   rw[z]at h1 r
   simp only[Tm.bl,bx]at h1
   rw[h1]at h3
   exact absurd r.end' ((he.dom y).mp h3).2
end BF
namespace BF
open PySem Classical
theorem DU{f:Fl}(hn:(f.map (·.1)).Nodup){p:aa×Tm}(h:p∈f):look f p.1=some p.2:=by
 induction f with
 |nil=>cases h
 |cons a r ih=>
  rw[bM,iZ]at hn
  rcases bo.mp h with z|z
  ·subst z;simp[look]
  ·have hne:¬a.1=p.1:=fun e=>hn.1 (by rw[e];exact bK.mpr ⟨_,z,rfl⟩)
   have:=ih hn.2 z
   simp only[look,jC,decide_eq_false hne]at this |-
   exact this
theorem DV{x y:aa}(h:x.cps.toList=y.cps.toList):x=y:=by
 cases x with|mk a=>cases y with|mk b=>simp only[aa.mk.injEq];exact vf h
theorem KN{f:Fl}(hl:f.length<=700)(hc:∀i p,f[i]?=some p->p.1.cps.toList=eg i):(f.map (·.1)).Nodup:=by
 rw[qX,qY,m6]
 intro i j hi hj hij e
 have h1:=hc i _ (zGE hi)
 have h2:=hc j _ (zGE hj)
 rw[e,h2]at h1
 have:=IP (by omega) (by omega) h1
 omega
theorem tZ{m:Nat}{f:Fl}(hl:f.length<=m)(h7:f.length<=700)(hc:∀i p,f[i]?=some p->p.1.cps.toList=eg i){t p:Tm}(h:jS m (f.map (·.2)) t p):p.sub (bh f)=t:=by
 obtain⟨x,i,rfl,hx,hs⟩:=h
 rw[cW]at hs
 cases hf:f[i]? with
 |none=>rw[hf]at hs;cases hs
 |some q=>
  rw[hf]at hs
  have hq:q.2=t:=cv hs
  have hi:=(bI.mp hf).1
  rw[qP (by omega)]at hx
  have ex:x=q.1:=DV (by rw[hx,hc i q hf])
  have hk:=DU (KN h7 hc) (zMG hf)
  show (look f x).getD (.blank x)=t
  rw[ex,hk,<-hq]
  rfl
theorem KO{f:Fl}(hc:∀i p,f[i]?=some p->p.1.cps.toList=eg i){x:aa}(h:iP x):bh f x= .blank x:=by
 have:look f x=none:=kW fun z=>by
  obtain⟨p,hp,rfl⟩:=bK.mp z
  obtain⟨i,hi,ei⟩:=ja.mp hp
  exact IR h (hc i p (by rw[<-ei];exact zGE hi))
 simp[bh,this]
theorem DW{m:Nat}{f:Fl}(hl:f.length<=m)(h7:f.length<=700)(hc:∀i p,f[i]?=some p->p.1.cps.toList=eg i)(t:Tm):∀p,cm m (f.map (·.2)) t p->p.sub (bh f)=t:=by
 refine Tm.ind (P:=fun t=>∀p,cm m (f.map (·.2)) t p->p.sub (bh f)=t) (fun n p h=>?_) (fun n p h=>?_) (fun n p h=>?_) (fun n ts ih p h=>?_) t
 ·simp only[cm]at h
  rcases h with h|rfl
  ·exact tZ hl h7 hc h
  ·rfl
 ·simp only[cm]at h
  rcases h with h|rfl
  ·exact tZ hl h7 hc h
  ·rfl
 ·simp only[cm]at h
  rcases h with h|⟨rfl,hx⟩
  ·exact tZ hl h7 hc h
  ·exact KO hc hx
 ·simp only[cm]at h
  rcases h with h|⟨ps,rfl,hL⟩
  ·exact tZ hl h7 hc h
  ·simp only[Tm.sub]
   congr 1
   clear hl h7
   induction ts generalizing ps with
   |nil=>simp only[ga]at hL;subst hL;rfl
   |cons a r ih2=>
    simp only[ga]at hL
    obtain⟨q,s,rfl,h1,h2⟩:=hL
    simp only[jo]
    rw[ih a (by simp) q h1,ih2 (fun b hb=>ih b (by simp[hb])) s h2]
theorem KP{φ:aa->Tm}(t:Tm):t.nodes<=(t.sub φ).nodes:=by
 refine Tm.ind (P:=fun t=>t.nodes<=(t.sub φ).nodes) (fun _=>aE _) (fun _=>aE _) (fun x=>?_) (fun x ps ih=>?_) t
 ·have:=((Tm.blank x).sub φ).nodes_pos
  simpa[Tm.nodes]using this
 ·simp only[Tm.sub,Tm.nodes]
  have:aJ ps<=aJ (jo φ ps):=by
   induction ps with
   |nil=>simp[jo,aJ]
   |cons a r ih2=>
    have h1:=ih a (by simp)
    have h2:=ih2 fun p hp=>ih p (by simp[hp])
    simp only[jo,aJ]
    omega
  omega
theorem d3.okT{g:Ln}{f:Fl}{fs:List Lf}{ns:List Nat}(h:d3 g f fs ns)(hn:(f.map (·.1)).Nodup)(ok:∀t∈bH g,t.Ok):∀(n:Nat)(t:Tm),t∈bH g->cV t=false->(t.sub (bh f)).nodes<=n->(t.sub (bh f)).Ok:=by
 intro n
 induction n with
 |zero=>intro t _ _ hn;have:=(t.sub (bh f)).nodes_pos;omega
 |succ n ih=>
  intro t ht hb hle
  cases t with
  |num _=>exact ok _ ht
  |name _=>exact ok _ ht
  |blank _=>cases hb
  |thing w ps=>
   have ho:=ok _ ht
   simp only[Tm.Ok]at ho
   simp only[Tm.sub,Tm.Ok]
   refine⟨ho.1,fun z=>ho.2.1 ?_,?_⟩
   ·have:=congrArg iG z
    rw[sP]at this
    exact jb.mp this
   ·rw[gu,lZ]
    intro q hq
    obtain⟨p,hp,rfl⟩:=bK.mp hq
    have hlt:(p.sub (bh f)).nodes<((Tm.thing w ps).sub (bh f)).nodes:=nL hp
    have hpU:=wI ht hp
    cases p with
    |num _=>exact ih _ hpU rfl (by omega)
    |name _=>exact ih _ hpU rfl (by omega)
    |thing _ _=>exact ih _ hpU rfl (by omega)
    |blank x=>
     show (bh f x).Ok
     cases hl:look f x with
     |none=>simp only[bh,hl,rH];exact ok _ hpU
     |some p2=>
      obtain⟨e,he,e2,e3⟩:=h.val _ (gQ hl)
      have ee:bh f x=e.sub (bh f):=by simp only[bh,hl,nn];exact e2
      have hlt':(e.sub (bh f)).nodes<=n:=by
           have:((Tm.blank x).sub (bh f)).nodes=(e.sub (bh f)).nodes:=by show (bh f x).nodes=_;rw[ee]
           omega
      rw[ee]
      cases e with
      |num _=>exact ok _ he
      |name _=>exact ok _ he
      |blank y=>show (bh f y).Ok;rw[e3 y rfl];exact ok _ he
      |thing _ _=>exact ih _ he rfl hlt'
theorem d3.ok{g:Ln}{f:Fl}{fs:List Lf}{ns:List Nat}(h:d3 g f fs ns)(hn:(f.map (·.1)).Nodup)(ok:∀t∈bH g,t.Ok){p:aa×Tm}(hp:p∈f):p.2.Ok:=by
 obtain⟨e,he,e2,e3⟩:=h.val p hp
 rw[e2]
 cases e with
 |num _=>exact ok _ he
 |name _=>exact ok _ he
 |blank y=>show (bh f y).Ok;rw[e3 y rfl];exact ok _ he
 |thing _ _=>exact h.okT hn ok _ _ he rfl (aE _)
theorem d3.nodup{g:Ln}{f:Fl}{fs:List Lf}{ns:List Nat}(h:d3 g f fs ns):(f.map (·.1)).Nodup:=by
 rw[qX,qY]
 exact h.rise.imp fun h e=>by rw[e]at h;exact absurd h (uZ _)
theorem KQ{g:Ln}(h1:g.1.Ok)(h2:g.2.Ok):∀t∈bH g,t.Ok:=fun t ht=>by
 rcases br.mp ht with z|z
 ·exact sW h1 _ z
 ·exact sW h2 _ z
theorem DX{g:Ln}:g.1∈bH g/\g.2∈bH g:=⟨eu _ (qc _),d6 _ (qc _)⟩
theorem DY(g:Ln):(bH g).length=g.1.nodes+g.2.nodes:=by unfold bH;rw[zLA,gN,gN]
theorem DZ{g:Ln}{fs:List Lf}{m:Nat}{z:Lf}(hs:fh g [] fs)(hz:fs[m]?=some z)(nb1:cV z.1.1=false)(nb2:cV z.1.2=false)(hd:∀φ:aa->Tm,z.1.1.sub φ≠z.1.2.sub φ)(φ:aa->Tm):¬dy φ g:=fun h=>
 hd φ (sQ h fs [] hs (fun _ h=>by cases h) z (zMG hz))
theorem D0{g:Ln}{fs:List Lf}{R:List Ln}(hs:fh g [] fs)(hR:sM R)(hin:∀p∈R,∃z∈fs,z.1=p)(φ:aa->Tm):¬dy φ g:=fun h=>by
 refine IW (φ:=φ) hR fun p hp=>?_
 obtain⟨z,hz,rfl⟩:=hin p hp
 exact sQ h fs [] hs (fun _ h=>by cases h) z hz
end BF
namespace BF
open PySem Classical
def wq(t:Tm):Bool:=cV t||cb t
def g9:Tm->Nat
 |.thing _ ps=>ps.countP fun p=> !wq p
 |_=>0
theorem D1(t:Tm):hv wq t+g9 t=ar t:=by
 cases t with
 |num _=>rfl
 |name _=>rfl
 |blank _=>rfl
 |thing w ps=>
  show ps.countP wq+ps.countP (fun p=> !wq p)=ps.length
  induction ps with
  |nil=>rfl
  |cons a r ih=>
   simp only[uS,zLC]
   cases wq a<;>simp<;>omega
theorem KR(U:List Tm):(U.map (hv wq)).sum+(U.map g9).sum=(U.map ar).sum:=by
 induction U with
 |nil=>rfl
 |cons a r ih=>
  have:=D1 a
  simp only[bM,jD]
  omega
theorem KS{U:List Tm}{t:Tm}(h:t∈U):g9 t<=(U.map g9).sum:=by
 induction U with
 |nil=>cases h
 |cons a r ih=>
  simp only[bM,jD]
  rcases bo.mp h with z|z
  ·subst z;omega
  ·have:=ih z;omega
def Wt(g:Ln):Prop:=∃c L,((bH g).map (hv wq)).sum<=c/\(∀t∈bH g,g9 t<=L)/\c+L<=34
theorem KU{g:Ln}(h:g.1.nodes+g.2.nodes<=36):Wt g:=by
 have h1:=tf g.1
 have h2:=tf g.2
 have h3:=KR (bH g)
 have h4:((bH g).map ar).sum=(g.1.rp.map ar).sum+(g.2.rp.map ar).sum:=by unfold bH;rw[zMA,m3]
 exact⟨_,_,aE _,fun t ht=>KS ht,by omega⟩
theorem KW:∀c<35,∀L<35,c+L<=34->2 * (L+1) * 3 ^ c<=2 ^ c * 2600000:=by decide +kernel
theorem d3.bnd{g:Ln}{f:Fl}{fs:List Lf}{ns:List Nat}(h:d3 g f fs ns){L:Nat}(hL:∀t∈bH g,g9 t<=L):pY wq L (bh f) (bH g) where
 part:=fun w ps hp p h1 _=>h.cov.part w ps hp p h1
 blank:=fun w ps hp x hx=>h.cov.blank x (h.cov.part w ps hp _ hx)
 light:=fun w ps hp=>⟨hL _ hp,fun p _ hq=>by cases p<;>first|rfl|cases hq⟩
theorem d3.big{g:Ln}{f:Fl}{fs:List Lf}{ns:List Nat}(h:d3 g f fs ns)(hw:Wt g){t:Tm}(ht:t∈bH g):(t.sub (bh f)).nodes<=2600000:=by
 obtain⟨c,L,h1,h2,h3⟩:=hw
 have hN:2 * (L+1) * 3 ^ c<=2 ^ c * 2600000:=by
  exact KW c (by omega) L (by omega) h3
 have thing:∀e∈bH g,cb e=true->(e.sub (bh f)).nodes<=2600000:=fun e he hT=>(h.bnd h2).num he hT h1 hN
 cases t with
 |num _=>show 1<=2600000;decide
 |name _=>show 1<=2600000;decide
 |thing v qs=>exact thing _ ht rfl
 |blank x=>
  show (bh f x).nodes<=2600000
  rcases h.cov.blank x ht with e|⟨e,he,hTe,ee⟩
  ·omega
  ·rw[ee];exact thing e he hTe
theorem D2{φ:aa->Tm}{x:aa}{t:Tm}:x∈t.bl->(φ x).nodes<=(t.sub φ).nodes:=by
 refine Tm.ind (P:=fun t=>x∈t.bl->(φ x).nodes<=(t.sub φ).nodes) (fun _ h=>by simp[Tm.bl]at h) (fun _ h=>by simp[Tm.bl]at h) (fun w h=>?_) (fun w ps ih h=>?_) t
 ·simp only[Tm.bl,bx]at h
  subst h
  exact aE _
 ·simp only[Tm.bl]at h
  obtain⟨p,hp,hx⟩:=jT.mp h
  have h1:=ih p hp hx
  have h2:=nL (φ:=φ) (w:=w) hp
  omega
def qw(x:aa):aa:=⟨(113::x.cps.toList.reverse).toArray⟩
def qp(x:aa):aa:=⟨(x.cps.toList.drop 1).reverse.toArray⟩
theorem D3(x:aa):qp (qw x)=x:=by
 apply DV
 simp[qp,qw]
theorem D4{x:aa}(h:Wd x)(hl:x.cps.toList.length<=39):Wd (qw x):=by
 obtain⟨h1,h2,h3⟩:=h
 refine⟨by simp[qw],by simp only[qw,zLC,cR];omega,fun c hc=>?_⟩
 simp only[qw,bo,mY]at hc
 rcases hc with rfl|hc
 ·decide
 ·exact h3 c hc
theorem ua(φ:aa->Tm)(t:Tm):(t.sub (eI qw)).sub φ=t.sub fun x=>φ (qw x):=by rw[pX];rfl
theorem KY(ρ:aa->aa)(t:Tm):(t.sub (eI ρ)).nodes=t.nodes:=by
 refine Tm.ind (P:=fun t=>(t.sub (eI ρ)).nodes=t.nodes) (fun _=>rfl) (fun _=>rfl) (fun _=>rfl) (fun w ps ih=>?_) t
 simp only[Tm.sub,Tm.nodes]
 congr 1
 induction ps with
 |nil=>rfl
 |cons a r ih2=>
  simp only[jo,aJ]
  rw[ih a (by simp),ih2 fun p hp=>ih p (by simp[hp])]
theorem D5{ρ:aa->aa}{t:Tm}:t.Ok->(∀x∈t.bl,Wd (ρ x))->(t.sub (eI ρ)).Ok:=by
 refine Tm.ind (P:=fun t=>t.Ok->(∀x∈t.bl,Wd (ρ x))->(t.sub (eI ρ)).Ok) (fun _ h _=>h) (fun _ h _=>h) (fun w h hx=>?_) (fun w ps ih h hx=>?_) t
 ·show (Tm.blank (ρ w)).Ok
  simp only[Tm.Ok]
  exact hx w (by simp[Tm.bl])
 ·simp only[Tm.Ok]at h
  simp only[Tm.sub,Tm.Ok]
  refine⟨h.1,fun z=>h.2.1 ?_,?_⟩
  ·have:=congrArg iG z
   rw[sP]at this
   exact jb.mp this
  ·rw[gu,lZ]
   intro q hq
   obtain⟨p,hp,rfl⟩:=bK.mp hq
   exact ih p hp ((lZ ps).mp h.2.2 p hp) fun x hx'=>hx x (by simp only[Tm.bl];exact jT.mpr ⟨p,hp,hx'⟩)
def turned(g:Ln):Ln:=(g.2.sub (eI qw),g.1.sub (eI qw))
theorem D6{g:Ln}{φ:aa->Tm}(h:dy φ g):dy (fun y=>φ (qp y)) (turned g):=by
 unfold dy turned at *
 simp only[ua,D3]
 exact h.symm
theorem D7{g:Ln}{φ:aa->Tm}(h:dy φ (turned g)):dy (fun x=>φ (qw x)) g:=by
 unfold dy turned at *
 simp only[ua]at h
 exact h.symm
theorem KZ{g:Ln}{f f':Fl}{fs fs':List Lf}{ns ns':List Nat}(h:d3 g f fs ns)(h':d3 (turned g) f' fs' ns'):(∃ρ,lj (g.1.fill f) ((turned g).1.fill f') ρ)/\((turned g).1.fill f').nodes<=(g.1.fill f).nodes:=by
 have s:dy (bh f) g:=by unfold dy;rw[<-dv,<-dv];exact h.same
 have s':dy (bh f') (turned g):=by unfold dy;rw[<-dv,<-dv];exact h'.same
 have e1:(turned g).1.fill f'=(g.1.fill f).sub fun x=>bh f' (qw x):=by
  rw[h'.same,dv,dv,pX]
  show (g.1.sub (eI qw)).sub (bh f')=_
  rw[ua]
  exact mq _ fun x _=>(h.best _ (D7 s') x).symm
 have e2:g.1.fill f=((turned g).1.fill f').sub fun y=>bh f (qp y):=by
  rw[h'.same,dv,dv,pX]
  show _=(g.1.sub (eI qw)).sub _
  rw[ua]
  refine mq _ fun x _=>?_
  have:=h'.best _ (D6 s) (qw x)
  simp only[D3]at this
  exact this.symm
 refine⟨I0 e1 e2,?_⟩
 have:=KP (φ:=fun y=>bh f (qp y)) ((turned g).1.fill f')
 rw[<-e2]at this
 exact this
theorem d3.vals{g:Ln}{f:Fl}{fs:List Lf}{ns:List Nat}(h:d3 g f fs ns){p:aa×Tm}(hp:p∈f):p.2.nodes<=(g.1.fill f).nodes/\p.2.dp<=1+(g.1.nodes+g.2.nodes):=by
 have e:bh f p.1=p.2:=by simp only[bh,DU h.nodup hp,nn]
 constructor
 ·rcases h.keys p hp with z|z
  ·have:=D2 (φ:=bh f) z
   rw[e,<-dv]at this
   exact this
  ·have:=D2 (φ:=bh f) z
   rw[e,<-dv,<-h.same]at this
   exact this
 ·obtain⟨e',he,e2,_⟩:=h.val p hp
  have:=h.cov.deep he
  rw[<-e2,DY]at this
  exact this
theorem d3.deep1{g:Ln}{f:Fl}{fs:List Lf}{ns:List Nat}(h:d3 g f fs ns):(g.1.fill f).dp<=1+(g.1.nodes+g.2.nodes):=by
 have:=h.cov.deep (DX (g:=g)).1
 rw[<-dv,DY]at this
 exact this
theorem D8(k:Nat):(eg k).length<=4:=by
 unfold eg
 split<;>simp
theorem ub{m:Nat}{seen:List Tm}(t:Tm):∀p,cm m seen t p->∀x∈p.bl,x.cps.toList.length<=39:=by
 have inn:∀{t p:Tm},jS m seen t p->∀x∈p.bl,x.cps.toList.length<=39:=fun {t p} h x hx=>by
  obtain⟨y,i,rfl,hy,_⟩:=h
  simp only[Tm.bl,bx]at hx
  subst hx
  rw[hy]
  have:=D8 (i % m)
  omega
 refine Tm.ind (P:=fun t=>∀p,cm m seen t p->∀x∈p.bl,x.cps.toList.length<=39) (fun n p h=>?_) (fun n p h=>?_) (fun n p h=>?_) (fun n ts ih p h=>?_) t
 ·simp only[cm]at h
  rcases h with h|rfl
  ·exact inn h
  ·intro x hx;simp[Tm.bl]at hx
 ·simp only[cm]at h
  rcases h with h|rfl
  ·exact inn h
  ·intro x hx;simp[Tm.bl]at hx
 ·simp only[cm]at h
  rcases h with h|⟨rfl,c,r,e,_,hr⟩
  ·exact inn h
  ·intro x hx
   simp only[Tm.bl,bx]at hx
   subst hx
   rw[e,zLC]
   omega
 ·simp only[cm]at h
  rcases h with h|⟨ps,rfl,hL⟩
  ·exact inn h
  ·intro x hx
   simp only[Tm.bl]at hx
   clear n
   induction ts generalizing ps with
   |nil=>simp only[ga]at hL;subst hL;simp[eR]at hx
   |cons a r ih2=>
    simp only[ga]at hL
    obtain⟨q,s,rfl,h1,h2⟩:=hL
    simp only[eR,br]at hx
    rcases hx with z|z
    ·exact ih a (by simp) q h1 x z
    ·exact ih2 (fun b hb=>ih b (by simp[hb])) s h2 z
end BF
namespace BF
open PySem
def qq(t:Tm):Prop:=t.nodes=1/\t.Ok/\∀x∈t.bl,x.cps.toList.length<=39
def RO(t:Tm):Prop:=qq t\/∃u,qq u/\t= .thing "f" [.num 0,u]
theorem K0:Wd (bL "f"):=by
 have e:(bL "f").cps.toList=[102]:=by decide +kernel
 unfold Wd
 rw[e]
 exact⟨by decide,by decide,fun c hc=>by simp at hc;subst hc;decide⟩
theorem K1:Wd (bL "row"):=by
 have e:(bL "row").cps.toList=[114,111,119]:=by decide +kernel
 unfold Wd
 rw[e]
 exact⟨by decide,by decide,fun c hc=>by simp at hc;omega⟩
theorem K2:Wd (bL "end"):=by
 have e:(bL "end").cps.toList=[101,110,100]:=by decide +kernel
 unfold Wd
 rw[e]
 exact⟨by decide,by decide,fun c hc=>by simp at hc;omega⟩
theorem D9{t:Tm}(h:qq t):t.rp=[t]/\hv wq t=0/\g9 t=0:=by
 cases t with
 |num n=>exact⟨rfl,rfl,rfl⟩
 |name n=>exact⟨rfl,rfl,rfl⟩
 |blank n=>exact⟨rfl,rfl,rfl⟩
 |thing w ps=>
  have h1:=h.1
  have h2:=h.2.1
  simp only[Tm.nodes]at h1
  simp only[Tm.Ok]at h2
  have:=gq ps
  cases ps with
  |nil=>exact absurd rfl h2.2.1
  |cons p r=>simp only[zLC]at this;omega
theorem K3{t:Tm}(h:RO t):t.Ok/\t.nodes<=3/\∀x∈t.bl,x.cps.toList.length<=39:=by
 rcases h with h|⟨u,h,rfl⟩
 ·exact⟨h.2.1,by rw[h.1];decide,h.2.2⟩
 ·refine⟨?_,by simp only[Tm.nodes,aJ,h.1];decide,fun x hx=>h.2.2 x (by simpa[Tm.bl,eR]using hx)⟩
  simp only[Tm.Ok,dY]
  exact⟨K0,by simp,⟨by decide,by decide⟩,h.2.1,trivial⟩
theorem Ea{t:Tm}(h:RO t):(t.rp.map (hv wq)).sum<=1/\∀u∈t.rp,g9 u<=2:=by
 rcases h with h|⟨u,h,rfl⟩
 ·obtain⟨e,h1,h2⟩:=D9 h
  rw[e]
  simp[h1,h2]
 ·obtain⟨e,h1,h2⟩:=D9 h
  have hl:g9 (Tm.thing (bL "f") [.num 0,u])<=2:=by
   show pi _ _<=2
   exact yJ
  have hh:hv wq (Tm.thing (bL "f") [.num 0,u])<=1:=by
   show pi wq [.num 0,u]<=1
   simp only[uS,List.countP_nil]
   have:wq (.num 0)=false:=rfl
   rw[this]
   cases wq u<;>simp
  have hn:hv wq (.num 0)=0:=rfl
  have ln:g9 (.num 0)=0:=rfl
  simp only[Tm.rp,bV,e]
  constructor
  ·simp[h1,hn];omega
  ·intro v hv'
   simp at hv'
   rcases hv' with z|z|z<;>(subst z;omega)
def cP(l:List Tm):Tm:= .thing "row" (l++[.name "end"])
theorem Eb(l:List Tm):∀v∈(cP l).rp,v=cP l\/v= .name "end"\/∃t∈l,v∈t.rp:=by
 intro v hv'
 have key:∀l:List Tm,∀v∈bV l,∃t∈l,v∈t.rp:=by
  intro l
  induction l with
  |nil=>intro v hv';simp[bV]at hv'
  |cons a r ih=>
   intro v hv'
   simp only[bV,br]at hv'
   rcases hv' with z|z
   ·obtain⟨t,h1,h2⟩:=ih v z
    exact⟨t,by simp[h1],h2⟩
   ·exact⟨a,by simp,z⟩
 unfold cP at hv' |-
 simp only[Tm.rp,br,bo,eL,or_false]at hv'
 have fin:v∈bV (l++[.name "end"])->v= .name "end"\/∃t∈l,v∈t.rp:=fun z=>by
  obtain⟨t,h1,h2⟩:=key _ v z
  rcases br.mp h1 with h1|h1
  ·exact .inr ⟨t,h1,h2⟩
  ·simp at h1;subst h1;simp[Tm.rp]at h2;exact .inl h2
 rcases hv' with z|z
 ·exact .inl z
 ·rcases fin z with z|z
  ·exact .inr (.inl z)
  ·exact .inr (.inr z)
theorem K4{l:List Tm}{b:Nat}(h:∀t∈l,(t.rp.map (hv wq)).sum<=b):((bV l).map (hv wq)).sum<=l.length * b:=by
 induction l with
 |nil=>simp[bV]
 |cons a r ih=>
  have h1:=h a (by simp)
  have h2:=ih fun t ht=>h t (by simp[ht])
  simp only[bV,zMA,m3,zLC,jx]
  omega
theorem K5(l:List Tm):hv wq (cP l)<=l.length:=by
 show pi wq (l++[.name "end"])<=l.length
 rw[yK]
 have h1:pi wq [Tm.name "end"]=0:=rfl
 have h2:=yJ (p:=wq) (l:=l)
 omega
theorem Ec(l:List Tm):hv wq (cP l)+g9 (cP l)=l.length+1:=by
 rw[D1]
 show (l++[Tm.name "end"]).length=_
 simp
theorem Ed{l:List Tm}{b:Nat}(h:∀t∈l,(t.rp.map (hv wq)).sum<=b):((cP l).rp.map (hv wq)).sum<=hv wq (cP l)+l.length * b:=by
 have e:(cP l).rp=cP l::bV (l++[.name "end"]):=rfl
 rw[e,bM,jD,wb,zMA,m3]
 have h2:=K4 h
 have h3:((bV [Tm.name "end"]).map (hv wq)).sum=0:=rfl
 omega
theorem K6{a b:List Tm}(ha:∀t∈a,∃x,t= .blank x/\Wd x/\x.cps.toList.length<=39)(hb:∀t∈b,RO t)(h1:a.length<=10)(h2:b.length<=10):Wt (cP a,cP b):=by
 have ka:∀t∈a,(t.rp.map (hv wq)).sum<=0/\∀u∈t.rp,g9 u<=2:=fun t ht=>by
  obtain⟨x,rfl,_⟩:=ha t ht
  simp only[Tm.rp]
  exact⟨aE _,fun u hu=>by simp at hu;subst hu;exact cQ _⟩
 have ra:=Ec a
 have rb:=Ec b
 have hb':=K5 b
 have ha':hv wq (cP a)=a.length:=by
  show pi wq (a++[.name "end"])=a.length
  rw[yK,List.countP_eq_length.mpr fun t ht=>by obtain⟨x,rfl,_⟩:=ha t ht;rfl]
  rfl
 refine⟨20+hv wq (cP b),2+(g9 (cP b) - 2),?_,fun t ht=>?_,by omega⟩
 ·unfold bH
  rw[zMA,m3]
  have h3:=Ed (l:=a) (b:=0) fun t ht=>(ka t ht).1
  have h4:=Ed (l:=b) (b:=1) fun t ht=>(Ea (hb t ht)).1
  show ((cP a).rp.map (hv wq)).sum+((cP b).rp.map (hv wq)).sum<=_
  omega
 ·unfold bH at ht
  rcases br.mp ht with ht|ht
  ·rcases Eb a t ht with rfl|rfl|⟨u,hu,hv'⟩
   ·omega
   ·exact cQ _
   ·have:=(ka u hu).2 t hv';omega
  ·rcases Eb b t ht with rfl|rfl|⟨u,hu,hv'⟩
   ·omega
   ·exact cQ _
   ·have:=(Ea (hb u hu)).2 t hv';omega
theorem Ee{b:Nat}{l:List Tm}(h:∀t∈l,t.Ok/\t.nodes<=b/\∀x∈t.bl,x.cps.toList.length<=39):(cP l).Ok/\(cP l).nodes<=2+l.length * b/\∀x∈(cP l).bl,x.cps.toList.length<=39:=by
 have hn:aJ l<=l.length * b:=by
  induction l with
  |nil=>simp[aJ]
  |cons a r ih=>
   have h1:=(h a (by simp)).2.1
   have h2:=ih fun t ht=>h t (by simp[ht])
   simp only[aJ,zLC,jx]
   omega
 have hb:∀l:List Tm,(∀t∈l,∀x∈t.bl,x.cps.toList.length<=39)->∀x∈eR l,x.cps.toList.length<=39:=by
  intro l
  induction l with
  |nil=>intro _ x hx;simp[eR]at hx
  |cons a r ih=>
   intro h x hx
   simp only[eR,br]at hx
   rcases hx with hx|hx
   ·exact h a (by simp) x hx
   ·exact ih (fun t ht=>h t (by simp[ht])) x hx
 refine⟨?_,?_,?_⟩
 ·unfold cP
  simp only[Tm.Ok]
  refine⟨K1,by simp,(vU _ _).mpr ⟨(lZ _).mpr fun t ht=>(h t ht).1,?_⟩⟩
  simp only[dY,Tm.Ok]
  exact⟨K2,trivial⟩
 ·unfold cP
  simp only[Tm.nodes,gM,aJ]
  omega
 ·unfold cP
  simp only[Tm.bl]
  refine hb _ fun t ht=>?_
  rcases br.mp ht with ht|ht
  ·exact(h t ht).2.2
  ·simp at ht;subst ht;intro x hx;simp[Tm.bl]at hx
open PySem.Spec PyProof.Rows L2
open Sem (wp)
theorem K7:typeLookup (.type "str") "__reversed__"=pure none:=by rw[hG,hJ];kernel_rfl
theorem K8:isSubtype (.type "str") (.type "dict")=pure false:=by rw[iV];kernel_rfl
def jr(z:aa)(t:Tok)(i:Int):aG:={ cls:= .type "reversed",data:= .fields #[.str z t,rawInt i]}
section
variable{prog:aQ}{w:aH}{A:bm}{E:ac->ah->Prop}{s:ah}
theorem K9{it:Addr}{z:aa}{t:Tok}{i c:Nat}{Q:Option ac->ah->Prop}(hit:s.heap.get? it=some (jr z t (i:Int)))(hx:z.cps[i]?=some c)(hz:(z.length:Int)<2 ^ 63)
 (hQ:∀h' tk tk',h'.get? it=some (jr z t ((i:Int) - 1))->gf it s.heap h'->Q (some (.str ⟨#[c]⟩ tk')) { s with heap:=h',toks:=tk}):wpAny (model prog w) A (pyNext (.ref it)) Q E s:=by
 have hT:s.TypeIs (.ref it) "reversed":=⟨_,hit,rfl⟩
 have hi:i<z.cps.size:=(zt.mp hx).1
 have hl:z.length=z.cps.size:=rfl
 unfold pyNext
 refine ag (hW (gv (name:=bL "__next__") hT RV.slot_next (d4 RV.slot_next hT RV.entry_next ?_ (RV.args_next _))))
 unfold dc.«reversed.__next__»
 refine ag (dJ (a:=(ac.ref it,[])) rfl ?_)
 try dsimp only
 refine ag (cn hit rfl (x:= .str z t) rfl ?_)
 refine ag (cn hit rfl (x:=rawInt (i:Int)) rfl ?_)
 show wpAny _ _ (if (i:Int)<0 then _ else _) _ _ s
 rw[if_neg (by omega)]
 refine ag (fN (mR s z t) u9.lookup ?_)
 show wpAny _ _ (if (false:Bool)=true then _ else _) _ _ s
 rw[if_neg cM]
 refine ag (oR ?_)
 refine ag (hW (getItem_str (c:=c) (s:={ s with toks:=s.toks+1}) (by
  have e1:decide ((i:Int)< -(2 ^ 63:Int))=false:=decide_eq_false (by omega)
  have e2:decide ((i:Int)>=2 ^ 63)=false:=decide_eq_false (by omega)
  rw[e1,e2,rq]) (by
   have:seqIndex? (i:Int) z.length=some i:=by unfold seqIndex?;simp;omega
   rw[this];exact hx) ?_))
 refine ag (cn (s:={ s with toks:=s.toks+1+1}) hit rfl (x:=rawInt (i:Int)) rfl ?_)
 refine ag (j6 (s:={ s with toks:=s.toks+1+1}) hit rfl (by simp) ?_)
 refine aP ⟨_,rfl,aP (hQ _ _ _ ?_ (ko ..))⟩
 exact iF _ hit (pp (kn rfl _))
theorem La{it:Addr}{z:aa}{t:Tok}{Q:Option ac->ah->Prop}(hh:A.handled=none)(hit:s.heap.get? it=some (jr z t (-1)))
 (hQ:∀h',uJ it s.heap h'->Q none { s with heap:=h'}):wpAny (model prog w) A (pyNext (.ref it)) Q E s:=by
 have hT:s.TypeIs (.ref it) "reversed":=⟨_,hit,rfl⟩
 unfold pyNext
 refine ag (hW (gv (name:=bL "__next__") hT RV.slot_next (d4 RV.slot_next hT RV.entry_next ?_ (RV.args_next _))))
 unfold dc.«reversed.__next__»
 refine ag (dJ (a:=(ac.ref it,[])) rfl ?_)
 try dsimp only
 refine ag (cn hit rfl (x:= .str z t) rfl ?_)
 refine ag (cn hit rfl (x:=rawInt (-1)) rfl ?_)
 show wpAny _ _ (if (-1:Int)<0 then _ else _) _ _ s
 rw[if_pos (by decide)]
 refine ag (iW ?_)
 refine ag ?_
 refine ag (m:=setField (.ref it) 1 (rawInt (-1))) (j6 hit rfl (by simp) ?_)
 have hit2:=iF (h:=s.heap) (rA (·.setIfInBounds 1 (rawInt (-1)))) hit (pp (kn rfl _))
 refine j6 (s:={ s with heap:=s.heap.update it (rA (·.setIfInBounds 1 (rawInt (-1))))}) hit2 (kn rfl _) (by simp) ?_
 refine ag ?_
 show wpAny _ _ (newExc (.type "StopIteration") [] >>= _) _ _ _
 refine ag ?_
 simp only[newExc,newTuple]
 refine ag (gx ?_ (by size_fits))
 refine ag (m:=firstArgMember _ _) (dJ (a:=ac.none) (by first|rfl|(simp only[firstArgMember];rfl)) ?_)
 refine gx ?_ (by size_fits)
 simp only[raiseNew]
 refine ag (ur ?_)
 first|rw[show A.in1.handled=none from hh]|rw[hh]
 refine ag (aP (ut ?_))
 refine ag (ju (T:="StopIteration") (b:=true) ⟨_,bQ _ rfl,rfl⟩ qH ?_)
 exact aP (hQ _ ((((ko ..).trans (ko ..)).extBut.push _).push _))
theorem Lb{it:Addr}{z:aa}{t:Tok}{i:Int}{Q:ac->ah->Prop}(hit:s.heap.get? it=some (jr z t i))(h:Q (.ref it) s):wpAny (model prog w) A (pyIter (.ref it)) Q E s:=by
 have hT:s.TypeIs (.ref it) "reversed":=⟨_,hit,rfl⟩
 refine qI hT RV.slot_iter (d4 RV.slot_iter hT RV.entry_iter ?_ (RV.args_iter _))
 show wpAny _ _ (ret (.ref it)) _ _ s
 exact aP ⟨_,rfl,"reversed",_,hT,RV.slot_next.lookup,h⟩
theorem Lc(z:aa)(t:Tok):
 Meets (dc.«reversed.__new__» ⟨[.type "reversed",.str z t],[]⟩) (fun _ R s=>(z.length:Int)<2 ^ 63/\
  ∀tk,R (.ok (.ret (.ref s.heap.objs.size))) { s with heap:=s.heap.push (jr z t ((z.length:Int) - 1)),toks:=tk}):=
 .of_wp fun prog w A R s h=>by
  obtain⟨hz,h⟩:=h
  unfold dc.«reversed.__new__»
  refine ag (dJ (BB _) ?_)
  try dsimp only
  refine ag (dJ (a:=()) (by first|rfl|kernel_rfl) ?_)
  refine ag (dJ (a:=()) (by first|rfl|kernel_rfl) ?_)
  try dsimp only
  refine ag (fN (mR s z t) K7 ?_)
  try dsimp only
  refine ag ?_
  refine ag (m:=isInstance (.str z t) (.type "dict")) (ju (mR s z t) K8 ?_)
  show wpAny _ _ (if (false:Bool)=true then _ else _) _ _ _
  rw[if_neg cM]
  refine ag (fN (mR s z t) u9.lookup ?_)
  try dsimp only
  rw[if_pos (by decide)]
  refine aP ?_
  show wpAny _ _ (if (false:Bool)=true then _ else _) _ _ _
  rw[if_neg cM]
  refine ag (len_str (by omega) ?_)
  refine ag (dJ (a:=some (z.length:Int)) (by first|rfl|simp[asInt?]) ?_)
  try dsimp only
  refine ag (m:=newObj (.type "reversed") (.fields #[.str z t,rawInt ((z.length:Int) - 1)])) (gx ?_ (by size_fits))
  exact aP ⟨_,rfl,h _⟩
theorem Ld{z:aa}{t:Tok}{Q:ac->ah->Prop}(hz:(z.length:Int)<2 ^ 63)
 (h:∀tk,Q (.ref s.heap.objs.size) { s with heap:=s.heap.push (jr z t ((z.length:Int) - 1)),toks:=tk}):wpAny (model prog w) A (call (.type "reversed") [.str z t]) Q E s:=
 qJ RV.called_rev (by decide) (by kernel_rfl) (by kernel_rfl) (fun obj=>yR obj _) RV.entry_new (Lc z t) ⟨hz,fun tk=>⟨⟨_,bQ _ rfl,rfl⟩,h tk⟩⟩
theorem Lg(I:Addr)(z:aa)(t:Tok)(hz:z.length<=sizeLine):pO prog w "reversed" I I z.length (fun i v=>∃c tk,z.cps[z.length - 1 - i]?=some c/\v= .str ⟨#[c]⟩ tk) (fun i h=>i<=z.length/\h.get? I=some (jr z t ((z.length:Int) - 1 - (i:Int)))) where
 W:=fun A hh=>{
  sub:=fun b hb=>by simp at hb;simp[hb]
  frame:=fun _ _ _ x hk=>⟨x.1,hk I (by simp) _ x.2⟩
  item:=fun i s Q E hi x hQ=>by
   have hn:=fw
   have hl:z.length=z.cps.size:=rfl
   have e:(z.length:Int) - 1 - (i:Int)=((z.length - 1 - i:Nat):Int):=by omega
   have hit:=x.2
   rw[e]at hit
   have hx:z.cps[z.length - 1 - i]?=some (z.cps[z.length - 1 - i]'(by omega)):=zu (by omega)
   refine K9 hit hx (by omega) fun h' tk tk' hit' hs'=>?_
   have e2:((z.length - 1 - i:Nat):Int) - 1=(z.length:Int) - 1 - ((i+1:Nat):Int):=by omega
   rw[e2]at hit'
   exact hQ _ h' tk ⟨_,tk',hx,rfl⟩ ⟨hi,hit'⟩ fun b o hb eo=>(hs'.2 b fun h=>hb (by simp[h])).trans eo
  done:=fun s Q E x hQ=>by
   have e:(z.length:Int) - 1 - (z.length:Int)= -1:=by omega
   have hit:=x.2
   rw[e]at hit
   exact La hh hit fun h' he'=>hQ h' s.toks fun b o hb eo=>he' b o (fun h=>hb (by simp[h])) eo
  self:=fun _ _ _ _ x hQ=>Lb x.2 hQ}
 ty:=fun s st=>⟨_,st.2,rfl⟩
 nl:=by decide
 nt:=by decide
 hint:=fun A E s Q st hQ=>by
  have hT:s.TypeIs (.ref I) "reversed":=⟨_,st.2,rfl⟩
  have hn:=fw
  unfold ni
  refine ag (fN hT RV.rev_len ?_)
  show wpAny _ _ (specialOf (ac.ref I) (bL "__length_hint__") >>= _) _ _ _
  refine ag (fN hT RV.slot_hint.lookup ?_)
  generalize hid:("reversed.__length_hint__":String)=id0
  wp_delta
  rw[show splitId id0=some ("reversed","__length_hint__")from by subst hid;decide +kernel]
  subst hid
  refine ag (ju (T:="reversed") (b:=true) hT (by rw[iV];kernel_rfl) ?_)
  refine fm (fun hab=>absurd hab (by decide)) (fun _=>?_)
  refine fm (fun hab=>absurd hab (by decide +kernel)) (fun _=>?_)
  refine ag (iW ?_)
  refine ag (dJ (RV.slot_hint.bind (.ref I)) ?_)
  dsimp only
  refine ag (hW (d4 RV.slot_hint hT RV.entry_hint ?_ (RV.args_hint _)))
  unfold dc.«reversed.__length_hint__»
  refine ag (dJ (a:=ac.ref I) rfl ?_)
  refine ag (cn st.2 rfl (x:= .str z t) rfl ?_)
  refine fm (fun hab=>absurd hab (by simp)) (fun _=>?_)
  refine ag (len_str (by omega) ?_)
  refine ag (dJ (a:=some (z.length:Int)) (by first|rfl|simp[asInt?]) ?_)
  dsimp only
  refine ag (cn (x:=rawInt ((z.length:Int) - 1 - ((0:Nat):Int))) st.2 rfl rfl ?_)
  show wpAny _ _ (if (z.length:Int)<((z.length:Int) - 1 - ((0:Nat):Int))+1 then _ else _) _ _ _
  rw[if_neg (by omega)]
  unfold retInt
  refine ag (oR (aP ⟨_,rfl,?_⟩))
  dsimp only
  refine ag (dJ (a:=some ((z.length:Int) - 1 - ((0:Nat):Int)+1)) (by first|rfl|simp[asInt?]) ?_)
  have e1:(z.length:Int) - 1 - ((0:Nat):Int)+1=(z.length:Int):=by omega
  rw[e1]
  dsimp only
  have f1:rG (z.length:Int)=true:=by
   unfold rG
   simp only[h8,decide_eq_true_eq]
   omega
  have f2:lK ((z.length:Int).toNat)=false:=by
   unfold lK
   simp only[decide_eq_false_iff_not]
   omega
  rw[f1,f2]
  refine fm (fun hab=>absurd hab (by decide)) (fun _=>?_)
  refine fm (fun hab=>absurd hab (by omega)) (fun _=>?_)
  refine fm (fun hab=>absurd hab (by decide)) (fun _=>?_)
  exact aP (hQ _ _)
end
section
variable{X:Cx}{e:Expr}{te:TE}{p p' pos pos':Pos}
def Lh(te:TE):TE:=fun σ H Q=>te σ H fun v H1=>∃z:aa,v= .str z/\z.length<=1000/\∀l,H1 l=none->Q (.ref l) (ad H1 l (.lst (z.cps.toList.reverse.map fun c=>V.str ⟨#[c]⟩)))
theorem Li(hm:X.mg "list"=none)(hm':X.mg "reversed"=none)(h:PE X e te)(hc:X.calm=true:=by rfl)(hg:Gl X "list":=by rfl)(hg':Gl X "reversed":=by rfl)
 (h1:starEach [.Call (.Name "reversed" p') [e] [] pos'] X.env=[(false,eval (.Call (.Name "reversed" p') [e] [] pos') X.env)]:=by rfl) (h2:starEach [e] X.env=[(false,eval e X.env)]:=by rfl):
 PE X (.Call (.Name "list" p) [.Call (.Name "reversed" p') [e] [] pos'] [] pos) (Lh te):=by
 intro pins s σ H Q I hw
 refine Call_ (fq I hg hm kR (gg ?_ h1 rfl))
 rw[h1]
 refine ia ?_
 refine Call_ (fq I hg' hm' pJ (gg ?_ h2 rfl))
 rw[h2]
 refine ia (aK (h pins s σ H _ I hw) fun u s1 ⟨x,H1,I1,r1,q1⟩=>iJ ?_)
 obtain⟨z,rfl,hz,q⟩:=q1
 obtain⟨t,rfl⟩:=r1
 have hn:=fw
 refine Ld (by omega) fun tk0=>iJ ?_
 have e0:(z.length:Int) - 1=(z.length:Int) - 1 - ((0:Nat):Int):=by omega
 have hzs:z.length<=sizeLine:=cO hz (by decide)
 refine v8 (d:=s1.heap.objs.size) (Lg s1.heap.objs.size z t hzs) (I.ok.hd hc) (s:={ s1 with heap:=s1.heap.push (jr z t ((z.length:Int) - 1)),toks:=tk0}) ⟨cQ _,by rw[<-e0];exact bQ _ rfl⟩ (by simp[kc]) (by simp[kc]) hzs fun h' tk acc' c' hk hS hacc=>?_
 have hl:z.length=z.cps.toList.length:=eQ z
 have rr:aL (z.cps.toList.reverse.map fun c=>V.str ⟨#[c]⟩) acc'.toList:=by
  refine pN (by simp only[zLM,cR,lI];rw[hacc.1,hl];simp) fun i x u e1 e2=>?_
  obtain⟨c,tk',h3,rfl⟩:=hacc.2 i u (by simpa using e2)
  rw[cW]at e1
  cases h4:z.cps.toList.reverse[i]? with
  |none=>rw[h4]at e1;cases e1
  |some c2=>
   rw[h4]at e1
   have hi:i<z.cps.toList.length:=by have:=(bI.mp h4).1;simpa using this
   rw[oZ hi]at h4
   have h5:z.cps.toList[z.length - 1 - i]?=some c:=by simpa using h3
   rw[hl,h4]at h5
   cases h5
   cases e1
   exact⟨tk',rfl⟩
 have z2:(z.cps.toList.reverse.map fun c=>V.str ⟨#[c]⟩).length<=sizeLine:=by simp only[zLM,cR];omega
 have sz:s1.heap.objs.size<=(s1.heap.push (jr z t ((z.length:Int) - 1))).objs.size:=by simp[kc]
 exact⟨.ref _,_,I1.laid (a:=(s1.heap.push (jr z t ((z.length:Int) - 1))).objs.size) (t':=tk) (fun b o e=>hk b o (dg (bn e)) (bj _ e)) sz (show cF X.prog X.w _ h' _ (.lst _)from ⟨z2,acc'.toList,c',rr,hS⟩),rfl,q _ (I1.hok.fresh sz)⟩
end
end BF
namespace K09
open PySem L2 BF
section
variable{P:aQ}{w:aH}{K:aA}{mg:aa->Option ac}{base:az}
def RA(t:Tm):Prop:=∃x,t= .blank x/\Wd x/\x.cps.toList.length<=39
theorem xn{x:aa}{k:Nat}(h:x.cps.toList=eg k):Wd x/\x.cps.toList.length<=39:=by
 have h1:=D8 k
 exact⟨Cp h,by rw[h];omega⟩
theorem Lj{t:Tm}(h:pV t):∀x∈t.bl,x.cps.toList.length<=39:=fun x hx=>by
 cases t with
 |num n=>simp[Tm.bl]at hx
 |name n=>simp[Tm.bl]at hx
 |thing n ps=>exact absurd h (by simp[pV])
 |blank y=>
  simp[Tm.bl]at hx
  subst hx
  obtain⟨c,r,e,_,hl⟩:=(h:iP x)
  rw[e,zLC]
  omega
inductive Eg(K:aA)(vs:List V)(H:Hp)(Q:VK):Prop
 |mk:∀(a:Addr)(ns:List Int)(m:Int),(vs=[.ref a,.int m])->(ak K H a (ns.map V.int))->(ns.length<=10)->(∀(v1 v2:V)(t:Addr)(oa ob:List Tm)(H':Hp),av H H'->H' t=some (.tup [v1,v2])->ay H' v1 (cP oa)->ay H' v2 (cP ob)->(∀t∈oa,RA t)->(∀t∈ob,RO t)->oa.length<=10->ob.length<=10->Q (.ref t) H')->Eg K vs H Q
def xo(K:aA):Sp:=fun vs H Q _=>Eg K vs H Q
theorem Lk{f0:Addr}{fd:be}(F:bB K "_law_round" "_law_round" oJ f0 fd)(T:Bi mg)(c__law_called:aO P w K mg base 1 "_law_called" ["_law_k"] tX)(c__law_leaf:aO P w K mg base 2 "_law_leaf" ["_law_cell"] tK):bf P w K mg base bp 3 f0 fd ["_law_cells","_law_last"] (xo K):=by
 refine F.ok jq (fun vs H Q E h=>?_) (fun cdv A outer s H vs Q E hr h=>?_)
 ·obtain⟨_,_,_,rfl,_⟩:=h
  rfl
 obtain⟨a,ns,m,rfl,hS,hlen,q⟩:=h
 have hml:(ns.map V.int).length=ns.length:=zLM _
 refine⟨_,(al (aB (i:=2) jq.nd rfl (Or.inl rfl) (bR af))
  (al (aB (i:=3) jq.nd rfl (Or.inl rfl) (bR af))
  (al (dR cx rfl (pB rfl T.b_range (ae (ca dk T.b_len cU (ae (pv 0) af)) af)) (cz (i:=4) jq.nd rfl (Or.inl rfl)) (al (cj (cp bY cX cY cT (pv 2) (ae (bO (ae aS (ae (a0 c__law_called (hr.mono (by decide)) (ae (pv 4) af)) af))) af)))
        (al (aB (i:=6) jq.nd rfl (Or.inl rfl) (bO (ae aS (ae (a0 c__law_called (hr.mono (by decide)) (ae (aY dj (aY nu (pv 4) ai) (ca dk T.b_len cU (ae (pv 0) af))) af)) af))))
        (al (aZ (kr (aU cf (aY nu (pv 4) ai) (ca dk T.b_len cU (ae (pv 0) af)) (aT _)) (kq (aU cf (aY dj (pv 1) ai) ai (aT _)))).pt (aq (aB (i:=6) jq.nd rfl (Or.inl rfl) (a0 c__law_leaf (hr.mono (by decide)) (ae (aY e9 (pv 1) ai) af)))) bg)
        (al (aZ (aU cf (aY dj (ao cI (pv 0) (pv 4) (fun _ _=>rfl)) ai) ai (aT _)) (aq (aB (i:=6) jq.nd rfl (Or.inl rfl) (bO (ae aS (ae aS (ae (bO (ae (bO (ae aS (ae ai af))) (ae (pv 6) af))) af)))))) bg)
        (aq (cj (cp bY cX cY cT (pv 3) (ae (pv 6) af)))))))))
  (al (aB (i:=5) jq.nd rfl (Or.inl rfl) (aY dj (aY e9 (pv 1) ai) (aY nu (ca dk T.b_len cU (ae (pv 0) af)) ai)))
  (al (aB (i:=2) jq.nd rfl (Or.inl rfl) (aY jK (aY jK (gn gJ (pv 2) (fT (pv 5)) gI) (gn gJ (pv 2) gI (fT (pv 5)))) (bR (ae (bO (ae aS (ae aS af))) af))))
  (al (aB (i:=3) jq.nd rfl (Or.inl rfl) (aY jK (aY jK (gn gJ (pv 3) (fT (pv 5)) gI) (gn gJ (pv 3) gI (fT (pv 5)))) (bR (ae (bO (ae aS (ae aS af))) af))))
  (aq (aM (bO (ae (bO (ae aS (ae aS (ae (jm nC T.b_tuple jk (ae (pv 2) af)) af)))) (ae (bO (ae aS (ae aS (ae (jm nC T.b_tuple jk (ae (pv 3) af)) af)))) af))))))))))),?_⟩
 refine⟨(by show 0<=sizeLine;decide),fun p1 f1=>?_⟩
 generalize e_:ad H p1 (HO.lst [])=H1
 obtain⟨s1,x1⟩:=aI f1 e_
 refine⟨(by show 0<=sizeLine;decide),fun p2 f2=>?_⟩
 have s2:=bG f2 (HO.lst [])
 have x2:ad H1 p2 (HO.lst []) p2=some _:=au
 have n12:p1≠p2:=aF x1 f2
 have f2':H p2=none:=s1.free f2
 generalize ad H1 p2 (HO.lst [])=H2 at s2 x2 |-
 refine⟨_,rfl,a,_,rfl,.inl ((s1.trans s2).seq hS),_,rfl,by omega,by rw[zLM];omega,rU (lo:=0) (n:=((ns.map V.int).length:Int).toNat) (fun i σ H3=>∃(o4 o5 o6:Option V)(us1 us2:List V)(oa ob:List Tm),σ=[some (.ref a),some (.int m),some (.ref p1),some (.ref p2),o4,o5,o6]/\av H H3/\H3 p1=some (.lst us1)/\H3 p2=some (.lst us2)/\aN H3 us1 oa/\aN H3 us2 ob/\(∀t∈oa,RA t)/\(∀t∈ob,RO t)/\oa.length=i/\ob.length=i)
  ⟨none,none,none,[],[],[],[],rfl,s1.trans s2,s2 _ _ x1,x2,aN.nil,aN.nil,by simp,by simp,rfl,rfl⟩ ?_ ?_⟩
 ·rintro i σ H3 hi ⟨o4,o5,o6,us1,us2,oa,ob,rfl,s3,g1,g2,ht1,ht2,ha,hb,hl1,hl2⟩
  have hi':i<ns.length:=by rw[hml]at hi;omega
  have hu1:=ht1.len
  have hu2:=ht2.len
  have e0:(0:Int)+(i:Int)=((i:Nat):Int):=by omega
  rw[e0]
  refine⟨_,rfl,.inl ⟨rfl,_,ak.of g1⟩,_,rfl,i,rfl,fun x hx=>⟨(by show 2<=sizeLine;decide),fun b1 fb1=>?_⟩⟩
  generalize e_:ad H3 b1 (HO.tup [.str "blank",.str x])=H4
  obtain⟨s4,x4⟩:=aI fb1 e_
  refine⟨p1,_,_,rfl,rfl,s4 _ _ g1,big (by omega),?_⟩
  have k5:aR H4 (ad H4 p1 (HO.lst (us1++[.ref b1]))):= .lst (s4 _ _ g1)
  have y5:ad H4 p1 (HO.lst (us1++[.ref b1])) p1=some _:=au
  have z5:ad H4 p1 (HO.lst (us1++[.ref b1])) p2=some (.lst us2):=by rw[am n12.symm];exact s4 _ _ g2
  have s5:av H (ad H4 p1 (HO.lst (us1++[.ref b1]))):=fun b ob z=>by rw[am (aF z f1)];exact s4 _ _ (s3 _ _ z)
  generalize ad H4 p1 (HO.lst (us1++[.ref b1]))=H5 at k5 y5 z5 s5 |-
  have ta5:aN H5 (us1++[.ref b1]) (oa++[.blank x]):=((ht1.mono (.of s4)).mono k5).app (.cons (dN.mpr ⟨b1,rfl,k5 _ _ x4⟩) .nil)
  have tb5:aN H5 us2 ob:=(ht2.mono (.of s4)).mono k5
  have ha5:∀t∈oa++[Tm.blank x],RA t:=fun t ht=>by
   rcases br.mp ht with ht|ht
   ·exact ha t ht
   ·simp at ht;exact⟨x,ht,xn hx⟩
  have hS5:ak K H5 a (ns.map V.int):=s5.seq hS
  have hk:[V.int (((i:Nat):Int)+1)]=[V.int ((i+1:Nat):Int)]:=rfl
  have hmod:(((i:Nat):Int)+1) % ((ns.map V.int).length:Int)=(((i+1) % ns.length:Nat):Int):=by
   rw[hml,Int.natCast_emod]
   rfl
  refine⟨_,rfl,_,_,rfl,rfl,_,rfl,a,_,rfl,.inl hS5,_,_,rfl,rfl,(show (0:Int)<_ by rw[hml];omega),(i+1) % ns.length,congrArg (fun z=>[V.int z]) hmod,fun x6 hx6=>⟨(by show 2<=sizeLine;decide),fun b2 fb2=>?_⟩⟩
  generalize e_:ad H5 b2 (HO.tup [.str "blank",.str x6])=H6
  obtain⟨s6,x6'⟩:=aI fb2 e_
  have tb2:ay H6 (.ref b2) (.blank x6):=dN.mpr ⟨b2,rfl,x6'⟩
  have r2:qq (.blank x6):=⟨rfl,(xn hx6).1,fun y hy=>by simp[Tm.bl]at hy;subst hy;exact(xn hx6).2⟩
  show cZ.nx _ _ _
  with_reducible show fu _ _ _ _ _
  refine fW (fun σ H7=>∃(tv:V)(t7:Tm),σ=[some (.ref a),some (.int m),some (.ref p1),some (.ref p2),some (.int (i:Nat)),o5,some tv]/\av H5 H7/\ay H7 tv t7/\qq t7) ?_ (fun key=>?_)
  rotate_left
  ·refine⟨_,rfl,_,_,rfl,rfl,_,rfl,a,_,rfl,.inl (s6.seq hS5),rfl,_,rfl,bE (fun c1=>?_) (fun c1=>cg (key _ _ ⟨_,_,rfl,s6,tb2,r2⟩))⟩
   refine⟨_,rfl,_,_,rfl,rfl,(show (0:Int)<_ by decide),rfl,_,rfl,bE (fun c2=>?_) (fun c2=>key _ _ ⟨_,_,rfl,s6,tb2,r2⟩)⟩
   exact⟨_,rfl,_,_,rfl,rfl,⟨by decide,by decide⟩,_,rfl,fun v t H7 s7 ht hto htn hlx=>key _ _ ⟨v,t,rfl,s6.trans s7,ht,htn,hto,Lj hlx⟩⟩
  rintro σ H7 ⟨tv,t7,rfl,s7,ht7,hr7⟩
  have hat:dU (ns.map V.int) ((i:Nat):Int)=some (.int ns[i]):=eO (by rw[cW,zGE hi'];rfl)
  show fu _ _ _ _ _
  refine fW (fun σ H8=>∃(tv:V)(t8:Tm),σ=[some (.ref a),some (.int m),some (.ref p1),some (.ref p2),some (.int (i:Nat)),o5,some tv]/\av H5 H8/\ay H8 tv t8/\RO t8) ?_ (fun key=>?_)
  rotate_left
  ·refine⟨_,rfl,_,rfl,a,_,_,_,rfl,rfl,s7.seq hS5,hat,_,_,rfl,rfl,(show (0:Int)<_ by decide),rfl,_,rfl,bE (fun c1=>?_) (fun c1=>key _ _ ⟨tv,t7,rfl,s7,ht7,.inl hr7⟩)⟩
   refine⟨(by show 2<=sizeLine;decide),fun b3 fb3=>?_⟩
   generalize e_:ad H7 b3 (HO.tup [.str "number",.int 0])=H8
   obtain⟨s8,x8⟩:=aI fb3 e_
   refine⟨_,rfl,(by show 2<=sizeLine;decide),fun b4 fb4=>?_⟩
   generalize e_:ad H8 b4 (HO.tup [.ref b3,tv])=H9
   obtain⟨s9,x9⟩:=aI fb4 e_
   refine⟨(by show 3<=sizeLine;decide),fun b5 fb5=>key _ _ ⟨_,.thing "f" [.num 0,t7],rfl,s7.trans (s8.trans (s9.trans (bG fb5 _))),?_,.inr ⟨t7,hr7,rfl⟩⟩⟩
   have sA:=bG fb5 (HO.tup [.str "thing",.str "f",.ref b4])
   refine dF.mpr ⟨b5,b4,[.ref b3,tv],rfl,au,sA _ _ x9,.cons (fF.mpr ⟨b3,rfl,sA _ _ (s9 _ _ x8)⟩) (.cons (ht7.mono (.of (s8.trans (s9.trans sA)))) .nil)⟩
  rintro σ H8 ⟨tv8,t8,rfl,s8,ht8,hr8⟩
  have g2':=s8 _ _ z5
  refine⟨_,rfl,.inl ⟨rfl,_,ak.of g2'⟩,_,rfl,p2,_,_,rfl,rfl,g2',big (by omega),?_⟩
  have k9:aR H8 (ad H8 p2 (HO.lst (us2++[tv8]))):= .lst g2'
  refine⟨_,_,_,us1++[.ref b1],us2++[tv8],oa++[.blank x],ob++[t8],rfl,fun b ob' z=>?_,?_,au,((ta5.mono (.of s8)).mono k9),((tb5.mono (.of s8)).mono k9).app (.cons (ht8.mono k9) .nil),ha5,fun t ht=>?_,by rw[zLA,hl1];rfl,by rw[zLA,hl2];rfl⟩
  ·rw[am (aF z f2')];exact s8 _ _ (s5 _ _ z)
  ·rw[am n12];exact s8 _ _ y5
  ·rcases br.mp ht with ht|ht
   ·exact hb t ht
   ·simp at ht;rw[ht];exact hr8
 ·rintro σ H3 ⟨o4,o5,o6,us1,us2,oa,ob,rfl,s3,g1,g2,ht1,ht2,ha,hb,hl1,hl2⟩
  have hnn:((ns.map V.int).length:Int).toNat=ns.length:=by rw[hml];omega
  rw[hnn]at hl1 hl2
  have hu1:=ht1.len
  have hu2:=ht2.len
  refine⟨_,rfl,_,_,rfl,rfl,⟨by decide,by decide⟩,_,rfl,a,_,rfl,.inl (s3.seq hS),_,_,rfl,rfl,_,_,rfl,rfl,(show (0:Int)<_ by rw[hml];omega),?_⟩
  obtain⟨j,hj⟩:=rD (show 0<=m / 5 % (((ns.map V.int).length:Int)+1)by exact ng _ (by rw[hml];omega))
  have hjz:j<=ns.length:=by
   have:=nh (m / 5) (show (0:Int)<((ns.map V.int).length:Int)+1 by rw[hml];omega)
   rw[hml]at this hj
   omega
  have hj':m / 5 % (((ns.map V.int).length:Int)+1)=((j:Nat):Int):=hj
  show ku 5 (V.int (m / 5 % (((ns.map V.int).length:Int)+1))) _ _ _
  rw[hj']
  clear hj hj'
  refine⟨_,rfl,_,rfl,_,rfl,p1,us1,rfl,ak.of g1,fun c1 fc1=>?_⟩
  rw[qi us1 _ (by omega) (by omega)]
  have e1:(((j:Nat):Int)).toNat=j:=by omega
  rw[e1]
  generalize e_:ad H3 c1 (HO.lst (us1.drop j))=HC1
  obtain⟨sc1,xc1⟩:=aI fc1 e_
  refine⟨_,rfl,_,rfl,_,rfl,p1,us1,rfl,ak.of (sc1 _ _ g1),fun d1 fd1=>?_⟩
  rw[tL us1 _ (by omega) (by omega),e1]
  generalize e_:ad HC1 d1 (HO.lst (us1.take j))=HD1
  obtain⟨sd1,xd1⟩:=aI fd1 e_
  refine⟨c1,d1,_,_,rfl,rfl,sd1 _ _ xc1,xd1,by rw[dh,zLT];exact d9 (by omega),fun e1' fe1=>?_⟩
  generalize e_:ad HD1 e1' (HO.lst (us1.drop j++us1.take j))=HE1
  obtain⟨se1,xe1⟩:=aI fe1 e_
  refine⟨(by show 2<=sizeLine;decide),fun n1 fn1=>?_⟩
  generalize e_:ad HE1 n1 (HO.tup [.str "name",.str "end"])=HN1
  obtain⟨sn1,xn1⟩:=aI fn1 e_
  refine⟨(by show 1<=sizeLine;decide),fun m1 fm1=>?_⟩
  generalize e_:ad HN1 m1 (HO.lst [.ref n1])=HM1
  obtain⟨sm1,xm1⟩:=aI fm1 e_
  refine⟨e1',m1,_,_,rfl,rfl,(sn1.trans sm1) _ _ xe1,xm1,by rw[zLA,dh,zLT];exact d9 (by simp only[zLC,zLN];omega),fun r1 fr1=>?_⟩
  generalize e_:ad HM1 r1 (HO.lst (us1.drop j++us1.take j++[.ref n1]))=HR1
  obtain⟨sr1,xr1⟩:=aI fr1 e_
  have sl1:av H3 HR1:=sc1.trans (sd1.trans (se1.trans (sn1.trans (sm1.trans sr1))))
  have tt1:aN HR1 (us1.drop j++us1.take j++[.ref n1]) (oa.drop j++oa.take j++[.name "end"]):=(((ht1.mono (.of sl1)).dropN j).app ((ht1.mono (.of sl1)).takeN j)).app (.cons (eP.mpr ⟨n1,rfl,(sm1.trans sr1) _ _ xn1⟩) .nil)
  refine⟨_,rfl,_,rfl,_,rfl,p2,us2,rfl,ak.of (sl1 _ _ g2),fun c2 fc2=>?_⟩
  rw[qi us2 _ (by omega) (by omega)]
  have e2:(((j:Nat):Int)).toNat=j:=by omega
  rw[e2]
  generalize e_:ad HR1 c2 (HO.lst (us2.drop j))=HC2
  obtain⟨sc2,xc2⟩:=aI fc2 e_
  refine⟨_,rfl,_,rfl,_,rfl,p2,us2,rfl,ak.of (sc2 _ _ (sl1 _ _ g2)),fun d2 fd2=>?_⟩
  rw[tL us2 _ (by omega) (by omega),e2]
  generalize e_:ad HC2 d2 (HO.lst (us2.take j))=HD2
  obtain⟨sd2,xd2⟩:=aI fd2 e_
  refine⟨c2,d2,_,_,rfl,rfl,sd2 _ _ xc2,xd2,by rw[dh,zLT];exact d9 (by omega),fun e2' fe2=>?_⟩
  generalize e_:ad HD2 e2' (HO.lst (us2.drop j++us2.take j))=HE2
  obtain⟨se2,xe2⟩:=aI fe2 e_
  refine⟨(by show 2<=sizeLine;decide),fun n2 fn2=>?_⟩
  generalize e_:ad HE2 n2 (HO.tup [.str "name",.str "end"])=HN2
  obtain⟨sn2,xn2⟩:=aI fn2 e_
  refine⟨(by show 1<=sizeLine;decide),fun m2 fm2=>?_⟩
  generalize e_:ad HN2 m2 (HO.lst [.ref n2])=HM2
  obtain⟨sm2,xm2⟩:=aI fm2 e_
  refine⟨e2',m2,_,_,rfl,rfl,(sn2.trans sm2) _ _ xe2,xm2,by rw[zLA,dh,zLT];exact d9 (by simp only[zLC,zLN];omega),fun r2 fr2=>?_⟩
  generalize e_:ad HM2 r2 (HO.lst (us2.drop j++us2.take j++[.ref n2]))=HR2
  obtain⟨sr2,xr2⟩:=aI fr2 e_
  have sl2:av HR1 HR2:=sc2.trans (sd2.trans (se2.trans (sn2.trans (sm2.trans sr2))))
  have tt2:aN HR2 (us2.drop j++us2.take j++[.ref n2]) (ob.drop j++ob.take j++[.name "end"]):=((((ht2.mono (.of sl1)).mono (.of sl2)).dropN j).app (((ht2.mono (.of sl1)).mono (.of sl2)).takeN j)).app (.cons (eP.mpr ⟨n2,rfl,(sm2.trans sr2) _ _ xn2⟩) .nil)
  refine⟨_,rfl,r1,_,rfl,.inl ⟨ak.of (sl2 _ _ xr1),fun t1 ft1=>?_⟩⟩
  generalize e_:ad HR2 t1 (HO.tup (us1.drop j++us1.take j++[.ref n1]))=HT1
  obtain⟨st1,xt1⟩:=aI ft1 e_
  refine⟨(by show 3<=sizeLine;decide),fun w1 fw1=>?_⟩
  generalize e_:ad HT1 w1 (HO.tup [.str "thing",.str "row",.ref t1])=HW1
  obtain⟨sw1,xw1⟩:=aI fw1 e_
  refine⟨_,rfl,r2,_,rfl,.inl ⟨ak.of ((st1.trans sw1) _ _ xr2),fun t2 ft2=>?_⟩⟩
  generalize e_:ad HW1 t2 (HO.tup (us2.drop j++us2.take j++[.ref n2]))=HT2
  obtain⟨st2,xt2⟩:=aI ft2 e_
  refine⟨(by show 3<=sizeLine;decide),fun w2 fw2=>?_⟩
  generalize e_:ad HT2 w2 (HO.tup [.str "thing",.str "row",.ref t2])=HW2
  obtain⟨sw2,xw2⟩:=aI fw2 e_
  refine⟨(by show 2<=sizeLine;decide),fun tt ftt=>?_⟩
  have sq:=bG ftt (HO.tup [.ref w1,.ref w2])
  have b1:av HW1 (ad HW2 tt (HO.tup [.ref w1,.ref w2])):=st2.trans (sw2.trans sq)
  have b0:av HR2 (ad HW2 tt (HO.tup [.ref w1,.ref w2])):=st1.trans (sw1.trans b1)
  refine q (.ref w1) (.ref w2) tt (oa.drop j++oa.take j) (ob.drop j++ob.take j) _ (s3.trans (sl1.trans (sl2.trans b0))) au ?_ ?_ (fun t ht=>?_) (fun t ht=>?_) (by rw[zLA,dh,zLT];omega) (by rw[zLA,dh,zLT];omega)
  ·exact dF.mpr ⟨w1,t1,_,rfl,b1 _ _ xw1,(sw1.trans b1) _ _ xt1,tt1.mono (.of (sl2.trans b0))⟩
  ·exact dF.mpr ⟨w2,t2,_,rfl,sq _ _ xw2,(sw2.trans sq) _ _ xt2,tt2.mono (.of b0)⟩
  ·rcases br.mp ht with ht|ht
   ·exact ha t (uY ht)
   ·exact ha t (pf ht)
  ·rcases br.mp ht with ht|ht
   ·exact hb t (uY ht)
   ·exact hb t (pf ht)
end
section
variable{P:aQ}{w:aH}{K:aA}{mg:aa->Option ac}{base:az}
inductive Eh(K:aA)(vs:List V)(H:Hp)(Q:VK):Prop
 |mk:∀(a:Addr)(ns:List Int)(k:Nat),(vs=[.ref a,.int k])->(ak K H a (ns.map V.int))->(Q (.int (ns.getD k 0)) H)->Eh K vs H Q
def uc(K:aA):Sp:=fun vs H Q _=>Eh K vs H Q
theorem Ll{f:Addr}{fd:be}(F:bB K "_law_at" "_law_at" oo f fd)(T:Bi mg):bf P w K mg base bp 1 f fd ["_law_script","_law_k"] (uc K):=by
 refine F.ok JB (fun vs H Q E h=>?_) (fun cdv A outer s H vs Q E hr h=>?_)
 ·obtain⟨_,_,_,rfl,_⟩:=h
  rfl
 obtain⟨a,ns,k,rfl,hS,q⟩:=h
 refine⟨_,(al (aZ (aU rW (pv 1) (ca dk T.b_len cU (ae (pv 0) af)) (aT _)) (aq (aM (ao cI (pv 0) (pv 1) (fun _ _=>rfl)))) bg)
  (aq (aM ai))),?_⟩
 refine⟨_,rfl,_,rfl,a,_,rfl,.inl hS,_,_,rfl,rfl,_,rfl,bE (fun c=>?_) (fun c=>?_)⟩
 ·have c':(k:Int)<((ns.map V.int).length:Int):=of_decide_eq_true c
  rw[zLM]at c'
  have hk:k<ns.length:=by omega
  have e:ns.getD k 0=ns[k]:=by rw[yL,zGE hk];rfl
  rw[e]at q
  refine⟨_,rfl,_,rfl,a,_,_,V.int ns[k],rfl,rfl,hS,eO ?_,q⟩
  rw[cW,zGE hk]
  rfl
 ·have c':¬(k:Int)<((ns.map V.int).length:Int):=of_decide_eq_false (h9.mpr c)
  rw[zLM]at c'
  have e:ns.getD k 0=0:=by rw[yL,uV (by omega)];rfl
  rw[e]at q
  exact q
end
section
variable{P:aQ}{w:aH}{K:aA}{mg:aa->Option ac}{base:az}
theorem Ei(xs:List V)(i:Nat):d7 xs none (some (i:Int))=xs.take i:=by
 unfold d7
 rw[HT.sIx_none,HT.sIx_nat]
 simp
theorem Lm(xs:List V)(i:Nat):d7 xs (some (i:Int)) none=xs.drop i:=by
 unfold d7
 rw[HT.sIx_none,HT.sIx_nat]
 rw[dD (by rw[dh];omega)]
 by_cases h:i<=xs.length
 ·rw[yo h]
 ·rw[Nat.min_eq_right (by omega),yM (aE _),yM (by omega)]
inductive Ej(K:aA)(vs:List V)(H:Hp)(Q:VK):Prop
 |mk:∀(a lc:Addr)(ns ms:List Int),(vs=[.ref a,.ref lc])->(ak K H a (ns.map V.int))->(H lc=some (.lst (ms.map V.int)))->(ms.length<=16)->(∀(t:Addr)(v1 v2:V)(g:Ln)(H':Hp),av H H'->H' t=some (.tup [v1,v2])->ay H' v1 g.1->ay H' v2 g.2->g.1.Ok->g.2.Ok->g.1.nodes+g.2.nodes<=60->(∀x∈g.1.bl,x.cps.toList.length<=39)->(∀x∈g.2.bl,x.cps.toList.length<=39)->Wt g->(ns.getD 0 0 % 5=0->∃φ,dy φ g)->Q (.ref t) H')->Ej K vs H Q
def xq(K:aA):Sp:=fun vs H Q _=>Ej K vs H Q
theorem Lo{f0:Addr}{fd:be}(F:bB K "_law_couple" "_law_couple" oK f0 fd)(T:Bi mg)(c__law_at:aO P w K mg base 1 "_law_at" ["_law_script","_law_k"] (uc K))(c__law_round:aO P w K mg base 3 "_law_round" ["_law_cells","_law_last"] (xo K))(c__law_hidden:aO P w K mg base 3 "_law_hidden" ["_law_cells","_law_many"] (xk K)):bf P w K mg base bp 4 f0 fd ["_law_script","_law_cells"] (xq K):=by
 refine F.ok lq (fun vs H Q E h=>?_) (fun cdv A outer s H vs Q E hr h=>?_)
 ·obtain⟨_,_,_,_,rfl,_⟩:=h
  rfl
 obtain⟨a,lc,ns,ms,rfl,hS,hc,hml,q⟩:=h
 refine⟨_,(al (aB (i:=2) lq.nd rfl (Or.inl rfl) (aY dj (a0 c__law_at (hr.mono (by decide)) (ae (pv 0) (ae ai af))) ai))
  (al (aZ (aU cf (pv 2) ai (aT _)) (aq (aM (a0 c__law_round (hr.mono (by decide)) (ae (gn gJ (pv 1) gI (fT ai)) (ae (a0 c__law_at (hr.mono (by decide)) (ae (pv 0) (ae ai af))) af))))) bg)
  (al (aB (i:=3) lq.nd rfl (Or.inl rfl) (ao cI (bR (ae ai (ae ai (ae ai (ae ai af))))) (pv 2) (fun _ _=>rfl)))
  (al (aB (i:=4) lq.nd rfl (Or.inl rfl) (ao aw (a0 c__law_hidden (hr.mono (by decide)) (ae (pv 1) (ae (pv 3) af))) ai (fun _ _=>rfl)))
  (al (aB (i:=5) lq.nd rfl (Or.inl rfl) (ao cI (pv 4) ai (fun _ _=>rfl)))
  (al (aZ (kr (aU cf (pv 2) ai (aT _)) (kq (aU (su hr.units0) (pv 1) (bR af) (aT _)))).pt (al (aB (i:=6) lq.nd rfl (Or.inl rfl) (aY dj (a0 c__law_at (hr.mono (by decide)) (ae (pv 0) (ae ai af))) (ca dk T.b_len cU (ae (pv 1) af))))
        (al (aB (i:=7) lq.nd rfl (Or.inl rfl) (aY jK (aY jK (gn gJ (pv 1) gI (fT (pv 6))) (bR (ae (aY nu (ao cI (pv 1) (pv 6) (fun _ _=>rfl)) ai) af))) (gn gJ (pv 1) (fT (aY nu (pv 6) ai)) gI)))
        (aq (aB (i:=5) lq.nd rfl (Or.inl rfl) (ao cI (ao aw (a0 c__law_hidden (hr.mono (by decide)) (ae (pv 7) (ae (pv 3) af))) ai (fun _ _=>rfl)) ai (fun _ _=>rfl)))))) bg)
  (aq (aM (bO (ae (ao cI (pv 4) ai (fun _ _=>rfl)) (ae (pv 5) af))))))))))),?_⟩
 refine⟨_,rfl,a,ns,0,rfl,hS,_,_,rfl,rfl,(show (0:Int)<_ by decide),?_⟩
 have hw1:=ng (ns.getD 0 0) (show (5:Int)≠0 by decide)
 have hw2:=nh (ns.getD 0 0) (show (0:Int)<5 by decide)
 refine⟨_,rfl,rfl,_,rfl,bE (fun c=>?_) (fun c=>?_)⟩
 ·have c':ns.getD 0 0 % 5=4:=by simpa using c
  refine⟨_,rfl,_,rfl,lc,_,rfl,ak.of hc,fun l hl=>?_⟩
  rw[show (10:Int)=((10:Nat):Int)from rfl,Ei,<-u0]
  generalize e_:ad H l (HO.lst ((ms.take 10).map V.int))=H1
  obtain⟨s1,x1⟩:=aI hl e_
  refine⟨_,rfl,a,ns,1,rfl,s1.seq hS,l,ms.take 10,_,rfl,ak.of x1,by rw[zLT];omega,fun v1 v2 t oa ob H2 s2 ht h1 h2 ha hb l1 l2=>?_⟩
  have ka:=Ee (b:=1) (l:=oa) fun u hu=>by
   obtain⟨x,rfl,hx1,hx2⟩:=ha u hu
   exact⟨hx1,aE _,fun y hy=>by simp[Tm.bl]at hy;rw[hy];exact hx2⟩
  have kb:=Ee (b:=3) (l:=ob) fun u hu=>K3 (hb u hu)
  exact q t v1 v2 (cP oa,cP ob) H2 (s1.trans s2) ht h1 h2 ka.1 kb.1 (by have h3:=ka.2.1;have h4:=kb.2.1;show (cP oa).nodes+(cP ob).nodes<=60;omega) ka.2.2 kb.2.2 (K6 ha hb l1 l2) (fun z=>by omega)
 have c':¬ns.getD 0 0 % 5=4:=by simpa using c
 show cZ.nx _ _ _
 with_reducible show fu _ _ _ _ _
 refine fW (fun σ H5=>∃m:Nat,0<m/\(ns.getD 0 0 % 5=0->m=40)/\σ=[some (.ref a),some (.ref lc),some (.int (ns.getD 0 0 % 5)),some (.int (m:Nat)),none,none,none,none]/\av H H5) ?_ (fun key=>?_)
 rotate_left
 ·refine⟨(by show 4<=sizeLine;decide),fun l0 fl0=>?_⟩
  generalize e_:ad H l0 (HO.lst [.int 40,.int 3,.int 40,.int 5])=H1
  obtain⟨t0,z0⟩:=aI fl0 e_
  obtain⟨k,hk,hk0,ek⟩:∃k:Nat,0<k/\(ns.getD 0 0 % 5=0->k=40)/\dU [V.int 40,V.int 3,V.int 40,V.int 5] (ns.getD 0 0 % 5)=some (V.int (k:Nat)):=by
   rcases(by omega:ns.getD 0 0 % 5=0\/ns.getD 0 0 % 5=1\/ns.getD 0 0 % 5=2\/ns.getD 0 0 % 5=3)with e|e|e|e<;>rw[e]
   ·exact⟨40,by decide,fun _=>rfl,eO (j:=0) rfl⟩
   ·exact⟨3,by decide,fun z=>absurd z (by decide),eO (j:=1) rfl⟩
   ·exact⟨40,by decide,fun _=>rfl,eO (j:=2) rfl⟩
   ·exact⟨5,by decide,fun z=>absurd z (by decide),eO (j:=3) rfl⟩
  exact⟨_,rfl,l0,_,_,_,rfl,rfl,ak.of z0,ek,key _ _ ⟨k,hk,hk0,rfl,t0⟩⟩
 rintro σ H2 ⟨m,hm,hm0,rfl,s01⟩
 have hS2:=s01.seq hS
 have x1:=s01 _ _ hc
 refine⟨_,rfl,_,rfl,lc,ms,m,rfl,ak.of x1,by omega,hm,fun rr lf lp y0 y1 y2 d seen pv fl H3 s3 hrr hlf hy0 hy1 hy2 hid hdn _ _ hseen hcall hsl _=>?_⟩
 have hS3:=s3.seq hS2
 have x3:=s3 _ _ x1
 obtain⟨hh0,hh1,ok0,ok1,ok2,hn0,hn1⟩:=hid
 have hfl:fl.length<=16:=by
  have:=congrArg iG hseen
  rw[zLM]at this
  omega
 refine⟨_,_,_,_,rfl,rfl,aj.of hrr,bP,_,rfl,lf,_,_,_,rfl,rfl,ak.of hlf,bW,?_⟩
 show cZ.nx _ _ _
 with_reducible show fu _ _ _ _ _
 refine fW (fun σ H6=>∃(yt:V)(t:Tm)(o8 o9:Option V),σ=[some (.ref a),some (.ref lc),some (.int (ns.getD 0 0 % 5)),some (.int (m:Nat)),some (.ref lf),some yt,o8,o9]/\av H3 H6/\ay H6 yt t/\t.nodes<=18/\t.Ok/\(∀x∈t.bl,x.cps.toList.length<=39)/\(ns.getD 0 0 % 5=0->t=d.2.1)) ?_ (fun key=>?_)
 rotate_left
 ·refine⟨_,rfl,rfl,_,rfl,bE (fun c=>?_) (fun c=>cg (key _ _ ⟨y1,d.2.1,none,none,rfl,av.refl _,hy1,by omega,ok1,ub d.2.2 d.2.1 hh1,fun _=>rfl⟩))⟩
  have c2':ns.getD 0 0 % 5=2:=by simpa using c
  refine⟨_,rfl,(by show 0<=sizeLine;decide),fun e fe=>?_⟩
  generalize e_:ad H3 e (HO.lst [])=H4
  obtain⟨t4,z4⟩:=aI fe e_
  refine⟨lc,e,_,rfl,rfl,t4 _ _ x3,z4,_,rfl,bE (fun c2=>?_) (fun c2=>key _ _ ⟨y1,d.2.1,none,none,rfl,t4,hy1.mono (.of t4),by omega,ok1,ub d.2.2 d.2.1 hh1,fun _=>rfl⟩)⟩
  have hmp:0<ms.length:=by
   cases ms with
   |nil=>simp at c2
   |cons x r=>simp
  have hS4:=t4.seq hS3
  have x4:=t4 _ _ x3
  with_reducible show fu _ _ _ _ _
  refine fW (fun σ H5=>∃sp:Nat,sp<ms.length/\σ=[some (.ref a),some (.ref lc),some (.int (ns.getD 0 0 % 5)),some (.int (m:Nat)),some (.ref lf),some y1,some (.int (sp:Nat)),none]/\H4=H5) ?_ (fun key2=>?_)
  rotate_left
  ·refine⟨_,rfl,a,ns,1,rfl,hS4,_,rfl,lc,_,rfl,.inl (ak.of x4),_,_,rfl,rfl,(show (0:Int)<_ by rw[zLM];omega),?_⟩
   generalize ns.getD 1 0=n1
   obtain⟨k,ek⟩:=rD (a:=n1 % ((ms.map V.int).length:Int)) (ng _ (by rw[zLM];omega))
   have hb:n1 % ((ms.map V.int).length:Int)<((ms.map V.int).length:Int):=nh _ (by rw[zLM];omega)
   rw[zLM]at hb ek
   exact key2 _ _ ⟨k,by omega,congrArg (fun z:Int=>[some (V.ref a),some (.ref lc),some (.int (ns.getD 0 0 % 5)),some (.int (m:Nat)),some (.ref lf),some y1,some (.int z),none]) (by rw[zLM];exact ek),rfl⟩
  rintro σ H5 ⟨sp,hsp,rfl,e5⟩
  subst e5
  refine⟨_,rfl,_,rfl,_,rfl,lc,_,rfl,ak.of x4,fun p1 fp1=>?_⟩
  rw[Ei]
  generalize e_:ad H4 p1 (HO.lst ((ms.map V.int).take sp))=H5
  obtain⟨t5,z5⟩:=aI fp1 e_
  refine⟨_,rfl,_,rfl,lc,_,_,.int ms[sp],rfl,rfl,ak.of (t5 _ _ x4),eO (by rw[cW,zGE hsp];rfl),_,_,rfl,rfl,(by show 1<=sizeLine;decide),fun p2 fp2=>?_⟩
  generalize e_:ad H5 p2 (HO.lst [.int (ms[sp]+6)])=H6
  obtain⟨t6,z6⟩:=aI fp2 e_
  refine⟨p1,p2,_,_,rfl,rfl,t6 _ _ z5,z6,cO (show _<=100 by simp only[zLT,zLM,zLC,zLN];omega) (by decide),fun p3 fp3=>?_⟩
  generalize e_:ad H6 p3 (HO.lst ((ms.map V.int).take sp++[.int (ms[sp]+6)]))=H7
  obtain⟨t7,z7⟩:=aI fp3 e_
  refine⟨_,rfl,_,rfl,_,_,rfl,rfl,_,rfl,lc,_,rfl,ak.of ((t5.trans (t6.trans t7)) _ _ x4),fun p4 fp4=>?_⟩
  rw[show (sp:Int)+1=((sp+1:Nat):Int)from rfl,Lm]
  generalize e_:ad H7 p4 (HO.lst ((ms.map V.int).drop (sp+1)))=H8
  obtain⟨t8,z8⟩:=aI fp4 e_
  refine⟨p3,p4,_,_,rfl,rfl,t8 _ _ z7,z8,cO (show _<=200 by simp only[zLA,zLT,dh,zLM,zLC,zLN];omega) (by decide),fun p5 fp5=>?_⟩
  obtain⟨ms2,ems2,hms2⟩:∃ms2:List Int,(ms.map V.int).take sp++[V.int (ms[sp]+6)]++(ms.map V.int).drop (sp+1)=ms2.map V.int/\ms2.length=ms.length:=by
   refine⟨ms.take sp++[ms[sp]+6]++ms.drop (sp+1),by simp only[zMA,u0,u3,bM,i0],?_⟩
   simp only[zLA,zLT,dh,zLC,zLN]
   omega
  rw[ems2]
  generalize e_:ad H8 p5 (HO.lst (ms2.map V.int))=H9
  obtain⟨t9,z9⟩:=aI fp5 e_
  have s49:=t5.trans (t6.trans (t7.trans (t8.trans t9)))
  have hS9:=s49.seq hS4
  refine⟨_,rfl,_,rfl,p5,ms2,m,rfl,ak.of z9,by omega,hm,fun rr' lf' lp' w0 w1 w2 d' seen' pv' fl' HA sA hrr' hlf' hw0 hw1 hw2 hid' hdn' _ _ _ _ _ _=>?_⟩
  have hSA:=sA.seq hS9
  obtain⟨hh0',hh1',ok0',ok1',ok2',hn0',hn1'⟩:=hid'
  exact⟨_,_,_,_,rfl,rfl,aj.of hrr',bP,lf',_,_,_,rfl,rfl,ak.of hlf',bW,key _ _ ⟨w1,d'.2.1,_,_,rfl,t4.trans (s49.trans sA),hw1,by omega,ok1',ub d'.2.2 d'.2.1 hh1',fun z=>by omega⟩⟩
 rintro σ H6 ⟨yt,t,o8,o9,rfl,s6,ht,htn,hto,htw,hteq⟩
 refine⟨_,rfl,lf,_,_,_,rfl,rfl,ak.of (s6 _ _ hlf),bP,_,rfl,(by show 2<=sizeLine;decide),fun tt ftt=>?_⟩
 have s7:=bG ftt (HO.tup [y0,yt])
 refine q tt y0 yt (d.1,t) _ (s01.trans (s3.trans (s6.trans s7))) au (hy0.mono (.of (s6.trans s7))) (ht.mono (.of s7)) ok0 hto (by show d.1.nodes+t.nodes<=60;omega) (ub d.2.2 d.1 hh0) htw (KU (by show d.1.nodes+t.nodes<=36;omega)) fun z=>?_
 obtain rfl:=hteq z
 have hm40:=hm0 z
 subst hm40
 rw[<-hseen]at hh0 hh1
 have e0:=DW (m:=40) (by omega) (by omega) hcall d.2.2 d.1 hh0
 have e1:=DW (m:=40) (by omega) (by omega) hcall d.2.2 d.2.1 hh1
 exact⟨bh fl,e0.trans e1.symm⟩
end
section
variable{P:aQ}{w:aH}{K:aA}{mg:aa->Option ac}{base:az}
inductive Ek(vs:List V)(H:Hp)(Q:VK):Prop
 |mk:∀(L:Addr)(ls:List V)(fs:List Lf)(d:Addr)(kvs:List (Key×V))(ks:List aa)(E:aa->Tm),(vs=[.ref L,.ref d])->(H L=some (.lst ls))->(eG H ls fs)->(H d=some (.dK kvs))->(DS kvs ks)->((∀x∈ks,∃(n:Nat)(z:Lf),ck kvs (Sum.inr x)=some (.int (n:Nat))/\fs[n]?=some z/\z.1.2=E x))->(ks.length<=1000)->(∀(d2:Addr)(kv2:List (Key×V))(H':Hp),av H H'->H d2=none->H' d2=some (.dK kv2)->da H' kv2 (dI ks E)->Q (.ref d2) H')->Ek vs H Q
def xr:Sp:=fun vs H Q _=>Ek vs H Q
theorem Lp{f:Addr}{fd:be}(F:bB K "ends_by_word" "ends_by_word" mH f fd):bf P w K mg base bp 1 f fd ["lines","numbers"] xr:=by
 refine F.ok tE (fun vs H Q E h=>?_) (fun cdv A outer s H vs Q E hr h=>?_)
 ·obtain⟨_,_,_,_,_,_,_,rfl,_⟩:=h
  rfl
 obtain⟨L,ls,fs,d,kvs,ks,Ef,rfl,hL,hls,hd,hds,hval,hkl,q⟩:=h
 have hun:=hr.un
 have hu:(A.deeper (gh "ends_by_word" (ax mH) s.heap.objs.size f cdv)).units+1<cLine:=by omega
 have hkk:kvs.length=ks.length:=by have:=congrArg iG hds.keys;simpa using this
 refine⟨_,(al (aB (i:=2) tE.nd rfl (Or.inl rfl) lY)
  (al (Kn (dR cx rfl (Ku (pv 1)) (zV rfl (rR (cz (i:=3) tE.nd rfl (Or.inl rfl)) (rR (cz (i:=4) tE.nd rfl (Or.inl rfl)) zU))) (aq (lX hu (pv 2) (pv 3) (ao aw (ao cI (pv 0) (pv 4) (fun _ _=>rfl)) ai (fun _ _=>rfl)) rfl))))
  (aq (aM (pv 2))))),?_⟩
 refine fun e fe=>?_
 generalize e_:ad H e (HO.dK [])=H1
 obtain⟨s1,x1⟩:=aI fe e_
 have hd1:=s1 _ _ hd
 have nde:d≠e:=aF hd fe
 refine⟨d,kvs,hd1,_,rfl,d,kvs,rfl,hd1,fun o=>?_⟩
 have kf:∀b ob,H1 b=some ob->b≠d->ad H1 d (HO.frz o (.dK kvs)) b=some ob:=fun b ob z hb=>by rw[am hb];exact z
 have xf:ad H1 d (HO.frz o (.dK kvs)) d=some _:=au
 generalize ad H1 d (HO.frz o (.dK kvs))=Hf at kf xf |-
 refine Kv (a:=d) (o:=o) (kvs:=kvs) (fun i σ HX=>∃(o3 o4:Option V)(kv2:List (Key×V)),σ=[some (.ref L),some (.ref d),some (.ref e),o3,o4]/\(∀b ob,H b=some ob->b≠d->HX b=some ob)/\HX d=some (.frz o (.dK kvs))/\HX e=some (.dK kv2)/\da HX kv2 (dI (ks.take i) Ef)/\kv2.length<=i)
  ⟨none,none,[],rfl,fun b ob z hb=>kf _ _ (s1 _ _ z) hb,xf,kf _ _ x1 nde.symm,.nil,aE _⟩ (fun i σ HX _ ⟨_,_,_,_,_,z,_⟩=>z) ?_ ?_
 ·rintro i kv q0 σ HX hkv ⟨o3,o4,kv2,rfl,kX,gd,ge,hk2,hl2⟩ fq0
  obtain⟨x,hx,ek,ev⟩:=hds.get hkv
  obtain⟨hi,ex⟩:=bI.mp hx
  obtain⟨n,z,ev2,hz,ez⟩:=hval x (zMG hx)
  rw[ev]at ev2
  obtain⟨kv1,kvv⟩:=kv
  simp only at ek ev2
  cases ek
  cases ev2
  have t1:=bG fq0 (HO.tup [kV (Sum.inr x),.int (n:Nat)])
  have z1:ad HX q0 (HO.tup [kV (Sum.inr x),.int (n:Nat)]) q0=some _:=au
  have kT:aR H HX:=fun b xs z=>kX _ _ z (ce z hd (by intro z;cases z))
  obtain⟨a,u,v,r,hat,ha,hr',hu1,hv1⟩:=iS (eG.mono kT hls) hz
  refine⟨q0,_,rfl,aj.of z1,rfl,_,_,rfl,_,_,rfl,rfl,?_⟩
  generalize ad HX q0 (HO.tup [kV (Sum.inr x),.int (n:Nat)])=HY at t1 z1 |-
  have geY:=t1 _ _ ge
  have hLY:=t1 _ _ (kX _ _ hL (ce hL hd (by intro z;cases z)))
  refine⟨_,rfl,_,rfl,L,_,_,_,rfl,rfl,ak.of hLY,hat,_,_,_,_,rfl,rfl,aj.of (t1 _ _ ha),bW,_,rfl,_,rfl,e,_,rfl,gK.k (k:=Sum.inr x) geY (big (by omega)),?_⟩
  have hnone:ck kv2 (Sum.inr x)=none:=by
   refine(hk2.dof x).1 (kW ?_)
   intro y
   rw[dI,kj]at y
   have y':x∈ks.take i:=by simpa[zF]using y
   obtain⟨j,hj,ej⟩:=ja.mp y'
   rw[zLT]at hj
   rw[oX]at ej
   exact(m6.mp hds.nd j i (by omega) hi (by omega)) (ej.trans ex.symm)
  rw[L2.AZ _ hnone]
  have kE:aR HY (ad HY e (HO.dK (kv2++[(Sum.inr x,v)]))):=fun b ys y=>by rw[am (ce y geY (by intro z;cases z))];exact y
  have hv':ay HY v z.1.2:=hv1.mono (.of t1)
  refine⟨_,_,_,rfl,fun b ob y hb=>by rw[am (aF y fe)];exact t1 _ _ (kX _ _ y hb),by rw[am nde];exact t1 _ _ gd,au,?_,by simp;omega⟩
  have etk:dI (ks.take (i+1)) Ef=dI (ks.take i) Ef++[(x,Ef x)]:=by
   rw[zTS hi,dI,zMA,ex]
   rfl
  rw[etk]
  exact ld (da.mono ((aR.of t1).trans kE) hk2) ⟨rfl,by show ay _ v (Ef x);rw[<-ez];exact hv'.mono kE⟩
 ·rintro σ HX ⟨o3,o4,kv2,rfl,kX,gd,ge,hk2,hl2⟩
  rw[hkk,dD (aE _)]at hk2
  refine⟨o,gd,_,rfl,?_⟩
  have kD:aR HX (ad HX d (HO.dK kvs)):=fun b ys y=>by rw[am (ce y gd (by intro z;cases z))];exact y
  refine q e kv2 _ (fun b ob y=>?_) fe (by rw[am nde.symm];exact ge) (da.mono kD hk2)
  by_cases c:b=d
  ·subst c
   rw[au,<-y,hd]
  ·rw[am c];exact kX _ _ y c
def iA(ends f:Fl)(e:Tm):List aa:=e.firsts.filter fun y=>(look ends y).isSome&&(look f y).isNone
theorem j3{H:Hp}{d:Addr}{kvs:List (Key×V)}{f:Fl}(hr:Rd H d (.dK kvs))(hk:da H kvs f)(x:aa):(look f x=none->bT H d (.str x) none)/\∀t,look f x=some t->∃v,bT H d (.str x) (some v)/\ay H v t:=by
 have h0:bT H d (.str x) (ck kvs (Sum.inr x)):= .inl ⟨kvs,Sum.inr x,hr,rfl,rfl⟩
 refine⟨fun e=>?_,fun t e=>?_⟩
 ·rw[(hk.dof x).1 e]at h0;exact h0
 ·obtain⟨v,e1,e2⟩:=(hk.dof x).2 t e
  rw[e1]at h0
  exact⟨v,h0,e2⟩
theorem El{H H':Hp}{a:Addr}{u:HO}(s:av H H')(h:Rd H a u):Rd H' a u:=h.imp (fun e=>s _ _ e) fun⟨o,e⟩=>⟨o,s _ _ e⟩
inductive Em(vs:List V)(H:Hp)(Q:VK):Prop
 |mk:∀(de:Addr)(ke:List (Key×V))(ends:Fl)(dt:Addr)(kt:List (Key×V))(f:Fl)(x:aa)(e:Tm),(vs=[.ref de,.ref dt,.str x])->(Rd H de (.dK ke))->(da H ke ends)->(Rd H dt (.dK kt))->(da H kt f)->(look ends x=some e)->(e.nodes<=900)->(∀(l:Addr)(H':Hp),av H H'->H l=none->H' l=some (.lst ((iA ends f e).map V.str))->Q (.ref l) H')->Em vs H Q
def ud:Sp:=fun vs H Q _=>Em vs H Q
theorem Lq{f0:Addr}{fd:be}(F:bB K "words_ahead" "words_ahead" mK f0 fd)(c_blanks_of:aO P w K mg base 2 "blanks_of" ["term"] lv):bf P w K mg base bp 3 f0 fd ["ends","terms","word"] ud:=by
 refine F.ok Jz (fun vs H Q E h=>?_) (fun cdv A outer s H vs Q E hr h=>?_)
 ·obtain⟨_,_,_,_,_,_,_,_,rfl,_⟩:=h
  rfl
 obtain⟨de,ke,ends,dt,kt,f,x,e,rfl,hde,hke,hdt,hkt,hlk,hen,q⟩:=h
 have hun:=hr.un
 have hu:(A.deeper (gh "words_ahead" (ax mK) s.heap.objs.size f0 cdv)).units+1<cLine:=by omega
 refine⟨_,(aq (aM (kS (Nc:=["needed","ends","terms"]) (k:=1) (js:=[0,1]) ⟨rfl,rfl,rfl,rfl,rfl,rfl⟩ (eC (a0 c_blanks_of (hr.mono (by decide)) (ae (nE hu (pv 0) (pv 2) (fun _ _=>rfl)) af))) (fun _ _ _ _=>cz (i:=0) (show (["needed","ends","terms"]:List aa).Nodup by decide +kernel) rfl (Or.inl rfl)) (fun _ _ _ _=>sw (kr (rO (GX hu (pv 0) (pv 1))) (kq (rO (vQ hu (pv 0) (pv 2))))).pt) (fun _ _ _ _=>(pv 0))))),?_⟩
 obtain⟨v,hget,hv⟩:=(j3 hde hke x).2 e hlk
 refine⟨_,rfl,_,rfl,de,v,rfl,hget,v,e,rfl,hv,by omega,fun lb H1 s1 hlb=>⟨lb,rfl,⟨_,ak.of hlb⟩,fun D fD _ _ _ _=>?_⟩⟩
 refine v9 (K:=K) (a:=lb) (xs:=e.firsts.map V.str) (fun i σ HX=>∃(o:Option V),σ=[o,some (.ref de),some (.ref dt)]/\av H1 HX/\HX D=some (.lst (((e.firsts.take i).filter fun y=>(look ends y).isSome&&(look f y).isNone).map V.str)))
  ⟨none,rfl,bG fD _,au⟩ (fun i σ HX _ ⟨_,_,sX,_⟩=>sX.seq (ak.of hlb)) ?_ ?_
 ·rintro i y σ HX hy ⟨o,rfl,sX,gD⟩
  have hi:i<e.firsts.length:=by have:=(bI.mp hy).1;simpa using this
  have ey:y= .str e.firsts[i]:=by
   rw[cW,zGE hi]at hy
   exact(cv hy).symm
  subst ey
  have sHX:=s1.trans sX
  have hde':=El sHX hde
  have hdt':=El sHX hdt
  have hke':=hke.mono (.of sHX)
  have hkt':=hkt.mono (.of sHX)
  have etk:e.firsts.take (i+1)=e.firsts.take i++[e.firsts[i]]:=zTS hi
  have hfl:=oP e
  have hbl:=kU e
  have hfll:((e.firsts.take i).filter fun y=>(look ends y).isSome&&(look f y).isNone).length<=i:=cO (qZ _ _) (by rw[zLT];omega)
  have no:((look ends e.firsts[i]).isSome&&(look f e.firsts[i]).isNone)=false->HX D=some (.lst (((e.firsts.take (i+1)).filter fun y=>(look ends y).isSome&&(look f y).isNone).map V.str)):=fun z=>by
   rw[etk,m7,m8,z]
   simpa using gD
  cases hl1:look ends e.firsts[i]with
  |none=>
   exact⟨_,rfl,_,rfl,de,_,rfl,(j3 hde' hke' _).1 hl1,_,rfl,bc (by simp) (cg ⟨_,rfl,sX,no (by rw[hl1];rfl)⟩)⟩
  |some t1=>
   obtain⟨v1,hg1,_⟩:=(j3 hde' hke' _).2 t1 hl1
   cases hl2:look f e.firsts[i]with
   |some t2=>
    obtain⟨v2,hg2,_⟩:=(j3 hdt' hkt' _).2 t2 hl2
    exact⟨_,rfl,_,rfl,de,_,rfl,hg1,_,rfl,cK (by simp) ⟨_,rfl,_,rfl,dt,_,rfl,hg2,_,rfl,bc (by simp) ⟨_,rfl,sX,no (by rw[hl2];simp)⟩⟩⟩
   |none=>
    refine⟨_,rfl,_,rfl,de,_,rfl,hg1,_,rfl,cK (by simp) ⟨_,rfl,_,rfl,dt,_,rfl,(j3 hdt' hkt' _).1 hl2,_,rfl,cK (by simp) ⟨_,rfl,_,gD,big (by rw[zLM];omega),?_⟩⟩⟩
    refine⟨_,rfl,fun b ob z=>by rw[am (aF z fD)];exact sX _ _ z,?_⟩
    rw[au,etk,m7,m8,hl1,hl2]
    simp
 ·rintro σ HX ⟨o,rfl,sX,gD⟩
  rw[zLM,dD (aE _)]at gD
  exact q D HX (s1.trans sX) (s1.free fD) gD
end
section
variable{P:aQ}{w:aH}{K:aA}{mg:aa->Option ac}{base:az}
def iB(ends f:Fl)(p:aa×Tm):Bool:=(look f p.1).isNone&&(iA ends f p.2).isEmpty
def fM(ends f:Fl):List aa:=(ends.filter (iB ends f)).map (·.1)
structure mP(H:Hp)(de:Addr)(ke:List (Key×V))(ends:Fl):Prop where
 at':H de=some (.dK ke)
 kv:da H ke ends
 nd:(ends.map (·.1)).Nodup
 sz:∀p∈ends,p.2.nodes<=90
 len:ends.length<=1000
inductive En(vs:List V)(H:Hp)(Q:VK):Prop
 |mk:∀(de:Addr)(ke:List (Key×V))(ends:Fl)(dt:Addr)(kt:List (Key×V))(f:Fl),(vs=[.ref de,.ref dt])->(mP H de ke ends)->(H dt=some (.dK kt))->(da H kt f)->(de≠dt)->(∀(l:Addr)(H':Hp),av H H'->H l=none->H' l=some (.lst ((fM ends f).map V.str))->Q (.ref l) H')->En vs H Q
def xt:Sp:=fun vs H Q _=>En vs H Q
theorem Eo{H:Hp}{kvs:List (Key×V)}{f:Fl}(h:da H kvs f){i:Nat}{kv:Key×V}(e:kvs[i]?=some kv):∃p,f[i]?=some p/\kv.1=Sum.inr p.1/\ay H kv.2 p.2:=by
 obtain⟨p,h1,h2,h3⟩:=pP h e
 exact⟨p,h1,h2,h3⟩
theorem xu{f:Fl}(hn:(f.map (·.1)).Nodup){p:aa×Tm}(h:p∈f):look f p.1=some p.2:=by
 induction f with
 |nil=>cases h
 |cons a r ih=>
  rw[bM,iZ]at hn
  rw[sH]
  rcases bo.mp h with z|z
  ·rw[<-z];simp
  ·rw[if_neg (fun e=>hn.1 (by rw[e];exact bK.mpr ⟨_,z,rfl⟩))]
   exact ih hn.2 z
theorem Lr{f0:Addr}{fd:be}(F:bB K "ready_words" "ready_words" mJ f0 fd)(c_words_ahead:aO P w K mg base 3 "words_ahead" ["ends","terms","word"] ud):bf P w K mg base bp 4 f0 fd ["ends","terms"] xt:=by
 refine F.ok Jy (fun vs H Q E h=>?_) (fun cdv A outer s H vs Q E hr h=>?_)
 ·obtain⟨_,_,_,_,_,_,rfl,_⟩:=h
  rfl
 obtain⟨de,ke,ends,dt,kt,f,rfl,he,hdt,hkt,nedt,q⟩:=h
 have hun:=hr.un
 have hu:(A.deeper (gh "ready_words" (ax mJ) s.heap.objs.size f0 cdv)).units+1<cLine:=by omega
 have hkl:=he.kv.len
 have hel:=he.len
 refine⟨_,(aq (aM (Dz (kS (Nc:=["word","terms","ends"]) (k:=1) (js:=[1,0]) ⟨rfl,rfl,rfl,rfl,rfl,rfl⟩ (DA (pv 0)) (fun _ _ _ _=>cz (i:=0) (show (["word","terms","ends"]:List aa).Nodup by decide +kernel) rfl (Or.inl rfl)) (fun _ _ _ _=>sw (kr (rO (vQ hu (pv 0) (pv 1))) (kq (e8 (ny (a0 c_words_ahead (hr.mono (by decide)) (ae (pv 2) (ae (pv 1) (ae (pv 0) af)))) (fun _=>rfl))))).pt) (fun _ _ _ _=>(pv 0)))))),?_⟩
 refine⟨de,ke,he.at',_,rfl,de,ke,rfl,he.at',fun o D fD _ _ _ _=>?_⟩
 have kf:∀b ob,H b=some ob->b≠de->ad H de (HO.frz o (.dK ke)) b=some ob:=fun b ob z hb=>by rw[am hb];exact z
 have xf:ad H de (HO.frz o (.dK ke)) de=some _:=au
 have fD0:H D=none:=by
  cases e:H D with
  |none=>rfl
  |some ob=>
   by_cases c:D=de
   ·rw[c,xf]at fD;cases fD
   ·rw[kf _ _ e c]at fD;cases fD
 have nDe:D≠de:=fun z=>by rw[z,xf]at fD;cases fD
 have sD:=bG fD (HO.lst [])
 have xD:ad (ad H de (HO.frz o (.dK ke))) D (HO.lst []) D=some _:=au
 generalize ad (ad H de (HO.frz o (.dK ke))) D (HO.lst [])=HD at sD xD |-
 generalize ad H de (HO.frz o (.dK ke))=Hf at kf xf fD sD
 refine DB (a:=de) (o:=o) (kvs:=ke) (fun i σ HX=>∃(o1:Option V),σ=[o1,some (.ref dt),some (.ref de)]/\av Hf HX/\HX D=some (.lst ((((ends.take i).filter (iB ends f)).map (·.1)).map V.str)))
  ⟨none,rfl,sD,xD⟩ (fun i σ HX _ ⟨_,_,sX,_⟩=>sX _ _ xf) ?_ ?_
 ·rintro i kv σ HX hkv ⟨o1,rfl,sX,gD⟩
  obtain⟨p,hp,ek,_⟩:=Eo he.kv hkv
  obtain⟨kv1,kvv⟩:=kv
  simp only at ek
  cases ek
  obtain⟨hi,ep⟩:=bI.mp hp
  have hpm:=zMG hp
  have kX:aR H HX:=fun b xs z=>sX _ _ (kf _ _ z (ce z he.at' (by intro z;cases z)))
  have hde':Rd HX de (.dK ke):= .inr ⟨o,sX _ _ xf⟩
  have hdt':Rd HX dt (.dK kt):= .inl (sX _ _ (kf _ _ hdt nedt.symm))
  have hke':=he.kv.mono kX
  have hkt':=hkt.mono kX
  have hlk:=xu he.nd hpm
  have hsz:=he.sz p hpm
  have etk:ends.take (i+1)=ends.take i++[p]:=by rw[zTS hi,ep]
  have hfl:((ends.take i).filter (iB ends f)).length<=i:=cO (qZ _ _) (by rw[zLT];omega)
  have no:iB ends f p=false->∀HZ:Hp,HZ D=HX D->HZ D=some (.lst ((((ends.take (i+1)).filter (iB ends f)).map (·.1)).map V.str)):=fun z HZ e=>by
   rw[etk,m7,m8,z,e]
   simpa using gD
  cases hl2:look f p.1 with
  |some t2=>
   obtain⟨v2,hg2,_⟩:=(j3 hdt' hkt' _).2 t2 hl2
   exact⟨_,rfl,_,rfl,dt,_,rfl,hg2,_,rfl,bc (by simp) (cg ⟨_,rfl,sX,no (by unfold iB;rw[hl2];rfl) _ rfl⟩)⟩
  |none=>
   refine⟨_,rfl,_,rfl,dt,_,rfl,(j3 hdt' hkt' _).1 hl2,_,rfl,cK (by simp) ⟨_,rfl,_,rfl,_,rfl,de,ke,ends,dt,kt,f,p.1,p.2,rfl,hde',hke',hdt',hkt',hlk,by omega,fun l HY sY fl gl=>⟨_,.inl ⟨_,ak.of gl,rfl⟩,bE (fun c=>?_) (fun c=>?_)⟩⟩⟩
   ·have hemp:iA ends f p.2=[]:=by
     cases z:iA ends f p.2 with
     |nil=>rfl
     |cons a b=>rw[z]at c;simp at c
    have hrd:iB ends f p=true:=by unfold iB;rw[hl2,hemp];rfl
    have gDY:=sY _ _ gD
    refine⟨_,rfl,_,gDY,big (by simp only[zLM];omega),?_⟩
    refine⟨_,rfl,fun b ob z=>by rw[am (aF z fD)];exact sY _ _ (sX _ _ z),?_⟩
    rw[au,etk,m7,m8,hrd]
    simp[kV]
   ·have hemp:iB ends f p=false:=by
     unfold iB
     cases z:iA ends f p.2 with
     |nil=>rw[z]at c;simp at c
     |cons a b=>simp
    exact⟨_,rfl,sX.trans sY,no hemp HY (by rw[sY _ _ gD,gD])⟩
 ·rintro σ HX ⟨o1,rfl,sX,gD⟩
  rw[hkl,dD (aE _)]at gD
  refine⟨o,sX _ _ xf,q D _ (fun b ob z=>?_) fD0 (by rw[am nDe];exact gD)⟩
  by_cases c:b=de
  ·subst c
   rw[au,<-z,he.at']
  ·rw[am c];exact sX _ _ (kf _ _ z c)
theorem mP.same{H H':Hp}{de:Addr}{ke:List (Key×V)}{ends:Fl}(s:av H H')(h:mP H de ke ends):mP H' de ke ends:=⟨s _ _ h.at',h.kv.mono (.of s),h.nd,h.sz,h.len⟩
theorem Ep{ends f:Fl}{x:aa}:x∈fM ends f↔∃p∈ends,p.1=x/\look f x=none/\iA ends f p.2=[]:=by
 unfold fM
 rw[bK]
 constructor
 ·rintro⟨p,hp,rfl⟩
  obtain⟨h1,h2⟩:=kg.mp hp
  unfold iB at h2
  rw[h8]at h2
  exact⟨p,h1,rfl,vk.mp h2.1,List.isEmpty_iff.mp h2.2⟩
 ·rintro⟨p,hp,rfl,h1,h2⟩
  refine⟨p,kg.mpr ⟨hp,?_⟩,rfl⟩
  unfold iB
  rw[h1,h2]
  rfl
theorem Ls{ends f:Fl}{e:Tm}(h:iA ends f e=[]):∀y∈e.bl,look ends y≠none->look f y≠none:=fun y hy h1 h2=>by
 have:y∈iA ends f e:=by
  refine kg.mpr ⟨jn.mpr hy,?_⟩
  rw[h2]
  cases z:look ends y with
  |none=>exact absurd z h1
  |some _=>rfl
 rw[h]at this
 cases this
theorem qr{f:Fl}{x:aa}:look f x≠none↔x∈f.map (·.1):=by
 constructor
 ·intro h
  cases e:look f x with
  |none=>exact absurd e h
  |some t=>exact bK.mpr ⟨_,gQ e,rfl⟩
 ·intro h e
  obtain⟨t,e'⟩:=sJ h
  rw[e]at e'
  cases e'
inductive Er(vs:List V)(H:Hp)(Q:VK):Prop
 |mk:∀(de:Addr)(ke:List (Key×V))(ends:Fl),(vs=[.ref de])->(mP H de ke ends)->(∀(dt:Addr)(kt:List (Key×V))(f:Fl)(H':Hp),av H H'->H dt=none->H' dt=some (.dK kt)->da H' kt f->dZ ends f->fM ends f=[]->Q (.ref dt) H')->Er vs H Q
def xx:Sp:=fun vs H Q _=>Er vs H Q
theorem Lu{f0:Addr}{fd:be}(F:bB K "settled" "settled" mI f0 fd)(c_ready_words:aO P w K mg base 4 "ready_words" ["ends","terms"] xt)(c_replaced:aO P w K mg base 2 "replaced" ["term","terms"] xj):bf P w K mg base bp 5 f0 fd ["ends"] xx:=by
 refine F.ok qf (fun vs H Q E h=>?_) (fun cdv A outer s H vs Q E hr h=>?_)
 ·obtain⟨_,_,_,rfl,_⟩:=h
  rfl
 obtain⟨de,ke,ends,rfl,he,q⟩:=h
 have hun:=hr.un
 have hu:(A.deeper (gh "settled" (ax mI) s.heap.objs.size f0 cdv)).units+1<cLine:=by omega
 have hel:=he.len
 have hfle:∀f:Fl,dZ ends f->f.length<=ends.length:=fun f hf=>by
  have hi:=hf.inv
  have:=iQ hi.1 (m:=ends.map (·.1)) fun x hx=>by
   obtain⟨p,hp,rfl⟩:=bK.mp hx
   obtain⟨e,h1,_⟩:=hi.2 p hp
   exact qr.mp (by rw[h1];simp)
  simpa using this
 refine⟨_,(al (aB (i:=1) qf.nd rfl (Or.inl rfl) lY)
  (al (aB (i:=2) qf.nd rfl (Or.inl rfl) (a0 c_ready_words (hr.mono (by decide)) (ae (pv 0) (ae (pv 1) af))))
  (al (ig cx (ny (pv 2) (fun _=>rfl)) (al (dR cx rfl (eC (pv 2)) (cz (i:=3) qf.nd rfl (Or.inl rfl)) (aq (lX hu (pv 1) (pv 3) (a0 c_replaced (hr.mono (by decide)) (ae (nE hu (pv 0) (pv 3) (fun _ _=>rfl)) (ae (pv 1) af))) rfl)))
        (aq (aB (i:=2) qf.nd rfl (Or.inl rfl) (a0 c_ready_words (hr.mono (by decide)) (ae (pv 0) (ae (pv 1) af)))))))
  (aq (aM (pv 1)))))),?_⟩
 refine fun dt fdt=>?_
 generalize e_:ad H dt (HO.dK [])=H1
 obtain⟨s1,x1⟩:=aI fdt e_
 have nde:de≠dt:=aF he.at' fdt
 refine⟨_,rfl,_,rfl,de,ke,ends,dt,[],[],rfl,he.same s1,x1,.nil,nde,fun l H2 s2 fl gl=>?_⟩
 refine⟨fun m σ HA=>∃(o3:Option V)(lr:Addr)(kt:List (Key×V))(f:Fl),σ=[some (.ref de),some (.ref dt),some (.ref lr),o3]/\av H HA/\HA dt=some (.dK kt)/\da HA kt f/\dZ ends f/\HA lr=some (.lst ((fM ends f).map V.str))/\ends.length - f.length=m,
  ⟨_,none,l,[],[],rfl,s1.trans s2,s2 _ _ x1,.nil,.nil,gl,rfl⟩,?_⟩
 rintro m σ HA ⟨o3,lr,kt,f,rfl,sA,gdt,hkt,hst,glr,hm⟩
 refine⟨_,rfl,_,.inl ⟨_,ak.of glr,rfl⟩,bE (fun c=>⟨_,fun _ _ h=>h,?_⟩) (fun c=>?_)⟩
 ·have hrne:fM ends f≠[]:=fun z=>by rw[z]at c;simp at c
  have hrnd:(fM ends f).Nodup:=by
   unfold fM
   exact List.Nodup.sublist (List.Sublist.map _ List.filter_sublist) he.nd
  have hrin:∀x∈fM ends f,∃e,look ends x=some e/\e.nodes<=90/\look f x=none/\iA ends f e=[]:=fun x hx=>by
   obtain⟨p,hp,rfl,h1,h2⟩:=Ep.mp hx
   exact⟨p.2,xu he.nd hp,he.sz p hp,h1,h2⟩
  have hrl:(fM ends f).length<=ends.length:=by
   unfold fM
   rw[zLM]
   exact qZ _ _
  generalize hrs:fM ends f=rs at hrne hrnd hrin hrl glr
  refine⟨_,rfl,lr,rfl,⟨_,ak.of glr⟩,ij (K:=K) (a:=lr) (xs:=rs.map V.str) (fun i σ HX=>∃(o:Option V)(kt':List (Key×V))(f':Fl),σ=[some (.ref de),some (.ref dt),some (.ref lr),o]/\av H HX/\HX lr=some (.lst (rs.map V.str))/\HX dt=some (.dK kt')/\da HX kt' f'/\dZ ends f'/\f'.map (·.1)=f.map (·.1)++rs.take i)
   ⟨_,kt,f,rfl,sA,glr,gdt,hkt,hst,by simp⟩ (fun i σ HX _ ⟨_,_,_,_,_,z,_⟩=>ak.of z) ?_ ?_⟩
  ·rintro i y σ HX hy ⟨o,kt',f',rfl,sX,glX,gdX,hkX,hstX,hkeys⟩
   have hi:i<rs.length:=by have:=(bI.mp hy).1;simpa using this
   have ey:y= .str rs[i]:=by
        rw[cW,zGE hi]at hy
        exact(cv hy).symm
   subst ey
   obtain⟨e,hle,hen,hlf,hah⟩:=hrin _ (zGM hi)
   have heX:=he.same sX
   obtain⟨v,hv1,hv⟩:=(heX.kv.dof rs[i]).2 e hle
   have hget:bT HX de (.str rs[i]) (some v):=by
        have:=bT.k (k:=Sum.inr rs[i]) heX.at'
        rw[hv1]at this
        exact this
   refine⟨_,rfl,_,rfl,de,v,rfl,hget,_,rfl,v,e,dt,kt',f',rfl,hv,by omega,gdX,hkX.dof,fun v' HY sY hv'=>?_⟩
   have gdY:=sY _ _ gdX
   have hkl:=hkX.len
   have hfl:=hfle f' hstX
   refine⟨_,rfl,_,rfl,dt,_,rfl,gK.k (k:=Sum.inr rs[i]) gdY (big (by omega)),?_⟩
   have hnew:rs[i]∉f'.map (·.1):=by
        rw[hkeys]
        intro z
        rcases br.mp z with z|z
        ·exact qr.mpr z hlf
        ·obtain⟨j,hj,ej⟩:=ja.mp z
         rw[zLT]at hj
         rw[oX]at ej
         exact(m6.mp hrnd j i (by omega) hi (by omega)) ej
   have hnone:ck kt' (Sum.inr rs[i])=none:=(hkX.dof rs[i]).1 (kW hnew)
   rw[L2.AZ _ hnone]
   have kE:aR HY (ad HY dt (HO.dK (kt'++[(Sum.inr rs[i],v')]))):=fun b ys y=>by rw[am (ce y gdY (by intro z;cases z))];exact y
   refine⟨_,_,f'++[(rs[i],e.fill f')],rfl,fun b ob z=>by rw[am (aF z fdt)];exact sY _ _ (sX _ _ z),by rw[am (ce (sY _ _ glX) gdY (by intro z;cases z))];exact sY _ _ glX,au,ld (da.mono ((aR.of sY).trans kE) hkX) ⟨rfl,hv'.mono kE⟩,.snoc hstX hle hnew (fun x hx h1=>?_),?_⟩
   ·rw[hkeys]
    exact eu _ (qr.mp (Ls hah x hx h1))
   ·rw[zMA,hkeys,zTS hi,dL]
    rfl
  ·rintro σ HX ⟨o,kt',f',rfl,sX,glX,gdX,hkX,hstX,hkeys⟩
   rw[zLM,dD (aE _)]at hkeys
   refine⟨_,rfl,_,rfl,de,ke,ends,dt,kt',f',rfl,he.same sX,gdX,hkX,nde,fun l2 HY sY fl2 gl2=>?_⟩
   have hlen:=congrArg iG hkeys
   rw[zLA,zLM,zLM]at hlen
   have h1:=hfle f' hstX
   have h2:0<rs.length:=yI.mpr hrne
   exact⟨_,by omega,_,l2,kt',f',rfl,sX.trans sY,sY _ _ gdX,hkX.mono (.of sY),hstX,gl2,rfl⟩
 ·have e0:fM ends f=[]:=by
   cases z:fM ends f with
   |nil=>rfl
   |cons a b=>rw[z]at c;exact absurd rfl c
  exact⟨_,rfl,q dt kt f HA sA fdt gdt hkt hst e0⟩
end
section
variable{P:aQ}{w:aH}{K:aA}{mg:aa->Option ac}{base:az}
theorem qt{H:Hp}:∀l:List aa,bU H (l.map V.str) (l.map Dt.str)
 |[]=>by simp[bU]
 |x::r=>by
  simp only[bM,bU]
  exact⟨_,_,rfl,by simp[aV],qt r⟩
theorem Lv(xs:List V)(i:Nat)(h:i<=xs.length):d7 xs (some (i:Int)) none=xs.drop i:=by
 unfold d7
 rw[HT.sIx_none,HT.sIx_nat,yo h]
 exact dD (by rw[dh];omega)
def Lx(ends:Fl)(ws:List aa):Prop:=ws≠[]/\∀i (h:i<ws.length),∃e,look ends ws[i]=some e/\ws[(i+1) % ws.length]'(d5 _ (by omega))∈e.bl/\look ends (ws[(i+1) % ws.length]'(d5 _ (by omega)))≠none
inductive Es(vs:List V)(H:Hp)(Q:VK):Prop
 |mk:∀(de:Addr)(ke:List (Key×V))(ends:Fl)(dt:Addr)(kt:List (Key×V))(f:Fl),(vs=[.ref de,.ref dt])->(mP H de ke ends)->(H dt=some (.dK kt))->(da H kt f)->(de≠dt)->(fM ends f=[])->((∃p∈ends,look f p.1=none))->(∀(l:Addr)(ws:List aa)(H':Hp),av H H'->H l=none->H' l=some (.lst (ws.map V.str))->Lx ends ws->ws.length<=1000->Q (.ref l) H')->Es vs H Q
def xz:Sp:=fun vs H Q _=>Es vs H Q
theorem Ly{f0:Addr}{fd:be}(F:bB K "ring_of" "ring_of" mL f0 fd)(c_words_ahead:aO P w K mg base 3 "words_ahead" ["ends","terms","word"] ud):bf P w K mg base bp 4 f0 fd ["ends","terms"] xz:=by
 refine F.ok tF (fun vs H Q E h=>?_) (fun cdv A outer s H vs Q E hr h=>?_)
 ·obtain⟨_,_,_,_,_,_,rfl,_⟩:=h
  rfl
 obtain⟨de,ke,ends,dt,kt,f,rfl,he,hdt,hkt,nedt,hrd,hex,q⟩:=h
 have hun:=hr.un
 have hu:(A.deeper (gh "ring_of" (ax mL) s.heap.objs.size f0 cdv)).units+1<cLine:=by omega
 have hkl:=he.kv.len
 have hel:=he.len
 have hnext:∀x,look ends x≠none->look f x=none->∃e y r,look ends x=some e/\e.nodes<=90/\iA ends f e=y::r/\y∈e.bl/\look ends y≠none/\look f y=none:=fun x h1 h2=>by
  cases z:look ends x with
  |none=>exact absurd z h1
  |some e=>
   have hm:=gQ z
   cases ha:iA ends f e with
   |nil=>
    have:x∈fM ends f:=Ep.mpr ⟨_,hm,rfl,h2,ha⟩
    rw[hrd]at this
    cases this
   |cons y r=>
    have hy:y∈iA ends f e:=by rw[ha];simp
    obtain⟨g1,g2⟩:=kg.mp hy
    rw[h8]at g2
    exact⟨e,y,r,rfl,he.sz _ hm,ha,jn.mp g1,fun y'=>by rw[y']at g2;simp at g2,vk.mp g2.2⟩
 refine⟨_,(al (aB (i:=2) tF.nd rfl (Or.inl rfl) (ao cI (Dz (kS (Nc:=["unsettled","terms"]) (k:=1) (js:=[1]) ⟨rfl,rfl,rfl,rfl,rfl,rfl⟩ (DA (pv 0)) (fun _ _ _ _=>cz (i:=0) (show (["unsettled","terms"]:List aa).Nodup by decide +kernel) rfl (Or.inl rfl)) (fun _ _ _ _=>sw (rO (vQ hu (pv 0) (pv 1)))) (fun _ _ _ _=>(pv 0)))) ai (fun _ _=>rfl)))
  (al (aB (i:=3) tF.nd rfl (Or.inl rfl) (bR af))
  (al (ig cx (aU sy (pv 2) (pv 3) (by with_unfolding_all rfl)) (al (cj (cp bY cX cY cT (pv 3) (ae (pv 2) af)))
        (aq (aB (i:=2) tF.nd rfl (Or.inl rfl) (ao cI (a0 c_words_ahead (hr.mono (by decide)) (ae (pv 0) (ae (pv 1) (ae (pv 2) af)))) ai (fun _ _=>rfl))))))
  (aq (aM (gn gJ (pv 3) (fT (cp bY zd ze B4 (pv 3) (ae (pv 2) af))) gI)))))),?_⟩
 refine⟨de,ke,he.at',_,rfl,de,ke,rfl,he.at',fun o D fD _ _ _ _=>?_⟩
 have kf:∀b ob,H b=some ob->b≠de->ad H de (HO.frz o (.dK ke)) b=some ob:=fun b ob z hb=>by rw[am hb];exact z
 have xf:ad H de (HO.frz o (.dK ke)) de=some _:=au
 have fD0:H D=none:=by
  cases e:H D with
  |none=>rfl
  |some ob=>
   by_cases c:D=de
   ·rw[c,xf]at fD;cases fD
   ·rw[kf _ _ e c]at fD;cases fD
 have nDe:D≠de:=fun z=>by rw[z,xf]at fD;cases fD
 have sD:=bG fD (HO.lst [])
 have xD:ad (ad H de (HO.frz o (.dK ke))) D (HO.lst []) D=some _:=au
 generalize ad (ad H de (HO.frz o (.dK ke))) D (HO.lst [])=HD at sD xD |-
 generalize ad H de (HO.frz o (.dK ke))=Hf at kf xf fD sD
 refine DB (a:=de) (o:=o) (kvs:=ke) (fun i σ HX=>∃(o1:Option V),σ=[o1,some (.ref dt)]/\av Hf HX/\HX D=some (.lst ((((ends.take i).filter fun p=>(look f p.1).isNone).map (·.1)).map V.str)))
  ⟨none,rfl,sD,xD⟩ (fun i σ HX _ ⟨_,_,sX,_⟩=>sX _ _ xf) ?_ ?_
 ·rintro i kv σ HX hkv ⟨o1,rfl,sX,gD⟩
  obtain⟨p,hp,ek,_⟩:=Eo he.kv hkv
  obtain⟨kv1,kvv⟩:=kv
  simp only at ek
  cases ek
  obtain⟨hi,ep⟩:=bI.mp hp
  have kX:aR H HX:=fun b xs z=>sX _ _ (kf _ _ z (ce z he.at' (by intro z;cases z)))
  have hdt':Rd HX dt (.dK kt):= .inl (sX _ _ (kf _ _ hdt nedt.symm))
  have hkt':=hkt.mono kX
  have etk:ends.take (i+1)=ends.take i++[p]:=by rw[zTS hi,ep]
  have hfl:((ends.take i).filter fun p=>(look f p.1).isNone).length<=i:=cO (qZ _ _) (by rw[zLT];omega)
  cases hl2:look f p.1 with
  |some t2=>
   obtain⟨v2,hg2,_⟩:=(j3 hdt' hkt' _).2 t2 hl2
   refine⟨_,rfl,_,rfl,dt,_,rfl,hg2,_,rfl,bc (by simp) ⟨_,rfl,sX,?_⟩⟩
   rw[etk,m7,m8,hl2]
   simpa using gD
  |none=>
   refine⟨_,rfl,_,rfl,dt,_,rfl,(j3 hdt' hkt' _).1 hl2,_,rfl,cK (by simp) ⟨_,rfl,_,gD,big (by simp only[zLM];omega),?_⟩⟩
   refine⟨_,rfl,fun b ob z=>by rw[am (aF z fD)];exact sX _ _ z,?_⟩
   rw[au,etk,m7,m8,hl2]
   simp[kV]
 rintro σ HX ⟨o1,rfl,sX,gD⟩
 rw[hkl,dD (aE _)]at gD
 refine⟨o,sX _ _ xf,?_⟩
 have gD2:ad HX de (HO.dK ke) D=some (.lst (((ends.filter fun p=>(look f p.1).isNone).map (·.1)).map V.str)):=by rw[am nDe];exact gD
 have s2:av H (ad HX de (HO.dK ke)):=fun b ob z=>by
  by_cases c:b=de
  ·subst c
   rw[au,<-z,he.at']
  ·rw[am c];exact sX _ _ (kf _ _ z c)
 generalize ad HX de (HO.dK ke)=H2 at gD2 s2 |-
 obtain⟨x0,r0,ex0,hx1,hx2⟩:∃x0 r0,((ends.filter fun p=>(look f p.1).isNone).map (·.1)).map V.str=V.str x0::r0/\look ends x0≠none/\look f x0=none:=by
  obtain⟨p,hp,hpn⟩:=hex
  have hm:p∈ends.filter fun p=>(look f p.1).isNone:=kg.mpr ⟨hp,by rw[hpn];rfl⟩
  cases hz:ends.filter fun p=>(look f p.1).isNone with
  |nil=>rw[hz]at hm;cases hm
  |cons a b=>
   have ha:a∈ends.filter fun p=>(look f p.1).isNone:=by rw[hz];simp
   obtain⟨g1,g2⟩:=kg.mp ha
   exact⟨a.1,_,rfl,by rw[xu he.nd g1];simp,vk.mp g2⟩
 rw[ex0]at gD2
 refine⟨D,_,_,_,rfl,rfl,ak.of gD2,bP,?_⟩
 refine⟨(by show 0<=sizeLine;decide),fun lw flw=>?_⟩
 generalize e_:ad H2 lw (HO.lst [])=H3
 obtain⟨t3,x3⟩:=aI flw e_
 have s3:=s2.trans t3
 have flw0:H lw=none:=s2.free flw
 refine⟨fun m σ HA=>∃(x:aa)(ws:List aa),σ=[some (.ref de),some (.ref dt),some (.str x),some (.ref lw)]/\av H HA/\HA lw=some (.lst (ws.map V.str))/\ws.Nodup/\(∀y∈ws++[x],look ends y≠none/\look f y=none)/\(∀i (h:i<ws.length),∃e,look ends ws[i]=some e/\(ws++[x])[i+1]'(by simp;omega)∈e.bl)/\ends.length - ws.length=m,
  ⟨_,x0,[],rfl,s3,x3,.nil,fun y hy=>(by simp at hy;subst hy;exact⟨hx1,hx2⟩),fun i h=>(by simp at h),rfl⟩,?_⟩
 rintro m σ HA ⟨x,ws,rfl,sA,gw,hnd,hall,hch,hm⟩
 have hwle:∀l:List aa,l.Nodup->(∀y∈l,look ends y≠none)->l.length<=ends.length:=fun l h1 h2=>by
  have:=iQ h1 (m:=ends.map (·.1)) fun y hy=>qr.mp (h2 y hy)
  simpa using this
 have hwl:=hwle ws hnd fun y hy=>(hall y (eu _ hy)).1
 have hdat:∀HX:Hp,bU HX (ws.map V.str) (ws.map Dt.str):=fun HX=>qt ws
 refine⟨_,rfl,_,rfl,.str x,lw,_,_,by simp[aV],rfl,gw,hdat HA,fun e hE=>?_,fun bb hbb=>⟨_,rfl,bE (fun c=>⟨_,fun _ _ h=>h,?_⟩) (fun c=>?_)⟩⟩
 ·obtain⟨y,_,rfl⟩:=bK.mp hE
  show (A.deeper _).units+1+0<cLine
  omega
 ·have hxn:x∉ws:=fun z=>hbb.mp c (bK.mpr ⟨x,z,rfl⟩)
  obtain⟨hxe,hxf⟩:=hall x (d6 _ (bx.mpr rfl))
  obtain⟨e,y,r,hle,hen,hah,hyb,hye,hyf⟩:=hnext x hxe hxf
  have hnd2:(ws++[x]).Nodup:=by
   rw[qU]
   refine⟨hnd,by simp,fun a ha b hb=>?_⟩
   rw[bx.mp hb]
   rintro rfl
   exact hxn ha
  have hw2:=hwle _ hnd2 fun z hz=>(hall z hz).1
  rw[zLA]at hw2
  simp only[zLC,zLN]at hw2
  refine⟨_,rfl,.inl ⟨rfl,_,ak.of gw⟩,_,rfl,lw,_,_,rfl,rfl,gw,big (by rw[zLM];omega),?_⟩
  have kB:aR HA (ad HA lw (HO.lst (ws.map V.str++[.str x]))):= .lst gw
  have gB:ad HA lw (HO.lst (ws.map V.str++[.str x])) lw=some _:=au
  have sB:av H (ad HA lw (HO.lst (ws.map V.str++[.str x]))):=fun b ob z=>by rw[am (aF z flw0)];exact sA _ _ z
  generalize ad HA lw (HO.lst (ws.map V.str++[.str x]))=HB at kB gB sB |-
  have heB:=he.same sB
  refine⟨_,rfl,_,rfl,_,rfl,de,ke,ends,dt,kt,f,x,e,rfl,.inl heB.at',heB.kv,.inl (sB _ _ hdt),hkt.mono (.of sB),hle,by omega,fun l HC sC fl gl=>?_⟩
  rw[hah]at gl
  refine⟨l,_,_,.str y,rfl,rfl,ak.of gl,bP,?_⟩
  refine⟨ends.length - (ws++[x]).length,by rw[zLA];simp only[zLC,zLN];omega,y,ws++[x],rfl,sB.trans sC,by rw[sC _ _ gB,zMA];rfl,hnd2,fun z hz=>?_,fun i h=>?_,rfl⟩
  ·rcases br.mp hz with z'|z'
   ·exact hall z z'
   ·rw[bx.mp z'];exact⟨hye,hyf⟩
  ·by_cases c2:i<ws.length
   ·obtain⟨e1,h1,h2⟩:=hch i c2
    refine⟨e1,by rw[oY c2];exact h1,?_⟩
    rw[oY (by simp;omega)]
    exact h2
   ·have ei:i=ws.length:=by simp at h;omega
    subst ei
    refine⟨e,by rw[u4 (aE _)];simpa using hle,?_⟩
    rw[u4 (by simp)]
    simpa using hyb
 ·have hxin:x∈ws:=by
   have:¬¬(Dt.str x∈ws.map Dt.str):=fun z=>c (hbb.mpr z)
   obtain⟨y,hy,e⟩:=bK.mp (Classical.not_not.mp this)
   cases e
   exact hy
  obtain⟨j,hj,ej,hfirst⟩:∃(j:Nat)(h:j<(ws.map Dt.str).length),(ws.map Dt.str)[j]=Dt.str x/\∀i (h':i<(ws.map Dt.str).length),i<j->(ws.map Dt.str)[i]≠Dt.str x:=by
   obtain⟨j,hj,ej⟩:=ja.mp hxin
   refine⟨j,by simpa using hj,by simp[ej],fun i h' hij z=>?_⟩
   have h2:i<ws.length:=by simpa using h'
   have h3:ws[i]=x:=by simpa using z
   exact(m6.mp hnd i j h2 hj hij) (h3.trans ej.symm)
  refine⟨_,rfl,_,rfl,.inl ⟨rfl,_,ak.of gw⟩,_,rfl,lw,.str x,_,_,.str x,j,rfl,rfl,gw,hdat HA,by simp[aV],fun e hE=>?_,⟨hj,ej,hfirst⟩,_,rfl,lw,_,rfl,ak.of gw,fun l fl=>?_⟩
  ·obtain⟨y,_,rfl⟩:=bK.mp hE
   show (A.deeper _).units+2+0<cLine
   omega
  have hj':j<ws.length:=by simpa using hj
  have ej':ws[j]=x:=by simpa using ej
  rw[Lv _ _ (by rw[zLM];omega),<-u3]
  have t9:=bG fl (HO.lst ((ws.drop j).map V.str))
  refine q l (ws.drop j) _ (sA.trans t9) (sA.free fl) au ⟨fun z=>?_,fun i h=>?_⟩ (by rw[dh];omega)
  ·have:=congrArg iG z
   rw[dh]at this
   simp at this
   omega
  ·have hil:j+i<ws.length:=by rw[dh]at h;omega
   obtain⟨e,h1,h2⟩:=hch (j+i) hil
   have hnx:(ws.drop j)[(i+1) % (ws.drop j).length]'(d5 _ (by omega))=(ws++[x])[j+i+1]'(by simp;omega):=by
        by_cases c3:i+1<(ws.drop j).length
        ·have em:(i+1) % (ws.drop j).length=i+1:=qP c3
         rw[dh]at c3
         simp only[em,oW]
         rw[oY (by omega)]
         rfl
        ·have el:i+1=(ws.drop j).length:=by omega
         have em:(i+1) % (ws.drop j).length=0:=by rw[el,Nat.mod_self]
         rw[dh]at el
         simp only[em,oW]
         rw[u4 (by omega)]
         simp only[Nat.add_zero,ej']
         simp
   refine⟨e,by rw[oW];exact h1,by rw[hnx];exact h2,?_⟩
   rw[hnx]
   exact(hall _ (zGM _)).1
end
section
variable{P:aQ}{w:aH}{K:aA}{mg:aa->Option ac}{base:az}
inductive Et(vs:List V)(H:Hp)(Q:VK):Prop
 |mk:∀x:aa,(vs=[.str x])->(Wd x)->(Q (.bl true) H)->Et vs H Q
def qu:Sp:=fun vs H Q _=>Et vs H Q
theorem Lz{f:Addr}{fd:be}(F:bB K "_law_letters" "_law_letters" oE f fd)(T:Bi mg):bf P w K mg base bp 1 f fd ["_law_found"] qu:=by
 refine F.ok C1 (fun vs H Q E h=>?_) (fun cdv A outer s H vs Q E hr h=>?_)
 ·obtain⟨i,rfl,_⟩:=h
  rfl
 obtain⟨x,rfl,hx,q⟩:=h
 apply aD;intro T1
 refine⟨_,(al (aZ (eZ (e8 (dX (ca ir T.b_isinstance iu (ae (pv 0) (ae (ix T.b_str nG) af))))) (gk (aU cf (pv 0) aS (aT _)))).pt (aq (aM dq)) bg) (aC T1 (al (dR cx rfl (Hs (pv 0)) (cz (i:=1) C1.nd rfl (Or.inl rfl)) (aq (aZ (aU FC (pv 1) aS (by with_unfolding_all rfl)) (aq (aM dq)) bg))) (aq (aM dq))))),?_⟩
 refine⟨_,rfl,_,_,_,_,rfl,.str _,.ss,_,rfl,cg ⟨_,rfl,rfl,_,rfl,bc (decide_eq_false fun z=>hx.ne (V.str.inj z)) ?_⟩⟩
 refine⟨_,rfl,x,rfl,let I1:Nat->L2.St->Hp->Prop:=(fun i σ H2=>H2=H/\∃o,σ=[some (.str x),o]);Ht I1 ⟨rfl,_,rfl⟩ ?_ ?_⟩
 ·rintro i c σ H2 hi ⟨rfl,o,rfl⟩
  have hc:=hx.2.2 c (zMG hi)
  refine⟨_,rfl,_,_,rfl,rfl,_,rfl,bc (Hq hc.1 hc.2) ?_⟩
  exact⟨rfl,_,rfl⟩
 ·rintro σ H2 ⟨rfl,o,rfl⟩
  exact q
inductive Eu(vs:List V)(H:Hp)(Q:VK):Prop
 |mk:∀n:Int,(vs=[.int n])->(Q (.bl true) H)->Eu vs H Q
def xA:Sp:=fun vs H Q _=>Eu vs H Q
theorem LA{f:Addr}{fd:be}(F:bB K "_law_whole" "_law_whole" om f fd)(T:Bi mg):bf P w K mg base bp 1 f fd ["_law_found"] xA:=by
 refine F.ok JA (fun vs H Q E h=>?_) (fun cdv A outer s H vs Q E hr h=>?_)
 ·obtain⟨i,rfl,_⟩:=h
  rfl
 obtain⟨n,rfl,q⟩:=h
 refine⟨_,(aq (aM (vz (ca ir T.b_isinstance iu (ae (pv 0) (ae (ix T.b_int Hl) af))) (rP (Fb (ca ir T.b_isinstance iu (ae (pv 0) (ae (ix T.b_bool Hm) af)))))))),?_⟩
 refine⟨_,rfl,_,_,_,_,rfl,.int _,.ii,_,rfl,jg ⟨_,rfl,_,_,_,_,rfl,.int _,.ib,_,rfl,?_⟩⟩
 exact q
inductive Ev(vs:List V)(H:Hp)(Q:VK):Prop
 |mk:∀(v:V)(t:Tm),(vs=[v])->(ay H v t)->(t.Ok)->((∀x ps,t≠ .thing x ps))->(Q (.bl true) H)->Ev vs H Q
def xG:Sp:=fun vs H Q _=>Ev vs H Q
theorem LB{f:Addr}{fd:be}(F:bB K "_law_small" "_law_small" oF f fd)(T:Bi mg)(c__law_whole:aO P w K mg base 1 "_law_whole" ["_law_found"] xA)
 (c__law_letters:aO P w K mg base 1 "_law_letters" ["_law_found"] qu):bf P w K mg base bp 2 f fd ["_law_part"] xG:=by
 refine F.ok JE (fun vs H Q E h=>?_) (fun cdv A outer s H vs Q E hr h=>?_)
 ·obtain⟨v,t,rfl,_⟩:=h
  rfl
 obtain⟨v,t,rfl,ht,hok,hno,q⟩:=h
 apply aD;intro T1
 apply aD;intro T2
 apply aD;intro T3
 refine⟨_,(al (aZ (eZ (aU gm (ca dk T.b_len cU (ae (pv 0) af)) ai (aT _)) (gk (e8 (dX (ca ir T.b_isinstance iu (ae (ao aw (pv 0) ai (fun _ _=>rfl)) (ae (ix T.b_str nG) af))))))).pt (aq (aM dq)) bg) (aC T3 (al (aZ (aU cf (ao aw (pv 0) ai (fun _ _=>rfl)) aS (aT _)) (aC T1 (aq (aM (a0 c__law_whole (hr.mono (by decide)) (ae (ao aw (pv 0) ai (fun _ _=>rfl)) af))))) bg) (aC T2 (aq (aM (vz (Fa (lP cf (ao aw (pv 0) ai (fun _ _=>rfl)) aS (aT _)) (rP (lP cf (ao aw (pv 0) ai (fun _ _=>rfl)) aS (aT _)))) (rP (a0 c__law_letters (hr.mono (by decide)) (ae (ao aw (pv 0) ai (fun _ _=>rfl)) af)))))))))),?_⟩
 cases t with
 |thing x ps=>exact absurd rfl (hno x ps)
 |num n=>
  obtain⟨a,rfl,h1⟩:=fF.mp ht
  refine⟨_,rfl,a,_,rfl,.inr (aj.of h1),rfl,_,rfl,cg ⟨_,rfl,_,_,_,_,rfl,rfl,aj.of h1,rfl,_,_,_,_,rfl,.str _,.ss,_,rfl,cg ?_⟩⟩
  refine⟨_,rfl,_,_,_,_,rfl,rfl,aj.of h1,rfl,rfl,_,rfl,cK (by decide +kernel) ?_⟩
  exact⟨_,rfl,_,_,_,_,rfl,rfl,aj.of h1,rfl,n,rfl,q⟩
 |name x=>
  obtain⟨a,rfl,h1⟩:=eP.mp ht
  refine⟨_,rfl,a,_,rfl,.inr (aj.of h1),rfl,_,rfl,cg ⟨_,rfl,_,_,_,_,rfl,rfl,aj.of h1,rfl,_,_,_,_,rfl,.str _,.ss,_,rfl,cg ?_⟩⟩
  refine⟨_,rfl,_,_,_,_,rfl,rfl,aj.of h1,rfl,rfl,_,rfl,bc (by decide +kernel) ?_⟩
  refine⟨_,rfl,_,_,_,_,rfl,rfl,aj.of h1,rfl,rfl,_,rfl,cK (by decide +kernel) ⟨_,rfl,jg ?_⟩⟩
  exact⟨_,rfl,_,_,_,_,rfl,rfl,aj.of h1,rfl,x,rfl,hok,q⟩
 |blank x=>
  obtain⟨a,rfl,h1⟩:=dN.mp ht
  refine⟨_,rfl,a,_,rfl,.inr (aj.of h1),rfl,_,rfl,cg ⟨_,rfl,_,_,_,_,rfl,rfl,aj.of h1,rfl,_,_,_,_,rfl,.str _,.ss,_,rfl,cg ?_⟩⟩
  refine⟨_,rfl,_,_,_,_,rfl,rfl,aj.of h1,rfl,rfl,_,rfl,bc (by decide +kernel) ?_⟩
  refine⟨_,rfl,_,_,_,_,rfl,rfl,aj.of h1,rfl,rfl,_,rfl,bc (by decide +kernel) ⟨_,rfl,_,_,_,_,rfl,rfl,aj.of h1,rfl,rfl,_,rfl,cK (by decide +kernel) ?_⟩⟩
  exact⟨_,rfl,_,_,_,_,rfl,rfl,aj.of h1,rfl,x,rfl,hok,q⟩
inductive Ew(vs:List V)(H:Hp)(Q:VK):Prop
 |mk:∀(v:V)(t:Tm),(vs=[v])->(ay H v t)->(t.Ok)->(t.nodes<=5000000)->(∀H',av H H'->Q (.bl true) H')->Ew vs H Q
def xH:Sp:=fun vs H Q _=>Ew vs H Q
theorem LC{f:Addr}{fd:be}(F:bB K "_law_is_term" "_law_is_term" oG f fd)(T:Bi mg)(c__law_small:aO P w K mg base 2 "_law_small" ["_law_part"] xG)
 (c__law_letters:aO P w K mg base 1 "_law_letters" ["_law_found"] qu):bf P w K mg base bp 3 f fd ["_law_found"] xH:=by
 refine F.ok wO (fun vs H Q E h=>?_) (fun cdv A outer s H vs Q E hr h=>?_)
 ·obtain⟨v,t,rfl,_⟩:=h
  rfl
 obtain⟨v,t,rfl,ht,hok,hn,q⟩:=h
 apply aD;intro T1
 apply aD;intro T2
 apply aD;intro T3
 apply aD;intro T4
 apply aD;intro T5
 apply aD;intro T6
 apply aD;intro T7
 apply aD;intro T8
 refine⟨_,(al (aB (i:=1) wO.nd rfl (Or.inl rfl) (bR (ae (pv 0) af))) (aC T8 (al (ig cx (aU (su hr.units0) (pv 1) (bR af) (aT _)) (aC T7 (al (aB (i:=2) wO.nd rfl (Or.inl rfl) (kF bY kl km kH (pv 1))) (aC T6 (al (aZ (e8 (dX (ca ir T.b_isinstance iu (ae (pv 2) (ae (ix T.b_tuple jk) af))))) (aq (aM dq)) bg) (aC T5 (aq (aZ (aU cf (ca dk T.b_len cU (ae (pv 2) af)) ai (aT _)) (aC T3 (al (aZ (eZ (e8 (dX (ca ir T.b_isinstance iu (ae (ao aw (pv 2) ai (fun _ _=>rfl)) (ae (ix T.b_str nG) af))))) (eZ (aU gm (ao aw (pv 2) ai (fun _ _=>rfl)) aS (aT _)) (gk (e8 (dX (a0 c__law_letters (hr.mono (by decide)) (ae (ao aw (pv 2) ai (fun _ _=>rfl)) af))))))).pt (aq (aM dq)) bg) (aC T2 (al (aZ (eZ (e8 (dX (ca ir T.b_isinstance iu (ae (ao aw (pv 2) ai (fun _ _=>rfl)) (ae (ix T.b_tuple jk) af))))) (gk (aU (Hi hr.units0) (ao aw (pv 2) ai (fun _ _=>rfl)) (bO af) (aT _)))).pt (aq (aM dq)) bg) (aC T1 (aq (cj (cp bY pj pk pG (pv 1) (ae (jm AQ T.b_list kR (ae (ao aw (pv 2) ai (fun _ _=>rfl)) af)) af))))))))) (aC T4 (aq (aZ (e8 (dX (a0 c__law_small (hr.mono (by decide)) (ae (pv 2) af)))) (aq (aM dq)) bg))))))))))) (aq (aM dq))))),?_⟩
 refine⟨_,rfl,(by show 1<=sizeLine;decide),fun p hp=>?_⟩
 refine⟨fun m σ H1=>av H H1/\H p=none/\∃(o:Option V)(us:List V)(ts:List Tm),σ=[some v,some (.ref p),o]/\H1 p=some (.lst us)/\aN H1 us ts/\dY ts/\aJ ts=m/\m<=5000000,
  ⟨t.nodes,bG hp _,hp,_,_,[t],rfl,au,.cons (ht.mono (.new hp)) .nil,⟨hok,trivial⟩,by simp[aJ],hn⟩,?_⟩
 rintro m σ H1 ⟨s1,fp,o,us,ts,rfl,hu,hts,hoks,hnd,hm⟩
 have hlen:=hts.len
 have hln:=gq ts
 refine⟨_,rfl,(by show 0<=sizeLine;decide),fun e he=>?_⟩
 generalize e_:ad H1 e (HO.lst [])=H2
 obtain⟨s2,x2⟩:=aI he e_
 refine⟨p,e,us,rfl,rfl,s2 _ _ hu,x2,_,rfl,bE (fun c=>⟨_,fun _ _ h=>h,?_⟩) (fun c=>?_)⟩
 ·
  have hne:us≠[]:=by intro z;rw[z]at c;exact absurd c (by decide)
  have hs2:aN H2 us ts:=hts.mono (.of s2)
  obtain⟨us0,u,rfl⟩:∃us0 u,us=us0++[u]:=⟨us.dropLast,us.getLast hne,(uO hne).symm⟩
  obtain⟨ts0,t1,rfl⟩:∃ts0 t1,ts=ts0++[t1]:=by
   have:ts≠[]:=by intro z;rw[z]at hlen;simp at hlen
   exact⟨ts.dropLast,ts.getLast this,(uO this).symm⟩
  obtain⟨hs0,ht1⟩:=hs2.snoc
  rw[vU]at hoks
  obtain⟨ho0,ho1,_⟩:=hoks
  rw[gM]at hnd
  simp only[aJ]at hnd
  refine⟨_,rfl,.inl ⟨rfl,_,ak.of (s2 _ _ hu)⟩,p,_,u,rfl,rfl,s2 _ _ hu,by simp,?_⟩
  rw[lF]
  have k3:aR H2 (ad H2 p (HO.lst us0)):= .lst (s2 _ _ hu)
  have x3:ad H2 p (HO.lst us0) p=some _:=au
  have y3:av H (ad H2 p (HO.lst us0)):=fun b ob z=>by rw[am (aF z fp)];exact s2 _ _ (s1 _ _ z)
  generalize ad H2 p (HO.lst us0)=H3 at k3 x3 y3 |-
  have hs3:=hs0.mono k3
  have ht3:=ht1.mono k3
  cases t1 with
  |thing x ps=>
   obtain⟨a,b,vs,rfl,h1,h2,h3⟩:=dF.mp ht3
   simp only[Tm.Ok]at ho1
   obtain⟨hx,hps,hop⟩:=ho1
   have hvl:=h3.len
   have hpl:=gq ps
   simp only[Tm.nodes]at hnd
   refine⟨_,rfl,_,_,_,_,rfl,.tup h1,.tt,_,rfl,cg ?_⟩
   refine⟨_,rfl,a,_,rfl,.inr (aj.of h1),rfl,_,rfl,cK rfl ?_⟩
   refine⟨_,rfl,_,_,_,_,rfl,rfl,aj.of h1,rfl,_,_,_,_,rfl,.str _,.ss,_,rfl,cg ⟨_,rfl,_,_,_,_,rfl,rfl,aj.of h1,rfl,rfl,_,rfl,bc (by decide +kernel) ⟨_,rfl,_,_,_,_,rfl,rfl,aj.of h1,rfl,x,rfl,hx,_,rfl,cg ?_⟩⟩⟩
   refine⟨_,rfl,_,_,_,_,rfl,rfl,aj.of h1,rfl,_,_,_,_,rfl,.tup h2,.tt,_,rfl,cg ⟨_,rfl,_,_,_,_,rfl,rfl,aj.of h1,rfl,(by show 0<=sizeLine;decide),fun g hg=>?_⟩⟩
   generalize e_:ad H3 g (HO.tup [])=H4
   obtain⟨s4,x4⟩:=aI hg e_
   refine⟨b,g,vs,rfl,rfl,s4 _ _ h2,x4,_,rfl,bc ?_ ?_⟩
   ·cases vs with
    |nil=>exact absurd (jb.mp hvl.symm) hps
    |cons _ _=>rfl
   refine⟨_,rfl,.inl ⟨rfl,_,ak.of (s4 _ _ x3)⟩,_,rfl,_,_,_,_,rfl,rfl,aj.of (s4 _ _ h1),rfl,b,vs,rfl,.inr (aj.of (s4 _ _ h2)),fun l hl=>?_⟩
   generalize e_:ad H4 l (HO.lst vs)=H5
   obtain⟨s5,x5⟩:=aI hl e_
   have hlen0:=hs0.len
   have hln0:=gq ts0
   refine⟨p,l,us0,vs,rfl,rfl,s5 _ _ (s4 _ _ x3),x5,d9 (by omega),?_⟩
   have k6:aR H5 (ad H5 p (HO.lst (us0++vs))):= .lst (s5 _ _ (s4 _ _ x3))
   refine⟨aJ ts0+aJ ps,by omega,fun b' ob z=>?_,fp,_,_,ts0++ps,rfl,au,aN.mono k6 ((hs3.mono (.of (s4.trans s5))).app (h3.mono (.of (s4.trans s5)))),(vU _ _).mpr ⟨ho0,hop⟩,gM _ _,by omega⟩
   rw[am (aF z fp)]
   exact s5 _ _ (s4 _ _ (y3 _ _ z))
  |num n=>
   obtain⟨a,rfl,h1⟩:=fF.mp ht3
   refine⟨_,rfl,_,_,_,_,rfl,.tup h1,.tt,_,rfl,cg ?_⟩
   refine⟨_,rfl,a,_,rfl,.inr (aj.of h1),rfl,_,rfl,bc rfl ?_⟩
   refine⟨_,rfl,_,_,rfl,ht3,ho1,(fun _ _ z=>nomatch z),_,rfl,cg ?_⟩
   simp only[Tm.nodes]at hnd
   exact⟨aJ ts0,by omega,y3,fp,_,_,ts0,rfl,x3,hs3,ho0,rfl,by omega⟩
  |name x=>
   obtain⟨a,rfl,h1⟩:=eP.mp ht3
   refine⟨_,rfl,_,_,_,_,rfl,.tup h1,.tt,_,rfl,cg ?_⟩
   refine⟨_,rfl,a,_,rfl,.inr (aj.of h1),rfl,_,rfl,bc rfl ?_⟩
   refine⟨_,rfl,_,_,rfl,ht3,ho1,(fun _ _ z=>nomatch z),_,rfl,cg ?_⟩
   simp only[Tm.nodes]at hnd
   exact⟨aJ ts0,by omega,y3,fp,_,_,ts0,rfl,x3,hs3,ho0,rfl,by omega⟩
  |blank x=>
   obtain⟨a,rfl,h1⟩:=dN.mp ht3
   refine⟨_,rfl,_,_,_,_,rfl,.tup h1,.tt,_,rfl,cg ?_⟩
   refine⟨_,rfl,a,_,rfl,.inr (aj.of h1),rfl,_,rfl,bc rfl ?_⟩
   refine⟨_,rfl,_,_,rfl,ht3,ho1,(fun _ _ z=>nomatch z),_,rfl,cg ?_⟩
   simp only[Tm.nodes]at hnd
   exact⟨aJ ts0,by omega,y3,fp,_,_,ts0,rfl,x3,hs3,ho0,rfl,by omega⟩
 ·exact q H2 (s1.trans s2)
def qv(f:Fl):Prop:=(∀p∈f,Wd p.1/\p.2.Ok/\p.2.nodes<=5000000/\p.2.dp<=90/\p.2≠ .blank p.1)/\f.Pairwise (fun p q=>p.1.cps.toList<q.1.cps.toList)
theorem qv.nodup{f:Fl}(h:qv f):(f.map (·.1)).Nodup:=by
 rw[qX,qY]
 exact h.2.imp fun h e=>by rw[e]at h;exact absurd h (uZ _)
inductive Ex(vs:List V)(H:Hp)(Q:VK):Prop
 |mk:∀(l:Addr)(ps:List V)(f:Fl),(vs=[.ref l])->(H l=some (.lst ps))->(dQ H ps f)->(qv f)->(∀H',av H H'->Q (.bl true) H')->Ex vs H Q
def xI:Sp:=fun vs H Q _=>Ex vs H Q
theorem LD{f0:Addr}{fd:be}(F:bB K "_law_is_filling" "_law_is_filling" oH f0 fd)(T:Bi mg)(c__law_letters:aO P w K mg base 1 "_law_letters" ["_law_found"] qu)
 (c__law_is_term:aO P w K mg base 3 "_law_is_term" ["_law_found"] xH):bf P w K mg base bp 4 f0 fd ["_law_found"] xI:=by
 refine F.ok tI (fun vs H Q E h=>?_) (fun cdv A outer s H vs Q E hr h=>?_)
 ·obtain⟨_,_,_,rfl,_⟩:=h
  rfl
 obtain⟨l,ps,f,rfl,hl,hf,hok,q⟩:=h
 have hun:=hr.un
 have hlen:=hf.len
 apply aD;intro T1
 apply aD;intro T2
 apply aD;intro T3
 apply aD;intro T4
 apply aD;intro T5
 refine⟨_,(al (aZ (e8 (dX (ca ir T.b_isinstance iu (ae (pv 0) (ae (ix T.b_list kR) af))))) (aq (aM dq)) bg) (aC T5 (al (aB (i:=1) tI.nd rfl (Or.inl rfl) aS) (aC T4 (al (dR cx rfl (eC (pv 0)) (cz (i:=2) tI.nd rfl (Or.inl rfl)) (aC T3 (al (aZ (eZ (e8 (dX (ca ir T.b_isinstance iu (ae (pv 2) (ae (ix T.b_tuple jk) af))))) (gk (aU gm (ca dk T.b_len cU (ae (pv 2) af)) ai (aT _)))).pt (aq (aM dq)) bg) (aC T2 (al (aZ (eZ (e8 (dX (a0 c__law_letters (hr.mono (by decide)) (ae (ao aw (pv 2) ai (fun _ _=>rfl)) af)))) (eZ (aU Hj (ao aw (pv 2) ai (fun _ _=>rfl)) (pv 1) (aT _)) (gk (e8 (dX (a0 c__law_is_term (hr.mono (by decide)) (ae (ao aw (pv 2) ai (fun _ _=>rfl)) af))))))).pt (aq (aM dq)) bg) (aC T1 (al (aZ (aU Ck (ao aw (pv 2) ai (fun _ _=>rfl)) (bO (ae aS (ae (ao aw (pv 2) ai (fun _ _=>rfl)) af))) (aT _)) (aq (aM dq)) bg) (aq (aB (i:=1) tI.nd rfl (Or.inl rfl) (ao aw (pv 2) ai (fun _ _=>rfl))))))))))) (aq (aM dq))))))),?_⟩
 refine⟨_,rfl,_,_,_,_,rfl,.lst hl,.ll,_,rfl,cg ?_⟩
 refine⟨_,rfl,l,rfl,⟨_,ak.of hl⟩,let I1:Nat->L2.St->Hp->Prop:=(fun i σ H3=>∃(x:aa)(o:Option V),σ=[some (.ref l),some (.str x),o]/\av H H3/\∀j p,i<=j->f[j]?=some p->x.cps.toList<p.1.cps.toList);ij (K:=K) (a:=l) (xs:=ps) I1
  ⟨"",none,rfl,av.refl _,fun j p _ hp=>?_⟩ (fun i σ H3 _ ⟨_,_,_,s3,_⟩=>s3.seq (ak.of hl)) ?_ ?_⟩
 ·have hw:=(hok.1 p (zMG hp)).1
  have e:(bL "").cps.toList=[]:=by decide +kernel
  rw[e]
  cases hc:p.1.cps.toList with
  |nil=>have:=hw.1;rw[hc]at this;simp at this
  |cons a b=>exact List.nil_lt_cons a b
 ·rintro i y σ H3 hy ⟨x,o,rfl,s3,hx⟩
  have hi:i<ps.length:=(bI.mp hy).1
  obtain⟨a,v,ea,ha0,hv0⟩:=hf.get i hi (by omega)
  have ey:y= .ref a:=by rw[<-ea];exact((bI.mp hy).2).symm
  subst ey
  have ha:H3 a=some _:=s3 _ _ ha0
  have hv:ay H3 v (f[i]'(by omega)).2:=hv0.mono (.of s3)
  have hfi:f[i]?=some (f[i]'(by omega)):=zGE (by omega)
  obtain⟨hw,hto,htn,htd,htb⟩:=hok.1 _ (zGM (by omega:i<f.length))
  have hlt:=hx i _ (aE _) hfi
  refine⟨_,rfl,_,_,_,_,rfl,.tup ha,.tt,_,rfl,cg ⟨_,rfl,a,_,rfl,.inr (aj.of ha),rfl,_,rfl,cg ?_⟩⟩
  refine⟨_,rfl,_,_,_,_,rfl,rfl,aj.of ha,rfl,_,rfl,hw,_,rfl,cg ⟨_,rfl,_,_,_,_,rfl,rfl,aj.of ha,rfl,_,rfl,_,_,rfl,rfl,_,rfl,bc (by rw[decide_eq_true hlt];rfl) ?_⟩⟩
  refine⟨_,rfl,_,_,_,_,rfl,rfl,aj.of ha,rfl,v,_,rfl,hv,hto,by omega,fun H4 s4=>⟨_,rfl,cg ?_⟩⟩
  have ha4:=s4 _ _ ha
  refine⟨_,rfl,_,_,_,_,rfl,rfl,aj.of ha4,rfl,_,rfl,_,_,_,_,rfl,rfl,aj.of ha4,rfl,(by show 2<=sizeLine;decide),fun g hg=>?_⟩
  generalize e_:ad H4 g (HO.tup [.str "blank",.str (f[i]'(by omega)).1])=H5
  obtain⟨s5,x5⟩:=aI hg e_
  refine⟨_,.blank (f[i]'(by omega)).1,(hv.mono (.of s4)).mono (.of s5),dN.mpr ⟨g,rfl,x5⟩,?_,fun b hb=>⟨_,rfl,bc (h9.mpr fun z=>htb (hb.mp z)) ?_⟩⟩
  ·have hdd:=wk (f[i]'(by omega)).2
   show (A.deeper _).units+(f[i]'(by omega)).2.dt.dep<cLine
   omega
  refine⟨_,rfl,_,_,_,_,rfl,rfl,aj.of (s5 _ _ ha4),rfl,_,_,rfl,s3.trans (s4.trans s5),fun j p hj hp=>?_⟩
  obtain⟨hjl,ejp⟩:=bI.mp hp
  rw[<-ejp]
  exact m6.mp hok.2 i j (by omega) hjl (by omega)
 ·rintro σ H3 ⟨x,o,rfl,s3,hx⟩
  exact q H3 s3
end
section
variable{P:aQ}{w:aH}{K:aA}{mg:aa->Option ac}{base:az}
theorem ue{t:Tm}:t.Ok->∀x∈t.bl,Wd x:=by
 refine Tm.ind (P:=fun t=>t.Ok->∀x∈t.bl,Wd x) (fun _ _ x h=>by simp[Tm.bl]at h) (fun _ _ x h=>by simp[Tm.bl]at h) (fun w h x hx=>?_) (fun w ps ih h x hx=>?_) t
 ·simp only[Tm.bl,bx]at hx
  subst hx
  simpa[Tm.Ok]using h
 ·simp only[Tm.bl]at hx
  obtain⟨p,hp,hx⟩:=jT.mp hx
  simp only[Tm.Ok]at h
  exact ih p hp ((lZ ps).mp h.2.2 p hp) x hx
theorem Ey{t:Tm}{φ:aa->Tm}(h:cV t=false):dm (t.sub φ)=dm t:=by
 cases t<;>simp[Tm.sub,dm,cV,sP]at h |-
theorem Ez{t u:Tm}(h:wS t u)(φ:aa->Tm):t.sub φ≠u.sub φ:=fun e=>h.2.2 (by rw[<-Ey (φ:=φ) h.1,<-Ey (φ:=φ) h.2.1,e])
theorem EA{fs:List Lf}{ns:List Nat}{R:List Ln}(h:iz fs ns R):∀p∈R,∃z∈fs,z.1=p:=by
 induction h with
 |nil=>intro p hp;cases hp
 |cons a _ ih=>
  intro p hp
  rcases bo.mp hp with y|y
  ·obtain⟨z,hz,e⟩:=a
   exact⟨z,zMG hz,by rw[e,y]⟩
  ·exact ih p y
inductive EB(K:aA)(vs:List V)(H:Hp)(Q:VK):Prop
 |mk:∀(a:Addr)(ns:List Int)(m b:Int),(vs=[.ref a,.int m,.int b])->(ak K H a (ns.map V.int))->(ns.length<=63)->(Q (.int m) H)->EB K vs H Q
def xJ(K:aA):Sp:=fun vs H Q _=>EB K vs H Q
theorem LE{f:Addr}{fd:be}(F:bB K "_law_room" "_law_room" oN f fd)(T:Bi mg):bf P w K mg base bp 1 f fd ["_law_script","_law_most","_law_bound"] (xJ K):=by
 refine F.ok JF (fun vs H Q E h=>?_) (fun cdv A outer s H vs Q E hr h=>?_)
 ·obtain⟨_,_,_,_,rfl,_⟩:=h
  rfl
 obtain⟨a,ns,m,b,rfl,hS,hn,q⟩:=h
 refine⟨_,(al (aZ (aU vF (ca dk T.b_len cU (ae (pv 0) af)) ai (aT _)) (aq (aM (pv 2))) bg)
  (aq (aM (pv 1)))),?_⟩
 refine⟨_,rfl,a,_,rfl,.inl hS,_,_,rfl,rfl,_,rfl,bE (fun c=>?_) (fun c=>⟨_,rfl,q⟩)⟩
 have c':=of_decide_eq_true c
 rw[zLM]at c'
 omega
inductive EC(vs:List V)(H:Hp)(Q:VK):Prop
 |mk:∀(lf:Addr)(ps:List V)(f:Fl)(v1 v2:V)(t1 t2:Tm),(vs=[.ref lf,v1,v2])->(H lf=some (.lst ps))->(dQ H ps f)->(qv f)->(ay H v1 t1)->(ay H v2 t2)->(t1.nodes<=900)->(t2.nodes<=900)->((∀p∈f,p.1∈t1.bl\/p.1∈t2.bl))->((∀p∈f,∀x∈p.2.bl,(x∈t1.bl\/x∈t2.bl)/\x∉f.map (·.1)))->(t1.fill f=t2.fill f)->((t1.fill f).dp<=90)->(f.length<=1000)->(∀H',av H H'->Q (.bl true) H')->EC vs H Q
def xK:Sp:=fun vs H Q _=>EC vs H Q
theorem LF{f0:Addr}{fd:be}(F:bB K "_law_good" "_law_good" mM f0 fd)(T:Bi mg)(c__law_is_filling:aO P w K mg base 4 "_law_is_filling" ["_law_found"] xI)(c__law_blanks:aO P w K mg base 2 "_law_blanks" ["_law_term"] lv)(c__law_fill:aO P w K mg base 2 "_law_fill" ["_law_term","_law_pairs"] qo):
 bf P w K mg base bp 5 f0 fd ["_law_filling","_law_one","_law_other"] xK:=by
 refine F.ok qh (fun vs H Q E h=>?_) (fun cdv A outer s H vs Q E hr h=>?_)
 ·obtain⟨_,_,_,_,_,_,_,rfl,_⟩:=h
  rfl
 obtain⟨lf,ps,f,v1,v2,t1,t2,rfl,hl,hf,hok,h1,h2,hn1,hn2,hkey,hcl,heq,hdp,hfl,q⟩:=h
 have hun:=hr.un
 have hb1:=kU t1
 have hb2:=kU t2
 have hf1:=oP t1
 have hf2:=oP t2
 have hpl:=hf.len
 refine⟨_,(al (aZ (e8 (dX (a0 c__law_is_filling (hr.mono (by decide)) (ae (pv 0) af)))) (aq (aM dq)) bg)
  (al (aB (i:=3) qh.nd rfl (Or.inl rfl) (aY jK (a0 c__law_blanks (hr.mono (by decide)) (ae (pv 1) af)) (a0 c__law_blanks (hr.mono (by decide)) (ae (pv 2) af))))
  (al (B0 (i:=4) (Nc:=["_law_pair"]) (k:=1) (js:=[]) ⟨rfl,rfl,rfl,rfl,rfl,rfl⟩ qh.nd rfl (Or.inl rfl) (eC (pv 0)) (fun _ _ _ _=>cz (i:=0) (show (["_law_pair"]:List aa).Nodup by decide +kernel) rfl (Or.inl rfl)) (fun _ _ _ _=>nH) (fun _ _ _ _=>(ao aw (pv 0) ai (fun _ _=>rfl))))
  (al (dR cx rfl (eC (pv 0)) (cz (i:=5) qh.nd rfl (Or.inl rfl)) (al (aZ (aU sy (ao aw (pv 5) ai (fun _ _=>rfl)) (pv 3) (by with_unfolding_all rfl)) (aq (aM dq)) bg)
        (aq (dR cx rfl (eC (a0 c__law_blanks (hr.mono (by decide)) (ae (ao aw (pv 5) ai (fun _ _=>rfl)) af))) (cz (i:=6) qh.nd rfl (Or.inl rfl)) (aq (aZ (eZ (aU sy (pv 6) (pv 3) (by with_unfolding_all rfl)) (gk (aU Ij (pv 6) (pv 4) (by with_unfolding_all rfl)))).pt (aq (aM dq)) bg))))))
  (aq (aM (lP Ck (a0 c__law_fill (hr.mono (by decide)) (ae (pv 1) (ae (pv 0) af))) (a0 c__law_fill (hr.mono (by decide)) (ae (pv 2) (ae (pv 0) af))) (aT _)))))))),?_⟩
 refine⟨_,rfl,lf,ps,f,rfl,hl,hf,hok,fun H1 s1=>⟨_,rfl,cg ?_⟩⟩
 refine⟨_,rfl,v1,t1,rfl,h1.mono (.of s1),by omega,fun l1 H2 s2 g2=>⟨_,rfl,v2,t2,rfl,h2.mono (.of (s1.trans s2)),by omega,fun l2 H3 s3 g3=>⟨l1,l2,_,_,rfl,rfl,s3 _ _ g2,g3,d9 (by simp only[zLM];omega),fun lk fk=>?_⟩⟩⟩
 rw[<-zMA]
 generalize e_:ad H3 lk (HO.lst ((t1.firsts++t2.firsts).map V.str))=H4
 obtain⟨t4,x4⟩:=aI fk e_
 have s4:=s1.trans (s2.trans (s3.trans t4))
 have hl4:=s4 _ _ hl
 have hws:∀x,x∈t1.firsts++t2.firsts↔x∈t1.bl\/x∈t2.bl:=fun x=>by rw[br,jn,jn]
 refine⟨_,rfl,lf,rfl,⟨_,ak.of hl4⟩,fun D fD _ _ _ _=>?_⟩
 refine pS (K:=K) (a:=lf) (xs:=ps) (fun n σ HX=>∃(o:Option V),σ=[o]/\av H4 HX/\HX D=some (.lst (((f.map (·.1)).take n).map V.str))) ⟨none,rfl,bG fD _,au⟩ (fun n σ HX _ ⟨_,_,sX,_⟩=>sX.seq (ak.of hl4)) ?_ ?_
 ·rintro n y σ HX hy ⟨o,rfl,sX,gD⟩
  obtain⟨hi,ey⟩:=bI.mp hy
  have hi':n<f.length:=by omega
  obtain⟨b,v,eb,hb0,_⟩:=hf.get n hi hi'
  rw[ey]at eb
  subst eb
  refine⟨_,rfl,_,_,_,_,rfl,rfl,aj.of (sX _ _ (s4 _ _ hb0)),bP,_,gD,big (by simp only[zLM,zLT];omega),?_⟩
  refine⟨_,rfl,fun b ob z=>by rw[am (aF z fD)];exact sX _ _ z,?_⟩
  have hi2:n<(f.map (·.1)).length:=by rw[zLM];exact hi'
  rw[au,zTS hi2,zMA,jE]
  rfl
 rintro σ0 H5 ⟨o,rfl,s5,gD⟩
 rw[dD (by rw[zLM];omega)]at gD
 have s05:=s4.trans s5
 have hl5:=s05 _ _ hl
 have x5:=s5 _ _ x4
 have hin:∀{x:aa}{l:List aa},Dt.str x∈l.map Dt.str↔x∈l:=fun {x l}=>by
  constructor
  ·intro z
   obtain⟨y,hy,e⟩:=bK.mp z
   cases e
   exact hy
  ·intro z;exact bK.mpr ⟨x,z,rfl⟩
 have hunits:∀(l:List aa)(k:Nat),k<=2->∀e∈l.map Dt.str,(A.deeper (gh "_law_good" (ax mM) s.heap.objs.size f0 cdv)).units+k+e.dep<cLine:=fun l k hk e hE=>by
  obtain⟨y,_,rfl⟩:=bK.mp hE
  show (A.deeper _).units+k+0<cLine
  omega
 refine⟨_,rfl,lf,rfl,⟨_,ak.of hl5⟩,ij (K:=K) (a:=lf) (xs:=ps) (fun i σ HX=>∃(o5 o6:Option V),σ=[some (.ref lf),some v1,some v2,some (.ref lk),some (.ref D),o5,o6]/\av H5 HX) ⟨none,none,rfl,av.refl _⟩ (fun i σ HX _ ⟨_,_,_,sX⟩=>sX.seq (ak.of hl5)) ?_ ?_⟩
 ·rintro i y σ HX hy ⟨o5,o6,rfl,sX⟩
  obtain⟨hi,ey⟩:=bI.mp hy
  have hi':i<f.length:=by omega
  obtain⟨b,v,eb,hb0,hv⟩:=hf.get i hi hi'
  rw[ey]at eb
  subst eb
  have s0X:=s05.trans sX
  have hb:=s0X _ _ hb0
  have hpm:=zGM hi'
  obtain⟨_,_,htn,_,_⟩:=hok.1 _ hpm
  refine⟨_,rfl,_,_,_,_,rfl,rfl,aj.of hb,bP,_,rfl,.str f[i].1,lk,_,_,by simp[aV],rfl,sX _ _ x5,qt _,hunits _ 1 (by omega),fun bb hbb=>⟨_,rfl,bc (h9.mpr fun z=>hbb.mp z (hin.mpr ((hws _).mpr (hkey _ hpm)))) ?_⟩⟩
  have hcl':=hcl _ hpm
  refine⟨_,rfl,_,_,_,_,rfl,rfl,aj.of hb,bW,v,f[i].2,rfl,hv.mono (.of s0X),by omega,fun lb HY sY glb=>⟨lb,rfl,⟨_,ak.of glb⟩,ij (K:=K) (a:=lb) (xs:=f[i].2.firsts.map V.str) (fun j σ HZ=>∃(o6:Option V),σ=[some (.ref lf),some v1,some v2,some (.ref lk),some (.ref D),some (.ref b),o6]/\av HY HZ) ⟨_,rfl,av.refl _⟩ (fun j σ HZ _ ⟨_,_,sZ⟩=>sZ.seq (ak.of glb)) ?_ ?_⟩⟩
  ·rintro j y2 σ HZ hy2 ⟨o6,rfl,sZ⟩
   have hj:j<f[i].2.firsts.length:=by have:=(bI.mp hy2).1;simpa using this
   have ey2:y2= .str f[i].2.firsts[j]:=by
        rw[cW,zGE hj]at hy2
        exact(cv hy2).symm
   subst ey2
   obtain⟨c1,c2⟩:=hcl' _ (jn.mp (zGM hj))
   have sXZ:=sX.trans (sY.trans sZ)
   have s5Z:=sY.trans sZ
   refine⟨_,rfl,_,rfl,.str f[i].2.firsts[j],lk,_,_,by simp[aV],rfl,sXZ _ _ x5,qt _,hunits _ 1 (by omega),fun bb hbb=>⟨_,rfl,bc (h9.mpr fun z=>hbb.mp z (hin.mpr ((hws _).mpr c1))) ?_⟩⟩
   refine⟨_,rfl,_,rfl,.str f[i].2.firsts[j],D,_,_,by simp[aV],rfl,sXZ _ _ gD,qt _,hunits _ 1 (by omega),fun bb hbb=>⟨_,rfl,bc (h9.mpr fun z=>c2 (hin.mp (hbb.mp z))) ⟨_,rfl,sZ⟩⟩⟩
  ·rintro σ HZ ⟨o6,rfl,sZ⟩
   exact⟨_,_,rfl,sX.trans (sY.trans sZ)⟩
 rintro σ HX ⟨o5,o6,rfl,sX⟩
 have s0X:=s05.trans sX
 refine⟨_,rfl,_,rfl,v1,t1,lf,ps,f,rfl,h1.mono (.of s0X),by omega,s0X _ _ hl,hf.mono (.of s0X),hok.nodup,fun w1 HY sY hw1=>⟨_,rfl,_,rfl,v2,t2,lf,ps,f,rfl,h2.mono (.of (s0X.trans sY)),by omega,(s0X.trans sY) _ _ hl,hf.mono (.of (s0X.trans sY)),hok.nodup,fun w2 HZ sZ hw2=>?_⟩⟩
 have hdd:=wk (t1.fill f)
 refine⟨t1.fill f,t2.fill f,hw1.mono (.of sZ),hw2,(by show (A.deeper _).units+(t1.fill f).dt.dep<cLine;omega),fun bb hbb=>?_⟩
 rw[hbb.mpr heq]
 exact q _ (s0X.trans (sY.trans sZ))
end
section
variable{P:aQ}{w:aH}{K:aA}{mg:aa->Option ac}{base:az}
theorem qx{x y z:V}{xs:List V}:dU (x::y::z::xs) (2:Int)=some z:=eO (j:=2) rfl
def kd:Tm->aa
 |.num _=>"number"
 |.name _=>"name"
 |.blank _=>"blank"
 |.thing _ _=>"thing"
theorem ED{H:Hp}{v:V}{t:Tm}(h:ay H v t):∃a xs,v= .ref a/\H a=some (.tup (.str (kd t)::xs)):=by
 cases t with
 |num n=>obtain⟨a,e,h⟩:=fF.mp h;exact⟨a,_,e,h⟩
 |name n=>obtain⟨a,e,h⟩:=eP.mp h;exact⟨a,_,e,h⟩
 |blank n=>obtain⟨a,e,h⟩:=dN.mp h;exact⟨a,_,e,h⟩
 |thing n ps=>obtain⟨a,b,us,e,h,_⟩:=dF.mp h;exact⟨a,_,e,h⟩
theorem LG(ρ:aa->aa)(t:Tm):kd (t.sub (eI ρ))=kd t:=by cases t<;>rfl
def jt(kvs:List (Key×V))(f:Wp):Prop:=∀x:aa,ck kvs (Sum.inr x)=(cu f x).map V.str
theorem jt.put{kvs:List (Key×V)}{f g:Wp}{a b:aa}(h:jt kvs f)(h1:cu g a=some b)(h2:∀x,x≠a->cu g x=cu f x):jt (bS kvs (Sum.inr a) (.str b)) g:=fun x=>by
 rw[se]
 by_cases e:x=a
 ·subst e
  rw[if_pos rfl,h1]
  rfl
 ·rw[if_neg (fun z=>e (lH z)),h2 x e]
  exact h x
theorem uf(f:Wp)(a b x:aa):cu (f++[(a,b)]) x=(cu f x).or (if a=x then some b else none):=by
 rw[mr,li,pZ]
inductive EE(vs:List V)(H:Hp)(Q:VK):Prop
 |mk:∀(v v':V)(t u:Tm),(vs=[v,v'])->(ay H v t)->(ay H v' u)->(t.nodes<=5000000)->((∀H',av H H'->(∀ρ,¬lj t u ρ)->Q .non H'))->(∀(d:Addr)(kvs:List (Key×V))(fo:Wp)(H':Hp),av H H'->H' d=some (.dK kvs)->jt kvs fo->(∀x∈t.bl,cu fo x≠none)->lj t u (fun x=>(cu fo x).getD x)->Q (.ref d) H')->EE vs H Q
def xL:Sp:=fun vs H Q _=>EE vs H Q
theorem LH{f0:Addr}{fd:be}(F:bB K "_law_variant" "_law_variant" mN f0 fd)(T:Bi mg):bf P w K mg base bp 1 f0 fd ["_law_one","_law_other"] xL:=by
 refine F.ok jW (fun vs H Q E h=>?_) (fun cdv A outer s H vs Q E hr h=>?_)
 ·obtain⟨_,_,_,_,rfl,_⟩:=h
  rfl
 obtain⟨v,v',t,u,rfl,hv,hv',hn,q0,q1⟩:=h
 have hun:=hr.un
 have hu:(A.deeper (gh "_law_variant" (ax mN) s.heap.objs.size f0 cdv)).units+1<cLine:=by omega
 apply aD;intro T1
 apply aD;intro T2
 apply aD;intro T3
 apply aD;intro T4
 apply aD;intro T5
 apply aD;intro T6
 apply aD;intro T7
 apply aD;intro T8
 apply aD;intro T9
 apply aD;intro T10
 apply aD;intro T11
 apply aD;intro T12
 apply aD;intro T13
 apply aD;intro T14
 apply aD;intro T15
 refine⟨_,(al (aB (i:=2) jW.nd rfl (Or.inl rfl) lY) (aC T15 (al (aB (i:=3) jW.nd rfl (Or.inl rfl) lY) (aC T14 (al (aB (i:=4) jW.nd rfl (Or.inl rfl) (bR (ae (bO (ae (pv 0) (ae (pv 1) af))) af))) (aC T13 (al (ig cx (aU (su hr.units0) (pv 4) (bR af) (aT _)) (aC T12 (al (aB (i:=5) jW.nd rfl (Or.inl rfl) (kF bY kl km kH (pv 4))) (aC T11 (al (aB (i:=6) jW.nd rfl (Or.inl rfl) (ao aw (pv 5) ai (fun _ _=>rfl))) (aC T10 (al (aB (i:=7) jW.nd rfl (Or.inl rfl) (ao aw (pv 5) ai (fun _ _=>rfl))) (aC T9 (al (aZ (aU gm (ao aw (pv 6) ai (fun _ _=>rfl)) (ao aw (pv 7) ai (fun _ _=>rfl)) (aT _)) (aq (aM fS)) bg) (aC T8 (aq (aZ (aU cf (ao aw (pv 6) ai (fun _ _=>rfl)) aS (aT _)) (aC T6 (al (aB (i:=8) jW.nd rfl (Or.inl rfl) (vS hu (pv 2) (ao aw (pv 6) ai (fun _ _=>rfl)) (ao aw (pv 7) ai (fun _ _=>rfl)) ⟨rfl,rfl,rfl,rfl⟩)) (aC T2 (al (aZ (eZ (aU gm (pv 8) (ao aw (pv 7) ai (fun _ _=>rfl)) (aT _)) (gk (aU gm (vS hu (pv 3) (pv 8) (ao aw (pv 6) ai (fun _ _=>rfl)) ⟨rfl,rfl,rfl,rfl⟩) (ao aw (pv 6) ai (fun _ _=>rfl)) (aT _)))).pt (aq (aM fS)) bg) (aC T1 (al (lX hu (pv 2) (ao aw (pv 6) ai (fun _ _=>rfl)) (pv 8) rfl) (aq (lX hu (pv 3) (pv 8) (ao aw (pv 6) ai (fun _ _=>rfl)) rfl)))))))) (aC T7 (aq (aZ (aU cf (ao aw (pv 6) ai (fun _ _=>rfl)) aS (aT _)) (aC T5 (al (aZ (eZ (aU gm (ao aw (pv 6) ai (fun _ _=>rfl)) (ao aw (pv 7) ai (fun _ _=>rfl)) (aT _)) (gk (aU gm (ca dk T.b_len cU (ae (ao aw (pv 6) ai (fun _ _=>rfl)) af)) (ca dk T.b_len cU (ae (ao aw (pv 7) ai (fun _ _=>rfl)) af)) (aT _)))).pt (aq (aM fS)) bg) (aC T4 (aq (dR cx rfl (pB rfl T.b_range (ae (ca dk T.b_len cU (ae (ao aw (pv 6) ai (fun _ _=>rfl)) af)) af)) (cz (i:=9) jW.nd rfl (Or.inl rfl)) (aC T3 (aq (cj (cp bY cX cY cT (pv 4) (ae (bO (ae (ao aw (ao aw (pv 6) ai (fun _ _=>rfl)) (pv 9) (fun _ _=>rfl)) (ae (ao aw (ao aw (pv 7) ai (fun _ _=>rfl)) (pv 9) (fun _ _=>rfl)) af))) af)))))))))) (aq (aZ (aU Hh (pv 6) (pv 7) (aT _)) (aq (aM fS)) bg))))))))))))))))) (aq (aM (pv 2)))))))))),?_⟩
 refine fun d1 fd1=>?_
 generalize e_:ad H d1 (HO.dK [])=H1
 obtain⟨s1,x1⟩:=aI fd1 e_
 refine fun d2 fd2=>?_
 generalize e_:ad H1 d2 (HO.dK [])=H2
 obtain⟨s2,x2⟩:=aI fd2 e_
 refine⟨_,rfl,_,rfl,(by show 2<=sizeLine;decide),fun g0 fg0=>?_⟩
 generalize e_:ad H2 g0 (HO.tup [v,v'])=H3
 obtain⟨s3,x3⟩:=aI fg0 e_
 refine⟨(by show 1<=sizeLine;decide),fun p fp=>?_⟩
 generalize e_:ad H3 p (HO.lst [.ref g0])=H4
 obtain⟨s4,x4⟩:=aI fp e_
 have s04:=s1.trans (s2.trans (s3.trans s4))
 have f1:H d1=none:=fd1
 have f2:H d2=none:=s1.free fd2
 have f3:H p=none:=(s1.trans (s2.trans s3)).free fp
 have n12:d1≠d2:=aF x1 fd2
 have n1p:d1≠p:=aF ((s2.trans s3) _ _ x1) fp
 have n2p:d2≠p:=aF (s3 _ _ x2) fp
 refine⟨fun m σ HA=>∃(o5 o6 o7 o8 o9:Option V)(us:List V)(td:List Ln)(kf kb:List (Key×V))(fo ba:Wp),σ=[some v,some v',some (.ref d1),some (.ref d2),some (.ref p),o5,o6,o7,o8,o9]/\av H HA/\HA p=some (.lst us)/\eV HA us td/\
  HA d1=some (.dK kf)/\jt kf fo/\HA d2=some (.dK kb)/\jt kb ba/\dG t u td fo ba/\aJ (td.map (·.1))=m/\kf.length+m<=t.nodes/\kb.length+m<=t.nodes,
  ⟨_,none,none,none,none,none,[.ref g0],[(t,u)],[],[],[],[],rfl,s04,x4,.cons ⟨g0,v,v',rfl,s4 _ _ x3,hv.mono (.of s04),hv'.mono (.of s04)⟩ .nil,(s2.trans (s3.trans s4)) _ _ x1,fun _=>rfl,(s3.trans s4) _ _ x2,fun _=>rfl,dG.start t u,rfl,by simp[aJ],by simp[aJ]⟩,?_⟩
 rintro m σ HA ⟨o5,o6,o7,o8,o9,us,td,kf,kb,fo,ba,rfl,sA,gp,hps,gd1,hfo,gd2,hba,hinv,hm,hkf,hkb⟩
 refine⟨_,rfl,(by show 0<=sizeLine;decide),fun e fe=>?_⟩
 generalize e_:ad HA e (HO.lst [])=HB
 obtain⟨t0,z0⟩:=aI fe e_
 have sB:=sA.trans t0
 have gpB:=t0 _ _ gp
 have hpsB:=hps.mono (.of t0)
 have gd1B:=t0 _ _ gd1
 have gd2B:=t0 _ _ gd2
 refine⟨p,e,_,rfl,rfl,gpB,z0,_,rfl,bE (fun c=>⟨_,fun _ _ h=>h,?_⟩) (fun c=>?_)⟩
 ·have hne:us≠[]:=by intro z;rw[z]at c;simp at c
  have hlen:=Paired.length hps
  obtain⟨us0,x,rfl⟩:=iw hne
  obtain⟨td0,⟨t1,u1⟩,rfl⟩:=iw (l:=td) (by intro z;rw[z]at hlen;simp at hlen)
  obtain⟨h0,g,y1,y2,rfl,hg,hy1,hy2⟩:=hpsB.snoc
  rw[zMA,gM]at hm
  simp only[bM,i0,aJ]at hm
  have hn1:=t1.nodes_pos
  refine⟨_,rfl,.inl ⟨rfl,_,ak.of gpB⟩,p,_,.ref g,rfl,rfl,gpB,by simp,?_⟩
  rw[lF]
  have kC:aR HB (ad HB p (HO.lst us0)):= .lst gpB
  have gpC:ad HB p (HO.lst us0) p=some (.lst us0):=au
  have gd1C:ad HB p (HO.lst us0) d1=some (.dK kf):=by rw[am n1p];exact gd1B
  have gd2C:ad HB p (HO.lst us0) d2=some (.dK kb):=by rw[am n2p];exact gd2B
  have sC:av H (ad HB p (HO.lst us0)):=fun b ob z=>by rw[am (aF z f3)];exact sB _ _ z
  generalize ad HB p (HO.lst us0)=HC at kC gpC gd1C gd2C sC |-
  have hgC:=kC _ _ hg
  have h1C:ay HC y1 t1:=hy1.mono kC
  have h2C:ay HC y2 u1:=hy2.mono kC
  have h0C:=h0.mono kC
  obtain⟨a1,xs1,rfl,e1⟩:=ED h1C
  obtain⟨a2,xs2,rfl,e2⟩:=ED h2C
  refine⟨_,rfl,_,_,_,_,rfl,rfl,aj.of hgC,bP,_,rfl,_,_,_,_,rfl,rfl,aj.of hgC,bW,?_⟩
  refine⟨_,rfl,_,_,_,_,rfl,rfl,aj.of e1,bP,_,rfl,_,_,_,_,rfl,rfl,aj.of e2,bP,rfl,_,rfl,bE (fun c1=>q0 _ sC (hinv.no fun ρ z=>?_)) (fun c1=>?_)⟩
  ·have:¬kd t1=kd u1:=by simpa using c1
   exact this (by rw[<-z,LG])
  have hk:kd t1=kd u1:=by simpa using c1
  cases t1 with
  |blank a=>
   cases u1 with
   |num _=>exact absurd hk (by simp[kd,kJ,jM,kK,jN,kL,kM,kN,kO,ma,kP,md,kQ])
   |name _=>exact absurd hk (by simp[kd,kJ,jM,kK,jN,kL,kM,kN,kO,ma,kP,md,kQ])
   |thing _ _=>exact absurd hk (by simp[kd,kJ,jM,kK,jN,kL,kM,kN,kO,ma,kP,md,kQ])
   |blank b=>
    obtain⟨a1',e0,j1⟩:=dN.mp h1C
    cases e0
    obtain⟨a2',e0,j2⟩:=dN.mp h2C
    cases e0
    have hp1:=nD kf (Sum.inr a) (V.str b)
    have hp2:=nD kb (Sum.inr b) (V.str a)
    cases hla:cu fo a with
    |some c2=>
     have hget:bT HC d1 (.str a) (some (.str c2)):=by
         have:=bT.k (k:=Sum.inr a) gd1C
         rw[hfo a,hla]at this
         exact this
     obtain⟨ov,hov,hval⟩:∃ov,bT HC d1 (.str a) ov/\ov.getD (.str b)= .str c2:=⟨_,hget,rfl⟩
     refine⟨_,rfl,_,_,_,_,rfl,rfl,aj.of j1,bP,rfl,_,rfl,cK (by decide +kernel) ?_⟩
     refine⟨_,rfl,d1,rfl,.inl ⟨_,.inl gd1C⟩,_,rfl,_,_,_,_,rfl,rfl,aj.of j1,bW,_,rfl,_,_,_,_,rfl,rfl,aj.of j2,bW,ov,hov,?_⟩
     rw[hval]
     refine⟨_,rfl,_,rfl,_,_,_,_,rfl,rfl,aj.of j2,bW,rfl,_,rfl,bE (fun c3=>jg (q0 _ sC (hinv.no1 hla (by simpa using c3)))) (fun c3=>?_)⟩
     have ecb:c2=b:=by simpa using c3
     subst ecb
     have hlb:=(hinv.inv a c2).mp hla
     have hget2:bT HC d2 (.str c2) (some (.str a)):=by
         have:=bT.k (k:=Sum.inr c2) gd2C
         rw[hba c2,hlb]at this
         exact this
     obtain⟨ov2,hov2,hval2⟩:∃ov,bT HC d2 (.str c2) ov/\ov.getD (.str a)= .str a:=⟨_,hget2,rfl⟩
     refine⟨_,rfl,d2,rfl,.inl ⟨_,.inl gd2C⟩,_,rfl,_,rfl,_,_,_,_,rfl,rfl,aj.of j1,bW,ov2,hov2,_,rfl,_,_,_,_,rfl,rfl,aj.of j1,bW,(by rw[hval2];rfl),_,rfl,bc (by rw[hval2];simp) ?_⟩
     have hwf:jt (bS kf (Sum.inr a) (.str c2)) fo:=hfo.put hla fun _ _=>rfl
     have hwb:jt (bS kb (Sum.inr c2) (.str a)) ba:=hba.put hlb fun _ _=>rfl
     have hvi:=hinv.old hla
     revert hwf hwb hvi hp1 hp2
     generalize c2=b
     intro hp1 hp2 hwf hwb hvi
     refine⟨_,rfl,_,rfl,_,rfl,_,_,_,_,rfl,rfl,aj.of j1,bW,d1,_,rfl,gK.k (k:=Sum.inr a) gd1C (big (by omega)),?_⟩
     have kD:aR HC (ad HC d1 (HO.dK (bS kf (Sum.inr a) (.str b)))):=fun b' ys z=>by rw[am (ce z gd1C (by intro z;cases z))];exact z
     have gpD:ad HC d1 (HO.dK (bS kf (Sum.inr a) (.str b))) p=some (.lst us0):=by rw[am n1p.symm];exact gpC
     have gd1D:ad HC d1 (HO.dK (bS kf (Sum.inr a) (.str b))) d1=some _:=au
     have gd2D:ad HC d1 (HO.dK (bS kf (Sum.inr a) (.str b))) d2=some (.dK kb):=by rw[am n12.symm];exact gd2C
     have sD:av H (ad HC d1 (HO.dK (bS kf (Sum.inr a) (.str b)))):=fun b' ob z=>by rw[am (aF z f1)];exact sC _ _ z
     generalize ad HC d1 (HO.dK (bS kf (Sum.inr a) (.str b)))=HD at kD gpD gd1D gd2D sD |-
     refine⟨_,rfl,_,_,_,_,rfl,rfl,aj.of (kD _ _ j1),bW,_,rfl,_,rfl,d2,_,rfl,gK.k (k:=Sum.inr b) gd2D (big (by omega)),?_⟩
     have kE:aR HD (ad HD d2 (HO.dK (bS kb (Sum.inr b) (.str a)))):=fun b' ys z=>by rw[am (ce z gd2D (by intro z;cases z))];exact z
     exact⟨aJ (td0.map (·.1)),by omega,_,_,_,_,_,us0,td0,_,_,_,_,rfl,fun b' ob z=>by rw[am (aF z f2)];exact sD _ _ z,by rw[am n2p.symm];exact gpD,h0C.mono (kD.trans kE),by rw[am n12];exact gd1D,hwf,au,hwb,hvi,rfl,by omega,by omega⟩
    |none=>
     have hget:bT HC d1 (.str a) none:=by
         have:=bT.k (k:=Sum.inr a) gd1C
         rw[hfo a,hla]at this
         exact this
     obtain⟨ov,hov,hval⟩:∃ov,bT HC d1 (.str a) ov/\ov.getD (.str b)= .str b:=⟨_,hget,rfl⟩
     refine⟨_,rfl,_,_,_,_,rfl,rfl,aj.of j1,bP,rfl,_,rfl,cK (by decide +kernel) ?_⟩
     refine⟨_,rfl,d1,rfl,.inl ⟨_,.inl gd1C⟩,_,rfl,_,_,_,_,rfl,rfl,aj.of j1,bW,_,rfl,_,_,_,_,rfl,rfl,aj.of j2,bW,ov,hov,?_⟩
     rw[hval]
     refine⟨_,rfl,_,rfl,_,_,_,_,rfl,rfl,aj.of j2,bW,rfl,_,rfl,bc (by simp) ?_⟩
     cases hlb:cu ba b with
     |some c2=>
      have hca:c2≠a:=fun z=>by
          rw[z]at hlb
          rw[(hinv.inv a b).mpr hlb]at hla
          cases hla
      have hget2:bT HC d2 (.str b) (some (.str c2)):=by
          have:=bT.k (k:=Sum.inr b) gd2C
          rw[hba b,hlb]at this
          exact this
      obtain⟨ov2,hov2,hval2⟩:∃ov,bT HC d2 (.str b) ov/\ov.getD (.str a)= .str c2:=⟨_,hget2,rfl⟩
      exact⟨_,rfl,d2,rfl,.inl ⟨_,.inl gd2C⟩,_,rfl,_,rfl,_,_,_,_,rfl,rfl,aj.of j1,bW,ov2,hov2,_,rfl,_,_,_,_,rfl,rfl,aj.of j1,bW,(by rw[hval2];rfl),_,rfl,cK (by rw[hval2];simpa using hca) (q0 _ sC (hinv.no2 hlb hca))⟩
     |none=>
      have hget2:bT HC d2 (.str b) none:=by
          have:=bT.k (k:=Sum.inr b) gd2C
          rw[hba b,hlb]at this
          exact this
      obtain⟨ov2,hov2,hval2⟩:∃ov,bT HC d2 (.str b) ov/\ov.getD (.str a)= .str a:=⟨_,hget2,rfl⟩
      refine⟨_,rfl,d2,rfl,.inl ⟨_,.inl gd2C⟩,_,rfl,_,rfl,_,_,_,_,rfl,rfl,aj.of j1,bW,ov2,hov2,_,rfl,_,_,_,_,rfl,rfl,aj.of j1,bW,(by rw[hval2];rfl),_,rfl,bc (by rw[hval2];simp) ?_⟩
      have hwf:jt (bS kf (Sum.inr a) (.str b)) (fo++[(a,b)]):=hfo.put (by rw[uf,hla];simp) fun x hx=>by rw[uf,if_neg (fQ hx),nk]
      have hwb:jt (bS kb (Sum.inr b) (.str a)) (ba++[(b,a)]):=hba.put (by rw[uf,hlb];simp) fun x hx=>by rw[uf,if_neg (fQ hx),nk]
      have hvi:=hinv.new hla hlb
      refine⟨_,rfl,_,rfl,_,rfl,_,_,_,_,rfl,rfl,aj.of j1,bW,d1,_,rfl,gK.k (k:=Sum.inr a) gd1C (big (by omega)),?_⟩
      have kD:aR HC (ad HC d1 (HO.dK (bS kf (Sum.inr a) (.str b)))):=fun b' ys z=>by rw[am (ce z gd1C (by intro z;cases z))];exact z
      have gpD:ad HC d1 (HO.dK (bS kf (Sum.inr a) (.str b))) p=some (.lst us0):=by rw[am n1p.symm];exact gpC
      have gd1D:ad HC d1 (HO.dK (bS kf (Sum.inr a) (.str b))) d1=some _:=au
      have gd2D:ad HC d1 (HO.dK (bS kf (Sum.inr a) (.str b))) d2=some (.dK kb):=by rw[am n12.symm];exact gd2C
      have sD:av H (ad HC d1 (HO.dK (bS kf (Sum.inr a) (.str b)))):=fun b' ob z=>by rw[am (aF z f1)];exact sC _ _ z
      generalize ad HC d1 (HO.dK (bS kf (Sum.inr a) (.str b)))=HD at kD gpD gd1D gd2D sD |-
      refine⟨_,rfl,_,_,_,_,rfl,rfl,aj.of (kD _ _ j1),bW,_,rfl,_,rfl,d2,_,rfl,gK.k (k:=Sum.inr b) gd2D (big (by omega)),?_⟩
      have kE:aR HD (ad HD d2 (HO.dK (bS kb (Sum.inr b) (.str a)))):=fun b' ys z=>by rw[am (ce z gd2D (by intro z;cases z))];exact z
      exact⟨aJ (td0.map (·.1)),by omega,_,_,_,_,_,us0,td0,_,_,_,_,rfl,fun b' ob z=>by rw[am (aF z f2)];exact sD _ _ z,by rw[am n2p.symm];exact gpD,h0C.mono (kD.trans kE),by rw[am n12];exact gd1D,hwf,au,hwb,hvi,rfl,by omega,by omega⟩
  |num n=>
   obtain⟨a1',e0,j1⟩:=fF.mp h1C
   cases e0
   refine⟨_,rfl,_,_,_,_,rfl,rfl,aj.of j1,bP,rfl,_,rfl,bc (by decide +kernel) ⟨_,rfl,_,_,_,_,rfl,rfl,aj.of j1,bP,rfl,_,rfl,bc (by decide +kernel) ?_⟩⟩
   refine⟨_,rfl,_,rfl,.num n,u1,h1C,h2C,(by show (A.deeper _).units+2 * 1<cLine;omega),fun bb hbb=>⟨_,rfl,bE (fun c2=>q0 _ sC (hinv.no fun ρ z=>hbb.mp c2 z)) (fun c2=>?_)⟩⟩
   have e0:Tm.num n=u1:=ic fun z=>c2 (hbb.mpr z)
   subst e0
   exact⟨aJ (td0.map (·.1)),by omega,_,_,_,_,_,us0,td0,kf,kb,fo,ba,rfl,sC,gpC,h0C,gd1C,hfo,gd2C,hba,hinv.leaf rfl,rfl,by omega,by omega⟩
  |name n=>
   obtain⟨a1',e0,j1⟩:=eP.mp h1C
   cases e0
   refine⟨_,rfl,_,_,_,_,rfl,rfl,aj.of j1,bP,rfl,_,rfl,bc (by decide +kernel) ⟨_,rfl,_,_,_,_,rfl,rfl,aj.of j1,bP,rfl,_,rfl,bc (by decide +kernel) ?_⟩⟩
   refine⟨_,rfl,_,rfl,.name n,u1,h1C,h2C,(by show (A.deeper _).units+2 * 1<cLine;omega),fun bb hbb=>⟨_,rfl,bE (fun c2=>q0 _ sC (hinv.no fun ρ z=>hbb.mp c2 z)) (fun c2=>?_)⟩⟩
   have e0:Tm.name n=u1:=ic fun z=>c2 (hbb.mpr z)
   subst e0
   exact⟨aJ (td0.map (·.1)),by omega,_,_,_,_,_,us0,td0,kf,kb,fo,ba,rfl,sC,gpC,h0C,gd1C,hfo,gd2C,hba,hinv.leaf rfl,rfl,by omega,by omega⟩
  |thing w1 ps=>
   cases u1 with
   |num _=>exact absurd hk (by simp[kd,kJ,jM,kK,jN,kL,kM,kN,kO,ma,kP,md,kQ])
   |name _=>exact absurd hk (by simp[kd,kJ,jM,kK,jN,kL,kM,kN,kO,ma,kP,md,kQ])
   |blank _=>exact absurd hk (by simp[kd,kJ,jM,kK,jN,kL,kM,kN,kO,ma,kP,md,kQ])
   |thing w2 qs=>
    obtain⟨a1',b1,us1,e0,j1,g1,m1⟩:=dF.mp h1C
    cases e0
    obtain⟨a2',b2,us2,e0,j2,g2,m2⟩:=dF.mp h2C
    cases e0
    have l1:=m1.len
    have l2:=m2.len
    have hpn:=gq ps
    simp only[Tm.nodes]at hm
    refine⟨_,rfl,_,_,_,_,rfl,rfl,aj.of j1,bP,rfl,_,rfl,bc (by decide +kernel) ⟨_,rfl,_,_,_,_,rfl,rfl,aj.of j1,bP,rfl,_,rfl,cK (by decide +kernel) ?_⟩⟩
    refine⟨_,rfl,_,_,_,_,rfl,rfl,aj.of j1,bW,_,rfl,_,_,_,_,rfl,rfl,aj.of j2,bW,rfl,_,rfl,bE (fun c2=>jg (q0 _ sC (hinv.no fun ρ z=>?_))) (fun c2=>?_)⟩
    ·have:¬w1=w2:=by simpa using c2
     exact this (Tm.thing.inj z).1
    have ew:w1=w2:=by simpa using c2
    subst ew
    refine⟨_,rfl,_,_,_,_,rfl,rfl,aj.of j1,qx,b1,us1,rfl,.inr (aj.of g1),_,rfl,_,_,_,_,rfl,rfl,aj.of j2,qx,b2,us2,rfl,.inr (aj.of g2),rfl,_,rfl,bE (fun c3=>q0 _ sC (hinv.no fun ρ z=>?_)) (fun c3=>?_)⟩
    ·have c3':¬us1.length=us2.length:=by
         have h:¬(us1.length:Int)=(us2.length:Int):=by simpa using c3
         omega
     have:=congrArg iG (Tm.thing.inj z).2
     rw[sP]at this
     omega
    have hl:us1.length=us2.length:=by
     have h:(us1.length:Int)=(us2.length:Int):=by simpa using c3
     omega
    have hlp:ps.length=qs.length:=by omega
    have hul:=Paired.length h0C
    have hcl:=gq (td0.map (·.1))
    rw[zLM]at hcl
    have hzl:(ps.zip qs).length=ps.length:=by rw[m5];omega
    refine⟨_,rfl,_,_,_,_,rfl,rfl,aj.of j1,qx,b1,us1,rfl,.inr (aj.of g1),_,rfl,by omega,by omega,let I1:Nat->L2.St->Hp->Prop:=(fun i σ HX=>∃(o9':Option V)(ws:List V),σ=[some v,some v',some (.ref d1),some (.ref d2),some (.ref p),some (.ref g),some (.ref a1),some (.ref a2),o8,o9']/\av H HX/\aR HC HX/\HX p=some (.lst (us0++ws))/\eV HX (us0++ws) (td0++(ps.zip qs).take i)/\HX d1=some (.dK kf)/\HX d2=some (.dK kb));rU (lo:=0) (n:=((us1.length:Nat):Int).toNat) I1
     ⟨_,[],rfl,sC,aR.refl _,by simpa using gpC,by simpa using h0C,gd1C,gd2C⟩ ?_ ?_⟩
    ·rintro i σ HX hi ⟨o9',ws,rfl,sX,kX,gX,hX,gd1X,gd2X⟩
     rw[lJ]at hi
     have e0:(0:Int)+(i:Int)=((i:Nat):Int):=by omega
     rw[e0]
     have hwl:=Paired.length hX
     rw[zLA,zLA,zLT,hzl]at hwl
     have hi1:i<ps.length:=by omega
     have hi2:i<qs.length:=by omega
     refine⟨_,rfl,.inl ⟨rfl,_,ak.of gX⟩,_,rfl,_,_,_,_,rfl,rfl,aj.of (kX _ _ j1),qx,_,rfl,_,_,_,us1[i],rfl,rfl,aj.of (kX _ _ g1),eO (zGE hi),_,rfl,_,_,_,_,rfl,rfl,aj.of (kX _ _ j2),qx,_,rfl,_,_,_,us2[i],rfl,rfl,aj.of (kX _ _ g2),eO (zGE (by omega)),(by show 2<=sizeLine;decide),fun g' fg'=>?_⟩
     generalize e_:ad HX g' (HO.tup [us1[i],us2[i]])=HY
     obtain⟨t5,z5⟩:=aI fg' e_
     have gY:=t5 _ _ gX
     refine⟨p,_,_,rfl,rfl,gY,big (by rw[zLA];omega),?_⟩
     have k6:aR HY (ad HY p (HO.lst (us0++ws++[.ref g']))):= .lst gY
     have kX6:=(aR.of t5).trans k6
     have kC6:=kX.trans kX6
     refine⟨_,ws++[.ref g'],rfl,fun b' ob z=>by rw[am (aF z f3)];exact t5 _ _ (sX _ _ z),kC6,by rw[au,dL],?_,by rw[am n1p];exact t5 _ _ gd1X,by rw[am n2p];exact t5 _ _ gd2X⟩
     rw[zTS (by omega),<-dL,<-dL]
     refine eV.app (hX.mono kX6) (.cons ⟨g',us1[i],us2[i],rfl,k6 _ _ z5,?_,?_⟩ .nil)
     ·rw[pe]
      exact(m1.at i hi hi1).mono kC6
     ·rw[pe]
      exact(m2.at i (by omega) hi2).mono kC6
    ·rintro σ HX ⟨o9',ws,rfl,sX,kX,gX,hX,gd1X,gd2X⟩
     rw[lJ,dD (by omega)]at hX
     have en:aJ ((td0++ps.zip qs).map (·.1))=aJ (td0.map (·.1))+aJ ps:=by
         rw[zMA,gM,uU (by omega)]
     exact⟨aJ ((td0++ps.zip qs).map (·.1)),by omega,_,_,_,_,_,us0++ws,td0++ps.zip qs,kf,kb,fo,ba,rfl,sX,gX,hX,gd1X,hfo,gd2X,hba,hinv.parts hlp,rfl,by omega,by omega⟩
 ·have e0:us=[]:=by
   cases us with
   |nil=>rfl
   |cons a b=>exact absurd rfl c
  subst e0
  have hlen:=Paired.length hps
  have e0:td=[]:=jb.mp hlen.symm
  subst e0
  refine⟨_,rfl,q1 d1 kf fo HB sB gd1B hfo (fun x hx=>?_) hinv.done⟩
  rcases hinv.key x hx with z|⟨_,z,_⟩
  ·exact z
  ·cases z
end
section
variable{P:aQ}{w:aH}{K:aA}{mg:aa->Option ac}{base:az}
inductive EF(vs:List V)(H:Hp)(Q:VK):Prop
 |mk:∀(d:Addr)(kvs:List (Key×V))(f:Fl),(vs=[.ref d])->(H d=some (.dK kvs))->(da H kvs f)->((f.map (·.1)).Nodup)->(f.length<64)->((∀p∈f,p.2.dp<=90))->(∀(l:Addr)(ps:List V)(ss:List aa)(H':Hp),av H H'->H l=none->H' l=some (.lst ps)->ss.Perm (f.map (·.1))->(ss.Pairwise fun a b=>a.cps.toList<b.cps.toList)->dQ H' ps (cH f ss)->Q (.ref l) H')->EF vs H Q
def xM:Sp:=fun vs H Q _=>EF vs H Q
theorem LI{f0:Addr}{fd:be}(F:bB K "filling_of" "filling_of" mz f0 fd)(TS:mg "sorted"=none):bf P w K mg base bp 1 f0 fd ["terms"] xM:=by
 refine F.ok Jr (fun vs H Q E h=>?_) (fun cdv A outer s H vs Q E hr h=>?_)
 ·obtain⟨_,_,_,rfl,_⟩:=h
  rfl
 obtain⟨d,kvs,f,rfl,hd,hk,hnd,hlen,hsz,q⟩:=h
 have hun:=hr.un
 have hu:(A.deeper (gh "filling_of" (ax mz) s.heap.objs.size f0 cdv)).units+1<cLine:=by omega
 refine⟨_,(aq (aM (kS (Nc:=["word","terms"]) (k:=1) (js:=[0]) ⟨rfl,rfl,rfl,rfl,rfl,rfl⟩ (eC (ca (Ip rfl) TS Iq (ae (pv 0) af))) (fun _ _ _ _=>cz (i:=0) (show (["word","terms"]:List aa).Nodup by decide +kernel) rfl (Or.inl rfl)) (fun _ _ _ _=>sw (aU IG (nE hu (pv 1) (pv 0) (fun _ _=>rfl)) (bO (ae aS (ae (pv 0) af))) (aT _))) (fun _ _ _ _=>(bO (ae (pv 0) (ae (nE hu (pv 1) (pv 0) (fun _ _=>rfl)) af))))))),?_⟩
 refine⟨_,rfl,d,kvs,f.map (·.1),rfl,hd,hk.keys,by rw[zLM];exact hlen,fun ls ss hls hperm hpair=>?_⟩
 have hst:=IK hperm hnd hpair
 have hsl:ss.length=f.length:=by rw[hperm.length_eq,zLM]
 generalize e_:ad H ls (HO.lst (ss.map V.str))=H1
 obtain⟨s1,x1⟩:=aI hls e_
 refine⟨ls,rfl,⟨_,ak.of x1⟩,fun D hD C _ _ _=>v9 (K:=K) (a:=ls) (xs:=ss.map V.str) (fun i σ H3=>∃(o:Option V)(qs:List V),σ=[o,some (.ref d)]/\av H1 H3/\H3 D=some (.lst qs)/\dQ H3 qs (cH f (ss.take i))/\qs.length<=i)
  ⟨none,[],rfl,bG hD _,au,.nil,aE _⟩ (fun i σ H3 _ ⟨_,_,_,s3,_⟩=>s3.seq (ak.of x1)) ?_ ?_⟩
 ·rintro i x σ H3 hx ⟨o,qs,rfl,s3,g3,hf3,hql⟩
  have hi:i<ss.length:=by have:=(bI.mp hx).1;simpa using this
  have ex:x= .str ss[i]:=by
   rw[cW,zGE hi]at hx
   exact(cv hx).symm
  subst ex
  have hmem:ss[i]∈f.map (·.1):=hperm.mem_iff.mp (zGM hi)
  obtain⟨t,ht⟩:=sJ hmem
  have s13:=s1.trans s3
  obtain⟨v,hv,htv⟩:=((hk.mono (.of s13)).dof ss[i]).2 t ht
  have hd3:=s13 _ _ hd
  have hg3:bT H3 d (.str ss[i]) (some v):=by
   have:=bT.k (k:=Sum.inr ss[i]) hd3
   rw[hv]at this
   exact this
  have htn:=hsz _ (gQ ht)
  refine⟨_,rfl,_,rfl,d,v,rfl,hg3,_,rfl,(by show 2<=sizeLine;decide),fun g hg=>?_⟩
  generalize e_:ad H3 g (HO.tup [.str "blank",.str ss[i]])=H4
  obtain⟨s4,x4⟩:=aI hg e_
  have hd4:=s4 _ _ hd3
  have hg4:bT H4 d (.str ss[i]) (some v):=by
   have:=bT.k (k:=Sum.inr ss[i]) hd4
   rw[hv]at this
   exact this
  refine⟨t,.blank ss[i],htv.mono (.of s4),dN.mpr ⟨g,rfl,x4⟩,?_,fun b hb=>⟨_,rfl,bE (fun c=>?_) (fun c=>?_)⟩⟩
  ·have hdd:=wk t
   show (A.deeper _).units+t.dt.dep<cLine
   simp only at htn
   omega
  ·refine⟨_,rfl,_,rfl,_,rfl,d,v,rfl,hg4,(by show 2<=sizeLine;decide),fun g2 hg2=>?_⟩
   generalize e_:ad H4 g2 (HO.tup [.str ss[i],v])=H5
   obtain⟨s5,x5⟩:=aI hg2 e_
   have s35:=s4.trans s5
   refine⟨_,s35 _ _ g3,big (by omega),?_⟩
   have k6:aR H5 (ad H5 D (HO.lst (qs++[.ref g2]))):= .lst (s35 _ _ g3)
   refine⟨_,_,rfl,fun b' ob z=>by rw[am (aF z hD)];exact s35 _ _ (s3 _ _ z),au,?_,by simp;omega⟩
   rw[zTS hi,wl,II ht (hb.mp c)]
   exact dQ.mono k6 ((hf3.mono (.of s35)).app ⟨g2,v,rfl,x5,htv.mono (.of s35)⟩)
  ·have et:t= .blank ss[i]:=ic fun z=>c (hb.mpr z)
   refine⟨_,qs,rfl,s3.trans s4,s4 _ _ g3,?_,by omega⟩
   rw[zTS hi,wl,IH ht et,jB]
   exact hf3.mono (.of s4)
 ·rintro σ H3 ⟨o,qs,rfl,s3,g3,hf3,hql⟩
  rw[zLM,dD (aE _)]at hf3
  exact q D qs ss H3 (s1.trans s3) (s1.free hD) g3 hperm hst hf3
end
section
variable{P:aQ}{w:aH}{K:aA}{mg:aa->Option ac}{base:az}{C:Addr}
inductive EG(vs:List V)(H:Hp)(Q:VK):Prop
 |mk:∀(v1 v2:V)(g:Ln),(vs=[v1,v2])->(ay H v1 g.1)->(ay H v2 g.2)->(g.1.Ok)->(g.2.Ok)->(g.1.nodes+g.2.nodes<=60)->((∀(a lf lL ln:Addr)(ps ls:List V)(ns:List Nat)(f:Fl)(fs:List Lf)(H':Hp),av H H'->H' a=some (.tup [.str "alike",.ref lf,.ref lL,.ref ln])->H' lf=some (.lst ps)->dQ H' ps f->H' lL=some (.lst ls)->eG H' ls fs->H' ln=some (.lst (bN ns))->d3 g f fs ns->fh g [] fs->(∀x∈fs,x.1.1∈bH g/\x.1.2∈bH g)->fs.length<=80000->Q (.ref a) H'))->((∀(a lL:Addr)(ls:List V)(m:Nat)(z:Lf)(fs:List Lf)(H':Hp),av H H'->H' a=some (.tup [.str "clash",.ref lL,.int (m:Nat)])->H' lL=some (.lst ls)->eG H' ls fs->fs[m]?=some z->wS z.1.1 z.1.2->fh g [] fs->(∀x∈fs,x.1.1∈bH g/\x.1.2∈bH g)->fs.length<=80000->Q (.ref a) H'))->((∀(a lL ln:Addr)(ls:List V)(ns:List Nat)(R:List Ln)(fs:List Lf)(H':Hp),av H H'->H' a=some (.tup [.str "ring",.ref lL,.ref ln])->H' lL=some (.lst ls)->eG H' ls fs->H' ln=some (.lst (bN ns))->iz fs ns R->sM R->ns.length<=1000->fh g [] fs->(∀x∈fs,x.1.1∈bH g/\x.1.2∈bH g)->fs.length<=80000->Q (.ref a) H'))->EG vs H Q
def xN:Sp:=fun vs H Q _=>EG vs H Q
theorem LJ{f0:Addr}{fd:be}(F:bB K "alike" "alike" mF f0 fd)(R:RG K C)(T:Bi mg)(n_Reckoning:v6 P w K mg base 1 C "Reckoning" ["self","one","other"] (wX C))(m_work_out:cL P w K mg base 7 C "work_out" ["self"] (xb C))(c_lines_by_word:aO P w K mg base 5 "lines_by_word" ["reckoning","words"] (xh C))
 (c_blanks_of:aO P w K mg base 2 "blanks_of" ["term"] lv) (c_ends_by_word:aO P w K mg base 1 "ends_by_word" ["lines","numbers"] xr) (c_settled:aO P w K mg base 5 "settled" ["ends"] xx) (c_ring_of:aO P w K mg base 4 "ring_of" ["ends","terms"] xz) (c_filling_of:aO P w K mg base 1 "filling_of" ["terms"] xM):
 bf P w K mg base bp 8 f0 fd ["one","other"] xN:=by
 refine F.ok ol (fun vs H Q E h=>?_) (fun cdv A outer s H vs Q E hr h=>?_)
 ·obtain⟨_,_,_,rfl,_⟩:=h
  rfl
 obtain⟨v1,v2,g,rfl,hv1,hv2,ho1,ho2,hsz,qA,qC,qR⟩:=h
 have hun:=hr.un
 have hu:(A.deeper (gh "alike" (ax mF) s.heap.objs.size f0 cdv)).units+1<cLine:=by omega
 have hp1:=g.1.nodes_pos
 have hp2:=g.2.nodes_pos
 have hUl:(bH g).length<=60:=by unfold bH;rw[zLA,gN,gN];exact hsz
 refine⟨_,(al (aB (i:=2) ol.nd rfl (Or.inl rfl) (HJ n_Reckoning (hr.mono (by decide)) (ae (pv 0) (ae (pv 1) af))))
  (al (cj (HI m_work_out (hr.mono (by decide)) (pv 2)))
  (al (aZ (aU nw (dS (pv 2) rfl) fS (aT _)) (aq (aM (bO (ae aS (ae (dS (pv 2) rfl) (ae (dS (pv 2) rfl) af)))))) bg)
  (al (aB (i:=3) ol.nd rfl (Or.inr rfl) (a0 c_lines_by_word (hr.mono (by decide)) (ae (pv 2) (ae (aY jK (a0 c_blanks_of (hr.mono (by decide)) (ae (pv 0) af)) (a0 c_blanks_of (hr.mono (by decide)) (ae (pv 1) af))) af))))
  (al (aB (i:=4) ol.nd rfl (Or.inl rfl) (a0 c_ends_by_word (hr.mono (by decide)) (ae (dS (pv 2) rfl) (ae (pv 3) af))))
  (al (aB (i:=5) ol.nd rfl (Or.inl rfl) (a0 c_settled (hr.mono (by decide)) (ae (pv 4) af)))
  (al (aZ (aU rW (ca Bb T.b_len cU (ae (pv 5) af)) (ca Bb T.b_len cU (ae (pv 4) af)) (aT _)) (aq (aM (bO (ae aS (ae (dS (pv 2) rfl) (ae (kS (Nc:=["word","numbers"]) (k:=1) (js:=[3]) ⟨rfl,rfl,rfl,rfl,rfl,rfl⟩ (eC (a0 c_ring_of (hr.mono (by decide)) (ae (pv 4) (ae (pv 5) af)))) (fun _ _ _ _=>cz (i:=0) (show (["word","numbers"]:List aa).Nodup by decide +kernel) rfl (Or.inl rfl)) (fun _ _ _ _=>nH) (fun _ _ _ _=>(nE hu (pv 1) (pv 0) (fun _ _=>rfl)))) af)))))) bg)
  (al (aB (i:=6) ol.nd rfl (Or.inl rfl) (a0 c_filling_of (hr.mono (by decide)) (ae (pv 5) af)))
  (aq (aM (bO (ae aS (ae (pv 6) (ae (dS (pv 2) rfl) (ae (kS (Nc:=["pair","numbers"]) (k:=1) (js:=[3]) ⟨rfl,rfl,rfl,rfl,rfl,rfl⟩ (eC (pv 6)) (fun _ _ _ _=>cz (i:=0) (show (["pair","numbers"]:List aa).Nodup by decide +kernel) rfl (Or.inl rfl)) (fun _ _ _ _=>nH) (fun _ _ _ _=>(nE hu (pv 1) (ao aw (pv 0) ai (fun _ _=>rfl)) (fun _ _=>rfl)))) af))))))))))))))),?_⟩
 refine⟨_,rfl,_,rfl,fun p dx fp fdx ndx=>?_⟩
 have k0:∀b o,H b=some o->ad (ad H dx (HO.own p)) p (HO.ins C dx []) b=some o:=fun b o e=>by rw[am (aF e fp),am (aF e fdx)];exact e
 have s0:av H (ad (ad H dx (HO.own p)) p (HO.ins C dx [])):=k0
 refine⟨p,dx,v1,v2,g,rfl,au,hv1.mono (.of s0),hv2.mono (.of s0),ho1,ho2,by omega,by omega,fun L O H1 fL fO kk hk=>⟨rfl,?_⟩⟩
 have s1:av H H1:=fun b o e=>kk b o (s0 _ _ e) (aF e fp)
 have fL0:H L=none:=s0.free fL
 have fO0:H O=none:=s0.free fO
 clear kk fL fO s0 k0
 refine⟨_,rfl,p,dx,_,rfl,hk.self,dH (by decide +kernel) (by decide +kernel) (by decide +kernel),p,dx,L,O,g,rfl,hk,by omega,fun H2 fs on cl f2 k2 hst=>?_⟩
 have s2:av H H2:=fun b o e=>f2 b o (s1 _ _ e) (aF e fp) (aF e fL0) (aF e fO0)
 rcases hst with⟨rfl,hinv⟩|⟨m,z,rfl,hz,hcl⟩
 rotate_left
 ·refine⟨_,rfl,p,C,dx,_,_,rfl,k2.self,R.cl,R.nc,tj,rfl,_,rfl,cK (by simp) ?_⟩
  refine⟨_,rfl,p,C,dx,_,_,rfl,k2.self,R.cl,R.nl,fj,_,rfl,p,C,dx,_,_,rfl,k2.self,R.cl,R.nc,tj,(by show 3<=sizeLine;decide),fun a fa=>?_⟩
  have t3:=bG fa (HO.tup [.str "clash",.ref L,.int (m:Nat)])
  have k3:=k2.same t3
  obtain⟨ls,gL,hls⟩:=k3.ls
  exact qC a L ls m z fs _ (s2.trans t3) au gL hls hz hcl k3.st.snd k3.st.inU (by have:=k3.len;omega)
 refine⟨_,rfl,p,C,dx,_,_,rfl,k2.self,R.cl,R.nc,tj,rfl,_,rfl,bc (by simp) ?_⟩
 refine⟨_,rfl,_,rfl,v1,g.1,rfl,hv1.mono (.of s2),by omega,fun l1 H3 s3 g3=>⟨_,rfl,v2,g.2,rfl,hv2.mono (.of (s2.trans s3)),by omega,fun l2 H4 s4 g4=>?_⟩⟩
 have hb1:=kU g.1
 have hb2:=kU g.2
 have hf1:=oP g.1
 have hf2:=oP g.2
 refine⟨l1,l2,_,_,rfl,rfl,s4 _ _ g3,g4,d9 (by simp only[zLM];omega),fun lw flw=>?_⟩
 rw[<-zMA]
 generalize e_:ad H4 lw (HO.lst ((g.1.firsts++g.2.firsts).map V.str))=H5
 obtain⟨t5,x5⟩:=aI flw e_
 have s25:=s3.trans (s4.trans t5)
 have k5:=k2.same s25
 have nlw:lw≠L:=fun y=>by
  obtain⟨ls,gL,_⟩:=(k2.same (s3.trans s4)).ls
  rw[y,gL]at flw
  cases flw
 have hwl:(g.1.firsts++g.2.firsts).length<=60:=by rw[zLA];omega
 have hmul:(g.1.firsts++g.2.firsts).length * (2 * (bH g).length)<=60 * 120:=Nat.mul_le_mul hwl (by omega)
 have hws:∀x,x∈g.1.firsts++g.2.firsts↔x∈g.1.bl\/x∈g.2.bl:=fun x=>by rw[br,jn,jn]
 refine⟨p,dx,L,O,g,bH g,fs,on,.non,60000,lw,g.1.firsts++g.2.firsts,rfl,k5,x5,nlw,fun x hx=>xl.mpr ((hws x).mp hx),hinv.tot,by omega,by omega,fun d kvs ks H6 fs6 on6 f6 k6 hext hkeep fd0 gd hds hdom hval=>?_⟩
 have s6:av H H6:=fun b o e=>f6 b o ((s2.trans s25) _ _ e) (aF e fp) (aF e fL0) (aF e fO0)
 have hinv6:=hkeep.inv _ hinv
 have hksl:ks.length<=60:=cO (iQ hds.nd fun x hx=>((hdom x).mp hx).1) hwl
 obtain⟨NE,hNE⟩:∃NE:aa->Nat×Tm,∀x,x∈ks->∃z k,ck kvs (Sum.inr x)=some (.int ((NE x).1:Nat))/\fs6[(NE x).1]?=some z/\z.1=(.blank x,(NE x).2)/\aX (bd fs on) k (.blank x) (NE x).2:=by
  have hq:∀x,∃ne:Nat×Tm,x∈ks->∃z k,ck kvs (Sum.inr x)=some (.int (ne.1:Nat))/\fs6[ne.1]?=some z/\z.1=(.blank x,ne.2)/\aX (bd fs on) k (.blank x) ne.2:=fun x=>by
   by_cases c:x∈ks
   ·obtain⟨n,z,e,k,h1,h2,h3,h4⟩:=hval x c
    exact⟨(n,e),fun _=>⟨z,k,h1,h2,h3,h4⟩⟩
   ·exact⟨(0,.num 0),fun h=>absurd h c⟩
  exact⟨fun x=>Classical.choose (hq x),fun x=>Classical.choose_spec (hq x)⟩
 have hEU:∀x∈ks,(NE x).2∈bH g:=fun x hx=>by
  obtain⟨z,k,_,h2,h3,_⟩:=hNE x hx
  have:=(k6.st.inU z (zMG h2)).2
  rw[h3]at this
  exact this
 have hEO:jZ g (bd fs6 on6) ks (fun x=>(NE x).2):=by
  refine⟨hds.nd,fun x=>?_,fun x hx=>?_,hEU,fun x hx=>?_⟩
  ·rw[hdom x,hws x]
   exact and_congr_right fun _=>(not_congr (hkeep.non (.blank x))).symm
  ·obtain⟨z,k,_,_,_,h4⟩:=hNE x hx
   exact hkeep.rch _ _ _ h4
  ·cases y:bd fs6 on6 (.blank x)with
   |none=>exact absurd y hx
   |some u=>exact xl.mp (wG k6.st y).1
 obtain⟨ls,gL,hls⟩:=k6.ls
 refine⟨_,rfl,p,C,dx,_,_,rfl,k6.self,R.cl,R.nl,fj,_,rfl,L,ls,fs6,d,kvs,ks,fun x=>(NE x).2,rfl,gL,hls,gd,hds,fun x hx=>?_,by omega,fun de ke H7 s7 fde gde hke=>?_⟩
 ·obtain⟨z,k,h1,h2,h3,_⟩:=hNE x hx
  exact⟨_,z,h1,h2,by rw[h3]⟩
 have heA:mP H7 de ke (dI ks fun x=>(NE x).2):=by
  refine⟨gde,hke,by rw[KJ];exact hds.nd,fun q hq=>?_,by simp[dI];omega⟩
  obtain⟨x,hx,rfl⟩:=bK.mp hq
  exact(k6.ok _ (hEU x hx)).2
 refine⟨_,rfl,de,ke,_,rfl,heA,fun dt kt f H8 s8 fdt gdt hkt hst hrdy=>?_⟩
 have he8:=heA.same s8
 have s68:=s7.trans s8
 have k8:=k6.same s68
 have gd8:=s68 _ _ gd
 have nedt:de≠dt:=aF gde fdt
 have hel:(dI ks fun x=>(NE x).2).length=ks.length:=by simp[dI]
 have hkel:=he8.kv.len
 have hktl:=hkt.len
 have hin:=hst.inv
 have hfk:∀x∈f.map (·.1),x∈ks:=fun x hx=>by
  obtain⟨q,hq,rfl⟩:=bK.mp hx
  obtain⟨e,h1,_⟩:=hin.2 q hq
  rw[jY]at h1
  split at h1
  ·rename_i c;exact c
  ·cases h1
 obtain⟨ls8,gL8,hls8⟩:=k8.ls
 have hlenf:=k8.len
 refine⟨_,rfl,dt,kt,rfl,gdt,_,rfl,de,ke,rfl,he8.at',_,_,rfl,rfl,_,rfl,bE (fun c=>?_) (fun c=>?_)⟩
 ·have c':(kt.length:Int)<(ke.length:Int):=of_decide_eq_true c
  have hex:∃q∈dI ks (fun x=>(NE x).2),look f q.1=none:=by
   refine ic fun hno=>?_
   have:ks.length<=(f.map (·.1)).length:=iQ hds.nd fun x hx=>by
        refine qr.mp fun y=>hno ⟨(x,(NE x).2),bK.mpr ⟨x,hx,rfl⟩,y⟩
   rw[zLM]at this
   omega
  refine⟨_,rfl,p,C,dx,_,_,rfl,k8.self,R.cl,R.nl,fj,_,rfl,_,rfl,de,ke,_,dt,kt,f,rfl,he8,gdt,hkt,nedt,hrdy,hex,fun lr ws H9 s9 flr glr hring hwsl=>⟨lr,rfl,⟨_,ak.of glr⟩,fun D fD _ _ _ _=>?_⟩⟩
  have gd9:=s9 _ _ gd8
  have hws9:∀x∈ws,x∈ks:=fun x hx=>by
   obtain⟨i,hi,rfl⟩:=ja.mp hx
   obtain⟨e,h1,_⟩:=hring.2 i hi
   rw[jY]at h1
   split at h1
   ·rename_i c;exact c
   ·cases h1
  refine pS (K:=K) (a:=lr) (xs:=ws.map V.str) (fun n σ HX=>∃(o:Option V),σ=[o,some (.ref d)]/\av H9 HX/\HX D=some (.lst (bN ((ws.take n).map fun x=>(NE x).1)))) ⟨none,rfl,bG fD _,au⟩ (fun n σ HX _ ⟨_,_,sX,_⟩=>sX.seq (ak.of glr)) ?_ ?_
  ·rintro n y σ HX hy ⟨o,rfl,sX,gD⟩
   have hi:n<ws.length:=by have:=(bI.mp hy).1;simpa using this
   have ey:y= .str ws[n]:=by
        rw[cW,zGE hi]at hy
        exact(cv hy).symm
   subst ey
   obtain⟨z,k,h1,_⟩:=hNE _ (hws9 _ (zGM hi))
   have hget:bT HX d (.str ws[n]) (some (.int ((NE ws[n]).1:Nat))):=by
        have:=bT.k (k:=Sum.inr ws[n]) (sX _ _ gd9)
        rw[h1]at this
        exact this
   refine⟨_,rfl,_,rfl,d,_,rfl,hget,_,gD,big (by simp[bN];omega),?_⟩
   refine⟨_,rfl,fun b ob z=>by rw[am (aF z fD)];exact sX _ _ z,?_⟩
   rw[au,zTS hi]
   simp only[bN,zMA,bM,i0]
  ·rintro σ HX ⟨o,rfl,sX,gD⟩
   rw[zLM,dD (aE _)]at gD
   refine⟨(by show 3<=sizeLine;decide),fun a fa=>?_⟩
   have t9:=bG fa (HO.tup [.str "ring",.ref L,.ref D])
   have s8Z:=s9.trans (sX.trans t9)
   refine qR a L D ls8 (ws.map fun x=>(NE x).1) (ws.map fun x=>(.blank x,(NE x).2)) fs6 _ (s6.trans (s68.trans s8Z)) au (s8Z _ _ gL8) (eG.mono (.of s8Z) hls8) (t9 _ _ gD) ?_ (KM hEO hring.1 hring.2) (by rw[zLM];exact hwsl) k8.st.snd k8.st.inU (by omega)
   have:∀l:List aa,(∀x∈l,x∈ks)->iz fs6 (l.map fun x=>(NE x).1) (l.map fun x=>(.blank x,(NE x).2)):=fun l hl=>by
        induction l with
        |nil=>exact .nil
        |cons x r ih=>
         obtain⟨z,k,_,h2,h3,_⟩:=hNE x (hl x (by simp))
         exact .cons ⟨z,h2,h3⟩ (ih fun y hy=>hl y (by simp[hy]))
   exact this ws hws9
 ·have c':¬(kt.length:Int)<(ke.length:Int):=fun z=>c (decide_eq_true z)
  have hall:∀x∈ks,x∈f.map (·.1):=fun x hx=>ic fun hno=>by
   have hnd:(x::f.map (·.1)).Nodup:=iZ.mpr ⟨hno,hin.1⟩
   have:=iQ hnd (m:=ks) fun y hy=>by
        rcases bo.mp hy with z|z
        ·rw[z];exact hx
        ·exact hfk y z
   simp only[zLC,zLM]at this
   omega
  have hcov:=hEO.cov hst hall
  have hfl:f.length<=60:=by
   have:=iQ hin.1 hfk
   rw[zLM]at this
   omega
  refine⟨_,rfl,dt,kt,f,rfl,gdt,hkt,hin.1,by omega,fun q hq=>?_,fun lf ps ss H9 s9 flf glf hperm hrise hfill=>?_⟩
  ·obtain⟨e,h1,h2,_⟩:=hin.2 q hq
   have hx:=hfk q.1 (bK.mpr ⟨q,hq,rfl⟩)
   rw[jY,if_pos hx]at h1
   cases h1
   have:=hcov.deep (hEU _ hx)
   rw[h2,dv]
   omega
  have hA:=KL (num:=fun x=>(NE x).1) k6.st hinv6 hEO (fun x hx=>by
   obtain⟨z,k,_,h2,h3,_⟩:=hNE x hx
   exact⟨z,h2,h3⟩) hst hall hperm hrise
  have hfil:∀q∈cH f ss,q.1∈ks:=fun q hq=>hfk _ (hperm.mem_iff.mp (jR hq).1)
  generalize cH f ss=ff at hfill hA hfil
  have hpl:=hfill.len
  have hff:ff.length<=60:=by
   have hnd:(ff.map (·.1)).Nodup:=by
        rw[qX,qY]
        exact hA.rise.imp fun h e=>by rw[e]at h;exact absurd h (uZ _)
   have:=iQ hnd (m:=ks) fun x hx=>by
        obtain⟨q,hq,rfl⟩:=bK.mp hx
        exact hfil q hq
   rw[zLM]at this
   omega
  have gd9:=s9 _ _ gd8
  refine⟨_,rfl,_,rfl,p,C,dx,_,_,rfl,(k8.same s9).self,R.cl,R.nl,fj,_,rfl,lf,rfl,⟨_,ak.of glf⟩,fun D fD _ _ _ _=>?_⟩
  refine pS (K:=K) (a:=lf) (xs:=ps) (fun n σ HX=>∃(o:Option V),σ=[o,some (.ref d)]/\av H9 HX/\HX D=some (.lst (bN ((ff.take n).map fun q=>(NE q.1).1)))) ⟨none,rfl,bG fD _,au⟩ (fun n σ HX _ ⟨_,_,sX,_⟩=>sX.seq (ak.of glf)) ?_ ?_
  ·rintro n y σ HX hy ⟨o,rfl,sX,gD⟩
   obtain⟨hi,ey⟩:=bI.mp hy
   have hi':n<ff.length:=by omega
   obtain⟨b,v,eb,hb0,_⟩:=hfill.get n hi hi'
   rw[ey]at eb
   subst eb
   obtain⟨z,k,h1,_⟩:=hNE _ (hfil _ (zGM hi'))
   have hget:bT HX d (.str ff[n].1) (some (.int ((NE ff[n].1).1:Nat))):=by
        have:=bT.k (k:=Sum.inr ff[n].1) (sX _ _ gd9)
        rw[h1]at this
        exact this
   refine⟨_,rfl,_,rfl,_,_,_,_,rfl,rfl,aj.of (sX _ _ hb0),bP,d,_,rfl,hget,_,gD,big (by simp[bN];omega),?_⟩
   refine⟨_,rfl,fun b ob z=>by rw[am (aF z fD)];exact sX _ _ z,?_⟩
   rw[au,zTS hi']
   simp only[bN,zMA,bM,i0]
  ·rintro σ HX ⟨o,rfl,sX,gD⟩
   rw[dD (by omega)]at gD
   refine⟨(by show 4<=sizeLine;decide),fun a fa=>?_⟩
   have t9:=bG fa (HO.tup [.str "alike",.ref lf,.ref L,.ref D])
   have s9Z:=sX.trans t9
   have s8Z:=s9.trans s9Z
   exact qA a lf L D ps ls8 _ ff fs6 _ (s6.trans (s68.trans s8Z)) au (s9Z _ _ glf) (hfill.mono (.of s9Z)) (s8Z _ _ gL8) (eG.mono (.of s8Z) hls8) (t9 _ _ gD) hA k8.st.snd k8.st.inU (by omega)
end
section
variable{P:aQ}{w:aH}{K:aA}{mg:aa->Option ac}{base:az}
def iT(l:List aa):Fl:=l.map fun x=>(x,Tm.blank (qw x))
theorem EH(l:List aa):(iT l).map (·.1)=l:=by
 unfold iT
 rw[kj]
 exact List.map_id l
theorem LK(l:List aa)(x:aa)(h:x∈l):look (iT l) x=some (.blank (qw x)):=by
 obtain⟨t,e⟩:=sJ (f:=iT l) (w:=x) (by rw[EH];exact h)
 rw[e]
 have hm:=gQ e
 obtain⟨y,_,ey⟩:=bK.mp hm
 cases ey
 rfl
theorem LL(t:Tm):t.fill (iT t.firsts)=t.sub (eI qw):=by
 rw[dv]
 refine mq t fun x hx=>?_
 unfold bh eI
 rw[LK _ x (jn.mpr hx)]
 rfl
theorem EI(l:List Nat):fV (l.map fun c=>(⟨#[c]⟩:aa))=l:=by
 unfold fV
 induction l with
 |nil=>rfl
 |cons c r ih=>simp only[bM,o0,ih];rfl
inductive EJ(vs:List V)(H:Hp)(Q:VK):Prop
 |mk:∀(v:V)(t:Tm),(vs=[v])->(ay H v t)->(t.nodes<=900)->((∀x∈t.bl,x.cps.toList.length<=39))->(∀v' H',av H H'->ay H' v' (t.sub (eI qw))->Q v' H')->EJ vs H Q
def xO:Sp:=fun vs H Q _=>EJ vs H Q
theorem LM{f0:Addr}{fd:be}(F:bB K "_law_anew" "_law_anew" oM f0 fd)(T:Bi mg)(c__law_blanks:aO P w K mg base 2 "_law_blanks" ["_law_term"] lv)(c__law_fill:aO P w K mg base 2 "_law_fill" ["_law_term","_law_pairs"] qo):bf P w K mg base bp 3 f0 fd ["_law_term"] xO:=by
 refine F.ok wP (fun vs H Q E h=>?_) (fun cdv A outer s H vs Q E hr h=>?_)
 ·obtain⟨_,_,rfl,_⟩:=h
  rfl
 obtain⟨v,t,rfl,ht,hn,hw,q⟩:=h
 have e113:(bL "q").cps.toList=[113]:=by decide +kernel
 refine⟨_,(al (aB (i:=1) wP.nd rfl (Or.inl rfl) (bR af))
  (al (dR cx rfl (eC (a0 c__law_blanks (hr.mono (by decide)) (ae (pv 0) af))) (cz (i:=2) wP.nd rfl (Or.inl rfl)) (aq (cj (cp bY cX cY cT (pv 1) (ae (bO (ae (pv 2) (ae (bO (ae aS (ae (aY kz aS (cp yY yZ y8 Bv aS (ae (Li T.b_list T.b_reversed (pv 2)) af))) af))) af))) af)))))
  (aq (aM (a0 c__law_fill (hr.mono (by decide)) (ae (pv 0) (ae (pv 1) af))))))),?_⟩
 refine⟨(by show 0<=sizeLine;decide),fun p fp=>?_⟩
 generalize e_:ad H p (HO.lst [])=H1
 obtain⟨s1,x1⟩:=aI fp e_
 refine⟨_,rfl,v,t,rfl,ht.mono (.of s1),by omega,fun l H2 s2 g2=>?_⟩
 have hfl:t.firsts.length<=900:=cO (oP t) (cO (kU t) hn)
 refine⟨l,rfl,⟨_,ak.of g2⟩,ij (K:=K) (a:=l) (xs:=t.firsts.map V.str) (fun i σ H3=>∃(o:Option V)(ps:List V),σ=[some v,some (.ref p),o]/\av H H3/\H3 l=some (.lst (t.firsts.map V.str))/\H3 p=some (.lst ps)/\dQ H3 ps (iT (t.firsts.take i)))
  ⟨none,[],rfl,s1.trans s2,g2,s2 _ _ x1,.nil⟩ (fun i σ H3 _ ⟨_,_,_,_,g3,_⟩=>ak.of g3) ?_ ?_⟩
 ·rintro i y σ H3 hi ⟨o,ps,rfl,s3,g3,x3,hf⟩
  obtain⟨x,hx1,rfl⟩:∃x,t.firsts[i]?=some x/\y=V.str x:=by
   rw[cW]at hi
   cases e:t.firsts[i]? with
   |none=>rw[e]at hi;cases hi
   |some z=>rw[e]at hi;exact⟨z,rfl,(cv hi).symm⟩
  obtain⟨hil,hie⟩:=bI.mp hx1
  have hxm:x∈t.bl:=jn.mp (zMG hx1)
  have hxl:=hw x hxm
  have hpl:=hf.len
  unfold iT at hpl
  rw[zLM,zLT]at hpl
  have npl:p≠l:=fun z=>by
   rw[z]at x3
   have:=x3.symm.trans g3
   have:=congrArg iG (HO.lst.inj (cv this))
   rw[zLM]at this
   omega
  refine⟨_,rfl,.inl ⟨rfl,_,ak.of x3⟩,_,rfl,rfl,_,rfl,x,rfl,by rw[eQ];omega,fun r fr=>?_⟩
  generalize e_:ad H3 r (HO.lst (x.cps.toList.reverse.map fun c=>V.str ⟨#[c]⟩))=H4
  obtain⟨s4,x4⟩:=aI fr e_
  have hjn:(pw "" (x.cps.toList.reverse.map fun c=>(⟨#[c]⟩:aa))).cps.toList=x.cps.toList.reverse:=by rw[BN,EI]
  have hsum:((x.cps.toList.reverse.map fun c=>(⟨#[c]⟩:aa)).map (·.length)).sum<=16777216:=by
   rw[<-BM,EI,cR]
   omega
  refine⟨r,x.cps.toList.reverse.map fun c=>⟨#[c]⟩,rfl,rfl,by rw[kj];exact x4,hsum,_,_,rfl,rfl,by rw[eQ,eQ,e113,hjn,cR];exact d9 (by simp only[zLC,zLN];omega),?_⟩
  have hq:(bL "q"++pw "" (x.cps.toList.reverse.map fun c=>(⟨#[c]⟩:aa)))=qw x:=CH (by rw[fG,e113,hjn];unfold qw;simp)
  rw[hq]
  refine⟨(by show 2<=sizeLine;decide),fun g1 f1=>?_⟩
  generalize e_:ad H4 g1 (HO.tup [.str "blank",.str (qw x)])=H5
  obtain⟨s5,x5⟩:=aI f1 e_
  refine⟨(by show 2<=sizeLine;decide),fun g2' f2=>?_⟩
  generalize e_:ad H5 g2' (HO.tup [.str x,.ref g1])=H6
  obtain⟨s6,x6⟩:=aI f2 e_
  have s36:av H3 H6:=s4.trans (s5.trans s6)
  have xp:=s36 _ _ x3
  refine⟨p,_,_,rfl,rfl,xp,big (by omega),?_⟩
  have k7:aR H6 (ad H6 p (HO.lst (ps++[.ref g2']))):= .lst xp
  refine⟨_,ps++[.ref g2'],rfl,fun b ob z=>?_,?_,au,?_⟩
  ·rw[am (aF z fp)];exact s36 _ _ (s3 _ _ z)
  ·rw[am npl.symm];exact s36 _ _ g3
  ·have e:iT (t.firsts.take (i+1))=iT (t.firsts.take i)++[(x,Tm.blank (qw x))]:=by
        unfold iT
        rw[zTS hil,zMA,hie]
        rfl
   rw[e]
   exact dQ.app ((hf.mono (.of s36)).mono k7) ⟨g2',.ref g1,rfl,k7 _ _ x6,dN.mpr ⟨g1,rfl,k7 _ _ (s6 _ _ x5)⟩⟩
 ·rintro σ H3 ⟨o,ps,rfl,s3,g3,x3,hf⟩
  rw[zLM,qW]at hf
  refine⟨_,rfl,_,rfl,v,t,p,ps,iT t.firsts,rfl,ht.mono (.of s3),by omega,x3,hf,by rw[EH];exact DE t,fun v' H4 s4 ht4=>?_⟩
  rw[LL]at ht4
  exact q v' H4 (s3.trans s4) ht4
end
theorem LN(ns:List Int)(i j:Nat):∃ms:List Int,d7 (ns.map V.int) (some (i:Int)) (some (j:Int))=ms.map V.int/\ms.length<=ns.length/\ms.length<=j - i:=by
 unfold d7
 rw[HT.sIx_nat,HT.sIx_nat]
 refine⟨(ns.drop (min i (ns.map V.int).length)).take (min j (ns.map V.int).length - min i (ns.map V.int).length),by rw[u0,u3],?_,?_⟩<;>rw[zLT,dh]<;>simp only[zLM]<;>omega
theorem EK{g:Ln}{f:Fl}{fs:List Lf}{ns:List Nat}(h:d3 g f fs ns):dy (bh f) g:=by unfold dy;rw[<-dv,<-dv];exact h.same
theorem EL{g:Ln}{f:Fl}{fs:List Lf}{ns:List Nat}(h:d3 g f fs ns)(ok1:g.1.Ok)(ok2:g.2.Ok)(hn:g.1.nodes+g.2.nodes<=60)(hb:(g.1.fill f).nodes<=5000000):qv f/\(g.1.fill f).dp<=90/\f.length<=1000:=by
 refine⟨⟨fun p hp=>⟨(h.keys p hp).elim (ue ok1 _) (ue ok2 _),h.ok h.nodup (KQ ok1 ok2) hp,?_,?_,h.own p hp⟩,h.rise⟩,?_,?_⟩
 ·have:=(h.vals hp).1;omega
 ·have:=(h.vals hp).2;omega
 ·have:=h.deep1;omega
 ·have:=iQ h.nodup (m:=g.1.bl++g.2.bl) fun x hx=>by
   obtain⟨p,hp,rfl⟩:=bK.mp hx
   exact br.mpr (h.keys p hp)
  rw[zLM,zLA]at this
  have:=kU g.1
  have:=kU g.2
  omega
section
variable{P:aQ}{w:aH}{K:aA}{mg:aa->Option ac}{base:az}
def lx(H:Hp)(v:V)(g:Ln):Prop:=
 (∃(a lf lL ln:Addr)(ps:List V)(f:Fl)(fs:List Lf)(ns:List Nat),v= .ref a/\H a=some (.tup [.str "alike",.ref lf,.ref lL,.ref ln])/\H lf=some (.lst ps)/\dQ H ps f/\d3 g f fs ns)\/
 ∃(a:Addr)(tag:aa)(x:V)(xs:List V),v= .ref a/\H a=some (.tup (.str tag::x::xs))/\tag≠"alike"/\∀φ,¬dy φ g
theorem lx.mono{H H':Hp}{v:V}{g:Ln}(s:av H H')(h:lx H v g):lx H' v g:=by
 rcases h with⟨a,lf,lL,ln,ps,f,fs,ns,e,h1,h2,h3,h4⟩|⟨a,tag,x,xs,e,h1,h2,h3⟩
 ·exact .inl ⟨a,lf,lL,ln,ps,f,fs,ns,e,s _ _ h1,s _ _ h2,h3.mono (.of s),h4⟩
 ·exact .inr ⟨a,tag,x,xs,e,s _ _ h1,h2,h3⟩
theorem lx.tup{H:Hp}{v:V}{g:Ln}(h:lx H v g):∃(a:Addr)(tag:aa)(x:V)(xs:List V),v= .ref a/\H a=some (.tup (.str tag::x::xs)):=by
 rcases h with⟨a,lf,lL,ln,ps,f,fs,ns,e,h1,_⟩|⟨a,tag,x,xs,e,h1,_⟩
 ·exact⟨a,_,_,_,e,h1⟩
 ·exact⟨a,tag,x,xs,e,h1⟩
inductive EM(K:aA)(vs:List V)(H:Hp)(Q:VK):Prop
 |mk:∀(a:Addr)(ns:List Int),(vs=[.ref a])->(ak K H a (ns.map V.int))->(ns.length<=63)->(∀H',Q (.bl true) H')->EM K vs H Q
def ug(K:aA):Sp:=fun vs H Q _=>EM K vs H Q
theorem LO{f0:Addr}{fd:be}(F:bB K "law" "law" jX f0 fd)(T:Bi mg)(c__law_couple:aO P w K mg base 4 "_law_couple" ["_law_script","_law_cells"] (xq K))(c__law_room:aO P w K mg base 1 "_law_room" ["_law_script","_law_most","_law_bound"] (xJ K))(c__law_anew:aO P w K mg base 3 "_law_anew" ["_law_term"] xO)
 (c_alike:aO P w K mg base 8 "alike" ["one","other"] xN) (c__law_at:aO P w K mg base 1 "_law_at" ["_law_script","_law_k"] (uc K)) (c__law_good:aO P w K mg base 5 "_law_good" ["_law_filling","_law_one","_law_other"] xK) (c__law_fill:aO P w K mg base 2 "_law_fill" ["_law_term","_law_pairs"] qo)
 (c__law_variant:aO P w K mg base 1 "_law_variant" ["_law_one","_law_other"] xL):bf P w K mg base bp 9 f0 fd ["_law_script"] (ug K):=by
 refine F.ok mO (fun vs H Q E h=>?_) (fun cdv A outer s H vs Q E hr h=>?_)
 ·obtain⟨a,ns,rfl,_⟩:=h
  rfl
 obtain⟨a,ns,rfl,hS,h63,q⟩:=h
 refine⟨_,(al (aB (i:=1) mO.nd rfl (Or.inl rfl) (a0 c__law_couple (hr.mono (by decide)) (ae (pv 0) (ae (gn gJ (pv 0) (fT ai) (fT (aY nu ai (a0 c__law_room (hr.mono (by decide)) (ae (pv 0) (ae ai (ae ai af))))))) af))))
  (al (aB (i:=2) mO.nd rfl (Or.inl rfl) (bO (ae (a0 c__law_anew (hr.mono (by decide)) (ae (ao aw (pv 1) ai (fun _ _=>rfl)) af)) (ae (a0 c__law_anew (hr.mono (by decide)) (ae (ao aw (pv 1) ai (fun _ _=>rfl)) af)) af))))
  (al (aB (i:=3) mO.nd rfl (Or.inl rfl) (a0 c_alike (hr.mono (by decide)) (ae (ao aw (pv 1) ai (fun _ _=>rfl)) (ae (ao aw (pv 1) ai (fun _ _=>rfl)) af))))
  (al (aB (i:=4) mO.nd rfl (Or.inl rfl) (a0 c_alike (hr.mono (by decide)) (ae (ao aw (pv 2) ai (fun _ _=>rfl)) (ae (ao aw (pv 2) ai (fun _ _=>rfl)) af))))
  (al (dR cx rfl (eC (bR (ae (pv 3) (ae (pv 4) af)))) (cz (i:=5) mO.nd rfl (Or.inl rfl)) (aq (aZ (eZ (e8 (dX (ca ir T.b_isinstance iu (ae (pv 5) (ae (ix T.b_tuple jk) af))))) (eZ (aU rW (ca dk T.b_len cU (ae (pv 5) af)) ai (aT _)) (gk (e8 (dX (ca ir T.b_isinstance iu (ae (ao aw (pv 5) ai (fun _ _=>rfl)) (ae (ix T.b_str nG) af)))))))).pt (aq (aM dq)) bg)))
  (al (aZ (eZ (aU gm (ao aw (pv 3) ai (fun _ _=>rfl)) aS (aT _)) (gk (aU gm (ao aw (pv 4) ai (fun _ _=>rfl)) aS (aT _)))).pt (al (aZ (aU cf (aY dj (a0 c__law_at (hr.mono (by decide)) (ae (pv 0) (ae ai af))) ai) ai (aT _)) (aq (aM dq)) bg)
        (aq (aM (vz (lP gm (ao aw (pv 3) ai (fun _ _=>rfl)) aS (aT _)) (rP (lP gm (ao aw (pv 4) ai (fun _ _=>rfl)) aS (aT _))))))) bg)
  (al (aZ (eZ (aU gm (ca dk T.b_len cU (ae (pv 3) af)) ai (aT _)) (gk (aU gm (ca dk T.b_len cU (ae (pv 4) af)) ai (aT _)))).pt (aq (aM dq)) bg)
  (al (aZ (e8 (dX (a0 c__law_good (hr.mono (by decide)) (ae (ao aw (pv 3) ai (fun _ _=>rfl)) (ae (ao aw (pv 1) ai (fun _ _=>rfl)) (ae (ao aw (pv 1) ai (fun _ _=>rfl)) af)))))) (aq (aM dq)) bg)
  (al (aZ (e8 (dX (a0 c__law_good (hr.mono (by decide)) (ae (ao aw (pv 4) ai (fun _ _=>rfl)) (ae (ao aw (pv 2) ai (fun _ _=>rfl)) (ae (ao aw (pv 2) ai (fun _ _=>rfl)) af)))))) (aq (aM dq)) bg)
  (al (aB (i:=6) mO.nd rfl (Or.inl rfl) (a0 c__law_fill (hr.mono (by decide)) (ae (ao aw (pv 1) ai (fun _ _=>rfl)) (ae (ao aw (pv 3) ai (fun _ _=>rfl)) af))))
  (aq (aM (lP nw (a0 c__law_variant (hr.mono (by decide)) (ae (pv 6) (ae (a0 c__law_fill (hr.mono (by decide)) (ae (ao aw (pv 2) ai (fun _ _=>rfl)) (ae (ao aw (pv 4) ai (fun _ _=>rfl)) af))) af))) fS (aT _)))))))))))))),?_⟩
 obtain⟨ms,ems,hms,hms'⟩:∃ms:List Int,d7 (ns.map V.int) (some (2:Int)) (some ((2:Int)+12))=ms.map V.int/\ms.length<=ns.length/\ms.length<=14 - 2:=LN ns 2 14
 refine⟨_,rfl,_,rfl,_,rfl,_,rfl,a,ns,12,36,rfl,hS,h63,_,_,rfl,rfl,_,rfl,a,_,rfl,hS,fun lc hlc=>?_⟩
 rw[ems]
 generalize e_:ad H lc (HO.lst (ms.map V.int))=H1
 obtain⟨s1,x1⟩:=aI hlc e_
 refine⟨a,lc,ns,ms,rfl,s1.seq hS,x1,by omega,fun t v1 v2 g H2 s2 ht h1 h2 ok1 ok2 hn w1 w2 hwt hsol=>?_⟩
 refine⟨_,rfl,_,_,_,_,rfl,rfl,aj.of ht,bW,v2,g.2,rfl,h2,by omega,w2,fun u1 H3 s3 hu1=>⟨_,rfl,_,_,_,_,rfl,rfl,aj.of (s3 _ _ ht),bP,v1,g.1,rfl,h1.mono (.of s3),by omega,w1,fun u2 H4 s4 hu2=>⟨(by show 2<=sizeLine;decide),fun tt ftt=>?_⟩⟩⟩
 generalize e_:ad H4 tt (HO.tup [u1,u2])=H5
 obtain⟨s5,x5⟩:=aI ftt e_
 have s25:=s3.trans (s4.trans s5)
 have ht5:=s25 _ _ ht
 have okt1:(turned g).1.Ok:=D5 ok2 fun x hx=>D4 (ue ok2 _ hx) (w2 x hx)
 have okt2:(turned g).2.Ok:=D5 ok1 fun x hx=>D4 (ue ok1 _ hx) (w1 x hx)
 have hnt:(turned g).1.nodes+(turned g).2.nodes<=60:=by unfold turned;simp only[KY];omega
 show cZ.nx _ _ _
 with_reducible show fu _ _ _ _ _
 refine fW (fun σ H6=>∃va,σ=[some (.ref a),some (.ref t),some (.ref tt),some va,none,none,none]/\av H5 H6/\lx H6 va g) ?_ (fun key=>?_)
 rotate_left
 ·refine⟨_,rfl,_,_,_,_,rfl,rfl,aj.of ht5,bP,_,rfl,_,_,_,_,rfl,rfl,aj.of ht5,bW,v1,v2,g,rfl,h1.mono (.of s25),h2.mono (.of s25),ok1,ok2,hn,?_,?_,?_⟩
  ·intro b lff lL ln ps ls ns' f fs H4' s4' hb hlff hfill hlL hls hln hA hsnd hinU hfsl
   exact key _ _ ⟨_,rfl,s4',.inl ⟨b,lff,lL,ln,ps,f,fs,ns',rfl,hb,hlff,hfill,hA⟩⟩
  ·intro b lL ls m z fs H4' s4' hb hlL hls hz hcl hsnd _ _
   exact key _ _ ⟨_,rfl,s4',.inr ⟨b,"clash",_,_,rfl,hb,by decide +kernel,fun φ=>DZ hsnd hz hcl.1 hcl.2.1 (Ez hcl) φ⟩⟩
  ·intro b lL ln ls ns' R fs H4' s4' hb hlL hls hln hnums hR _ hsnd _ _
   exact key _ _ ⟨_,rfl,s4',.inr ⟨b,"ring",_,_,rfl,hb,by decide +kernel,fun φ=>D0 hsnd hR (EA hnums) φ⟩⟩
 rintro σ H6 ⟨va,rfl,s6,ta⟩
 have x6:=s6 _ _ x5
 refine fW (fun σ H7=>∃vb,σ=[some (.ref a),some (.ref t),some (.ref tt),some va,some vb,none,none]/\av H6 H7/\lx H7 vb (turned g)) ?_ (fun key=>?_)
 rotate_left
 ·refine⟨_,rfl,_,_,_,_,rfl,rfl,aj.of x6,bP,_,rfl,_,_,_,_,rfl,rfl,aj.of x6,bW,u1,u2,turned g,rfl,hu1.mono (.of (s4.trans (s5.trans s6))),hu2.mono (.of (s5.trans s6)),okt1,okt2,hnt,?_,?_,?_⟩
  ·intro b lff lL ln ps ls ns' f fs H4' s4' hb hlff hfill hlL hls hln hA hsnd hinU hfsl
   exact key _ _ ⟨_,rfl,s4',.inl ⟨b,lff,lL,ln,ps,f,fs,ns',rfl,hb,hlff,hfill,hA⟩⟩
  ·intro b lL ls m z fs H4' s4' hb hlL hls hz hcl hsnd _ _
   exact key _ _ ⟨_,rfl,s4',.inr ⟨b,"clash",_,_,rfl,hb,by decide +kernel,fun φ=>DZ hsnd hz hcl.1 hcl.2.1 (Ez hcl) φ⟩⟩
  ·intro b lL ln ls ns' R fs H4' s4' hb hlL hls hln hnums hR _ hsnd _ _
   exact key _ _ ⟨_,rfl,s4',.inr ⟨b,"ring",_,_,rfl,hb,by decide +kernel,fun φ=>D0 hsnd hR (EA hnums) φ⟩⟩
 rintro σ H7 ⟨vb,rfl,s7,tb⟩
 have ta7:=ta.mono s7
 refine⟨_,rfl,_,rfl,(by show 2<=sizeLine;decide),fun lt flt=>?_⟩
 generalize e_:ad H7 lt (HO.lst [va,vb])=H8
 obtain⟨s8,x8⟩:=aI flt e_
 have ta8:=ta7.mono s8
 have tb8:=tb.mono s8
 refine⟨lt,rfl,⟨_,ak.of x8⟩,ij (K:=K) (a:=lt) (xs:=[va,vb]) (fun i σ H9=>∃(o:Option V),σ=[some (.ref a),some (.ref t),some (.ref tt),some va,some vb,o,none]/\H9=H8) ⟨none,rfl,rfl⟩ (fun i σ H9 _ ⟨_,_,e⟩=>by rw[e];exact ak.of x8) ?_ ?_⟩
 ·rintro i v σ H9 hi ⟨o,rfl,rfl⟩
  have hv:∃g',lx H9 v g':=by
   have:=zMG hi
   simp only[bo,eL,or_false]at this
   rcases this with rfl|rfl
   ·exact⟨_,ta8⟩
   ·exact⟨_,tb8⟩
  obtain⟨g',hv⟩:=hv
  obtain⟨b,tag,x,xs,rfl,hb⟩:=hv.tup
  refine⟨_,rfl,_,_,_,_,rfl,.tup hb,.tt,_,rfl,cg ⟨_,rfl,b,_,rfl,.inr (aj.of hb),_,_,rfl,rfl,_,rfl,bc (by simp;omega) ⟨_,rfl,_,_,_,_,rfl,rfl,aj.of hb,bP,_,_,_,_,rfl,.str _,.ss,_,rfl,cg ?_⟩⟩⟩
  exact⟨_,rfl,rfl⟩
 ·rintro σ H9 ⟨o,rfl,rfl⟩
  have s09:=s1.trans (s2.trans (s25.trans (s6.trans (s7.trans s8))))
  have s29:=s25.trans (s6.trans (s7.trans s8))
  have s59:=s6.trans (s7.trans s8)
  have hS9:=s09.seq hS
  have ht9:=s29 _ _ ht
  have xt9:=s59 _ _ x5
  have h19:=h1.mono (.of s29)
  have h29:=h2.mono (.of s29)
  have hu19:=hu1.mono (.of (s4.trans (s5.trans s59)))
  have hu29:=hu2.mono (.of (s5.trans s59))
  rcases ta8 with⟨b1,lf1,lL1,ln1,ps1,f1,fs1,ns1,rfl,hb1,hl1,hf1,hA⟩|⟨b1,tag1,y1,ys1,rfl,hb1,ne1,no1⟩
  ·rcases tb8 with⟨b2,lf2,lL2,ln2,ps2,f2,fs2,ns2,rfl,hb2,hl2,hf2,hB⟩|⟨b2,tag2,y2,ys2,rfl,hb2,ne2,no2⟩
   ·have hba:=KZ hA hB
    have hbig:(g.1.fill f1).nodes<=5000000:=by rw[dv];exact cO (hA.big hwt DX.1) (by decide)
    obtain⟨fok1,dp1,len1⟩:=EL hA ok1 ok2 hn hbig
    obtain⟨fok2,dp2,len2⟩:=EL hB okt1 okt2 hnt (cO hba.2 hbig)
    refine⟨_,rfl,_,_,_,_,rfl,rfl,aj.of hb1,bP,rfl,_,rfl,bc (by decide +kernel) ⟨_,rfl,_,_,_,_,rfl,rfl,aj.of hb2,bP,rfl,_,rfl,bc (by decide +kernel) ?_⟩⟩
    refine⟨_,rfl,b1,_,rfl,.inr (aj.of hb1),rfl,_,rfl,bc (by simp) ⟨_,rfl,b2,_,rfl,.inr (aj.of hb2),rfl,_,rfl,bc (by simp) ?_⟩⟩
    refine⟨_,rfl,_,_,_,_,rfl,rfl,aj.of hb1,bW,_,rfl,_,_,_,_,rfl,rfl,aj.of ht9,bP,_,rfl,_,_,_,_,rfl,rfl,aj.of ht9,bW,lf1,ps1,f1,v1,v2,g.1,g.2,rfl,hl1,hf1,fok1,h19,h29,by omega,by omega,hA.keys,hA.clean,hA.same,dp1,len1,fun H10 s10=>⟨_,rfl,cg ?_⟩⟩
    refine⟨_,rfl,_,_,_,_,rfl,rfl,aj.of (s10 _ _ hb2),bW,_,rfl,_,_,_,_,rfl,rfl,aj.of (s10 _ _ xt9),bP,_,rfl,_,_,_,_,rfl,rfl,aj.of (s10 _ _ xt9),bW,lf2,ps2,f2,u1,u2,(turned g).1,(turned g).2,rfl,s10 _ _ hl2,hf2.mono (.of s10),fok2,hu19.mono (.of s10),hu29.mono (.of s10),by omega,by omega,hB.keys,hB.clean,hB.same,dp2,len2,fun H11 s11=>⟨_,rfl,cg ?_⟩⟩
    have s91:=s10.trans s11
    refine⟨_,rfl,_,_,_,_,rfl,rfl,aj.of (s91 _ _ ht9),bP,_,rfl,_,_,_,_,rfl,rfl,aj.of (s91 _ _ hb1),bW,v1,g.1,lf1,ps1,f1,rfl,h19.mono (.of s91),by omega,s91 _ _ hl1,hf1.mono (.of s91),hA.nodup,fun w3 H12 s12 hw3=>?_⟩
    have s92:=s91.trans s12
    refine⟨_,rfl,_,rfl,_,_,_,_,rfl,rfl,aj.of (s92 _ _ xt9),bP,_,rfl,_,_,_,_,rfl,rfl,aj.of (s92 _ _ hb2),bW,u1,(turned g).1,lf2,ps2,f2,rfl,hu19.mono (.of s92),by omega,s92 _ _ hl2,hf2.mono (.of s92),hB.nodup,fun w4 H13 s13 hw4=>?_⟩
    refine⟨w3,w4,_,_,rfl,hw3.mono (.of s13),hw4,hbig,fun H14 s14 hno=>?_,fun d kvs fo H14 s14 hd hw hkey hV=>?_⟩
    ·obtain⟨ρ,hρ⟩:=hba.1
     exact absurd hρ (hno ρ)
    ·have key:∀b,b=true->Q (.bl b) H14:=fun b hb=>by subst hb;exact q _
     exact⟨rfl,key _ (by simp)⟩
   ·exact absurd (D6 (EK hA)) (no2 _)
  ·rcases tb8 with⟨b2,lf2,lL2,ln2,ps2,f2,fs2,ns2,rfl,hb2,hl2,hf2,hB⟩|⟨b2,tag2,y2,ys2,rfl,hb2,ne2,no2⟩
   ·exact absurd (D7 (EK hB)) (no1 _)
   ·have hway:¬ns.getD 0 0 % 5=0:=fun z=>by
     obtain⟨φ,hφ⟩:=hsol z
     exact no1 φ hφ
    refine⟨_,rfl,_,_,_,_,rfl,rfl,aj.of hb1,bP,rfl,_,rfl,cK (by simp[ne1]) ?_⟩
    refine⟨_,rfl,a,ns,0,rfl,hS9,_,_,rfl,rfl,(show (0:Int)<5 by decide),rfl,_,rfl,bc (by simpa using hway) ?_⟩
    have key:∀b,b=true->Q (.bl b) H9:=fun b hb=>by subst hb;exact q _
    exact⟨_,rfl,_,_,_,_,rfl,rfl,aj.of hb1,bP,rfl,_,rfl,cK (by simp[ne1]) ⟨_,rfl,_,_,_,_,rfl,rfl,aj.of hb2,bP,rfl,key _ (by simp[ne2])⟩⟩
end
end K09
namespace PySem.W.Fast
def tw18024980542312748501:=0
def tw18343082260949832038:=0
def tw4977638895066697273:=0
def tw12765554781349674475:=0
def tw13856842335049241507:=0
def tw8723498626400485865:=0
def tw1956253402202887353:=0
def tw16389195793779651020:=0
def tw1483778892444847547:=0
def tw1026173398153879369:=0
def tw12630003033451606413:=0
def tw5476463419205226899:=0
def tw83468192112225703:=0
def tw10507486325442555686:=0
def tw18402220924660138455:=0
def tw17763390236843116586:=0
def tw13867144216698229001:=0
def tw12693491667517484128:=0
def tw7259492240474315692:=0
def tw14169098137136021340:=0
def tw16983145796325895933:=0
def tw540284759513794956:=0
def tw8546146074679657861:=0
def tw5279154121872044276:=0
def tw17090565329423779399:=0
def tw9291415304167211762:=0
def tw11156510410652216762:=0
def tw6042969533079224095:=0
def tw16921539036033358686:=0
def tw18385864926922590199:=0
def tw5148196765634334955:=0
def tw13144230052547557968:=0
def tw17188289115934150850:=0
def tw4554822362685883416:=0
def tw16161790396111712209:=0
def tw10566094788371649668:=0
def tw8496480373728004862:=0
def tw10376773932997722666:=0
def tw11175350786941328205:=0
def tw9745253926880590452:=0
def tw5255231533242637194:=0
def tw5702383588755901194:=0
def tw12903735203842540186:=0
def tw4709315276952673923:=0
def tw6634043255722798206:=0
def tw18310675397514993913:=0
def tw13295313915809925534:=0
def tw14834662802846194163:=0
def tw14805487312232152390:=0
def tw4150824990752924964:=0
def tw4809108460067943847:=0
def tw1959499991016635029:=0
def tw6777597658779916384:=0
def tw15880506339163864445:=0
def tw11332483870564917218:=0
def tw11653334252056627778:=0
def tw5702004484684536471:=0
def tw16871970997166747675:=0
def tw14596890245094151395:=0
def tw16895734771569173248:=0
def tw7425389657279037926:=0
def tw12245888495743538010:=0
def tw13076081341386093815:=0
def tw6631313741284035785:=0
def tw12180609481326487651:=0
def tw3585284433165356509:=0
def tw13558176266626725542:=0
def tw11937364718320061613:=0
def tw12590814049547665634:=0
def tw5051599597187228457:=0
end PySem.W.Fast
namespace K09
open PySem L2 BF
theorem LP{l:uC}{w:aH}{K:aA}{h:az}{mg:aa->Option ac}{fa CReckoning f1 f2 f3 f4 f5 f6 f7 f8 f9 f10 f11 f12 f13 f14 f15 f16 f17 f18 f19 f20 f21 f22 f23 f24 f25 f26 f27 f28 f29 f30 f31 f32 f33 f34 f35 f36 f37 f38 f39 f40 f41 f42 f43 f44 f45 f46 f47 f48 f49 f50 f51:Addr}(X:K.In h)(G:h.Ns mainGlobals mg)(hfa:mg "law"=some (.ref fa))
 {od1 an1 od2 an2 od3 an3 od4 an4 od5 an5 od6 an6 od7 an7 od8 an8 od9 an9 od10 an10 od11 an11 od12 an12 od13 an13 od14 an14 od15 an15 od16 an16 od17 an17 od18 an18 od19 an19 od20 an20 od21 an21 od22 an22 od23 an23 od24 an24 od25 an25 od26 an26 od27 an27 od28 an28 od29 an29 od30 an30 od31 an31 od32 an32 od33 an33 od34 an34 od35 an35 od36 an36 od37 an37 od38 an38 od39 an39 od40 an40 od41 an41 od42 an42 od43 an43 od44 an44 od45 an45 od46 an46 od47 an47 od48 an48 od49 an49 od50 an50 od51 an51:Option Addr} {sl1 sl2 sl3 sl4 sl5 sl6 sl7 sl8 sl9 sl10 sl11 sl12 sl13 sl14 sl15 sl16 sl17 sl18 sl19 sl20 sl21 sl22 sl23 sl24 sl25 sl26 sl27 sl28 sl29 sl30 sl31 sl32 sl33 sl34 sl35 sl36 sl37 sl38 sl39 sl40 sl41 sl42 sl43 sl44 sl45 sl46 sl47 sl48 sl49 sl50 sl51:Array (Option ac)} {oc1 kV1 dc1 pm1 cd1 ct1 oc2 kV2 dc2 pm2 cd2 ct2 oc3 kV3 dc3 pm3 cd3 ct3 oc4 kV4 dc4 pm4 cd4 ct4 oc5 kV5 dc5 pm5 cd5 ct5 oc6 kV6 dc6 pm6 cd6 ct6 oc7 kV7 dc7 pm7 cd7 ct7 oc8 kV8 dc8 pm8 cd8 ct8 oc9 kV9 dc9 pm9 cd9 ct9 oc10 kV10 dc10 pm10 cd10 ct10 oc11 kV11 dc11 pm11 cd11 ct11 oc12 kV12 dc12 pm12 cd12 ct12 oc13 kV13 dc13 pm13 cd13 ct13 oc14 kV14 dc14 pm14 cd14 ct14 oc15 kV15 dc15 pm15 cd15 ct15 oc16 kV16 dc16 pm16 cd16 ct16 oc17 kV17 dc17 pm17 cd17 ct17 oc18 kV18 dc18 pm18 cd18 ct18 oc19 kV19 dc19 pm19 cd19 ct19 oc20 kV20 dc20 pm20 cd20 ct20 oc21 kV21 dc21 pm21 cd21 ct21 oc22 kV22 dc22 pm22 cd22 ct22 oc23 kV23 dc23 pm23 cd23 ct23 oc24 kV24 dc24 pm24 cd24 ct24 oc25 kV25 dc25 pm25 cd25 ct25 oc26 kV26 dc26 pm26 cd26 ct26 oc27 kV27 dc27 pm27 cd27 ct27 oc28 kV28 dc28 pm28 cd28 ct28 oc29 kV29 dc29 pm29 cd29 ct29 oc30 kV30 dc30 pm30 cd30 ct30 oc31 kV31 dc31 pm31 cd31 ct31 oc32 kV32 dc32 pm32 cd32 ct32 oc33 kV33 dc33 pm33 cd33 ct33 oc34 kV34 dc34 pm34 cd34 ct34 oc35 kV35 dc35 pm35 cd35 ct35 oc36 kV36 dc36 pm36 cd36 ct36 oc37 kV37 dc37 pm37 cd37 ct37 oc38 kV38 dc38 pm38 cd38 ct38 oc39 kV39 dc39 pm39 cd39 ct39 oc40 kV40 dc40 pm40 cd40 ct40 oc41 kV41 dc41 pm41 cd41 ct41 oc42 kV42 dc42 pm42 cd42 ct42 oc43 kV43 dc43 pm43 cd43 ct43 oc44 kV44 dc44 pm44 cd44 ct44 oc45 kV45 dc45 pm45 cd45 ct45 oc46 kV46 dc46 pm46 cd46 ct46 oc47 kV47 dc47 pm47 cd47 ct47 oc48 kV48 dc48 pm48 cd48 ct48 oc49 kV49 dc49 pm49 cd49 ct49 oc50 kV50 dc50 pm50 cd50 ct50 oc51 kV51 dc51 pm51 cd51 ct51:ac}
 (aCReckoning:bF K mainGlobals "Reckoning"=some (some (.ref CReckoning)))
 (a1:df K (.ref CReckoning) "__init__"=some (some (.ref f1)))
 (l1:K.lookup f1=some ⟨oc1,od1,.func (bw "__init__" "Reckoning.__init__" (bA nX) (bz nX) (ax nX) .none kV1 dc1 pm1 an1 cd1 ct1),sl1⟩)
 (c1:bC K cd1 "Reckoning.__init__"=true)
 (k1:bv K (.ref f1)=true)
 (i1:fP K (.ref f1)=true)
 (a2:df K (.ref CReckoning) "work_out"=some (some (.ref f2)))
 (l2:K.lookup f2=some ⟨oc2,od2,.func (bw "work_out" "Reckoning.work_out" (bA nY) (bz nY) (ax nY) .none kV2 dc2 pm2 an2 cd2 ct2),sl2⟩)
 (c2:bC K cd2 "Reckoning.work_out"=true)
 (k2:bv K (.ref f2)=true)
 (i2:fP K (.ref f2)=true)
 (a3:df K (.ref CReckoning) "led_together"=some (some (.ref f3)))
 (l3:K.lookup f3=some ⟨oc3,od3,.func (bw "led_together" "Reckoning.led_together" (bA nZ) (bz nZ) (ax nZ) .none kV3 dc3 pm3 an3 cd3 ct3),sl3⟩)
 (c3:bC K cd3 "Reckoning.led_together"=true)
 (k3:bv K (.ref f3)=true)
 (i3:fP K (.ref f3)=true)
 (a4:df K (.ref CReckoning) "lead_on"=some (some (.ref f4)))
 (l4:K.lookup f4=some ⟨oc4,od4,.func (bw "lead_on" "Reckoning.lead_on" (bA mB) (bz mB) (ax mB) .none kV4 dc4 pm4 an4 cd4 ct4),sl4⟩)
 (c4:bC K cd4 "Reckoning.lead_on"=true)
 (k4:bv K (.ref f4)=true)
 (i4:fP K (.ref f4)=true)
 (a5:df K (.ref CReckoning) "line_on"=some (some (.ref f5)))
 (l5:K.lookup f5=some ⟨oc5,od5,.func (bw "line_on" "Reckoning.line_on" (bA mC) (bz mC) (ax mC) .none kV5 dc5 pm5 an5 cd5 ct5),sl5⟩)
 (c5:bC K cd5 "Reckoning.line_on"=true)
 (k5:bv K (.ref f5)=true)
 (i5:fP K (.ref f5)=true)
 (a6:df K (.ref CReckoning) "line_to_end"=some (some (.ref f6)))
 (l6:K.lookup f6=some ⟨oc6,od6,.func (bw "line_to_end" "Reckoning.line_to_end" (bA n0) (bz n0) (ax n0) .none kV6 dc6 pm6 an6 cd6 ct6),sl6⟩)
 (c6:bC K cd6 "Reckoning.line_to_end"=true)
 (k6:bv K (.ref f6)=true)
 (i6:fP K (.ref f6)=true)
 (a7:df K (.ref CReckoning) "end_of"=some (some (.ref f7)))
 (l7:K.lookup f7=some ⟨oc7,od7,.func (bw "end_of" "Reckoning.end_of" (bA n6) (bz n6) (ax n6) .none kV7 dc7 pm7 an7 cd7 ct7),sl7⟩)
 (c7:bC K cd7 "Reckoning.end_of"=true)
 (k7:bv K (.ref f7)=true)
 (i7:fP K (.ref f7)=true)
 (a8:df K (.ref CReckoning) "between_ends"=some (some (.ref f8)))
 (l8:K.lookup f8=some ⟨oc8,od8,.func (bw "between_ends" "Reckoning.between_ends" (bA n8) (bz n8) (ax n8) .none kV8 dc8 pm8 an8 cd8 ct8),sl8⟩)
 (c8:bC K cd8 "Reckoning.between_ends"=true)
 (k8:bv K (.ref f8)=true)
 (i8:fP K (.ref f8)=true)
 (a9:df K (.ref CReckoning) "part_lines"=some (some (.ref f9)))
 (l9:K.lookup f9=some ⟨oc9,od9,.func (bw "part_lines" "Reckoning.part_lines" (bA n9) (bz n9) (ax n9) .none kV9 dc9 pm9 an9 cd9 ct9),sl9⟩)
 (c9:bC K cd9 "Reckoning.part_lines"=true)
 (k9:bv K (.ref f9)=true)
 (i9:fP K (.ref f9)=true)
 (a10:df K (.ref CReckoning) "turned"=some (some (.ref f10)))
 (l10:K.lookup f10=some ⟨oc10,od10,.func (bw "turned" "Reckoning.turned" (bA og) (bz og) (ax og) .none kV10 dc10 pm10 an10 cd10 ct10),sl10⟩)
 (c10:bC K cd10 "Reckoning.turned"=true)
 (k10:bv K (.ref f10)=true)
 (i10:fP K (.ref f10)=true)
 (a11:df K (.ref CReckoning) "chained"=some (some (.ref f11)))
 (l11:K.lookup f11=some ⟨oc11,od11,.func (bw "chained" "Reckoning.chained" (bA oh) (bz oh) (ax oh) .none kV11 dc11 pm11 an11 cd11 ct11),sl11⟩)
 (c11:bC K cd11 "Reckoning.chained"=true)
 (k11:bv K (.ref f11)=true)
 (i11:fP K (.ref f11)=true)
 (a12:df K (.ref CReckoning) "added"=some (some (.ref f12)))
 (l12:K.lookup f12=some ⟨oc12,od12,.func (bw "added" "Reckoning.added" (bA oj) (bz oj) (ax oj) .none kV12 dc12 pm12 an12 cd12 ct12),sl12⟩)
 (c12:bC K cd12 "Reckoning.added"=true)
 (k12:bv K (.ref f12)=true)
 (i12:fP K (.ref f12)=true)
 (pgReckoning:oT K CReckoning aa.empty=true)
 (hdReckoning:qM K CReckoning=true)
 (poReckoning:uy K CReckoning=true)
 (saReckoning:df K (.ref CReckoning) "__setattr__"=some (some (.builtin "object.__setattr__")))
 (mkReckoning:uA K CReckoning=true)
 (kcReckoning:bv K (.ref CReckoning)=true)
 (nReckoning_lines:df K (.ref CReckoning) "lines"=some none)
 (nReckoning_onward:df K (.ref CReckoning) "onward"=some none)
 (nReckoning_clash:df K (.ref CReckoning) "clash"=some none)
 (a13:bF K mainGlobals "all_parts"=some (some (.ref f13)))
 (l13:K.lookup f13=some ⟨oc13,od13,.func (bw "all_parts" "all_parts" (bA nP) (bz nP) (ax nP) .none kV13 dc13 pm13 an13 cd13 ct13),sl13⟩)
 (c13:bC K cd13 "all_parts"=true)
 (k13:bv K (.ref f13)=true)
 (a14:bF K mainGlobals "blanks_of"=some (some (.ref f14)))
 (l14:K.lookup f14=some ⟨oc14,od14,.func (bw "blanks_of" "blanks_of" (bA mx) (bz mx) (ax mx) .none kV14 dc14 pm14 an14 cd14 ct14),sl14⟩)
 (c14:bC K cd14 "blanks_of"=true)
 (k14:bv K (.ref f14)=true)
 (a15:bF K mainGlobals "head"=some (some (.ref f15)))
 (l15:K.lookup f15=some ⟨oc15,od15,.func (bw "head" "head" (bA nQ) (bz nQ) (ax nQ) .none kV15 dc15 pm15 an15 cd15 ct15),sl15⟩)
 (c15:bC K cd15 "head"=true)
 (k15:bv K (.ref f15)=true)
 (a16:bF K mainGlobals "same"=some (some (.ref f16)))
 (l16:K.lookup f16=some ⟨oc16,od16,.func (bw "same" "same" (bA nR) (bz nR) (ax nR) .none kV16 dc16 pm16 an16 cd16 ct16),sl16⟩)
 (c16:bC K cd16 "same"=true)
 (k16:bv K (.ref f16)=true)
 (a17:bF K mainGlobals "replaced"=some (some (.ref f17)))
 (l17:K.lookup f17=some ⟨oc17,od17,.func (bw "replaced" "replaced" (bA my) (bz my) (ax my) .none kV17 dc17 pm17 an17 cd17 ct17),sl17⟩)
 (c17:bC K cd17 "replaced"=true)
 (k17:bv K (.ref f17)=true)
 (a18:bF K mainGlobals "taken"=some (some (.ref f18)))
 (l18:K.lookup f18=some ⟨oc18,od18,.func (bw "taken" "taken" (bA nT) (bz nT) (ax nT) .none kV18 dc18 pm18 an18 cd18 ct18),sl18⟩)
 (c18:bC K cd18 "taken"=true)
 (k18:bv K (.ref f18)=true)
 (a19:bF K mainGlobals "filling_of"=some (some (.ref f19)))
 (l19:K.lookup f19=some ⟨oc19,od19,.func (bw "filling_of" "filling_of" (bA mz) (bz mz) (ax mz) .none kV19 dc19 pm19 an19 cd19 ct19),sl19⟩)
 (c19:bC K cd19 "filling_of"=true)
 (k19:bv K (.ref f19)=true)
 (a20:bF K mainGlobals "shown"=some (some (.ref f20)))
 (l20:K.lookup f20=some ⟨oc20,od20,.func (bw "shown" "shown" (bA nU) (bz nU) (ax nU) .none kV20 dc20 pm20 an20 cd20 ct20),sl20⟩)
 (c20:bC K cd20 "shown"=true)
 (k20:bv K (.ref f20)=true)
 (a21:bF K mainGlobals "push_parts"=some (some (.ref f21)))
 (l21:K.lookup f21=some ⟨oc21,od21,.func (bw "push_parts" "push_parts" (bA nV) (bz nV) (ax nV) .none kV21 dc21 pm21 an21 cd21 ct21),sl21⟩)
 (c21:bC K cd21 "push_parts"=true)
 (k21:bv K (.ref f21)=true)
 (a22:bF K mainGlobals "shown_leaf"=some (some (.ref f22)))
 (l22:K.lookup f22=some ⟨oc22,od22,.func (bw "shown_leaf" "shown_leaf" (bA nW) (bz nW) (ax nW) .none kV22 dc22 pm22 an22 cd22 ct22),sl22⟩)
 (c22:bC K cd22 "shown_leaf"=true)
 (k22:bv K (.ref f22)=true)
 (a23:bF K mainGlobals "alike"=some (some (.ref f23)))
 (l23:K.lookup f23=some ⟨oc23,od23,.func (bw "alike" "alike" (bA mF) (bz mF) (ax mF) .none kV23 dc23 pm23 an23 cd23 ct23),sl23⟩)
 (c23:bC K cd23 "alike"=true)
 (k23:bv K (.ref f23)=true)
 (a24:bF K mainGlobals "lines_by_word"=some (some (.ref f24)))
 (l24:K.lookup f24=some ⟨oc24,od24,.func (bw "lines_by_word" "lines_by_word" (bA mG) (bz mG) (ax mG) .none kV24 dc24 pm24 an24 cd24 ct24),sl24⟩)
 (c24:bC K cd24 "lines_by_word"=true)
 (k24:bv K (.ref f24)=true)
 (a25:bF K mainGlobals "ends_by_word"=some (some (.ref f25)))
 (l25:K.lookup f25=some ⟨oc25,od25,.func (bw "ends_by_word" "ends_by_word" (bA mH) (bz mH) (ax mH) .none kV25 dc25 pm25 an25 cd25 ct25),sl25⟩)
 (c25:bC K cd25 "ends_by_word"=true)
 (k25:bv K (.ref f25)=true)
 (a26:bF K mainGlobals "settled"=some (some (.ref f26)))
 (l26:K.lookup f26=some ⟨oc26,od26,.func (bw "settled" "settled" (bA mI) (bz mI) (ax mI) .none kV26 dc26 pm26 an26 cd26 ct26),sl26⟩)
 (c26:bC K cd26 "settled"=true)
 (k26:bv K (.ref f26)=true)
 (a27:bF K mainGlobals "ready_words"=some (some (.ref f27)))
 (l27:K.lookup f27=some ⟨oc27,od27,.func (bw "ready_words" "ready_words" (bA mJ) (bz mJ) (ax mJ) .none kV27 dc27 pm27 an27 cd27 ct27),sl27⟩)
 (c27:bC K cd27 "ready_words"=true)
 (k27:bv K (.ref f27)=true)
 (a28:bF K mainGlobals "words_ahead"=some (some (.ref f28)))
 (l28:K.lookup f28=some ⟨oc28,od28,.func (bw "words_ahead" "words_ahead" (bA mK) (bz mK) (ax mK) .none kV28 dc28 pm28 an28 cd28 ct28),sl28⟩)
 (c28:bC K cd28 "words_ahead"=true)
 (k28:bv K (.ref f28)=true)
 (a29:bF K mainGlobals "ring_of"=some (some (.ref f29)))
 (l29:K.lookup f29=some ⟨oc29,od29,.func (bw "ring_of" "ring_of" (bA mL) (bz mL) (ax mL) .none kV29 dc29 pm29 an29 cd29 ct29),sl29⟩)
 (c29:bC K cd29 "ring_of"=true)
 (k29:bv K (.ref f29)=true)
 (a30:bF K mainGlobals "_law_whole"=some (some (.ref f30)))
 (l30:K.lookup f30=some ⟨oc30,od30,.func (bw "_law_whole" "_law_whole" (bA om) (bz om) (ax om) .none kV30 dc30 pm30 an30 cd30 ct30),sl30⟩)
 (c30:bC K cd30 "_law_whole"=true)
 (k30:bv K (.ref f30)=true)
 (a31:bF K mainGlobals "_law_at"=some (some (.ref f31)))
 (l31:K.lookup f31=some ⟨oc31,od31,.func (bw "_law_at" "_law_at" (bA oo) (bz oo) (ax oo) .none kV31 dc31 pm31 an31 cd31 ct31),sl31⟩)
 (c31:bC K cd31 "_law_at"=true)
 (k31:bv K (.ref f31)=true)
 (a32:bF K mainGlobals "_law_any_word"=some (some (.ref f32)))
 (l32:K.lookup f32=some ⟨oc32,od32,.func (bw "_law_any_word" "_law_any_word" (bA oq) (bz oq) (ax oq) .none kV32 dc32 pm32 an32 cd32 ct32),sl32⟩)
 (c32:bC K cd32 "_law_any_word"=true)
 (k32:bv K (.ref f32)=true)
 (a33:bF K mainGlobals "_law_leaf"=some (some (.ref f33)))
 (l33:K.lookup f33=some ⟨oc33,od33,.func (bw "_law_leaf" "_law_leaf" (bA ou) (bz ou) (ax ou) .none kV33 dc33 pm33 an33 cd33 ct33),sl33⟩)
 (c33:bC K cd33 "_law_leaf"=true)
 (k33:bv K (.ref f33)=true)
 (a34:bF K mainGlobals "_law_head"=some (some (.ref f34)))
 (l34:K.lookup f34=some ⟨oc34,od34,.func (bw "_law_head" "_law_head" (bA ow) (bz ow) (ax ow) .none kV34 dc34 pm34 an34 cd34 ct34),sl34⟩)
 (c34:bC K cd34 "_law_head"=true)
 (k34:bv K (.ref f34)=true)
 (a35:bF K mainGlobals "_law_many_parts"=some (some (.ref f35)))
 (l35:K.lookup f35=some ⟨oc35,od35,.func (bw "_law_many_parts" "_law_many_parts" (bA ox) (bz ox) (ax ox) .none kV35 dc35 pm35 an35 cd35 ct35),sl35⟩)
 (c35:bC K cd35 "_law_many_parts"=true)
 (k35:bv K (.ref f35)=true)
 (a36:bF K mainGlobals "_law_called"=some (some (.ref f36)))
 (l36:K.lookup f36=some ⟨oc36,od36,.func (bw "_law_called" "_law_called" (bA oy) (bz oy) (ax oy) .none kV36 dc36 pm36 an36 cd36 ct36),sl36⟩)
 (c36:bC K cd36 "_law_called"=true)
 (k36:bv K (.ref f36)=true)
 (a37:bF K mainGlobals "_law_steps"=some (some (.ref f37)))
 (l37:K.lookup f37=some ⟨oc37,od37,.func (bw "_law_steps" "_law_steps" (bA oz) (bz oz) (ax oz) .none kV37 dc37 pm37 an37 cd37 ct37),sl37⟩)
 (c37:bC K cd37 "_law_steps"=true)
 (k37:bv K (.ref f37)=true)
 (a38:bF K mainGlobals "_law_fill"=some (some (.ref f38)))
 (l38:K.lookup f38=some ⟨oc38,od38,.func (bw "_law_fill" "_law_fill" (bA oA) (bz oA) (ax oA) .none kV38 dc38 pm38 an38 cd38 ct38),sl38⟩)
 (c38:bC K cd38 "_law_fill"=true)
 (k38:bv K (.ref f38)=true)
 (a39:bF K mainGlobals "_law_blanks"=some (some (.ref f39)))
 (l39:K.lookup f39=some ⟨oc39,od39,.func (bw "_law_blanks" "_law_blanks" (bA oB) (bz oB) (ax oB) .none kV39 dc39 pm39 an39 cd39 ct39),sl39⟩)
 (c39:bC K cd39 "_law_blanks"=true)
 (k39:bv K (.ref f39)=true)
 (a40:bF K mainGlobals "_law_hidden"=some (some (.ref f40)))
 (l40:K.lookup f40=some ⟨oc40,od40,.func (bw "_law_hidden" "_law_hidden" (bA oC) (bz oC) (ax oC) .none kV40 dc40 pm40 an40 cd40 ct40),sl40⟩)
 (c40:bC K cd40 "_law_hidden"=true)
 (k40:bv K (.ref f40)=true)
 (a41:bF K mainGlobals "_law_letters"=some (some (.ref f41)))
 (l41:K.lookup f41=some ⟨oc41,od41,.func (bw "_law_letters" "_law_letters" (bA oE) (bz oE) (ax oE) .none kV41 dc41 pm41 an41 cd41 ct41),sl41⟩)
 (c41:bC K cd41 "_law_letters"=true)
 (k41:bv K (.ref f41)=true)
 (a42:bF K mainGlobals "_law_small"=some (some (.ref f42)))
 (l42:K.lookup f42=some ⟨oc42,od42,.func (bw "_law_small" "_law_small" (bA oF) (bz oF) (ax oF) .none kV42 dc42 pm42 an42 cd42 ct42),sl42⟩)
 (c42:bC K cd42 "_law_small"=true)
 (k42:bv K (.ref f42)=true)
 (a43:bF K mainGlobals "_law_is_term"=some (some (.ref f43)))
 (l43:K.lookup f43=some ⟨oc43,od43,.func (bw "_law_is_term" "_law_is_term" (bA oG) (bz oG) (ax oG) .none kV43 dc43 pm43 an43 cd43 ct43),sl43⟩)
 (c43:bC K cd43 "_law_is_term"=true)
 (k43:bv K (.ref f43)=true)
 (a44:bF K mainGlobals "_law_is_filling"=some (some (.ref f44)))
 (l44:K.lookup f44=some ⟨oc44,od44,.func (bw "_law_is_filling" "_law_is_filling" (bA oH) (bz oH) (ax oH) .none kV44 dc44 pm44 an44 cd44 ct44),sl44⟩)
 (c44:bC K cd44 "_law_is_filling"=true)
 (k44:bv K (.ref f44)=true)
 (a45:bF K mainGlobals "_law_good"=some (some (.ref f45)))
 (l45:K.lookup f45=some ⟨oc45,od45,.func (bw "_law_good" "_law_good" (bA mM) (bz mM) (ax mM) .none kV45 dc45 pm45 an45 cd45 ct45),sl45⟩)
 (c45:bC K cd45 "_law_good"=true)
 (k45:bv K (.ref f45)=true)
 (a46:bF K mainGlobals "_law_round"=some (some (.ref f46)))
 (l46:K.lookup f46=some ⟨oc46,od46,.func (bw "_law_round" "_law_round" (bA oJ) (bz oJ) (ax oJ) .none kV46 dc46 pm46 an46 cd46 ct46),sl46⟩)
 (c46:bC K cd46 "_law_round"=true)
 (k46:bv K (.ref f46)=true)
 (a47:bF K mainGlobals "_law_couple"=some (some (.ref f47)))
 (l47:K.lookup f47=some ⟨oc47,od47,.func (bw "_law_couple" "_law_couple" (bA oK) (bz oK) (ax oK) .none kV47 dc47 pm47 an47 cd47 ct47),sl47⟩)
 (c47:bC K cd47 "_law_couple"=true)
 (k47:bv K (.ref f47)=true)
 (a48:bF K mainGlobals "_law_variant"=some (some (.ref f48)))
 (l48:K.lookup f48=some ⟨oc48,od48,.func (bw "_law_variant" "_law_variant" (bA mN) (bz mN) (ax mN) .none kV48 dc48 pm48 an48 cd48 ct48),sl48⟩)
 (c48:bC K cd48 "_law_variant"=true)
 (k48:bv K (.ref f48)=true)
 (a49:bF K mainGlobals "_law_anew"=some (some (.ref f49)))
 (l49:K.lookup f49=some ⟨oc49,od49,.func (bw "_law_anew" "_law_anew" (bA oM) (bz oM) (ax oM) .none kV49 dc49 pm49 an49 cd49 ct49),sl49⟩)
 (c49:bC K cd49 "_law_anew"=true)
 (k49:bv K (.ref f49)=true)
 (a50:bF K mainGlobals "_law_room"=some (some (.ref f50)))
 (l50:K.lookup f50=some ⟨oc50,od50,.func (bw "_law_room" "_law_room" (bA oN) (bz oN) (ax oN) .none kV50 dc50 pm50 an50 cd50 ct50),sl50⟩)
 (c50:bC K cd50 "_law_room"=true)
 (k50:bv K (.ref f50)=true)
 (a51:bF K mainGlobals "law"=some (some (.ref f51)))
 (l51:K.lookup f51=some ⟨oc51,od51,.func (bw "law" "law" (bA jX) (bz jX) (ax jX) .none kV51 dc51 pm51 an51 cd51 ct51),sl51⟩)
 (c51:bC K cd51 "law"=true)
 (k51:bv K (.ref f51)=true)
 (qzTZ:bF K mainGlobals "zip"=some none)
 (qzTE:bF K mainGlobals "enumerate"=some none)
 (qzTS:bF K mainGlobals "sorted"=some none)
 (z_len:bF K mainGlobals "len"=some none)
 (z_abs:bF K mainGlobals "abs"=some none)
 (z_isinstance:bF K mainGlobals "isinstance"=some none)
 (z_int:bF K mainGlobals "int"=some none)
 (z_bool:bF K mainGlobals "bool"=some none)
 (z_str:bF K mainGlobals "str"=some none)
 (z_tuple:bF K mainGlobals "tuple"=some none)
 (z_list:bF K mainGlobals "list"=some none)
 (z_reversed:bF K mainGlobals "reversed"=some none)
 (z_range:bF K mainGlobals "range"=some none)
 :∃fd:be,(∀(s:ah)(v:ac),BindsTo s fd ⟨[v],[]⟩ [("_law_script",v)])/\∀base:az,K.In base->base.Ns mainGlobals mg->bf l.prog w K mg base bp 9 fa fd ["_law_script"] (ug K):=by
 have e:=hfa.symm.trans (cc X G a51)
 cases e
 have F1:=bJ (st:=nX) l1 c1 k1
 have b1:=F1.binds (ps:=["self","one","other"]) fun _ _ _ _ _ _ us hl=>match us,hl with|[_,_,_],_=>rfl
 have F2:=bJ (st:=nY) l2 c2 k2
 have b2:=F2.binds (ps:=["self"]) fun _ _ _ _ _ _ us hl=>match us,hl with|[_],_=>rfl
 have F3:=bJ (st:=nZ) l3 c3 k3
 have b3:=F3.binds (ps:=["self","number"]) fun _ _ _ _ _ _ us hl=>match us,hl with|[_,_],_=>rfl
 have F4:=bJ (st:=mB) l4 c4 k4
 have b4:=F4.binds (ps:=["self","number"]) fun _ _ _ _ _ _ us hl=>match us,hl with|[_,_],_=>rfl
 have F5:=bJ (st:=mC) l5 c5 k5
 have b5:=F5.binds (ps:=["self","term"]) fun _ _ _ _ _ _ us hl=>match us,hl with|[_,_],_=>rfl
 have F6:=bJ (st:=n0) l6 c6 k6
 have b6:=F6.binds (ps:=["self","term"]) fun _ _ _ _ _ _ us hl=>match us,hl with|[_,_],_=>rfl
 have F7:=bJ (st:=n6) l7 c7 k7
 have b7:=F7.binds (ps:=["self","term"]) fun _ _ _ _ _ _ us hl=>match us,hl with|[_,_],_=>rfl
 have F8:=bJ (st:=n8) l8 c8 k8
 have b8:=F8.binds (ps:=["self","number"]) fun _ _ _ _ _ _ us hl=>match us,hl with|[_,_],_=>rfl
 have F9:=bJ (st:=n9) l9 c9 k9
 have b9:=F9.binds (ps:=["self","number"]) fun _ _ _ _ _ _ us hl=>match us,hl with|[_,_],_=>rfl
 have F10:=bJ (st:=og) l10 c10 k10
 have b10:=F10.binds (ps:=["self","number"]) fun _ _ _ _ _ _ us hl=>match us,hl with|[_,_],_=>rfl
 have F11:=bJ (st:=oh) l11 c11 k11
 have b11:=F11.binds (ps:=["self","number","further"]) fun _ _ _ _ _ _ us hl=>match us,hl with|[_,_,_],_=>rfl
 have F12:=bJ (st:=oj) l12 c12 k12
 have b12:=F12.binds (ps:=["self","one","other","reason"]) fun _ _ _ _ _ _ us hl=>match us,hl with|[_,_,_,_],_=>rfl
 have F13:=bJ (st:=nP) l13 c13 k13
 have b13:=F13.binds (ps:=["term"]) fun _ _ _ _ _ _ us hl=>match us,hl with|[_],_=>rfl
 have g13:=cc X G a13
 have F14:=bJ (st:=mx) l14 c14 k14
 have b14:=F14.binds (ps:=["term"]) fun _ _ _ _ _ _ us hl=>match us,hl with|[_],_=>rfl
 have g14:=cc X G a14
 have F15:=bJ (st:=nQ) l15 c15 k15
 have b15:=F15.binds (ps:=["term"]) fun _ _ _ _ _ _ us hl=>match us,hl with|[_],_=>rfl
 have g15:=cc X G a15
 have F16:=bJ (st:=nR) l16 c16 k16
 have b16:=F16.binds (ps:=["one","other"]) fun _ _ _ _ _ _ us hl=>match us,hl with|[_,_],_=>rfl
 have g16:=cc X G a16
 have F17:=bJ (st:=my) l17 c17 k17
 have b17:=F17.binds (ps:=["term","terms"]) fun _ _ _ _ _ _ us hl=>match us,hl with|[_,_],_=>rfl
 have g17:=cc X G a17
 have F18:=bJ (st:=nT) l18 c18 k18
 have b18:=F18.binds (ps:=["made","count"]) fun _ _ _ _ _ _ us hl=>match us,hl with|[_,_],_=>rfl
 have g18:=cc X G a18
 have F19:=bJ (st:=mz) l19 c19 k19
 have b19:=F19.binds (ps:=["terms"]) fun _ _ _ _ _ _ us hl=>match us,hl with|[_],_=>rfl
 have g19:=cc X G a19
 have F20:=bJ (st:=nU) l20 c20 k20
 have b20:=F20.binds (ps:=["term"]) fun _ _ _ _ _ _ us hl=>match us,hl with|[_],_=>rfl
 have g20:=cc X G a20
 have F21:=bJ (st:=nV) l21 c21 k21
 have b21:=F21.binds (ps:=["coming","parts"]) fun _ _ _ _ _ _ us hl=>match us,hl with|[_,_],_=>rfl
 have g21:=cc X G a21
 have F22:=bJ (st:=nW) l22 c22 k22
 have b22:=F22.binds (ps:=["term"]) fun _ _ _ _ _ _ us hl=>match us,hl with|[_],_=>rfl
 have g22:=cc X G a22
 have F23:=bJ (st:=mF) l23 c23 k23
 have b23:=F23.binds (ps:=["one","other"]) fun _ _ _ _ _ _ us hl=>match us,hl with|[_,_],_=>rfl
 have g23:=cc X G a23
 have F24:=bJ (st:=mG) l24 c24 k24
 have b24:=F24.binds (ps:=["reckoning","words"]) fun _ _ _ _ _ _ us hl=>match us,hl with|[_,_],_=>rfl
 have g24:=cc X G a24
 have F25:=bJ (st:=mH) l25 c25 k25
 have b25:=F25.binds (ps:=["lines","numbers"]) fun _ _ _ _ _ _ us hl=>match us,hl with|[_,_],_=>rfl
 have g25:=cc X G a25
 have F26:=bJ (st:=mI) l26 c26 k26
 have b26:=F26.binds (ps:=["ends"]) fun _ _ _ _ _ _ us hl=>match us,hl with|[_],_=>rfl
 have g26:=cc X G a26
 have F27:=bJ (st:=mJ) l27 c27 k27
 have b27:=F27.binds (ps:=["ends","terms"]) fun _ _ _ _ _ _ us hl=>match us,hl with|[_,_],_=>rfl
 have g27:=cc X G a27
 have F28:=bJ (st:=mK) l28 c28 k28
 have b28:=F28.binds (ps:=["ends","terms","word"]) fun _ _ _ _ _ _ us hl=>match us,hl with|[_,_,_],_=>rfl
 have g28:=cc X G a28
 have F29:=bJ (st:=mL) l29 c29 k29
 have b29:=F29.binds (ps:=["ends","terms"]) fun _ _ _ _ _ _ us hl=>match us,hl with|[_,_],_=>rfl
 have g29:=cc X G a29
 have F30:=bJ (st:=om) l30 c30 k30
 have b30:=F30.binds (ps:=["_law_found"]) fun _ _ _ _ _ _ us hl=>match us,hl with|[_],_=>rfl
 have g30:=cc X G a30
 have F31:=bJ (st:=oo) l31 c31 k31
 have b31:=F31.binds (ps:=["_law_script","_law_k"]) fun _ _ _ _ _ _ us hl=>match us,hl with|[_,_],_=>rfl
 have g31:=cc X G a31
 have F32:=bJ (st:=oq) l32 c32 k32
 have b32:=F32.binds (ps:=["_law_cell"]) fun _ _ _ _ _ _ us hl=>match us,hl with|[_],_=>rfl
 have g32:=cc X G a32
 have F33:=bJ (st:=ou) l33 c33 k33
 have b33:=F33.binds (ps:=["_law_cell"]) fun _ _ _ _ _ _ us hl=>match us,hl with|[_],_=>rfl
 have g33:=cc X G a33
 have F34:=bJ (st:=ow) l34 c34 k34
 have b34:=F34.binds (ps:=["_law_cell"]) fun _ _ _ _ _ _ us hl=>match us,hl with|[_],_=>rfl
 have g34:=cc X G a34
 have F35:=bJ (st:=ox) l35 c35 k35
 have b35:=F35.binds (ps:=["_law_cell","_law_count"]) fun _ _ _ _ _ _ us hl=>match us,hl with|[_,_],_=>rfl
 have g35:=cc X G a35
 have F36:=bJ (st:=oy) l36 c36 k36
 have b36:=F36.binds (ps:=["_law_k"]) fun _ _ _ _ _ _ us hl=>match us,hl with|[_],_=>rfl
 have g36:=cc X G a36
 have F37:=bJ (st:=oz) l37 c37 k37
 have b37:=F37.binds (ps:=["_law_term"]) fun _ _ _ _ _ _ us hl=>match us,hl with|[_],_=>rfl
 have g37:=cc X G a37
 have F38:=bJ (st:=oA) l38 c38 k38
 have b38:=F38.binds (ps:=["_law_term","_law_pairs"]) fun _ _ _ _ _ _ us hl=>match us,hl with|[_,_],_=>rfl
 have g38:=cc X G a38
 have F39:=bJ (st:=oB) l39 c39 k39
 have b39:=F39.binds (ps:=["_law_term"]) fun _ _ _ _ _ _ us hl=>match us,hl with|[_],_=>rfl
 have g39:=cc X G a39
 have F40:=bJ (st:=oC) l40 c40 k40
 have b40:=F40.binds (ps:=["_law_cells","_law_many"]) fun _ _ _ _ _ _ us hl=>match us,hl with|[_,_],_=>rfl
 have g40:=cc X G a40
 have F41:=bJ (st:=oE) l41 c41 k41
 have b41:=F41.binds (ps:=["_law_found"]) fun _ _ _ _ _ _ us hl=>match us,hl with|[_],_=>rfl
 have g41:=cc X G a41
 have F42:=bJ (st:=oF) l42 c42 k42
 have b42:=F42.binds (ps:=["_law_part"]) fun _ _ _ _ _ _ us hl=>match us,hl with|[_],_=>rfl
 have g42:=cc X G a42
 have F43:=bJ (st:=oG) l43 c43 k43
 have b43:=F43.binds (ps:=["_law_found"]) fun _ _ _ _ _ _ us hl=>match us,hl with|[_],_=>rfl
 have g43:=cc X G a43
 have F44:=bJ (st:=oH) l44 c44 k44
 have b44:=F44.binds (ps:=["_law_found"]) fun _ _ _ _ _ _ us hl=>match us,hl with|[_],_=>rfl
 have g44:=cc X G a44
 have F45:=bJ (st:=mM) l45 c45 k45
 have b45:=F45.binds (ps:=["_law_filling","_law_one","_law_other"]) fun _ _ _ _ _ _ us hl=>match us,hl with|[_,_,_],_=>rfl
 have g45:=cc X G a45
 have F46:=bJ (st:=oJ) l46 c46 k46
 have b46:=F46.binds (ps:=["_law_cells","_law_last"]) fun _ _ _ _ _ _ us hl=>match us,hl with|[_,_],_=>rfl
 have g46:=cc X G a46
 have F47:=bJ (st:=oK) l47 c47 k47
 have b47:=F47.binds (ps:=["_law_script","_law_cells"]) fun _ _ _ _ _ _ us hl=>match us,hl with|[_,_],_=>rfl
 have g47:=cc X G a47
 have F48:=bJ (st:=mN) l48 c48 k48
 have b48:=F48.binds (ps:=["_law_one","_law_other"]) fun _ _ _ _ _ _ us hl=>match us,hl with|[_,_],_=>rfl
 have g48:=cc X G a48
 have F49:=bJ (st:=oM) l49 c49 k49
 have b49:=F49.binds (ps:=["_law_term"]) fun _ _ _ _ _ _ us hl=>match us,hl with|[_],_=>rfl
 have g49:=cc X G a49
 have F50:=bJ (st:=oN) l50 c50 k50
 have b50:=F50.binds (ps:=["_law_script","_law_most","_law_bound"]) fun _ _ _ _ _ _ us hl=>match us,hl with|[_,_,_],_=>rfl
 have g50:=cc X G a50
 have F51:=bJ (st:=jX) l51 c51 k51
 have T:Bi mg:=⟨gy X G z_len,gy X G z_abs,gy X G z_isinstance,gy X G z_int,gy X G z_bool,gy X G z_str,gy X G z_tuple,gy X G z_list,gy X G z_reversed,gy X G z_range⟩
 refine⟨bw "law" "law" (bA jX) (bz jX) (ax jX) .none kV51 dc51 pm51 an51 cd51 ct51,fun s v=>.of_eq rfl,fun base _ _=>?_⟩
 have TZ:mg "zip"=none:=gy X G qzTZ
 have TE:mg "enumerate"=none:=gy X G qzTE
 have TS:mg "sorted"=none:=gy X G qzTS
 have R:RG K CReckoning:=⟨⟨pgReckoning,hdReckoning,poReckoning,saReckoning⟩,nReckoning_lines,nReckoning_onward,nReckoning_clash⟩
 have c__law_at:aO l.prog w K mg base 1 "_law_at" ["_law_script","_law_k"] (uc K):=⟨_,_,Ll F31 T,b31,k31,g31⟩
 have c__law_called:aO l.prog w K mg base 1 "_law_called" ["_law_k"] tX:=⟨_,_,KG F36 T,b36,k36,g36⟩
 have c__law_any_word:aO l.prog w K mg base 1 "_law_any_word" ["_law_cell"] tJ:=⟨_,_,JG F32 T,b32,k32,g32⟩
 have c__law_leaf:aO l.prog w K mg base 2 "_law_leaf" ["_law_cell"] tK:=⟨_,_,JH F33 T c__law_any_word,b33,k33,g33⟩
 have c__law_round:aO l.prog w K mg base 3 "_law_round" ["_law_cells","_law_last"] (xo K):=⟨_,_,Lk F46 T c__law_called c__law_leaf,b46,k46,g46⟩
 have c__law_many_parts:aO l.prog w K mg base 1 "_law_many_parts" ["_law_cell","_law_count"] wR:=⟨_,_,JJ F35 T,b35,k35,g35⟩
 have c__law_head:aO l.prog w K mg base 2 "_law_head" ["_law_cell"] wQ:=⟨_,_,JI F34 T c__law_any_word,b34,k34,g34⟩
 have c__law_hidden:aO l.prog w K mg base 3 "_law_hidden" ["_law_cells","_law_many"] (xk K):=⟨_,_,KH F40 T c__law_many_parts c__law_leaf c__law_head c__law_called,b40,k40,g40⟩
 have c__law_couple:aO l.prog w K mg base 4 "_law_couple" ["_law_script","_law_cells"] (xq K):=⟨_,_,Lo F47 T c__law_at c__law_round c__law_hidden,b47,k47,g47⟩
 have c__law_room:aO l.prog w K mg base 1 "_law_room" ["_law_script","_law_most","_law_bound"] (xJ K):=⟨_,_,LE F50 T,b50,k50,g50⟩
 have c__law_steps:aO l.prog w K mg base 1 "_law_steps" ["_law_term"] tW:=⟨_,_,KC F37 T,b37,k37,g37⟩
 have c__law_blanks:aO l.prog w K mg base 2 "_law_blanks" ["_law_term"] lv:=⟨_,_,KE F39 T c__law_steps,b39,k39,g39⟩
 have c__law_fill:aO l.prog w K mg base 2 "_law_fill" ["_law_term","_law_pairs"] qo:=⟨_,_,KF F38 T c__law_steps,b38,k38,g38⟩
 have c__law_anew:aO l.prog w K mg base 3 "_law_anew" ["_law_term"] xO:=⟨_,_,LM F49 T c__law_blanks c__law_fill,b49,k49,g49⟩
 have n_Reckoning:v6 l.prog w K mg base 1 CReckoning "Reckoning" ["self","one","other"] (wX CReckoning):=⟨_,_,⟨mkReckoning,a1,i1,kcReckoning⟩,Kb F1 R,b1,cc X G aCReckoning⟩
 have c_head:aO l.prog w K mg base 1 "head" ["term"] tO:=⟨_,_,JS F15 T,b15,k15,g15⟩
 have c_same:aO l.prog w K mg base 2 "same" ["one","other"] wU:=⟨_,_,JT F16 T TZ c_head,b16,k16,g16⟩
 have c_shown_leaf:aO l.prog w K mg base 1 "shown_leaf" ["term"] wV:=⟨_,_,JU F22 T,b22,k22,g22⟩
 have c_push_parts:aO l.prog w K mg base 1 "push_parts" ["coming","parts"] (wW K):=⟨_,_,JV F21 T,b21,k21,g21⟩
 have c_shown:aO l.prog w K mg base 2 "shown" ["term"] tP:=⟨_,_,JW F20 T c_shown_leaf c_push_parts,b20,k20,g20⟩
 have m_line_on:cL l.prog w K mg base 3 CReckoning "line_on" ["self","term"] (wY CReckoning):=⟨_,_,Kg F5 R c_shown,b5,⟨a5,i5,k5⟩,R.cl⟩
 have m_added:cL l.prog w K mg base 1 CReckoning "added" ["self","one","other","reason"] (qk CReckoning):=⟨_,_,Kc F12 R T,b12,⟨a12,i12,k12⟩,R.cl⟩
 have m_chained:cL l.prog w K mg base 2 CReckoning "chained" ["self","number","further"] (tR CReckoning):=⟨_,_,Ke F11 R m_added,b11,⟨a11,i11,k11⟩,R.cl⟩
 have m_lead_on:cL l.prog w K mg base 3 CReckoning "lead_on" ["self","number"] (tS CReckoning):=⟨_,_,Kf F4 R c_shown,b4,⟨a4,i4,k4⟩,R.cl⟩
 have m_line_to_end:cL l.prog w K mg base 4 CReckoning "line_to_end" ["self","term"] (ql CReckoning):=⟨_,_,Kh F6 R T m_line_on m_chained m_lead_on,b6,⟨a6,i6,k6⟩,R.cl⟩
 have m_end_of:cL l.prog w K mg base 5 CReckoning "end_of" ["self","term"] (wZ CReckoning):=⟨_,_,Ki F7 R m_line_to_end,b7,⟨a7,i7,k7⟩,R.cl⟩
 have m_turned:cL l.prog w K mg base 2 CReckoning "turned" ["self","number"] (tQ CReckoning):=⟨_,_,Kd F10 R m_added,b10,⟨a10,i10,k10⟩,R.cl⟩
 have m_between_ends:cL l.prog w K mg base 5 CReckoning "between_ends" ["self","number"] (w6 CReckoning):=⟨_,_,Kj F8 R m_line_to_end m_turned m_chained,b8,⟨a8,i8,k8⟩,R.cl⟩
 have m_part_lines:cL l.prog w K mg base 2 CReckoning "part_lines" ["self","number"] (w8 CReckoning):=⟨_,_,Kk F9 R T TZ TE m_added,b9,⟨a9,i9,k9⟩,R.cl⟩
 have m_led_together:cL l.prog w K mg base 6 CReckoning "led_together" ["self","number"] (xa CReckoning):=⟨_,_,Kl F3 R c_same c_head m_end_of m_between_ends m_lead_on m_turned m_part_lines,b3,⟨a3,i3,k3⟩,R.cl⟩
 have m_work_out:cL l.prog w K mg base 7 CReckoning "work_out" ["self"] (xb CReckoning):=⟨_,_,Km F2 R m_led_together,b2,⟨a2,i2,k2⟩,R.cl⟩
 have c_lines_by_word:aO l.prog w K mg base 5 "lines_by_word" ["reckoning","words"] (xh CReckoning):=⟨_,_,Kw F24 m_line_to_end,b24,k24,g24⟩
 have c_all_parts:aO l.prog w K mg base 1 "all_parts" ["term"] tV:=⟨_,_,Kx F13 T,b13,k13,g13⟩
 have c_blanks_of:aO l.prog w K mg base 2 "blanks_of" ["term"] lv:=⟨_,_,KB F14 T c_all_parts,b14,k14,g14⟩
 have c_ends_by_word:aO l.prog w K mg base 1 "ends_by_word" ["lines","numbers"] xr:=⟨_,_,Lp F25,b25,k25,g25⟩
 have c_words_ahead:aO l.prog w K mg base 3 "words_ahead" ["ends","terms","word"] ud:=⟨_,_,Lq F28 c_blanks_of,b28,k28,g28⟩
 have c_ready_words:aO l.prog w K mg base 4 "ready_words" ["ends","terms"] xt:=⟨_,_,Lr F27 c_words_ahead,b27,k27,g27⟩
 have c_taken:aO l.prog w K mg base 1 "taken" ["made","count"] xi:=⟨_,_,Ky F18 T,b18,k18,g18⟩
 have c_replaced:aO l.prog w K mg base 2 "replaced" ["term","terms"] xj:=⟨_,_,Kz F17 T c_all_parts c_taken,b17,k17,g17⟩
 have c_settled:aO l.prog w K mg base 5 "settled" ["ends"] xx:=⟨_,_,Lu F26 c_ready_words c_replaced,b26,k26,g26⟩
 have c_ring_of:aO l.prog w K mg base 4 "ring_of" ["ends","terms"] xz:=⟨_,_,Ly F29 c_words_ahead,b29,k29,g29⟩
 have c_filling_of:aO l.prog w K mg base 1 "filling_of" ["terms"] xM:=⟨_,_,LI F19 TS,b19,k19,g19⟩
 have c_alike:aO l.prog w K mg base 8 "alike" ["one","other"] xN:=⟨_,_,LJ F23 R T n_Reckoning m_work_out c_lines_by_word c_blanks_of c_ends_by_word c_settled c_ring_of c_filling_of,b23,k23,g23⟩
 have c__law_letters:aO l.prog w K mg base 1 "_law_letters" ["_law_found"] qu:=⟨_,_,Lz F41 T,b41,k41,g41⟩
 have c__law_whole:aO l.prog w K mg base 1 "_law_whole" ["_law_found"] xA:=⟨_,_,LA F30 T,b30,k30,g30⟩
 have c__law_small:aO l.prog w K mg base 2 "_law_small" ["_law_part"] xG:=⟨_,_,LB F42 T c__law_whole c__law_letters,b42,k42,g42⟩
 have c__law_is_term:aO l.prog w K mg base 3 "_law_is_term" ["_law_found"] xH:=⟨_,_,LC F43 T c__law_small c__law_letters,b43,k43,g43⟩
 have c__law_is_filling:aO l.prog w K mg base 4 "_law_is_filling" ["_law_found"] xI:=⟨_,_,LD F44 T c__law_letters c__law_is_term,b44,k44,g44⟩
 have c__law_good:aO l.prog w K mg base 5 "_law_good" ["_law_filling","_law_one","_law_other"] xK:=⟨_,_,LF F45 T c__law_is_filling c__law_blanks c__law_fill,b45,k45,g45⟩
 have c__law_variant:aO l.prog w K mg base 1 "_law_variant" ["_law_one","_law_other"] xL:=⟨_,_,LH F48 T,b48,k48,g48⟩
 exact LO F51 T c__law_couple c__law_room c__law_anew c_alike c__law_at c__law_good c__law_fill c__law_variant
theorem LQ{l:uC}{q:aQ}{loose:List aa}{XP:(aa->Option ac)->az->Prop}{YP:aH->az->Prop}{d:DefRec}{K:Params->aA}(hn:l.most=some 63)(hdf:d.params.defaults=[])
 (hY:∀(w:aH)(h:az),YP w h->(K w.params).In h)
 (F:∀(w:aH)(mg:aa->Option ac)(fa:Addr)(h:az),(K w.params).In h->h.Ns mainGlobals mg->mg d.name=some (.ref fa)->
  ∃fd:be,(∀(s:ah)(u:ac),BindsTo s fd ⟨[u],[]⟩ [("_law_script",u)])/\∀base:az,(K w.params).In base->base.Ns mainGlobals mg->bf l.prog w (K w.params) mg base bp 9 fa fd ["_law_script"] (ug (K w.params))):
 PySem.W.WalkO q loose XP YP l.row.toRowW d [] (fun f vs=>um f vs):=
 L2.G9 (n:=63) (k:=9) (x:="_law_script") (CX:=fun _=>bp) (sp:=fun w=>ug (K w.params)) hn (by decide) hdf ⟨rfl,by decide,by decide⟩ hY F (fun _ _ a ns hl _ hS=>⟨a,ns,rfl,hS,hl,fun _=>rfl⟩) fun _ _ _ _ _ z=>z
end K09
open PySem PySem.W PyProof.Rows
set_option maxRecDepth 100000 in
set_option maxHeartbeats 0 in
theorem PySem.Challenge.cw_blankform_k09_whole_names_make_no_differ_holds : PySem.Challenge.rw_blankform_k09_whole_names_make_no_differ.Holds := by
 w_on;o_law;k_head;(case hw=>w_witness2)
 k_fill
 refine K09.LQ (l:=zI) rfl rfl (fun w h Y=>PySem.W.kIn_of Y) ?F
 case F=>
  intro w mg fa h KX G hmg
  refine' K09.LP KX G hmg ?aCReckoning ?a1 ?l1 ?c1 ?k1 ?i1 ?a2 ?l2 ?c2 ?k2 ?i2 ?a3 ?l3 ?c3 ?k3 ?i3 ?a4 ?l4 ?c4 ?k4 ?i4 ?a5 ?l5 ?c5 ?k5 ?i5 ?a6 ?l6 ?c6 ?k6 ?i6 ?a7 ?l7 ?c7 ?k7 ?i7 ?a8 ?l8 ?c8 ?k8 ?i8 ?a9 ?l9 ?c9 ?k9 ?i9 ?a10 ?l10 ?c10 ?k10 ?i10 ?a11 ?l11 ?c11 ?k11 ?i11 ?a12 ?l12 ?c12 ?k12 ?i12 ?pgReckoning ?hdReckoning ?poReckoning ?saReckoning ?mkReckoning ?kcReckoning ?nReckoning_lines ?nReckoning_onward ?nReckoning_clash ?a13 ?l13 ?c13 ?k13 ?a14 ?l14 ?c14 ?k14 ?a15 ?l15 ?c15 ?k15 ?a16 ?l16 ?c16 ?k16 ?a17 ?l17 ?c17 ?k17 ?a18 ?l18 ?c18 ?k18 ?a19 ?l19 ?c19 ?k19 ?a20 ?l20 ?c20 ?k20 ?a21 ?l21 ?c21 ?k21 ?a22 ?l22 ?c22 ?k22 ?a23 ?l23 ?c23 ?k23 ?a24 ?l24 ?c24 ?k24 ?a25 ?l25 ?c25 ?k25 ?a26 ?l26 ?c26 ?k26 ?a27 ?l27 ?c27 ?k27 ?a28 ?l28 ?c28 ?k28 ?a29 ?l29 ?c29 ?k29 ?a30 ?l30 ?c30 ?k30 ?a31 ?l31 ?c31 ?k31 ?a32 ?l32 ?c32 ?k32 ?a33 ?l33 ?c33 ?k33 ?a34 ?l34 ?c34 ?k34 ?a35 ?l35 ?c35 ?k35 ?a36 ?l36 ?c36 ?k36 ?a37 ?l37 ?c37 ?k37 ?a38 ?l38 ?c38 ?k38 ?a39 ?l39 ?c39 ?k39 ?a40 ?l40 ?c40 ?k40 ?a41 ?l41 ?c41 ?k41 ?a42 ?l42 ?c42 ?k42 ?a43 ?l43 ?c43 ?k43 ?a44 ?l44 ?c44 ?k44 ?a45 ?l45 ?c45 ?k45 ?a46 ?l46 ?c46 ?k46 ?a47 ?l47 ?c47 ?k47 ?a48 ?l48 ?c48 ?k48 ?a49 ?l49 ?c49 ?k49 ?a50 ?l50 ?c50 ?k50 ?a51 ?l51 ?c51 ?k51 ?qzTZ ?qzTE ?qzTS ?z_len ?z_abs ?z_isinstance ?z_int ?z_bool ?z_str ?z_tuple ?z_list ?z_reversed ?z_range
  all_goals try (first|k_is|k_exc|kit_is|kts_exm)
#print axioms PySem.Challenge.cw_blankform_k09_whole_names_make_no_differ_holds
