import PyProof.Rows.All
import Wide.All
import OpenK.AllK
import Wide.FinOn
import Lean
import PyProof.EqAt
import PyProof.EqKinds
import PyProof.TupleCall
import PyProof.Dict
import PySem.Builtin.Tuple.Common
import PyProof.StrCalls2
import PyProof.CodeObj
import PyProof.ListMulAny
import PyProof.NeKinds
import PyProof.ConsumeWalk
import PyProof.CompFree
import PyProof.Cells
import PyProof.ZipIter
import PyProof.Draws
import PyProof.EnumMake
import PyProof.SumWalk
import PyProof.Rows.SortRuns
import KE.KSortTup
import PyProof.Rows.SortRev
import PyProof.FactsAll.tuple
import KE.KRevIter
import PyProof.FactsAll.range_2
import PyProof.ListRange
import PyProof.TupleOfSeq
import PyProof.TupleOfGen
import PyProof.CallType
import PyProof.DictWalks
import PyProof.IsiH_list
import PyProof.RulesTry
import KE.KDictOf
import KE.KDictSum
import PyProof.Rows.SetFrom
import PyProof.FactsAll.set
import KE.KSortKey
import Wide.Seal
import PyProof.StrCalls3
import PyProof.StrWalks
import PyProof.StrLawsIn
import PySem.Challenge.RW_fewspaces_k91_texts_written_and_read
set_option Elab.async false
set_option linter.all false
set_option compiler.extract_closed false
set_option maxRecDepth 100000
set_option maxHeartbeats 0
local macro_rules
|`(#[$x,$y])=>`(⟨$x,$y⟩)
|`(#[$x,$y,$z,*])=>`(⟨$x,$y,$z,*⟩)
abbrev T9:=@if_pos
abbrev T8:=@if_neg
abbrev T7:=@absurd
abbrev T6:=@of_decide_eq_true
abbrev T5:=@decide_eq_true
abbrev T4:=@decide_eq_false
abbrev T0:=@decide_eq_true_eq
open Option renaming some->aa,none->ag,map_eq_some_iff->bj,isSome_iff_exists->bO,bind_eq_some_iff->bQ,isSome_map->ki,map_eq_none_iff->lh,isSome_some->mL,getD_none->nM,getD_some->nS,map_some->oD
open PySem renaming wpAny_bind->ab,Value->ap,wpAny_pure->au,Shared->ax,starEach->aE,Addr->aJ,model->aS,wpAny->aV,sizeLine->aZ,Str->bx,Program->bC,wpAny_newObj_type->bD,wpAny_holding->bI,World->bU,Heap->cc,wpAny_call_entry->cg,assignEach->cu,compareOp->cB,wpAny_callSpecial?_slot->cC,eval->cD,mainGlobals->cG,sizeLine_eq->cI,Around->cL,bootBuiltins->cZ,FuncData->c6,sysModules->c7,wpAny_field->da,Builtin->db,foldedSetIterable->dr,cLine->du,backTo->dz,tupleKind->dC,wpAny_mono->dD,swapsWithSole->dF,swappedStores->dG,codeAny_builtin->dR,assign->dZ,cellsFrom->d3,wpAny_isInstance->d6,wpAny_rule->d7,wpAny_Call_Name_kw->d8,wpAny_seqItems->ei,wpAny_setField_rec->ej,wpAny_passesOwn->eF,binaryOp->eJ,NameKind->eK,wpAny_pyIter_list->eL,mem_of_lookup->eR,wpAny_setField->eT,Scope->eX,wpAny_of_eq->eY,wpAny_typeNameOfWhole_keyiter->eZ,intKind->fb,call_meets->fc,rawInt->fw,builtinLookup_eq_fast->fz,Obj->fA,wpAny_truthy_bool->fB,Stmt->fG,wpAny_typeOf->fK,DictEntry->fL,wpAny_askSetting->fO,wpAny_standAt->fV,behindInMarks->fW,wpAny_attempt->fZ,wpAny_typeNameOf_keyiter->f8,tupleKind_room_in1->gf,wpAny_pyIter_tuple->gg,sliceBounds->gp,codeAny_mono->gz,firstArgMember->gF,wpAny_setState_of->gK,intKind_is->gS,Pos->gW,attributeBase->gX,plainId_quiet->gZ,wpAny_updateSeq_pair->g9,wpAny_loadPart'->iq,typeLookup_type->iw,codeAny->iA,Keyword->iB,wpAny_load->iI,typeIs_str->iM,isSubtype_type->i5,wpAny_binaryOp_repeat_ref->i9,holding->kf,keywordEach->kg,wpAny_pyIter_slot->kq,pyNext->ku,wpAny_onRaise->kA,wpAny_newList->kE,wpAny_eqBool_int->kI,swapsWith->kJ,noFill_tuple_add->kK,wpAny_pyNext_list_item->kW,IsPart->kY,typeIs_int->k6,IsPair->k8,richCompare_meets_room->lg,wpAny_execs_nil->lp,letOwnedTupleGo->lq,pushCells_keeps->lw,wpAny_pyNext_list_end->lB,wpAny_notOrdered_dict->lD,wpAny_isOneOf_keyiter->lG,wpAny_loadName_local->lI,ZipApart->lQ,isSubtype_stop->lT,codeAny_call_builtin->l0,PassesOwn->l8,getItem->l9,callerA->md,wpAny_loadName_cell->me,wpAny_setEntries_of->ml,assignInOrder->mq,seq_tuple_add->mr,wpAny_handled->mv,builtinsNs->mD,pyIter->mE,wpAny_dictSet_heap->mQ,wpAny_assign_Name->mT,rule->mV,BindsTo->mZ,concat_meets->m4,wpAny_sequenceKey->m5,seqIndex_neg->m7,backToKw->m8,valueAt->ng,atKey->nh,wpAny_pyIter_enum->nu,wpAny_dictEntries->nA,wpAny_storeSet_of->nB,Sem->nH,reduceHash->nN,seqSlot_of->nO,pushCells->nT,strValues->n9,seqIndex_of->og,wpAny_alloc->oh,wpAny_throw->oj,IsZip->om,wpAny_letGo->on,unsupported->oo,standAt->oG,wpAny_Name->oJ,Operator->oK,bindArgs->oN,typeLookup->oO,call->oQ,Meets->oS,newExc->oV,newTuple->oW,checkCount->oZ,entryFor->o4,setsByText->o8,Tok->pb,again->pA,bindL->pB,bindC->pC,hashInt->pE,setItem->pF,Result->pG,ItemsOf->pH,ret->pI
open Decidable renaming decide->ae
open List renaming getElem?_eq_getElem->af,mem_cons_of_mem->ai,mem_cons_self->am,length_map->aw,size_toArray->ay,replicate->aA,mem_cons->aB,range->aL,getElem?_map->aM,getD_eq_getElem?_getD->aN,mem_map->aO,length_cons->aP,mem_range->aR,getElem_mem->aU,map_cons->aW,getElem?_eq_some_iff->aX,all_eq_true->aY,length_append->bc,mem_singleton->bg,pairwise_cons->bm,map_map->bn,length_drop->bo,getElem?_set_ne->bp,append_assoc->bq,length_range->br,length_take->bz,getElem?_append_right->bB,drop_eq_getElem_cons->bE,pairwise_iff_getElem->bF,mem_append_right->bG,getElem?_eq_none->bH,map_append->bK,lookup_cons->bL,mem_filter->bM,replicate_succ->bN,ext_getElem?->bR,append_nil->bS,getElem?_append_left->bT,getElem?_set_self->bY,length_set->bZ,zip_cons_cons->b0,length_replicate->b8,getElem_of_mem->b9,not_mem_nil->ck,take_of_length_le->cp,mem_of_mem_drop->cq,toArray->cA,flatten_cons->cE,getElem?_range->cK,contains_iff_mem->cM,take_append_drop->cO,pairwise_map->cS,getElem?_replicate->cT,getElem?_take->cV,mem_append->cW,map_congr_left->c9,mem_of_mem_take->dm,length_singleton->dB,mem_append_left->dJ,mem_of_getElem?->dL,reverse_perm->dO,nodup_cons->dP,foldl_cons->dQ,mem_map_of_mem->dS,drop_length->d5,pairwise_reverse->eB,length_filter_le->eC,find?_cons->eG,pairwise_append->eN,nodup_append->eO,mem_reverse->eV,mem_flatMap->eW,forIn_cons->fk,length_zip->fm,all_cons->fv,getElem_take->fD,getElem_drop->fE,length->fH,any_eq_true->fM,take_length->fN,filter_cons->fR,extract_eq_take_drop->fU,any_cons->fY,getElem?_drop->gl,length_eq_zero_iff->gq,reverse_cons->gD,drop_zero->gE,getElem?_inj->gI,map_uncurry_zip_eq_zipWith->gO,ext_getElem->gU,isEmpty_toArray->g7,getElem?_mapIdx->g8,drop_append_of_le_length->hJ,take_append_of_le_length->hV,of_mem_zip->hZ,nil_append->ic,filterMap_cons->iz,all_map->iC,take->iG,drop_drop->iS,drop_left->iU,take_left->iV,map->iW,zip_nil_right->iZ,getElem?_zip_eq_some->kc,take_add_one->kn,zip_nil_left->ko,contains->kz,find?_range_eq_some->kG,eq_of_mem_replicate->kH,zipIdx_cons->kN,pairwise_singleton->kQ,map_toArray->kS,range_succ_eq_map->k7,drop_of_length_le->k9,length_pos_of_mem->lj,filter_eq_nil_iff->lm,getElem?_reverse->lC,forIn_nil->lR,mem_iff_getElem->lW,reverse_append->mi,mem_filterMap->mF,find?_toArray->mM,find?_eq_none->mR,take_sublist->m3,getElem?_set->ni,foldl_append->nF,flatMap_cons->nG,drop_append->nV,countP_cons->nY,nodup_range->nZ,map_reverse->n5,range'->ow,zipIdx_nil->oz,nodup_nil->oR,take_take->oY,tail_cons->o9,map_tail->pk,drop->pD,zip->pK
open Bool renaming true->aj,false->ak,and_eq_true->aF,false_ne_true->aG,eq_iff_iff->cf,false_eq_true->cw,not_true->gY,or_eq_true->ig,false_or->kx,false_and->lJ,not_eq_true'->nD,and_false->oU,not_false->o0,or_false->pf
open Option.some renaming inj->al,injEq->nr
open PySem.Heap renaming get?_push_of_some->ao,lt_size->aC,get?_push_size->aD,size_push->cH,get?_update_self->de,SameBut->dU,ExtBut->gu,get?_push_ne->gJ,size_update->kP,get?_update_other->k5,get?_update_ne->mj
open PySem.W renaming Frag->aq,katRev->bi,kia_one->cX,kia_tup->cY,fnOf->dW,kitAny->eo,nsIn->fQ,kat_len->gc,kitx_list->gx,kitx_dict->gy,keepIn->gA,codeIn->iK,KdlSrc->i6,katRev->kD,mg_of->kF,cellsFrom_some->kX,instObj->ln,OpenLaw->lv,lookIn->lK,kitOne->lN,kitx_float->mH,kitx_tuple->mI,kitx_none->mX,kitx_bool->mY,plainGet->nI,kitx_int->nJ,kitx_str->nK,kitx_own->nL,kat_nil->oB,kat_len->oI,findIn->oM,WalkO->pi
open PySem.Str renaming ofString->az,cps_append->fJ,ofString->lc,ext'->l6,length->oP
open Nat renaming le_refl->aH,ne_of_lt->a9,lt_of_lt_of_le->bu,lt_irrefl->bw,le_trans->cn,zero_le->cJ,lt_succ_of_lt->cR,lt_trans->c0,lt_of_succ_lt->dN,le_of_not_lt->d4,ne_of_gt->eI,pow_le_pow_right->eP,le_add_right->eU,mul_le_mul->fI,lt_of_le_of_ne->gh,le_of_lt->gw,lt_succ_self->gR,le_succ->km,add_assoc->kB,min_eq_left->lx,pow_lt_pow_right->l4,lt_of_le_of_lt->mN,add_comm->m9,le_of_eq->nc,mul_comm->nk,min_self->np
open Array renaming length_toList->aI,getElem?_eq_getElem->a8,getElem?_toList->bf,perm_iff_toList_perm->bv,toList_append->cz,size_push->dy,toList_push->dM,getElem?_eq_none->fe,size_extract->gj,size_append->gG,toList_extract->hG,toList_setIfInBounds->iT,getElem?_eq_some_iff->i7,toList_inj->kO,mem_toList_iff->lL,toList_reverse->lV,size_reverse->mO,toList->mS,toList_map->n4,range->ou
open PyProof.Rows renaming wpS_bind->aK,wpS_pure->aQ,arrOf->ba,pendingOf->be,SortSt->bP,Keyed->bW,wpS_forRange->cy,callWith_type1->cQ,slot_tuple_getitem->dA,seqObj->ek,wpS_mono->eM,wpS_modify->fg,SortKind->fq,elem'->fT,failedOf->f7,IntsAre->gC,wpS_get->gH,callWith_builtin1->gP,setPending->gT,assignInOrder_cons->iH,envOfC->iJ,list_sort_rev->iX,AllBare->ke,subscriptTail_builtinR->kZ,entry_list_sort->ly,wpS->lH,slot_list_sort->lZ,entry_tuple_getitem->mf,listUpdate_at->mw,args_tuple_getitem->mJ,size_push'->mP,assignInOrder_nil->mU,plain_sorted->nv,entry_sorted->ny,IsTup->oa,seqEpoch_at->oq,kind_sorted->ot,minRun'->oH
open And renaming intro->aT
open PySem.Value renaming none->bh,ref->bV,bool->bX,int->fu,type->mC,isStrOf->pe
open PySem.NameKind renaming free->bJ,cell->cF
open List.Perm renaming refl->cr,swap->iY,of_eq->oA
open PySem.Heap.SameBut renaming update->cx,refl->nq
open Sum renaming inl->cP,inr->l7
open PySem.Obj renaming data_mapFields->cU,mapSeq->d9,isFreed_of_fields->eA,cls_mapFields->fC,mapFields->my,putSet->o6
open True renaming intro->c8
open Pure renaming pure->dg
open PySem.Around renaming under_plainId->dq
open Int renaming toNat_natCast->dv,emod_lt_of_pos->fj,emod_eq_of_lt->fF,emod_nonneg->gd,ofNat->gV,toNat_of_nonneg->mm
open PySem.AutoSeq1 renaming wpAny_loadPart'->dE,sub_tuple_tuple->dH,wpAny_loadPart'->f6,idx_int->kL
open PySem.Txt renaming join->ee,split->fP,split->ga,find->lO
open PySem.F renaming slot_tuple_iterator_next->eg,args_tuple_add_2->fX,entry_tuple_add->gn,slot_tuple_add->gB,plainAttrs_str->gL,slot_int_rmul->h9,args_tuple_iterator_next_1->im,slot_zip_next->ip,slot_dict_keyiterator_next->iu,entry_tuple_iterator_next->iD,args_tuple_mul_2->iO,args_str_split_2->i8,entry_tuple_mul->kj,entry_str_split->kr,slot_tuple_mul->kM,plain_list_iadd->kR,slot_str_split->kU,args_int_rmul_2->nj,args_zip_next_1->nt,args_tuple_lt_2->nz,entry_int_rmul->nP,entry_zip_next->nU,entry_tuple_lt->n6,slot_dict_iter->n8,fills_int_mul->ox,slot_tuple_lt->oC,plain_set_new->oE,slot_set_iter->oF
open PySem.Builtin.Slice renaming slicePlaces->eD,sliceAdjust->fS
open PySem.Builtin.SmallTypes renaming nextOf->eE
open PySem.SetTable renaming insertAt->eQ,grown->o5,below->o7
open LawfulBEq renaming eq_of_beq->eS
open PyProof.Rows.F renaming plain_set_update_loop->gv,entry_set_update_loop->kT
open PySem.Builtin.Tuple renaming tupleHashOf->gM,tupleCompareSizes->gN,tupleItemsOf->iL,tupleTooMany->iN
open PySem.SeqAt renaming EqAt->gQ
open PySem.SeqAt.EqAt renaming same->h8,of_refs->iP,int_str->mz,str_int->mB,int_int->mK
open PySem.Builtin.List renaming listLengthHint->iE,listTooLong->kw
open PyProof.Rows.IsTup renaming new->iF
open ForIn renaming forIn->iQ
open Break renaming runK->iR
open List.Pairwise renaming nil->kh,imp_of_mem->kC,filter->l5
open PySem.SeqAt.RcAt renaming tuples->kl,lists_lengths->ky,lists->nQ
open PySem.PassesOwn renaming never->lz
open PySem.Builtin.Dict renaming showsAll->lE
open PySem.Builtin.Int renaming intBits->mh
open Lean.Grind renaming CommRing->mn
open PySem.P renaming truthy_int->mG
open ToString renaming toString->mW
open PySem.pickOrder renaming go->nC
open Classical renaming not_not->nE
open Or renaming inr->nR
open ForInStep renaming yield->oy
open PySem.Walks renaming list->oT
open PyProof.Rows.SortSt renaming mk'->oX
open Min renaming min->pc
open PySem.Code renaming compLoop->pj
open List.cons renaming inj->pz
namespace L2
open PySem PySem.Spec PyProof.Rows
abbrev Key:=Sum Int bx
noncomputable def QR:Key->ap->Bool
 |.inl k,v=>ap.isInt k v
 |.inr x,v=>pe x v
noncomputable def ZfK(w:bU):Key->Int
 |.inl k=>pE k
 |.inr x=>hashStr w x
def ZT:∀{k:Key}{v:ap},QR k v=aj->(∃i t,k=cP i/\v=fu i t)\/(∃x t,k=l7 x/\v=ap.str x t)
 |.inl i,v,h=>by
  obtain⟨t,e⟩:=ap.isInt_shape h;exact .inl #[i,t,rfl,e]
 |.inr x,v,h=>by
  obtain⟨t,e⟩:=ap.isStrOf_shape h;exact .inr #[x,t,rfl,e]
def wV(i:Int)(t:pb):QR (.inl i) (.int i t)=aj:=by simp[QR,ap.isInt]
def vB(x:bx)(t:pb):QR (.inr x) (.str x t)=aj:=by simp[QR,pe]
def ZcM(a b:Int):ae ((cP a:Key)=cP b)=(a == b):=by
 by_cases e:a=b
 .subst e;simp
 .have h:¬(cP a:Key)=cP b:=λq=>e (cP.inj q)
  rw[T4 h];exact(beq_eq_false_iff_ne.mpr e).symm
def ZdS(a b:bx):ae ((l7 a:Key)=l7 b)=ae (a=b):=by
 by_cases e:a=b
 .subst e;simp
 .have h:¬(l7 a:Key)=l7 b:=λq=>e (l7.inj q)
  rw[T4 h,T4 e]
def ZcC(a:Int)(b:bx):ae ((cP a:Key)=l7 b)=ak:=T4 (λq=>nomatch q)
def ZcN(a:bx)(b:Int):ae ((l7 a:Key)=cP b)=ak:=T4 (λq=>nomatch q)
noncomputable def ZP(prog:bC)(w:bU):PySem.KeyKind prog w Key where
 is:=QR
 hash:=ZfK w
 inj:=λv a b ha hb=>by
  rcases ZT ha with⟨i,t,rfl,rfl⟩|⟨x,t,rfl,rfl⟩
  .rcases ZT hb with⟨j,u,rfl,e⟩|⟨y,u,rfl,e⟩
   .injection e with e1 _;rw[e1]
   .exact nomatch e
  .rcases ZT hb with⟨j,u,rfl,e⟩|⟨y,u,rfl,e⟩
   .exact nomatch e
   .injection e with e1 _;rw[e1]
 byValue:=λk v h=>by
  rcases ZT h with⟨i,t,rfl,rfl⟩|⟨x,t,rfl,rfl⟩<;>rfl
 pyHash:=λhv h=>by
  rcases ZT hv with⟨i,t,rfl,rfl⟩|⟨x,t,rfl,rfl⟩
  .exact wpAny_pyHash_int h
  .exact wpAny_pyHash_str h
 eqBool:=λhu hv h=>by
  rcases ZT hu with⟨i,t,rfl,rfl⟩|⟨x,t,rfl,rfl⟩
  .rcases ZT hv with⟨j,u,rfl,rfl⟩|⟨y,u,rfl,rfl⟩
   .rw[ZcM]at h;exact kI h
   .rw[ZcC]at h;exact mz i t y u _ _ _ _ h
  .rcases ZT hv with⟨j,u,rfl,rfl⟩|⟨y,u,rfl,rfl⟩
   .rw[ZcN]at h;exact mB x t j u _ _ _ _ h
   .rw[ZdS]at h;exact wpAny_eqBool_str h
 «strs»:=λk x t v h=>by
  rcases ZT h with⟨i,u,rfl,e⟩|⟨y,u,rfl,e⟩
  .exact nomatch e
  .injection e with e1 _
   subst e1;cases v<;>rfl
def zE(prog:bC)(w:bU)(i:Int)(t:pb):(ZP prog w).is (.inl i) (.int i t)=aj:=wV i t
def zi(prog:bC)(w:bU)(x:bx)(t:pb):(ZP prog w).is (.inr x) (.str x t)=aj:=vB x t
inductive V where
 |non|bl (b:Bool)|int (i:Int)|str (x:bx)|byt (b:Array UInt8)|flt (b:UInt64)|ref (a:aJ)|ty (n:String)
 deriving DecidableEq
def Zu:V->ap->Prop
 |.non,u=>u=bh
 |.bl b,u=>u=bX b
 |.int i,u=>∃t,u=fu i t
 |.str x,u=>∃t,u=ap.str x t
 |.byt b,u=>∃t,u=ap.bytes b t
 |.flt b,u=>∃t,u=ap.float b t
 |.ref a,u=>u=bV a
 |.ty n,u=>u=mC n
abbrev Vals:List V->List ap->Prop:=Paired Zu
theorem Vals.length{xs:List V}{us:List ap}(r:Vals xs us):xs.length=us.length:=Paired.length r
theorem Vals.get:∀{xs:List V}{us:List ap}{i:Nat}{x:V},Vals xs us->xs[i]?=aa x->∃u,us[i]?=aa u/\Zu x u
 |_,_,_,_,.nil,e=>by simp at e
 |_,_,0,_,.cons r _,e=>by simp at e;subst e;exact#[_,rfl,r]
 |_,_,i+1,x,.cons _ t,e=>by
  obtain⟨u,h1,h2⟩:=Vals.get t (by simpa using e)
  exact#[u,by simpa using h1,h2]
theorem Vals.set(r:Zu x u):∀{xs:List V}{us:List ap}(i:Nat),Vals xs us->Vals (xs.set i x) (us.set i u)
 |_,_,_,.nil=>.nil
 |_,_,0,.cons _ t=>.cons r t
 |_,_,i+1,.cons q t=>.cons q<|Vals.set r i t
theorem Vals.append:∀{xs ys:List V}{us ws:List ap},Vals xs us->Vals ys ws->Vals (xs++ys) (us++ws)
 |_,_,_,_,.nil,s=>s
 |_,_,_,_,.cons r t,s=>.cons r<|Vals.append t s
theorem Vals.take:∀{xs:List V}{us:List ap}(n:Nat),Vals xs us->Vals (xs.take n) (us.take n)
 |_,_,0,_=>.nil
 |_,_,_+1,.nil=>.nil
 |_,_,n+1,.cons r t=>.cons r<|Vals.take n t
theorem Vals.drop:∀{xs:List V}{us:List ap}(n:Nat),Vals xs us->Vals (xs.drop n) (us.drop n)
 |_,_,0,r=>r
 |_,_,_+1,.nil=>.nil
 |_,_,n+1,.cons _ t=>Vals.drop n t
def yh:Option V->Option ap->Prop
 |some v,aa u=>Zu v u
 |none,ag=>True
 |_,_=>False
def KV{κ:Type}:List (κ×V)->List (κ×ap)->Prop:=Paired λ(p:κ×V) (q:κ×ap)=>p.1=q.1/\Zu p.2 q.2
noncomputable def kV:Key->V
 |.inl i=>.int i
 |.inr x=>.str x
inductive HO where
 |lst (xs:List V)
 |tup (xs:List V)
 |dK (kvs:List (Key×V))|dT (kvs:List (List Key×V))
 |set (S:Int->Bool) (n:Nat)
 |ins (C dx:aJ) (fs:List (bx×V))
 |own (x:aJ)
 |xd (fs:List (bx×V))
 |met (f x:aJ)
 |rng (lo hi:Int)
 |frz (o:fA) (u:HO)
 |tbl (ps:Array ap)
 |ext (φ:cc->Prop)
abbrev Hp:=aJ->Option HO
noncomputable def upd(H:Hp)(a:aJ)(o:HO):Hp:=λb=>if b=a then aa o else H b
def Zy :upd H a o a=aa o:=by unfold upd;rw[T9 rfl]
def Zp(h:b≠a):upd H a o b=H b:=by unfold upd;rw[T8 h]
def Zcq{H:Hp}{a b:aJ}{o u:HO}(h:H a=aa o)(h':H b=aa u)(d:o≠u):a≠b:=by
 intro e;subst e;rw[h]at h';exact d<|al h'
def ZK{H:Hp}{a b:aJ}{o:HO}(h:H a=aa o)(h':H b=ag):a≠b:=by
 intro e;subst e;rw[h]at h';cases h'
section
variable(P:bC)(w:bU)
def Ym(H:Hp)(h:cc)(a:aJ):HO->Prop
 |.lst xs=>xs.length<=aZ/\∃(its:List ap)(n:Nat),Vals xs its/\h.get? a=aa {cls:=.type "list",data:=.seq its.toArray n}
 |.tup xs=>xs.length<=aZ/\∃its:List ap,Vals xs its/\oa h a its.toArray
 |.dK kvs=>kvs.length<=aZ/\(a == c7)=ak/\∃vs,KV kvs vs/\h.DictOf (ZP P w) a vs
 |.dT kvs=>kvs.length<=aZ/\(a == c7)=ak/\∃xs:List (List Key×aJ×ap),
   Paired (λ(p:List Key×V) (q:List Key×aJ×ap)=>p.1=q.1/\H q.2.1=aa (.tup<|p.1.map kV)/\Zu p.2 q.2.2) kvs xs/\
   ∃o es ep,h.get? a=aa o/\o.ExactDict/\o.data=.dict es ep/\es.toList=xs.map (entryOfKey<|dC<|ZP P w)/\(xs.map (·.1)).Nodup
 |.set S n=>h.SetOf (fb P w) a S n
 |.ins C dx fs=>H dx=aa (.own a)/\fs.length<=1000/\dx≠a/\h.get? a=aa (ln C dx)/\
   ∃mA,h.Ns1 dx mA/\(∀f,yh (fs.lookup f)<|mA f)/\PySem.Within mA (fs.map (·.1))
 |.own _=>∃o,h.get? a=aa o
 |.xd fs=>∃mA,h.Ns1 a mA/\∀f,yh (fs.lookup f)<|mA f
 |.rng lo hi=>∃t u v,h.get? a=aa {cls:=.type "range",data:=.fields [.int lo t,.int hi u,.int 1 v].toArray}
 |.frz o u=>h.get? a=aa o/\Ym H h a u
 |.tbl ps=>h.get? a=aa {cls:=.none,data:=.fields ps}
 |.met f x=>h.get? a=aa (PySem.W.methodObj (.ref f)<|.ref x)
 |.ext φ=>φ h/\(∃o,h.get? a=aa o)/\∀h1 h2:cc,φ h1->(∀o,h1.get? a=aa o->h2.get? a=aa o)->φ h2
def HOk(H:Hp)(h:cc):Prop:=∀a o,H a=aa o->Ym P w H h a o
end
theorem Ym.lt(x:Ym P w H h a o):a<h.objs.size:=by
 cases o with|lst xs=>obtain⟨_,_,_,_,e⟩:=x;exact aC e|tup xs=>obtain⟨_,_,_,p⟩:=x;exact p.lt|dK kvs=>obtain⟨_,_,_,_,o,_,_,e,_⟩:=x;exact aC e|dT kvs=>obtain⟨_,_,_,_,o,_,_,e,_⟩:=x;exact aC e|set S n=>obtain⟨o,_,_,_,e,_⟩:=x;exact aC e|ins C dx fs=>obtain⟨_,_,_,e,_⟩:=x;exact aC e|own y=>obtain⟨_,e⟩:=x;exact aC e|xd fs=>obtain⟨_,⟨_,_,_,e,_⟩,_⟩:=x;exact aC e|rng lo hi=>obtain⟨_,_,_,e⟩:=x;exact aC e|frz ob u=>obtain⟨e,_⟩:=x;exact aC e|tbl ps=>exact aC (x)|met f y=>exact aC (x)|ext φ=>obtain⟨_,⟨_,e⟩,_⟩:=x;exact aC e
theorem Paired.mapP{B β:Type}{F G:B->β->Prop}:∀{l₁:List B}{l₂:List β},Paired F l₁ l₂->(∀a b,F a b->G a b)->Paired G l₁ l₂
 |_,_,.nil,_=>.nil
 |_,_,.cons r t,f=>.cons (f _ _ r)<|Paired.mapP t f
def Ym.stay(x:Ym P w H h a o)(k:∀b u,(b=a\/H b=aa (.own a))->h.get? b=aa u->h'.get? b=aa u)
  (ho:∀b,H b=aa (.own a)->H' b=aa (.own a))(ht:∀b xs,H b=aa (.tup xs)->H' b=aa (.tup xs)):Ym P w H' h' a o:=by
 induction o with
 |lst xs=>obtain⟨z,its,n,r,e⟩:=x;exact#[z,its,n,r,k _ _ (.inl rfl) e]
 |tup xs=>obtain⟨z,its,r,ob,e,c⟩:=x;exact#[z,its,r,ob,k _ _ (.inl rfl) e,c]
 |dK kvs=>obtain⟨z,y,vs,r,ob,es,ep,e,c⟩:=x;exact#[z,y,vs,r,ob,es,ep,k _ _ (.inl rfl) e,c]
 |dT kvs=>
  obtain⟨z,y,xs,r,ob,es,ep,e,c⟩:=x;exact#[z,y,xs,Paired.mapP r λp q z=>#[z.1,ht _ _ z.2.1,z.2.2],ob,es,ep,k _ _ (.inl rfl) e,c]
 |set S n=>obtain⟨ob,es,ep,t,e,c⟩:=x;exact#[ob,es,ep,t,k _ _ (.inl rfl) e,c]
 |ins C dx fs=>
  obtain⟨d,z,ne,e,mA,⟨od,es,ep,e2,c⟩,r⟩:=x;exact#[ho _ d,z,ne,k _ _ (.inl rfl) e,mA,#[od,es,ep,k _ _ (.inr d) e2,c],r]
 |own y=>obtain⟨ob,e⟩:=x;exact#[ob,k _ _ (.inl rfl) e]
 |xd fs=>obtain⟨mA,⟨od,es,ep,e,c⟩,r⟩:=x;exact#[mA,#[od,es,ep,k _ _ (.inl rfl) e,c],r]
 |rng lo hi=>obtain⟨t,u,v,e⟩:=x;exact#[t,u,v,k _ _ (.inl rfl) e]
 |frz ob u ih=>obtain⟨e,q⟩:=x;exact#[k _ _ (.inl rfl) e,ih q]
 |tbl ps=>
  have e:=x;exact k a _ (.inl rfl) e
 |met f y=>
  have e:=x;exact k a _ (.inl rfl) e
 |ext φ=>obtain⟨p,⟨o,e⟩,st⟩:=x;exact#[st _ _ p λo q=>k _ _ (.inl rfl) q,#[o,k _ _ (.inl rfl) e],st]
theorem HOk.lt(x:HOk P w H h)(e:H a=aa o):a<h.objs.size:=(x a o e).lt
def HOk.fresh(x:HOk P w H h)(e:h.objs.size<=a):H a=ag:=by
 cases q:H a with|none=>rfl|some u=>exact T7 (bu (x.lt q) e)<|bw _
def HOk.kept(x:HOk P w H h)(k:∀b u,h.get? b=aa u->h'.get? b=aa u):HOk P w H h':=λa o e=>
 (x a o e).stay (λb u _ q=>k b u q) (λ_ q=>q) λ_ _ q=>q
def HOk.laid(x:HOk P w H h)(k:∀b u,h.get? b=aa u->h'.get? b=aa u)(hp:h.objs.size<=a)(new:Ym P w (upd H a o) h' a o):HOk P w (upd H a o) h':=λb u e=>by
 have hn:=x.fresh hp;by_cases hb:b=a
 .subst hb;rw[Zy]at e;cases e;exact new
 .rw[Zp hb]at e
  exact(x b u e).stay (λc v _ q=>k c v q) (λc q=>by rw[Zp<|ZK q hn];exact q) λc xs q=>by rw[Zp<|ZK q hn];exact q
def Rd(H:Hp)(a:aJ)(u:HO):Prop:=H a=aa u\/∃o,H a=aa (.frz o u)
def Rd.ok(r:Rd H a u)(x:HOk P w H h):Ym P w H h a u:=by
 rcases r with r|⟨o,r⟩
 .exact x a u r
 .obtain⟨_,q⟩:=x a _ r
  exact q
def Mut:Option HO->Prop
 |some (.lst _)=>True
 |some (.dK _)=>True
 |some (.dT _)=>True
 |some (.set _ _)=>True
 |some (.ins _ _ _)=>True
 |some (.ext _)=>True
 |_=>False
def HOk.write(ok:HOk P w H h)(mu:Mut (H x))(he:e=x\/H e=aa (.own x))(k:∀b u,b≠e->h.get? b=aa u->h'.get? b=aa u)(heo:∃u,h'.get? e=aa u)
  (new:Ym P w (upd H x o') h' x o'):HOk P w (upd H x o') h':=λb u q=>by
 have nown:∀c y,H c=aa (.own y)->c≠x:=λc y r z=>by subst z;rw[r]at mu;exact mu
 have ntup:∀c xs,H c=aa (.tup xs)->c≠x:=λc xs r z=>by subst z;rw[r]at mu;exact mu
 by_cases hb:b=x
 .subst hb;rw[Zy]at q;cases q;exact new
 .rw[Zp hb]at q
  by_cases hbe:b=e
  .have q':H b=aa (.own x):=by
    rcases he with z|z
    .exact T7 (hbe.trans z) hb
    .rw[hbe];exact z
   rw[q]at q';cases q';obtain⟨v,hv⟩:=heo;exact#[v,by rw[hbe];exact hv]
  .refine(ok b u q).stay (λc v hc r=>k c v ?_ r) (λc r=>by rw[Zp<|nown c b r];exact r) λc xs r=>by rw[Zp<|ntup c xs r];exact r
   rcases hc with rfl|hc
   .exact hbe
   .rintro rfl
    rcases he with z|z
    .exact nown c b hc z
    .rw[hc]at z;cases z;exact hb rfl
structure Un(fs ex:List aJ)(H H':Hp)(h h':cc):Prop where
 keep:∀b o,h.get? b=aa o->H b=ag->b∉fs->b∉ex->h'.get? b=aa o
 slot:∀b o,h.get? b=aa o->H b=ag->b∈fs->b∉ex->∃sl,h'.get? b=aa {o with slots:=sl}
 free:∀b o,h.get? b=aa o->H b=ag->b∉ex->H' b=ag
 there:∀b o,h.get? b=aa o->b∉ex->∃o',h'.get? b=aa o'
 tups:∀b xs,H b=aa (.tup xs)->H' b=aa (.tup xs)
 frzs:∀b o u,H b=aa (.frz o u)->H' b=aa (.frz o u)
 tbls:∀b ps,H b=aa (.tbl ps)->∃more,H' b=aa (.tbl<|ps++more)
def Un.any(u:Un fs ex H H1 h h1)(q:h.get? b=aa ob)(n:H b=ag)(hx:b∉ex):∃sl,h1.get? b=aa {ob with slots:=sl}:=by
 by_cases hb:b∈fs
 .exact u.slot b ob q n hb hx
 .exact#[ob.slots,u.keep b ob q n hb hx]
def Un.kept(k:∀b u,h.get? b=aa u->h'.get? b=aa u):Un fs ex H H h h':=
 #[λb ob q _ _ _=>k b ob q,λb ob q _ _ _=>#[ob.slots,k b ob q],λ_ _ _ n _=>n,λb ob q _=>#[ob,k b ob q],λ_ _ q=>q,λ_ _ _ q=>q,λ_ ps q=>#[#[],by rw[q];simp]]
def Un.refl:Un fs ex H H h h:=Un.kept λ_ _ q=>q
def Un.laid(k:∀b u,h.get? b=aa u->h'.get? b=aa u)(hp:h.objs.size<=a)(hn:H a=ag):Un fs ex H (upd H a o) h h' where
 keep:=λb u q _ _ _=>k b u q
 slot:=λb u q _ _ _=>#[u.slots,k b u q]
 free:=λb u q n _=>by rw[Zp<|a9<|bu (aC q) hp];exact n
 there:=λb u q _=>#[u,k b u q]
 tups:=λb xs q=>by rw[Zp<|ZK q hn];exact q
 frzs:=λb u xs q=>by rw[Zp<|ZK q hn];exact q
 tbls:=λb ps q=>#[#[],by rw[Zp<|ZK q hn,q];simp]
def Un.write(mu:Mut (H x))(he:e=x\/H e=aa (.own x))(k:∀b u,b≠e->h.get? b=aa u->h'.get? b=aa u)(heo:∃u,h'.get? e=aa u):Un fs ex H (upd H x o) h h':=by
 have hx:∀b,H b=ag->b≠x:=λb n z=>by subst z;rw[n]at mu;exact mu
 have hb:∀b,H b=ag->b≠e:=λb n z=>by
  subst z;rcases he with r|r
  .exact hx b n r
  .rw[n]at r;cases r
 have hm:∀b u,H b=aa u->¬Mut (aa u)->b≠x:=λb u q nm z=>by subst z;rw[q]at mu;exact nm mu
 refine#[λb u q n _ _=>k b u (hb b n) q,λb u q n _ _=>#[u.slots,k b u (hb b n) q],λb u q n _=>by rw[Zp<|hx b n];exact n,λb u q _=>?_,
  λb xs q=>by rw[Zp<|hm b _ q λz=>z];exact q,λb u xs q=>by rw[Zp<|hm b _ q λz=>z];exact q,λb ps q=>#[#[],by rw[Zp<|hm b _ q λz=>z,q];simp]]
 by_cases hbe:b=e
 .subst hbe;exact heo
 .exact#[u,k b u hbe q]
noncomputable def trk(h:cc)(H:Hp):List aJ:=(aL h.objs.size).filter λa=>(H a).isSome
noncomputable def Q6(h:cc)(H:Hp):cc:=PySem.W.hideAll h<|trk h H
def w4(h:cc)(H:Hp):(Q6 h H).objs.size=h.objs.size:=PySem.W.hideAll_size _ _
def jp(e:h.get? b=aa o)(n:H b=ag):(Q6 h H).get? b=aa o:=
 PySem.W.hideAll_get _ e λhm=>by
  have q:=(bM.mp hm).2;rw[n]at q;simp at q
def Zbm(e:(Q6 h H).get? b=aa o):h.get? b=aa o/\H b=ag:=by
 have e':=PySem.W.of_hideAll (trk h H) e;refine#[e',?_];cases q:H b with
 |none=>rfl
 |some x=>
  have hm:b∈trk h H:=bM.mpr #[aR.mpr<|aC e',by simp[q]]
  have z:(Q6 h H).get? b=ag:=PySem.W.hideAll_none (trk h H) hm;rw[z]at e;cases e
structure Mod(K:aq)(mg:bx->Option ap)(base:cc):Prop where
 kin:K.In base
 glob:base.Ns cG mg
 blt:∃mb,base.Ns mD mb/\∀x:bx,x≠"__name__"->mb x=cZ x
 nolimit:base.NoLimit
structure Cx where
 prog:bC
 w:bU
 K:aq
 mg:bx->Option ap
 base:cc
 A:cL
 N:List bx
 s₀:ax
 H₀:Hp
 env:Env
 outer:List Env
 stack:List Env
 ex:List aJ
 fn:bx->Bool
 calm:Bool
 pn:List (aJ×fA)
 xe:ap->ax->Prop
noncomputable def frs(l:List Env):List aJ:=l.filterMap (·.frame)
noncomputable abbrev Cx.fs(X:Cx):List aJ:=frs X.outer
def Vis(sc:eX)(x:bx):Prop:=sc.names.lookup x=aa .local\/sc.names.lookup x=aa .cell\/sc.names.lookup x=aa .free
def Loc(sc:eX)(x:bx):Prop:=sc.names.lookup x=aa .local\/sc.names.lookup x=aa .cell
def Look(env:Env)(h:cc)(m:bx->Option ap)(x:bx)(u:ap):Prop:=
 (env.kindOf x=aa .local/\m x=aa u)\/((env.kindOf x=aa .cell\/env.kindOf x=aa .free)/\∃c,env.cells.lookup x=aa c/\h.IsCell c (aa u))
structure Cx.Ok(X:Cx):Prop where
 mod:Mod X.K X.mg X.base
 kind:X.env.scope.kind=.function
 glob:X.env.globals=cG
 blt:X.env.builtins=mD
 above:X.s₀.heap.objs.size<=X.env.locals
 inj:∀x y c,X.env.cells.lookup x=aa c->X.env.cells.lookup y=aa c->x=y
 has:∀x,(X.env.kindOf x=aa .cell\/X.env.kindOf x=aa .free)->∃c,X.env.cells.lookup x=aa c
 cab:∀x c,X.fn x=aj->X.env.cells.lookup x=aa c->X.s₀.heap.objs.size<=c
 hd:X.calm=aj->X.A.handled=ag
 frames:X.A.frames=aa X.stack
 stk:X.stack=X.outer\/(X.stack=X.env::X.outer/\X.env.frame=aa X.env.locals)
 exf:∀b∈X.ex,b≠X.env.locals/\∀x c,X.env.cells.lookup x=aa c->c≠b
 bs:∀b o,X.base.get? b=aa o->X.s₀.heap.get? b=aa o/\X.H₀ b=ag
 bsz:X.base.objs.size<=X.s₀.heap.objs.size
 noex:∀b o,X.base.get? b=aa o->b∉X.ex
 exfs:∀b∈X.ex,b∉X.fs
 funs:X.s₀.heap.FunFrames X.base X.outer
 frf:∀b∈X.fs,X.H₀ b=ag
structure Inv(X:Cx)(pq:List (aJ×fA))(Z:List (Option V))(H:Hp)(s:ax):Prop where
 ok:X.Ok
 os:s.os=X.s₀.os
 bare:ke s.gens
 base:Un X.fs X.ex X.H₀ H X.s₀.heap s.heap
 loc:∃m,s.heap.Ns X.env.locals m/\∀(i:Nat)(x:bx)(v:V),X.N[i]?=aa x->Z[i]?=aa (aa v)->Vis X.env.scope x->∃u,Zu v u/\Look X.env s.heap m x u
 cell:∀x c,X.env.cells.lookup x=aa c->∃v,s.heap.IsCell c v
 free:H X.env.locals=ag
 freeC:∀x c,X.env.cells.lookup x=aa c->H c=ag
 pin:∀p∈X.pn++pq,s.heap.get? p.1=aa p.2/\H p.1=ag/\p.1≠X.env.locals/\p.1∉X.fs/\∀v,p.2.data≠.cell v
 hok:HOk X.prog X.w H s.heap
 len:Z.length=X.N.length
section
variable{X:Cx}{pq:List (aJ×fA)}{Z:List (Option V)}{H H':Hp}{s:ax}{h':cc}
def Cx.Ok.nofr(ok:X.Ok)(e:X.base.get? b=aa o):b∉X.fs:=λhb=>by
 have:=(ok.funs.mem hb).1;rw[e]at this;cases this
theorem Inv.bs(I:Inv X pq Z H s):∀b o,X.base.get? b=aa o->s.heap.get? b=aa o/\H b=ag:=λb o e=>
 #[I.base.keep b o (I.ok.bs b o e).1 (I.ok.bs b o e).2 (I.ok.nofr e)<|I.ok.noex b o e,I.base.free b o (I.ok.bs b o e).1 (I.ok.bs b o e).2<|I.ok.noex b o e]
def Inv.bk(I:Inv X pq Z H s):∀b o,X.base.get? b=aa o->s.heap.get? b=aa o:=λb o e=>(I.bs b o e).1
theorem Inv.mod(I:Inv X pq Z H s):Mod X.K X.mg X.base:=I.ok.mod
def Inv.kIn(I:Inv X pq Z H s):X.K.In s.heap:=I.ok.mod.kin.keeps I.bk
theorem Inv.lt(I:Inv X pq Z H s):X.env.locals<s.heap.objs.size:=let #[_,hn,_]:=I.loc;hn.lt
def Inv.sz(I:Inv X pq Z H s):X.s₀.heap.objs.size<=s.heap.objs.size:=cn I.ok.above<|gw I.lt
def Inv.nofs(I:Inv X pq Z H s)(h:s.heap.objs.size<=a):a∉X.fs:=λhb=>by
 obtain⟨_,o,ho,_⟩:=I.ok.funs.mem hb;exact T7 (bu (aC ho)<|cn I.sz h)<|bw _
def Inv.cne(I:Inv X pq Z H s):∀x c,X.env.cells.lookup x=aa c->c≠X.env.locals:=λx c e z=>by
 obtain⟨v,o,ho,hd⟩:=I.cell x c e;obtain⟨m,⟨o',es,ep,ho',hd',_⟩,_⟩:=I.loc;rw[z,ho']at ho;cases ho;rw[hd']at hd;cases hd
theorem Inv.funs(I:Inv X pq Z H s):s.heap.FunFrames X.base X.outer:=by
 have all:∀(l:List Env),(∀b∈frs l,b∈X.fs)->X.s₀.heap.FunFrames X.base l->s.heap.FunFrames X.base l:=by
  intro l
  induction l with
  |nil=>intro _ _;trivial
  |cons env r ih=>
   intro hs hl;obtain⟨hk,⟨L,o,hf,hn,ho,hd⟩,hr⟩:=hl;have hL:=hs L (by unfold frs;rw[iz,hf];exact am)
   obtain⟨sl,e⟩:=I.base.slot L o ho (I.ok.frf L hL) hL λz=>I.ok.exfs L z hL
   exact#[hk,#[L,_,hf,hn,e,hd],ih (λb hb=>hs b<|by unfold frs;rw[iz,hf];exact ai _ hb) hr]
 exact all X.outer (λ_ hb=>hb) I.ok.funs
theorem Inv.stack(I:Inv X pq Z H s):s.heap.FunFrames X.base X.stack:=by
 rcases I.ok.stk with e|⟨e,hf⟩
 .rw[e];exact I.funs
 .rw[e]
  obtain⟨m,hn,_⟩:=I.loc;refine .cons (by rw[I.ok.kind];decide) hf hn ?_ I.funs
  exact cc.get?_none_of_le<|cn I.ok.bsz I.ok.above
def Inv.stkSub(I:Inv X pq Z H s):∀b∈frs X.stack,b∈X.env.locals::X.fs:=λb hb=>by
 rcases I.ok.stk with e|⟨e,hf⟩
 .rw[e]at hb;exact ai _ hb
 .rw[e]at hb
  unfold frs at hb;rw[iz,hf]at hb;exact hb
def Inv.stkFree(I:Inv X pq Z H s):∀b∈frs X.stack,H b=ag:=λb hb=>by
 rcases aB.mp (I.stkSub b hb)with e|hb
 .rw[e];exact I.free
 .obtain⟨_,o,ho,_⟩:=I.ok.funs.mem hb
  exact I.base.free b o ho (I.ok.frf b hb) λz=>I.ok.exfs b z hb
def Inv.step{g':Array GenState}{t':Nat}{d':Drawn}{ch:List aJ}(I:Inv X pq Z H s)
  (hch:∀b∈ch,(b∈X.ex\/X.s₀.heap.objs.size<=b)/\b≠X.env.locals/\(∀x c,X.env.cells.lookup x=aa c->c≠b)/\∀p∈X.pn++pq,p.1≠b)
  (keep:∀b o,b≠X.env.locals->b∉X.fs->b∉ch->s.heap.get? b=aa o->H b=ag->h'.get? b=aa o)
  (slot:∀b o,b≠X.env.locals->b∈X.fs->b∉ch->s.heap.get? b=aa o->H b=ag->∃sl,h'.get? b=aa {o with slots:=sl})(free:∀b o,b∉ch->s.heap.get? b=aa o->H b=ag->H' b=ag)
  (there:∀b o,b∉ch->s.heap.get? b=aa o->∃o',h'.get? b=aa o')
  (tups:∀b xs,H b=aa (.tup xs)->H' b=aa (.tup xs))(frzs:∀b o u,H b=aa (.frz o u)->H' b=aa (.frz o u))(tbls:∀b ps,H b=aa (.tbl ps)->∃more,H' b=aa (.tbl<|ps++more))
  (ns:∀m,s.heap.Ns X.env.locals m->h'.Ns X.env.locals m)(hok:HOk X.prog X.w H' h')(hg:ke g') :
  Inv X pq Z H' {s with heap:=h',gens:=g',drawn:=d',toks:=t' }:=by
 have neL:∀b o,X.s₀.heap.get? b=aa o->b≠X.env.locals:=λb o e=>a9<|bu (aC e) I.ok.above
 have neC:∀b o,X.s₀.heap.get? b=aa o->b∉X.ex->b∉ch:=λb o e hx hb=>by
  rcases(hch b hb).1 with z|z
  .exact hx z
  .exact T7 (bu (aC e) z)<|bw _
 have cellK:∀x c,X.env.cells.lookup x=aa c->∀v,s.heap.IsCell c v->h'.IsCell c v:=by
  rintro x c e v ⟨o,ho,hd⟩;have nch:=λz=>(hch c z).2.2.1 x c e rfl
  by_cases hc:c∈X.fs
  .obtain⟨sl,q⟩:=slot c o (I.cne x c e) hc nch ho (I.freeC x c e)
   exact#[_,q,hd]
  .exact#[o,keep c o (I.cne x c e) hc nch ho<|I.freeC x c e,hd]
 refine#[I.ok,I.os,hg,#[λb o e n hb hx=>?_,λb o e n hb hx=>?_,λb o e n hx=>?_,λb o e hx=>?_,λb xs e=>tups b xs<|I.base.tups b xs e,λb o xs e=>frzs b o xs<|I.base.frzs b o xs e,λb ps e=>?_],?_,λx c e=>?_,?_,λx c e=>?_,λp hp=>?_,hok,I.len]
 .exact keep b o (neL b o e) hb (neC b o e hx) (I.base.keep b o e n hb hx)<|I.base.free b o e n hx
 .obtain⟨sl,e1⟩:=I.base.slot b o e n hb hx
  obtain⟨sl',e2⟩:=slot b _ (neL b o e) hb (neC b o e hx) e1<|I.base.free b o e n hx;exact#[sl',e2]
 .obtain⟨o',e1⟩:=I.base.there b o e hx
  exact free b o' (neC b o e hx) e1<|I.base.free b o e n hx
 .obtain⟨o',e1⟩:=I.base.there b o e hx
  exact there b o' (neC b o e hx) e1
 .obtain⟨m1,e1⟩:=I.base.tbls b ps e
  obtain⟨m2,e2⟩:=tbls b _ e1;exact#[m1++m2,by rw[e2,Array.append_assoc]]
 .obtain⟨m,hn,hl⟩:=I.loc
  refine#[m,ns m hn,λi x v e1 e2 e3=>?_]
  obtain⟨u,r,l⟩:=hl i x v e1 e2 e3;refine#[u,r,?_];rcases l with l|⟨k,c,e,z⟩
  .exact .inl l
  .exact .inr #[k,c,e,cellK x c e _ z]
 .obtain⟨v,z⟩:=I.cell x c e
  exact#[v,cellK x c e v z]
 .obtain⟨m,⟨o,_,_,ho,_⟩,_⟩:=I.loc
  exact free _ o (λz=>(hch _ z).2.1 rfl) ho I.free
 .obtain⟨v,o,ho,hd⟩:=I.cell x c e
  exact free c o (λz=>(hch c z).2.2.1 x c e rfl) ho<|I.freeC x c e
 .obtain⟨e,n,ne,nf,d⟩:=I.pin p hp
  have nch:=λz=>(hch p.1 z).2.2.2 p hp rfl
  exact#[keep p.1 p.2 ne nf nch e n,free p.1 p.2 nch e n,ne,nf,d]
def Inv.un{t':Nat}(I:Inv X pq Z H s)(u:Un X.fs [] H H' s.heap h')(hok:HOk X.prog X.w H' h'):Inv X pq Z H' {s with heap:=h',toks:=t' }:=by
 obtain⟨m,⟨o,es,ep,ho,r⟩,_⟩:=id I.loc;obtain⟨sl,hL⟩:=u.any ho I.free (by simp)
 exact I.step (g':=s.gens) (d':=s.drawn) (ch:=[]) (λ_ z=>nomatch z) (λb o _ hb _ e n=>u.keep b o e n hb<|by simp) (λb o _ hb _ e n=>u.slot b o e n hb<|by simp) (λb o _ e n=>u.free b o e n<|by simp) (λb o _ e=>u.there b o e<|by simp) u.tups u.frzs u.tbls (λm' hm=>by
  obtain⟨o',es',ep',ho',r'⟩:=hm;rw[ho]at ho';cases ho';exact#[_,es',ep',hL,r']) hok I.bare
def Inv.call{g':Array GenState}{t':Nat}{d':Drawn}{ch:List aJ}(I:Inv X pq Z H s)(u:Un (frs X.stack) ch H H' s.heap h')(hok:HOk X.prog X.w H' h')(hg:ke g')
  (hch:∀b∈ch,(b∈X.ex\/X.s₀.heap.objs.size<=b)/\b≠X.env.locals/\(∀x c,X.env.cells.lookup x=aa c->c≠b)/\∀p∈X.pn++pq,p.1≠b) :
  Inv X pq Z H' {s with heap:=h',gens:=g',drawn:=d',toks:=t' }:=by
 obtain⟨m,⟨o,es,ep,ho,r⟩,_⟩:=id I.loc;obtain⟨sl,hL⟩:=u.any ho I.free λz=>(hch _ z).2.1 rfl
 exact I.step hch (λb o hL hb hc e n=>u.keep b o e n (λz=>(aB.mp<|I.stkSub b z).elim hL hb) hc) (λb o _ _ hc e n=>u.any e n hc) (λb o hc e n=>u.free b o e n hc) (λb o hc e=>u.there b o e hc) u.tups u.frzs u.tbls (λm' hm=>by
  obtain⟨o',es',ep',ho',r'⟩:=hm;rw[ho]at ho';cases ho';exact#[_,es',ep',hL,r']) hok hg
def Inv.turned{t':Nat}{it:aJ}(I:Inv X pq Z H s)(k:∀b o,b≠it->s.heap.get? b=aa o->h'.get? b=aa o)(hn:H it=ag)(hL:it≠X.env.locals)
  (h1:it∈X.ex\/X.s₀.heap.objs.size<=it)(h2:∀x c,X.env.cells.lookup x=aa c->c≠it)(h3:∀p∈X.pn++pq,p.1≠it):Inv X pq Z H {s with heap:=h',toks:=t' }:=by
 have nit:∀b u,H b=aa u->b≠it:=λb u e z=>by rw[z,hn]at e;cases e
 refine I.step (g':=s.gens) (d':=s.drawn) (ch:=[it]) (λb hb=>?_) (λb o _ _ hc e _=>k b o (λz=>hc<|by simp[z]) e) (λb o _ _ hc e _=>#[o.slots,k b o (λz=>hc<|by simp[z]) e]) (λ_ _ _ _ n=>n)
  (λb o hc e=>#[o,k b o (λz=>hc<|by simp[z]) e]) (λ_ _ e=>e) (λ_ _ _ e=>e) (λb ps e=>#[#[],by rw[e];simp]) (λm hm=>?_) (λb u e=>?_) I.bare
 .have e:b=it:=by simpa using hb
  subst e;exact#[h1,hL,h2,h3]
 .obtain⟨o,es,ep,ho,r⟩:=hm
  exact#[o,es,ep,k _ o (Ne.symm hL) ho,r]
 .refine(I.hok b u e).stay (λc v hc q=>k c v ?_ q) (λ_ q=>q) λ_ _ q=>q
  rcases hc with z|z
  .rw[z];exact nit b u e
  .exact nit c _ z
def Inv.tok(I:Inv X pq Z H s)(t:Nat):Inv X pq Z H {s with toks:=t}:=I.un (h':=s.heap) (t':=t) Un.refl I.hok
theorem Inv.kept(I:Inv X pq Z H s)(k:∀b u,s.heap.get? b=aa u->h'.get? b=aa u):Inv X pq Z H {s with heap:=h',toks:=t' }:=I.un (Un.kept k)<|I.hok.kept k
theorem Inv.laid(I:Inv X pq Z H s)(k:∀b u,s.heap.get? b=aa u->h'.get? b=aa u)(hp:s.heap.objs.size<=a)(new:Ym X.prog X.w (upd H a o) h' a o) :
  Inv X pq Z (upd H a o) {s with heap:=h',toks:=t' }:=I.un (Un.laid k hp<|I.hok.fresh hp)<|I.hok.laid k hp new
theorem Inv.write(I:Inv X pq Z H s)(mu:Mut (H x))(he:e=x\/H e=aa (.own x))(k:∀b u,b≠e->s.heap.get? b=aa u->h'.get? b=aa u)(heo:∃u,h'.get? e=aa u)
  (new:Ym X.prog X.w (upd H x o) h' x o):Inv X pq Z (upd H x o) {s with heap:=h',toks:=t' }:=I.un (Un.write mu he k heo)<|I.hok.write mu he k heo new
def Inv.pins_of(I:Inv X pq Z H s)(h:∀p∈pins',s.heap.get? p.1=aa p.2/\H p.1=ag/\p.1≠X.env.locals/\p.1∉X.fs/\∀v,p.2.data≠.cell v):Inv X pins' Z H s:=
 #[I.ok,I.os,I.bare,I.base,I.loc,I.cell,I.free,I.freeC,λp hp=>(cW.mp hp).elim (λz=>I.pin p<|dJ _ z)<|h p,I.hok,I.len]
def Gh{N:List bx}(hN:N.Nodup){i j:Nat}{x:bx}(a:N[i]?=aa x)(b:N[j]?=aa x):i=j:=by
 obtain⟨h1,e1⟩:=aX.mp a;obtain⟨h2,e2⟩:=aX.mp b;exact(List.getElem_inj hN).mp<|e1.trans e2.symm
def Qs{M:Model}{A:cL}{E:ap->ax->Prop}{i:Nat}{x:bx}{v:V}{u:ap}{Q:Unit->ax->Prop}(I:Inv X pq Z H s)(hN:X.N.Nodup)(hi:X.N[i]?=aa x)(hx:Loc X.env.scope x)(r:Zu v u)
  (h:∀s',Inv X pq (Z.set i<|aa v) H s'->(∃a,dU a s.heap s'.heap/\(a=X.env.locals\/X.env.cells.lookup x=aa a))->Q () s')(hf:X.fn x=aj\/X.env.scope.names.lookup x=aa .local:=by first|exact .inl rfl|exact .inr rfl|assumption):aV M A (storeName X.env x u) Q E s:=by
 obtain⟨m,hn,hl⟩:=id I.loc;have hcls:(X.env.scope.kind == .class||(X.env.scope.kind == .module&&X.env.locals != X.env.globals))=ak:=by rw[I.ok.kind];rfl
 have hiσ:i<Z.length:=by rw[I.len];exact(aX.mp hi).1
 have cne:=I.cne;have tracked:∀{a:aJ}{h':cc},(∃o,s.heap.get? a=aa o/\H a=ag)->dU a s.heap h'->HOk X.prog X.w H h':=λ{a h'} ha hs b ob e=>by
  obtain⟨_,_,hfree⟩:=ha;refine(I.hok b ob e).stay (λc w' hc q=>(hs.2 c ?_).trans q) (λ_ q=>q) λ_ _ q=>q
  rintro rfl
  rcases hc with rfl|hc
  .rw[hfree]at e;cases e
  .rw[hfree]at hc;cases hc
 rcases hx with hk|hk
 .refine wpAny_storeName_local hk hn (λh' hn' hs=>?_) hcls
  obtain⟨oL,_,_,hoL,_⟩:=id hn;refine h _ #[I.ok,I.os,I.bare,#[λb o e n hb hx=>?_,λb o e n hb hx=>?_,I.base.free,λb o e hx=>?_,I.base.tups,I.base.frzs,I.base.tbls],#[_,hn',λj y v' e1 e2 e3=>?_],λy c e=>?_,I.free,I.freeC,λp hp=>?_,tracked #[oL,hoL,I.free] hs,by simpa using I.len] #[_,hs,.inl rfl]
  .exact(hs.2 b<|a9<|bu (aC e) I.ok.above).trans<|I.base.keep b o e n hb hx
  .obtain⟨sl,e1⟩:=I.base.slot b o e n hb hx
   exact#[sl,(hs.2 b<|a9<|bu (aC e) I.ok.above).trans e1]
  .obtain⟨o',e1⟩:=I.base.there b o e hx
   exact#[o',(hs.2 b<|a9<|bu (aC e) I.ok.above).trans e1]
  .by_cases hj:j=i
   .subst hj
    rw[hi]at e1;cases e1;rw[bY hiσ]at e2;cases e2;exact#[u,r,.inl #[hk,by simp]]
   .rw[bp<|Ne.symm hj]at e2
    obtain⟨u',r',q⟩:=hl j y v' e1 e2 e3;refine#[u',r',?_];rcases q with⟨k,e⟩|⟨k,c,e,z⟩
    .refine .inl #[k,?_]
     have:y≠x:=λe=>hj<|Gh hN e1<|e▸hi
     simp[this,e]
    .exact .inr #[k,c,e,z.sameBut hs<|cne y c e]
  .obtain⟨w',z⟩:=I.cell y c e
   exact#[w',z.sameBut hs<|cne y c e]
  .obtain⟨e,n,ne,nf,d⟩:=I.pin p hp
   exact#[(hs.2 p.1 ne).trans e,n,ne,nf,d]
 .have hfn:X.fn x=aj:=by
   rcases hf with z|z
   .exact z
   .rw[z]at hk;cases hk
  obtain⟨c,hc⟩:=I.ok.has x<|.inl hk;obtain⟨w',z⟩:=I.cell x c hc;refine wpAny_storeName_cell I.ok.kind hk hc z λh' hc' hs=>?_
  obtain⟨oc,hoc,hocd⟩:=id z;refine h {s with heap:=h' } #[I.ok,I.os,I.bare,#[λb o e n hb hx=>?_,λb o e n hb hx=>?_,I.base.free,λb o e hx=>?_,I.base.tups,I.base.frzs,I.base.tbls],#[m,hn.sameBut hs<|Ne.symm<|cne x c hc,λj y v' e1 e2 e3=>?_],λy c' e=>?_,I.free,I.freeC,λp hp=>?_,tracked #[oc,hoc,I.freeC x c hc] hs,by simpa using I.len] #[c,hs,.inr hc]
  .exact(hs.2 b<|a9<|bu (aC e)<|I.ok.cab x c hfn hc).trans<|I.base.keep b o e n hb hx
  .obtain⟨sl,e1⟩:=I.base.slot b o e n hb hx
   exact#[sl,(hs.2 b<|a9<|bu (aC e)<|I.ok.cab x c hfn hc).trans e1]
  .obtain⟨o',e1⟩:=I.base.there b o e hx
   exact#[o',(hs.2 b<|a9<|bu (aC e)<|I.ok.cab x c hfn hc).trans e1]
  .by_cases hj:j=i
   .subst hj
    rw[hi]at e1;cases e1;rw[bY hiσ]at e2;cases e2;exact#[u,r,.inr #[.inl hk,c,hc,hc']]
   .rw[bp<|Ne.symm hj]at e2
    obtain⟨u',r',q⟩:=hl j y v' e1 e2 e3;refine#[u',r',?_];rcases q with q|⟨k,c',e,z'⟩
    .exact .inl q
    .refine .inr #[k,c',e,z'.sameBut hs ?_]
     rintro rfl
     exact hj<|Gh hN e1<|I.ok.inj _ _ _ e hc▸hi
  .by_cases hcc:c'=c
   .subst hcc;exact#[_,hc']
   .obtain⟨w2,z2⟩:=I.cell y c' e
    exact#[w2,z2.sameBut hs hcc]
  .obtain⟨e,n,ne,nf,d⟩:=I.pin p hp
   refine#[(hs.2 p.1 ?_).trans e,n,ne,nf,d];intro q;rw[q,hoc]at e;have q':=al e;exact d w' (by rw[<-q'];exact hocd)
def WV{E:ap->ax->Prop}{Q:Unit->ax->Prop}(I:Inv X pq Z H s)(hN:X.N.Nodup)(hi:X.N[i]?=aa x)(hx:Loc X.env.scope x)(r:Zu v u)
  (h:∀s',Inv X pq (Z.set i<|aa v) H s'->Q () s')(hf:X.fn x=aj\/X.env.scope.names.lookup x=aa .local:=by first|exact .inl rfl|exact .inr rfl|assumption):aV M A (storeName X.env x u) Q E s:=
 Qs I hN hi hx r (λs' I' _=>h s' I') hf
def Inv.call'(I:Inv X pq Z H s)(ho:s'.os=s.os)(u:Un (frs X.stack) ch H H' s.heap s'.heap)(hok:HOk X.prog X.w H' s'.heap)(hg:ke s'.gens)
  (hch:∀b∈ch,(b∈X.ex\/X.s₀.heap.objs.size<=b)/\b≠X.env.locals/\(∀x c,X.env.cells.lookup x=aa c->c≠b)/\∀p∈X.pn++pq,p.1≠b):Inv X pq Z H' s':=by
 obtain⟨h',g',d',t',o'⟩:=s';have e:=ho;subst e;exact I.call (g':=g') (t':=t') (d':=d') u hok hg hch
end
abbrev XK:=ap->Option aJ->Hp->Prop
abbrev St:=List<|Option V
abbrev VK:=V->Hp->Prop
abbrev TE:=St->Hp->VK->Prop
abbrev TT:=St->Hp->(Bool->Hp->Prop)->Prop
abbrev TA:=St->Hp->(List V->Hp->Prop)->Prop
structure Ends where
 nx:St->Hp->Prop
 rt:VK
 bk:St->Hp->Prop:=λ_ _=>False
 ct:St->Hp->Prop:=λ_ _=>False
abbrev TS:=Ends->St->Hp->Prop
def EP(X:Cx)(pq:List (aJ×fA))(Z:St)(Q:VK)(u:ap)(s':ax):Prop:=∃v H',Inv X pq Z H' s'/\Zu v u/\Q v H'
def TP(X:Cx)(pq:List (aJ×fA))(Z:St)(Q:Bool->Hp->Prop)(b:Bool)(s':ax):Prop:=∃H',Inv X pq Z H' s'/\Q b H'
def AP(X:Cx)(pq:List (aJ×fA))(Z:St)(Q:List V->Hp->Prop)(us:List ap)(s':ax):Prop:=∃vs H',Inv X pq Z H' s'/\Vals vs us/\Q vs H'
def SP(X:Cx)(pq:List (aJ×fA))(D:Ends)(f:Flow)(s':ax):Prop:=
 match f with
 |.next=>∃σ' H',Inv X pq σ' H' s'/\D.nx σ' H'
 |.brk=>∃σ' H',Inv X pq σ' H' s'/\D.bk σ' H'
 |.cont=>∃σ' H',Inv X pq σ' H' s'/\D.ct σ' H'
 |.ret u=>∃v σ' H',Inv X pq σ' H' s'/\Zu v u/\D.rt v H'
def PE(X:Cx)(e:Expr)(t:TE):Prop:=
 ∀(pq:List (aJ×fA))(s:ax)(Z:St)(H:Hp)(Q:VK),Inv X pq Z H s->t Z H Q->aV (aS X.prog X.w) X.A (cD e X.env) (EP X pq Z Q) X.xe s
def PT(X:Cx)(e:Expr)(t:TT):Prop:=
 ∀(pq:List (aJ×fA))(s:ax)(Z:St)(H:Hp)(Q:Bool->Hp->Prop),Inv X pq Z H s->t Z H Q->aV (aS X.prog X.w) X.A (isTrue e X.env<|cD e X.env) (TP X pq Z Q) X.xe s
def PW(X:Cx)(e:Expr)(t:TT):Prop:=
 ∀(whole:nH ap)(pq:List (aJ×fA))(s:ax)(Z:St)(H:Hp)(Q:Bool->Hp->Prop),Inv X pq Z H s->t Z H Q->aV (aS X.prog X.w) X.A (isTrue e X.env whole) (TP X pq Z Q) X.xe s
def PW.pt(h:PW X e t):PT X e t:=h _
def PA(X:Cx)(es:List Expr)(t:TA):Prop:=
 ∀(pos:gW)(pq:List (aJ×fA))(s:ax)(Z:St)(H:Hp)(Q:List V->Hp->Prop),Inv X pq Z H s->t Z H Q->aV (aS X.prog X.w) X.A (spliced<|dz pos<|aE es X.env) (AP X pq Z Q) X.xe s
def PS(X:Cx)(st:fG)(t:TS):Prop:=
 ∀(pq:List (aJ×fA))(s:ax)(Z:St)(H:Hp)(D:Ends),Inv X pq Z H s->t D Z H->aV (aS X.prog X.w) X.A (exec st X.env) (SP X pq D) X.xe s
def PSs(X:Cx)(st:List fG)(t:TS):Prop:=
 ∀(pq:List (aJ×fA))(s:ax)(Z:St)(H:Hp)(D:Ends),Inv X pq Z H s->t D Z H->aV (aS X.prog X.w) X.A (execs st X.env) (SP X pq D) X.xe s
def thn{B:Type}{t:nH B}{Q Q':B->ax->Prop}{M:Model}{A:cL}{E:ap->ax->Prop}{s:ax}(h:aV M A t Q E s)(hQ:∀a s,Q a s->Q' a s):aV M A t Q' E s:=dD h hQ λ_ _ x=>x
def ZfW(i:Nat):TE:=λZ H Q=>∃v,Z[i]?=aa (aa v)/\Q v H
def tC(v:V):TE:=λ_ H Q=>Q v H
def Jz(hN:X.N[i]?=aa x)(hv:Vis X.env.scope x)(hd:(x == ("__debug__" : bx))=ak:=by decide)(hcd:(x == ("__classdict__" : bx))=ak:=by decide):PE X (.Name x pos) (ZfW i):=by
 intro pq s Z H Q I h;obtain⟨v,e,h⟩:=h;obtain⟨m,hn,hl⟩:=I.loc;obtain⟨u,r,l⟩:=hl i x v hN e hv;have fin:EP X pq Z Q u s:=#[v,H,I,r,h];rcases l with⟨hk,hm⟩|⟨hk,c,hc,hcell⟩
 .exact oJ (lI I.ok.kind hk hn hm fin) hd
 .rcases hk with hk|hk
  .exact oJ (me I.ok.kind hk hc hcell fin) hd
  .exact oJ (wpAny_loadName_free I.ok.kind hk hc hcell fin hcd) hd
def JD{i j pos}:PE X (.Constant (.int i) j pos) (tC<|.int i):=λ_ _ _ H _ I h=>wpAny_Constant_int #[.int i,H,I.tok _,#[_,rfl],h]
def jc{b j pos}:PE X (.Constant (.bool b) j pos) (tC<|.bl b):=λ_ _ _ H _ I h=>Constant_bool #[.bl b,H,I,rfl,h]
def Zd3{j pos}:PE X (.Constant .none j pos) (tC .non):=λ_ _ _ H _ I h=>Constant_none #[.non,H,I,rfl,h]
def ZcF{x j pos}:PE X (.Constant (.str x) j pos) (tC<|.str x):=λ_ _ _ H _ I h=>Calls.Constant_str #[.str x,H,I.tok _,#[_,rfl],h]
def Gl(X:Cx)(x:bx):Prop:=X.env.kindOf x=aa .globalImplicit
def xX{E:ap->ax->Prop}{Q:ap->ax->Prop}(I:Inv X pq Z H s)(hg:Gl X x)(hm:X.mg x=aa u)(h:Q u s)
  (hd:(x == ("__debug__" : bx))=ak:=by decide):aV (aS X.prog X.w) X.A (cD (.Name x pos) X.env) Q E s:=
 Calls.Name_function_global I.ok.kind hg (Calls.loadGlobal_global (by rw[I.ok.glob];exact I.mod.glob.keeps I.bk) hm h) hd
def YX{E:ap->ax->Prop}{Q:ap->ax->Prop}(I:Inv X pq Z H s)(hg:Gl X x)(hm:X.mg x=ag)(hv:cZ x=aa u)(h:Q u s)
  (hn:x≠"__name__":=by decide)(hd:(x == ("__debug__" : bx))=ak:=by decide):aV (aS X.prog X.w) X.A (cD (.Name x pos) X.env) Q E s:=by
 obtain⟨mb,h1,h2⟩:=I.mod.blt;exact Calls.Name_function_global I.ok.kind hg (Calls.loadGlobal_builtin (by rw[I.ok.glob];exact I.mod.glob.keeps I.bk) hm (by rw[I.ok.blt];exact h1.keeps I.bk) ((h2 x hn).trans hv) h) hd
def ZbZ(hg:Gl X x)(hm:X.mg x=aa u)(r:Zu v u)(hd:(x == ("__debug__" : bx))=ak:=by decide):PE X (.Name x pos) (tC v):=
 λ_ _ _ H _ I h=>xX I hg hm #[v,H,I,r,h] hd
def Q4(hg:Gl X x)(hm:X.mg x=ag)(hv:cZ x=aa u)(r:Zu v u)(hn:x≠"__name__":=by decide)(hd:(x == ("__debug__" : bx))=ak:=by decide):PE X (.Name x pos) (tC v):=
 λ_ _ _ H _ I h=>YX I hg hm hv #[v,H,I,r,h] hn hd
def ZfP(t u:TT):TT:=λZ H Q=>t Z H λc H1=>if c=aj then u Z H1 Q else Q ak H1
def tOr(t u:TT):TT:=λZ H Q=>t Z H λc H1=>if c=aj then Q aj H1 else u Z H1 Q
def ZfC(t:TT):TT:=λZ H Q=>t Z H λc H1=>Q (!c) H1
def Zbx(ha:PT X a tA):PW X (.BoolOp .And [a] pos) tA:=by
 intro wh pq s Z H Q I h;refine isTrue_and<|thn (ha pq s Z H Q I h) λc s1 e=>?_
 cases c with|true=>exact isTrue_and_nil e|false=>exact e
def Zd5(ha:PT X a tA):PW X (.BoolOp .Or [a] pos) tA:=by
 intro wh pq s Z H Q I h;refine isTrue_or<|thn (ha pq s Z H Q I h) λc s1 e=>?_
 cases c with|false=>exact isTrue_or_nil e|true=>exact e
def Zd1(ha:PT X a tA)(hb:PW X (.BoolOp .And (b::rest) pos) tB'):PW X (.BoolOp .And (a::b::rest) pos) (ZfP tA tB'):=by
 intro wh pq s Z H Q I h;refine isTrue_and<|thn (ha pq s Z H _ I h) λc s1 #[H1,I1,q1]=>?_
 cases c with|true=>exact hb wh pq s1 Z H1 Q I1 q1|false=>exact#[H1,I1,q1]
def ZeE(ha:PT X a tA)(hb:PW X (.BoolOp .Or (b::rest) pos) tB'):PW X (.BoolOp .Or (a::b::rest) pos) (tOr tA tB'):=by
 intro wh pq s Z H Q I h;refine isTrue_or<|thn (ha pq s Z H _ I h) λc s1 #[H1,I1,q1]=>?_
 cases c with|true=>exact#[H1,I1,q1]|false=>exact hb wh pq s1 Z H1 Q I1 q1
def Zeh(ha:PT X a tA):PT X (.UnaryOp .Not a pos) (ZfC tA):=by
 intro pq s Z H Q I h;exact isTrue_not<|ha pq s Z H (λc H1=>Q (!c) H1) I h
def Zes(ta tb:TE):TE:=λZ H Q=>ta Z H λx H1=>∃c,x=.bl c/\if c=aj then tb Z H1 Q else Q (.bl ak) H1
def ZdE{op}{t:TE}(h:PE X a t):PE X (.BoolOp op [a] pos) t:=λpq s Z H Q I hw=>BoolOp_one<|h pq s Z H Q I hw
def Zd8(ha:PE X a ta)(hb:PE X (.BoolOp .And (b::rest) pos) tb):PE X (.BoolOp .And (a::b::rest) pos) (Zes ta tb):=by
 intro pq s Z H Q I h;refine BoolOp_and<|thn (ha pq s Z H _ I h) λv s1 #[x,H1,I1,r1,q1]=>?_
 obtain⟨c,rfl,q1⟩:=q1;cases r1;refine fB ?_;cases c with|true=>exact hb pq s1 Z H1 Q I1 q1|false=>exact#[.bl ak,H1,I1,rfl,q1]
def tIf(t:TT)(ta tb:TE):TE:=λZ H Q=>t Z H λc H1=>if c=aj then ta Z H1 Q else tb Z H1 Q
def qN{c:Expr}(hc:PT X c tA)(ha:PE X a ta)(hb:PE X b tb):PE X (.IfExp c a b pos) (tIf tA ta tb):=by
 intro pq s Z H Q I h;refine wpAny_IfExp<|thn (hc pq s Z H _ I h) λd s1 #[H1,I1,q1]=>?_
 cases d with|true=>exact ha pq s1 Z H1 Q I1 q1|false=>exact hb pq s1 Z H1 Q I1 q1
def SqL(K:aq)(H:Hp)(a:aJ)(xs:List V):Prop:=
 Rd H a (.lst xs)\/
  ∃(o:fA)(its:Array ap)(n:Nat),K.lookup a=aa o/\o.cls=.type "list"/\o.dict=ag/\o.data=.seq its n/\its.size<=aZ/\Vals xs its.toList
def SqT(K:aq)(H:Hp)(a:aJ)(xs:List V):Prop:=
 Rd H a (.tup xs)\/
  ∃(o:fA)(its:Array ap)(n:Nat),K.lookup a=aa o/\o.cls=.type "tuple"/\o.data=.seq its n/\its.size<=aZ/\Vals xs its.toList
noncomputable def Zf0:ap->Option V
 |.none=>aa .non
 |.bool b=>aa<|.bl b
 |.int i _=>aa<|.int i
 |.str x _=>aa<|.str x
 |.bytes b _=>aa<|.byt b
 |.float b _=>aa<|.flt b
 |.ref a=>aa<|.ref a
 |.type n=>aa<|.ty n
 |_=>ag
def Zu.abs(r:Zu x u):Zf0 u=aa x:=by
 cases x with|non=>cases r;rfl|bl _=>cases r;rfl|int _=>obtain⟨t,rfl⟩:=r;rfl|str _=>obtain⟨t,rfl⟩:=r;rfl|byt _=>obtain⟨t,rfl⟩:=r;rfl|flt _=>obtain⟨t,rfl⟩:=r;rfl|ref _=>cases r;rfl|ty _=>cases r;rfl
def Zu.inj{x y:V}{u:ap}(r:Zu x u)(q:Zu y u):x=y:=al<|r.abs.symm.trans q.abs
theorem Vals.inj:∀{xs ys:List V}{us:List ap},Vals xs us->Vals ys us->xs=ys
 |_,_,_,.nil,.nil=>rfl
 |_,_,_,.cons r t,.cons r' t'=>by rw[r.inj r',Vals.inj t t']
def SqL.of{K:aq}(h:H a=aa (.lst xs)):SqL K H a xs:=.inl<|.inl h
def SqT.of{K:aq}(h:H a=aa (.tup xs)):SqT K H a xs:=.inl<|.inl h
def Inv.list(I:Inv X pq Z H s)(h:SqL X.K H a xs):∃its:List ap,Vals xs its/\PlainL s.heap a its.toArray/\xs.length<=aZ:=by
 rcases h with h|⟨o,its,n,hk,hc,hd,hs,hz,r⟩
 .obtain⟨z,its,n,r,e⟩:=h.ok I.hok
  exact#[its,r,#[_,n,e,rfl,rfl,rfl],z]
 .refine#[its.toList,r,#[o,n,I.kIn a o hk,hc,hd,by simpa using hs],?_]
  have e:=r.length;simp only[aI]at e;lia
def Inv.tuple(I:Inv X pq Z H s)(h:SqT X.K H a xs):∃its:List ap,Vals xs its/\oa s.heap a its.toArray/\xs.length<=aZ:=by
 rcases h with h|⟨o,its,n,hk,hc,hs,hz,r⟩
 .obtain⟨z,its,r,p⟩:=h.ok I.hok
  exact#[its,r,p,z]
 .refine#[its.toList,r,#[o,I.kIn a o hk,hc,n,by simpa using hs],?_]
  have e:=r.length;simp only[aI]at e;lia
def Inv.list_inj(I:Inv X pq Z H s)(h:SqL X.K H a xs)(h':SqL X.K H a ys):xs=ys:=by
 obtain⟨its,r,⟨o,n,e,_,_,d⟩,_⟩:=I.list h;obtain⟨its',r',⟨o',n',e',_,_,d'⟩,_⟩:=I.list h';rw[e]at e';cases e';rw[d]at d';injection d' with d1 _
 have:its=its':=by simpa using congrArg mS d1
 subst this;exact r.inj r'
def Inv.tuple_inj(I:Inv X pq Z H s)(h:SqT X.K H a xs)(h':SqT X.K H a ys):xs=ys:=by
 obtain⟨its,r,⟨o,e,_,n,d⟩,_⟩:=I.tuple h;obtain⟨its',r',⟨o',e',_,n',d'⟩,_⟩:=I.tuple h';rw[e]at e';cases e';rw[d]at d';injection d' with d1 _
 have:its=its':=by simpa using congrArg mS d1
 subst this;exact r.inj r'
noncomputable abbrev Cx.wish(X:Cx)(E:ap->ax->Prop):Cx:={X with xe:=E}
noncomputable abbrev Cx.nox(X:Cx):Cx:=X.wish λ_ _=>False
theorem Cx.Ok.wish{X:Cx}(ok:X.Ok)(E:ap->ax->Prop):(X.wish E).Ok:=
 #[ok.mod,ok.kind,ok.glob,ok.blt,ok.above,ok.inj,ok.has,ok.cab,ok.hd,ok.frames,ok.stk,ok.exf,ok.bs,ok.bsz,ok.noex,ok.exfs,ok.funs,ok.frf]
def Cx.Ok.unwish{X:Cx}{E:ap->ax->Prop}(ok:(X.wish E).Ok):X.Ok:=
 #[ok.mod,ok.kind,ok.glob,ok.blt,ok.above,ok.inj,ok.has,ok.cab,ok.hd,ok.frames,ok.stk,ok.exf,ok.bs,ok.bsz,ok.noex,ok.exfs,ok.funs,ok.frf]
section
variable{X:Cx}{pq:List (aJ×fA)}{Z:St}{H:Hp}{s:ax}{E:ap->ax->Prop}
theorem Inv.wish(I:Inv X pq Z H s)(E:ap->ax->Prop):Inv (X.wish E) pq Z H s:=#[I.ok.wish E,I.os,I.bare,I.base,I.loc,I.cell,I.free,I.freeC,I.pin,I.hok,I.len]
theorem Inv.unwish(I:Inv (X.wish E) pq Z H s):Inv X pq Z H s:=#[I.ok.unwish,I.os,I.bare,I.base,I.loc,I.cell,I.free,I.freeC,I.pin,I.hok,I.len]
theorem SP.unwish{D:Ends}{f:Flow}{s':ax}(h:SP (X.wish E) pq D f s'):SP X pq D f s':=by
 cases f with|next=>obtain⟨σ',H',I,q⟩:=h;exact#[σ',H',I.unwish,q]|brk=>obtain⟨σ',H',I,q⟩:=h;exact#[σ',H',I.unwish,q]|cont=>obtain⟨σ',H',I,q⟩:=h;exact#[σ',H',I.unwish,q]|ret u=>obtain⟨v,σ',H',I,r,q⟩:=h;exact#[v,σ',H',I.unwish,r,q]
theorem PSs.nox{st:List fG}{t:TS}(h:PSs X.nox st t):PSs X st t:=λpq s Z H D I hw=>
 dD (h pq s Z H D (I.wish _) hw) (λ_ _ q=>q.unwish) λ_ _ z=>False.elim z
end
section
variable{X:Cx}{st:fG}{rest:List fG}{t u:TS}{e:Expr}{te:TE}{pos:gW}
def Zem:TS:=λD Z H=>D.nx Z H
def ZfI(t u:TS):TS:=λD Z H=>t {D with nx:=u D} Z H
def ZbA:PSs X [] Zem:=λ_ _ Z H _ I h=>lp #[Z,H,I,h]
def Gs(h1:PS X st t)(h2:PSs X rest u):PSs X (st::rest) (ZfI t u):=by
 intro pq s Z H D I h;refine wpAny_execs_cons<|thn (h1 pq s Z H {D with nx:=u D} I h) λf s1 q=>?_
 cases f with
 |next=>
  obtain⟨σ',H',I',q⟩:=q;exact h2 pq s1 σ' H' D I' q
 |ret v=>exact q
 |brk=>exact q
 |cont=>exact q
def Inv.quiet(I:Inv X pq Z H s):interactive X.env=ak:=by simp[interactive,I.ok.kind]
def ZeF(te:TE):TS:=λD Z H=>te Z H λ_ H1=>D.nx Z H1
def Zay(he:PE X e te)(hs:kJ e ag pos.line X.env=dg ak:=by rfl):PS X (.Expr e pos) (ZeF te):=by
 intro pq s Z H D I h;exact wpAny_Expr_any (thn (he pq s Z H _ I h)<|by rintro v s1 ⟨x,H1,I1,r1,q1⟩;exact #[Z,H1,I1,q1]) I.quiet hs
def ZfL(te:TE):TS:=λD Z H=>te Z H D.rt
def qV(he:PE X e te):PS X (.Return (aa e) pos) (ZfL te):=by
 intro pq s Z H D I h;exact wpAny_Return_some<|thn (he pq s Z H _ I h)<|by rintro v s1 ⟨x,H1,I1,r1,q1⟩;exact #[x,Z,H1,I1,r1,q1]
def Zfv(c:TT)(t u:TS):TS:=λD Z H=>c Z H λb H1=>if b=aj then t D Z H1 else u D Z H1
def Zeu{c:Expr}{a b:List fG}{tc:TT}(hc:PT X c tc)(ha:PSs X a t)(hb:PSs X b u):PS X (.If c a b pos) (Zfv tc t u):=by
 intro pq s Z H D I h;refine wpAny_If<|thn (hc pq s Z H _ I h) λd s1 #[H1,I1,q1]=>?_
 cases d with|true=>exact ha pq s1 Z H1 D I1 q1|false=>exact hb pq s1 Z H1 D I1 q1
end
abbrev TG:=V->St->Hp->(St->Hp->Prop)->Prop
abbrev TGs:=List V->St->Hp->(St->Hp->Prop)->Prop
def PG(X:Cx)(target:Expr)(t:TG):Prop:=
 ∀(pq:List (aJ×fA))(s:ax)(Z:St)(H:Hp)(v:V)(u:ap)(Q:St->Hp->Prop),Inv X pq Z H s->Zu v u->t v Z H Q->
  aV (aS X.prog X.w) X.A (assign target X.env u) (λ_ s'=>∃σ' H',Inv X pq σ' H' s'/\Q σ' H') X.xe s
def PGs(X:Cx)(ts:List Expr)(t:TGs):Prop:=
 ∀(pq:List (aJ×fA))(s:ax)(Z:St)(H:Hp)(vs:List V)(us:List ap)(Q:St->Hp->Prop),Inv X pq Z H s->Vals vs us->t vs Z H Q->
  aV (aS X.prog X.w) X.A (mq ((cu ts X.env).map (·.2)) us) (λ_ s'=>∃σ' H',Inv X pq σ' H' s'/\Q σ' H') X.xe s
abbrev TSet:=V->V->V->Hp->(Hp->Prop)->Prop
def PSet(X:Cx)(t:TSet):Prop:=
 ∀(pq:List (aJ×fA))(s:ax)(Z:St)(H:Hp)(o i v:V)(ov iv u:ap)(Q:Hp->Prop),Inv X pq Z H s->Zu o ov->Zu i iv->Zu v u->t o i v H Q->
  aV (aS X.prog X.w) X.A (pF ov iv u) (λ_ s'=>∃H',Inv X pq Z H' s'/\Q H') X.xe s
abbrev TIp:=V->V->Hp->VK->Prop
def PIp(X:Cx)(op:oK)(t:TIp):Prop:=
 ∀(pq:List (aJ×fA))(s:ax)(Z:St)(H:Hp)(x y:V)(v u:ap)(Q:VK),Inv X pq Z H s->Zu x v->Zu y u->t x y H Q->
  aV (aS X.prog X.w) X.A (inplaceOp op v u) (EP X pq Z Q) X.xe s
section
variable{X:Cx}{pos:gW}
def Zff(i:Nat):TG:=λv Z H Q=>Q (Z.set i<|aa v) H
def Jp(hN:X.N.Nodup)(hi:X.N[i]?=aa x)(hx:Loc X.env.scope x)(hf:X.fn x=aj\/X.env.scope.names.lookup x=aa .local:=by first|exact .inl rfl|exact .inr rfl|assumption):PG X (.Name x pos) (Zff i):=by
 intro pq s Z H v u Q I r h;exact mT<|WV I hN hi hx r (λs' I'=>#[_,H,I',h]) hf
def Zf5:TGs:=λvs Z H Q=>vs=[]/\Q Z H
def Zfp(t:TG)(u:TGs):TGs:=λvs Z H Q=>∃v r,vs=v::r/\t v Z H λσ' H'=>u r σ' H' Q
def Za4:PGs X [] Zf5:=by
 intro pq s Z H vs us Q I r h;obtain⟨e,h⟩:=h;subst e;cases r;exact mU #[Z,H,I,h]
def jx{e:Expr}{es:List Expr}{t:TG}{u:TGs}(h1:PG X e t)(h2:PGs X es u)
  (hs:(cu (e::es) X.env).map (·.2)=assign e X.env::(cu es X.env).map (·.2):=by rfl):PGs X (e::es) (Zfp t u):=by
 intro pq s Z H vs us Q I r h;obtain⟨v,vr,e1,h⟩:=h;subst e1;cases r with
 |cons r rr=>
  rw[hs];refine iH<|thn (h1 pq s Z H _ _ _ I r h) λ_ s1 #[σ1,H1,I1,q1]=>?_
  exact h2 pq s1 σ1 H1 _ _ Q I1 rr q1
def ZfD(K:aq)(n:Nat)(t:TGs):TG:=λv Z H Q=>∃a xs,v=.ref a/\SqT K H a xs/\xs.length=n/\t xs Z H Q
def Zeg(hc:X.calm=aj)(h:PGs X es t)
  (hn:(cu es X.env).length=n:=by rfl)(hst:(cu es X.env).findIdx? (·.1)=ag:=by rfl):PG X (.Tuple es k pos) (ZfD X.K n t):=by
 intro pq s Z H v u Q I r hw;obtain⟨a,xs,e1,hq,hl,hw⟩:=hw;subst e1;cases r;obtain⟨its,rv,ht,hz⟩:=I.tuple hq;refine assign_Tuple_tuple (I.ok.hd hc) ht (by simp[hn,<-hl,rv.length]) hst λh' hx=>?_
 have I1:=I.kept (t':=s.toks) λb o e=>hx b o (a9<|aC e) e
 exact h pq _ Z H xs _ Q I1 (by simpa using rv) hw
def Zf2(to ti:TE)(t:TSet):TG:=λv Z H Q=>to Z H λo H1=>ti Z H1 λi H2=>t o i v H2 λH3=>Q Z H3
def Zde{o i:Expr}{to ti:TE}{t:TSet}(ho:PE X o to)(hi:PE X i ti)(hs:PSet X t)
  (ha:∀v,assign (.Subscript o i pos) X.env v=(do
   let ov <-kf [v] (cD o X.env)
   let iv <-kf [v,ov] (cD i X.env)
   oG pos
   kf [v,ov,iv] (pF ov iv v)
   release [v,ov,iv] []):=by intro _;rfl):PG X (.Subscript o i pos) (Zf2 to ti t):=by
 intro pq s Z H v u Q I r h;rw[ha];refine ab<|bI<|thn (ho pq s Z H _ I h) λov s1 #[x,H1,I1,r1,q1]=>?_
 refine ab<|bI<|thn (hi pq s1 Z H1 _ I1 q1) λiv s2 #[y,H2,I2,r2,q2]=>?_
 refine ab<|fV<|ab<|bI<|thn (hs pq s2 Z H2 x y v ov iv u _ I2 r1 r2 r q2) λ_ s3 #[H3,I3,q3]=>?_
 exact wpAny_release #[Z,H3,I3,q3]
def ZfG(te:TE)(g:TG):TS:=λD Z H=>te Z H λx H1=>g x Z H1 D.nx
def W6{tg e:Expr}{te:TE}{g:TG}(he:PE X e te)(hg:PG X tg g)(hs:dF [tg] e pos.line X.env=dg ak:=by rfl)(hw:dG [tg] e X.env=dg ag:=by rfl)
  (h1:(cu [tg] X.env).map (·.2)=[assign tg X.env]:=by rfl):PS X (.Assign [tg] e pos) (ZfG te g):=by
 intro pq s Z H D I h;refine wpAny_Assign_stores (thn (he pq s Z H _ I h) λv s1 #[x,H1,I1,r1,q1]=>?_) hs hw
 rw[h1];exact thn (hg pq s1 Z H1 x v _ I1 r1 q1) λ_ s2 q=>q
def ZfU(i j:Nat)(ta:TA):TS:=λD Z H=>ta Z H λvs H1=>∃v w,vs=[v,w]/\D.nx ((Z.set i<|aa v).set j<|aa w) H1
def ZcY{i j:Nat}{x y:bx}{a b:Expr}{ta:TA}{px py pt:gW}{kt k2 pt2}(hc:X.calm=aj)(hN:X.N.Nodup)(hi:X.N[i]?=aa x)(hj:X.N[j]?=aa y)(hij:i≠j)
  (hx:X.env.scope.names.lookup x=aa .local)(hy:X.env.scope.names.lookup y=aa .local)(ha:PA X [a,b] ta)
  (hw:dG [.Tuple [.Name x px,.Name y py] kt pt] (.Tuple [a,b] k2 pt2) X.env=dg (aa [x,y]))
  (hs:dF [.Tuple [.Name x px,.Name y py] kt pt] (.Tuple [a,b] k2 pt2) pos.line X.env=dg ak:=by rfl) :
  PS X (.Assign [.Tuple [.Name x px,.Name y py] kt pt] (.Tuple [a,b] k2 pt2) pos) (ZfU i j ta):=by
 intro pq s Z H D I h;rw[exec_Assign_arm];refine ab<|fV ?_;rw[hs];refine ab<|au ?_;rw[T8 (by decide)]
 refine ab<|Tuple_<|thn (ha _ pq s Z H _ I h) λus s1 #[vs,H1,I1,r1,q1]=>?_
 obtain⟨v,w,e1,q1⟩:=q1;subst e1;obtain⟨u1,u2,rfl,rv,rw'⟩:∃u1 u2,us=[u1,u2]/\Zu v u1/\Zu w u2:=by
  cases r1 with
  |cons p q=>
   cases q with
   |cons p' q'=>
    cases q';exact#[_,_,rfl,p,p']
 refine bD ?_ (by show 2<=aZ;decide)
 have I2:Inv X pq Z H1 {s1 with heap:=s1.heap.push {cls:=.type "tuple",data:=.seq [u1,u2].toArray}}:=I1.kept (t':=s1.toks) λb o e=>ao _ e
 rw[hw];refine ab<|au ?_;show aV (aS X.prog X.w) X.A (do mV "assign.swapped-stores";let items <-unpackItems (.ref s1.heap.objs.size) 2 ag;mq [λv=>bindName X.env y v,λv=>bindName X.env x v] items.reverse;dg Flow.next) _ _ _
 refine ab<|d7<|ab<|unpackItems_tuple (items:=[u1,u2].toArray) (I.ok.hd hc) (iF s1.heap _) λh' hx'=>?_
 have I3:=I2.kept (h':=h') (t':=s1.toks) λb o e=>hx' b o (a9<|aC e) e
 refine ab<|iH<|wpAny_bindName<|WV I3 hN hj (.inl hy) rw' (λs2 I4=>?_)<|.inr hy
 refine iH<|wpAny_bindName<|WV I4 hN hi (.inl hx) rv (λs3 I5=>mU<|au ?_)<|.inr hx
 rw[List.set_comm _ _<|Ne.symm hij]at I5;exact#[_,H1,I5,q1]
def ZfB(i:Nat)(te:TE)(ti:TIp):TS:=λD Z H=>∃x,Z[i]?=aa (aa x)/\te Z H λy H1=>ti x y H1 λz H2=>D.nx (Z.set i<|aa z) H2
def Zdf{i:Nat}{x:bx}{e:Expr}{te:TE}{op:oK}{ti:TIp}{pos':gW}(hN:X.N.Nodup)(hi:X.N[i]?=aa x)(hx:Loc X.env.scope x)(he:PE X e te)(ho:PIp X op ti)(hf:X.fn x=aj\/X.env.scope.names.lookup x=aa .local:=by first|exact .inl rfl|exact .inr rfl|assumption) :
  PS X (.AugAssign (.Name x pos') op e pos) (ZfB i te ti):=by
 intro pq s Z H D I h;obtain⟨v,e1,h⟩:=h;obtain⟨m,hn,hl⟩:=I.loc;have vis:Vis X.env.scope x:=by rcases hx with k|k;exact .inl k;exact .inr<|.inl k
 obtain⟨u,r,l⟩:=hl i x v hi e1 vis;refine wpAny_AugAssign_Name ?_;have go:aV (aS X.prog X.w) X.A (cD e X.env) (λw s₂=>aV (aS X.prog X.w) X.A (inplaceOp op u w) (λr s₃=>aV (aS X.prog X.w) X.A (storeName X.env x r) (λ_=>SP X pq D .next) X.xe s₃) X.xe s₂) X.xe s:=by
  refine thn (he pq s Z H _ I h) λw s1 #[y,H1,I1,r1,q1]=>?_
  refine thn (ho pq s1 Z H1 v y u w _ I1 r r1 q1) λz s2 #[zv,H2,I2,r2,q2]=>?_
  exact WV I2 hN hi hx r2 (λs3 I3=>#[_,H2,I3,q2]) hf
 rcases l with⟨hk,hm⟩|⟨hk,c,hc,hcell⟩
 .exact lI I.ok.kind hk hn hm go
 .rcases hk with hk|hk
  .exact me I.ok.kind hk hc hcell go
  .rcases hx with k|k
   .have:X.env.scope.names.lookup x=aa .free:=hk
    rw[k]at this;cases this
   .have:X.env.scope.names.lookup x=aa .free:=hk
    rw[k]at this;cases this
end
section
variable{X:Cx}{pos:gW}
def ZdG(c:TT)(tb:TS):TS:=λD Z H=>∃W:Nat->St->Hp->Prop,(∃m,W m Z H)/\∀m Z H,W m Z H->
 c Z H λb H1=>if b=aj then ∃N:St->Hp->Prop,(∀σ' H',N σ' H'->∃m',m'<m/\W m' σ' H')/\tb {D with nx:=N,ct:=N,bk:=D.nx} Z H1 else D.nx Z H1
def v6{c:Expr}{body:List fG}{tc:TT}{tb:TS}(hp:l8 (aS X.prog X.w) X.A X.env X.xe)(hc:PT X c tc)(hb:PSs X body tb):PS X (.While c body [] pos) (ZdG tc tb):=by
 intro pq s Z H D I h;obtain⟨W,⟨m0,w0⟩,turn⟩:=h;refine wpAny_While<|codeAny_whileLoop (λn s'=>∃σ' H',Inv X pq σ' H' s'/\W n σ' H') ?_ m0 #[Z,H,I,w0]
 rintro n s1 ⟨σ1,H1,I1,w1⟩
 refine eF hp<|thn (hc pq s1 σ1 H1 _ I1<|turn n σ1 H1 w1) λb s2 #[H2,I2,q2]=>?_
 cases b with
 |true=>
  obtain⟨N,hN,q2⟩:=q2;rw[T9 rfl];refine eF hp<|thn (hb pq s2 σ1 H2 _ I2 q2) λf s3 q3=>?_
  cases f with
  |next=>
   obtain⟨σ3,H3,I3,n3⟩:=q3;obtain⟨m',hm,w3⟩:=hN σ3 H3 n3;exact#[m',hm,σ3,H3,I3,w3]
  |cont=>
   obtain⟨σ3,H3,I3,n3⟩:=q3;obtain⟨m',hm,w3⟩:=hN σ3 H3 n3;exact#[m',hm,σ3,H3,I3,w3]
  |brk=>exact q3
  |ret v=>exact q3
 |false=>
  rw[T8 aG];exact lp #[σ1,H2,I2,q2]
end
structure It where
 go:Nat->Hp->Prop
 yld:Nat->Hp->V->Hp->Prop
 stop:Nat->Hp->Prop
def Vd(X:Cx)(pq:List (aJ×fA))(H:Hp)(b:aJ):Prop:=
 H b=ag/\b≠X.env.locals/\b∉X.fs/\(b∈X.ex\/X.s₀.heap.objs.size<=b)/\(∀x c,X.env.cells.lookup x=aa c->c≠b)/\∀p∈X.pn++pq,p.1≠b
def Inv.fpOk(I:Inv X pq Z H s)(hb:s.heap.objs.size<=b)(hn:H' b=ag):Vd X pq H' b:=by
 refine#[hn,eI<|bu I.lt hb,I.nofs hb,.inr<|cn I.sz hb,λx c e z=>?_,λp hp z=>?_]
 .obtain⟨v,q⟩:=I.cell x c e
  exact T7 (bu q.lt<|by rw[z];exact hb)<|bw _
 .exact T7 (bu (aC (I.pin p hp).1)<|by rw[z];exact hb)<|bw _
structure Turn(P:bC)(w:bU)(K:aq)(tg:Expr)(J:It)(fp:List aJ)(it:aJ)(tn:Nat->cc->Prop):Prop where
 mem:it∈fp
 obj:∀i h,tn i h->∀b∈fp,∃o,h.get? b=aa o/\∀v,o.data≠.cell v
 keep:∀i h h',tn i h->(∀b∈fp,∀o,h.get? b=aa o->h'.get? b=aa o)->tn i h'
 item:∀(X:Cx),X.prog=P->X.w=w->X.K=K->X.calm=aj->∀(i:Nat)(pq:List (aJ×fA))(s:ax)(Z:St)(H:Hp)(E:ap->ax->Prop),Inv X pq Z H s->(∀b∈fp,Vd X pq H b)->tn i s.heap->J.go i H->
  aV (aS P w) X.A (ku<|.ref it) (λr s1=>∃u,r=aa u/\
   aV (aS P w) X.A (lq tg (.ref it) u) (λ_ s2=>∃x H',Inv X pq Z H' s2/\Zu x u/\J.yld i H x H'/\tn (i+1) s2.heap/\∀b∈fp,H' b=ag) E s1) E s
 done:∀(X:Cx),X.prog=P->X.w=w->X.K=K->X.calm=aj->∀(i:Nat)(pq:List (aJ×fA))(s:ax)(Z:St)(H:Hp)(E:ap->ax->Prop),Inv X pq Z H s->(∀b∈fp,Vd X pq H b)->tn i s.heap->J.stop i H->
  aV (aS P w) X.A (ku<|.ref it) (λr s1=>r=ag/\Inv X pq Z H s1) E s
 self:∀(A:cL)(i:Nat)(s:ax)(Q:ap->ax->Prop)(E:ap->ax->Prop),tn i s.heap->Q (.ref it) s->aV (aS P w) A (mE<|.ref it) Q E s
abbrev TI:=St->Hp->(It->Hp->Prop)->Prop
def PIE(X:Cx)(pq:List (aJ×fA))(Z:St)(tg:Expr)(R:It->Hp->Prop)(itv:ap)(s2:ax):Prop:=
 ∃(it:aJ)(fp:List aJ)(tn:Nat->cc->Prop)(J:It)(H':Hp),itv=.ref it/\Inv X pq Z H' s2/\Turn X.prog X.w X.K tg J fp it tn/\tn 0 s2.heap/\(∀b∈fp,Vd X pq H' b)/\R J H'
def PI(X:Cx)(tg iter:Expr)(wi:TI):Prop:=
 ∀(pq:List (aJ×fA))(s:ax)(Z:St)(H:Hp)(R:It->Hp->Prop),Inv X pq Z H s->wi Z H R->
  aV (aS X.prog X.w) X.A (cD iter X.env) (λv s1=>aV (aS X.prog X.w) X.A (mE v) (PIE X pq Z tg R) X.xe s1) X.xe s
def xk{E:ap->ax->Prop}{Q:Unit->ax->Prop}(ho:s.heap.get? it=aa o)(hc:o.cls=.type n)(hd:o.data=.fields vs)
  (hn:["enumerate","zip","dict_itemiterator","dict_reverseitemiterator","odict_iterator","itertools.zip_longest","itertools.pairwise"].contains n=ak)(hQ:Q () s):aV M A (lq tg (.ref it) u) Q E s:=by
 cases tg<;>first
  |exact au hQ
  |(cases u<;>first
    |exact au hQ
    |(refine ab (iI ho ?_)
      rw[hc,hd];show aV M A (if(["enumerate","zip","dict_itemiterator","dict_reverseitemiterator","odict_iterator","itertools.zip_longest","itertools.pairwise"].contains n&&vs[0]? == aa (fw _))=aj then _ else _) Q E s
      rw[T8 (by intro h;rw[hn,lJ]at h;cases h)]
      exact au hQ))
noncomputable def Itl(K:aq)(a:aJ):It:=
 #[λi H=>∃xs x,SqL K H a xs/\xs[i]?=aa x,λi H x H'=>H'=H/\∀xs,SqL K H a xs->xs[i]?=aa x,λi H=>∃xs,SqL K H a xs/\xs.length<=i]
noncomputable def Itt(K:aq)(a:aJ):It:=
 #[λi H=>∃xs x,SqT K H a xs/\xs[i]?=aa x,λi H x H'=>H'=H/\∀xs,SqT K H a xs->xs[i]?=aa x,λi H=>∃xs,SqT K H a xs/\xs.length<=i]
noncomputable def Itr(lo:Int)(n:Nat):It:=#[λi _=>i<n,λi H x H'=>H'=H/\x=.int (lo+i),λi _=>n<=i]
def wL{P:bC}{w:bU}{K:aq}{tg:Expr}(a it:aJ):Turn P w K tg (Itl K a) [it] it (λi h=>h.IsListIter it a i) where
 mem:=by simp
 obj:=λi h st b hb=>by
  have e:b=it:=by simpa using hb
  subst e;obtain⟨o,e,c,d⟩:=st;exact#[o,e,λv z=>by rw[d]at z;cases z]
 keep:=λi h h' st k=>st.at λo e=>k it (by simp) o e
 item:=by
  intro X hP hw hK hc i pq s Z H E I hf st hg;subst hP hw hK;obtain⟨xs,x,hq,hx⟩:=hg;obtain⟨its,rv,p,hz⟩:=I.list hq;obtain⟨u,hu,ru⟩:=rv.get hx;obtain⟨f0,f1,f2,f3,f4,f5⟩:=hf it (by simp)
  refine kW st p.isList (by simpa using hu) λh' st' sb=>?_
  have I1:=I.turned (t':=s.toks) (λb o hb e=>(sb.2 b hb).trans e) f0 f1 f3 f4 f5
  obtain⟨o,e,c,d⟩:=id st';exact#[u,rfl,xk e c d (by decide) #[x,H,I1,ru,#[rfl,λys hy=>by rw[I.list_inj hy hq];exact hx],st',λb hb=>(hf b hb).1]]
 done:=by
  intro X hP hw hK hc i pq s Z H E I hf st hg;subst hP hw hK;obtain⟨xs,hq,hx⟩:=hg;obtain⟨its,rv,p,hz⟩:=I.list hq;obtain⟨f0,f1,f2,f3,f4,f5⟩:=hf it (by simp)
  have hl:=rv.length;exact lB (I.ok.hd hc) st p.isList (by simp;lia) λh' eb=>#[rfl,I.turned (t':=s.toks) (λb o hb e=>eb b o hb e) f0 f1 f3 f4 f5]
 self:=λ_ _ _ _ _ st h=>wpAny_pyIter_listiter st h
def yp{P:bC}{w:bU}{K:aq}{tg:Expr}(a it:aJ):Turn P w K tg (Itt K a) [it] it (λi h=>h.IsTupleIter it a i) where
 mem:=by simp
 obj:=λi h st b hb=>by
  have e:b=it:=by simpa using hb
  subst e;obtain⟨o,e,c,d⟩:=st;exact#[o,e,λv z=>by rw[d]at z;cases z]
 keep:=λi h h' st k=>st.at λo e=>k it (by simp) o e
 item:=by
  intro X hP hw hK hc i pq s Z H E I hf st hg;subst hP hw hK;obtain⟨xs,x,hq,hx⟩:=hg;obtain⟨its,rv,p,hz⟩:=I.tuple hq;obtain⟨u,hu,ru⟩:=rv.get hx;obtain⟨f0,f1,f2,f3,f4,f5⟩:=hf it (by simp)
  refine wpAny_pyNext_tuple_item st (p) (by simpa using hu) λh' st' sb=>?_
  have I1:=I.turned (t':=s.toks) (λb o hb e=>(sb.2 b hb).trans e) f0 f1 f3 f4 f5
  obtain⟨o,e,c,d⟩:=id st';exact#[u,rfl,xk e c d (by decide) #[x,H,I1,ru,#[rfl,λys hy=>by rw[I.tuple_inj hy hq];exact hx],st',λb hb=>(hf b hb).1]]
 done:=by
  intro X hP hw hK hc i pq s Z H E I hf st hg;subst hP hw hK;obtain⟨xs,hq,hx⟩:=hg;obtain⟨its,rv,p,hz⟩:=I.tuple hq;obtain⟨f0,f1,f2,f3,f4,f5⟩:=hf it (by simp)
  have hl:=rv.length;exact wpAny_pyNext_tuple_end (I.ok.hd hc) st (p) (by simp;lia) λh' eb=>#[rfl,I.turned (t':=s.toks) (λb o hb e=>eb b o hb e) f0 f1 f3 f4 f5]
 self:=λ_ _ _ _ _ st h=>wpAny_pyIter_tupleiter st h
def yv{P:bC}{w:bU}{K:aq}{tg:Expr}(it:aJ)(lo:Int)(n:Nat):Turn P w K tg (Itr lo n) [it] it (λi h=>IsRangeIter h it (lo+(i:Nat)*1) ((n:Int)-(i:Nat)) 1) where
 mem:=by simp
 obj:=λi h st b hb=>by
  have e:b=it:=by simpa using hb
  subst e;exact#[_,st,λv z=>by
   have z':=z;cases z']
 keep:=λi h h' st k=>k it (by simp) _ st
 item:=by
  intro X hP hw hK hc i pq s Z H E I hf st hg;subst hP hw hK;obtain⟨f0,f1,f2,f3,f4,f5⟩:=hf it (by simp)
  have W:=Walks.range (prog:=X.prog) (w:=X.w) (I.ok.hd hc) it lo 1 n;refine W.item i s _ _ hg st λv h' tk hv st' kk=>?_
  obtain⟨t,rfl⟩:=hv;have I1:Inv X pq Z H {s with heap:=h',toks:=tk}:=I.turned (λb o hb e=>kk b o (by simpa using hb) e) f0 f1 f3 f4 f5
  refine#[_,rfl,xk st' rfl rfl (by decide) #[.int<|lo+i,H,I1,#[t,?_],#[rfl,rfl],st',λb hb=>(hf b hb).1]]
  rw[Int.mul_one]
 done:=by
  intro X hP hw hK hc i pq s Z H E I hf st hg;subst hP hw hK;obtain⟨f0,f1,f2,f3,f4,f5⟩:=hf it (by simp)
  exact wpAny_pyNext_range_end (I.ok.hd hc) st (by have:n<=i:=hg;lia) λh' eb=>#[rfl,I.turned (t':=s.toks) (λb o hb e=>eb b o hb e) f0 f1 f3 f4 f5]
 self:=λ_ _ _ _ _ st h=>wpAny_pyIter_rangeiter st h
section
variable{X:Cx}{tg:Expr}
theorem GN{pq:List (aJ×fA)}{Z:St}{H:Hp}{s:ax}{R:It->Hp->Prop}{E:ap->ax->Prop}{lo hi:Int}{t u v:pb}{tk:Nat}(I:Inv X pq Z H s)(h1:-(2^62)<=lo)(h2:lo<2^62)(h3:-(2^62)<=hi)(h4:hi<2^62)
  (q:R (Itr lo (hi-lo).toNat) H):aV (aS X.prog X.w) X.A (mE<|.ref s.heap.objs.size) (PIE X pq Z tg R) E {s with heap:=s.heap.push {cls:=.type "range",data:=.fields [.int lo t,.int hi u,.int 1 v].toArray},toks:=tk}:=by
 refine wpAny_pyIter_range (IsRange.new ..) (small_one h1 h2 h3 h4) ?_;have I1:Inv X pq Z H {s with heap:=s.heap.push {cls:=.type "range",data:=.fields [.int lo t,.int hi u,.int 1 v].toArray},toks:=tk}:=I.kept λb o e=>ao _ e
 refine#[(s.heap.push {cls:=.type "range",data:=.fields [.int lo t,.int hi u,.int 1 v].toArray}).objs.size,[(s.heap.push {cls:=.type "range",data:=.fields [.int lo t,.int hi u,.int 1 v].toArray}).objs.size],_,_,H,rfl,
  I1.kept (t':=tk) λb o e=>ao _ e,yv _ lo (hi-lo).toNat,?_,λb hb=>?_,q]
 .have e1:lo+((0:Nat):Int)*1=lo:=by simp
  have e2:(((hi-lo).toNat:Nat):Int)-((0:Nat):Int)=db.Range.rangeSize lo hi 1:=by rw[rangeSize_one];split<;>lia
  rw[e1,e2];exact aD _ rfl
 .have e:b=(s.heap.push {cls:=.type "range",data:=.fields [.int lo t,.int hi u,.int 1 v].toArray}).objs.size:=by simpa using hb
  subst e;exact I1.fpOk (aH _)<|I1.hok.fresh<|aH _
def Ze0(ta:TA):TI:=λZ H R=>ta Z H λvs H1=>∃j:Int,vs=[.int j]/\-(2^62)<=j/\j<2^62/\R (Itr 0 j.toNat) H1
def ZeU(ta:TA):TI:=λZ H R=>ta Z H λvs H1=>∃i j:Int,vs=[.int i,.int j]/\(-(2^62)<=i/\i<2^62/\-(2^62)<=j/\j<2^62)/\R (Itr i (j-i).toNat) H1
theorem vm{a:Expr}{ta:TA}{p pos:gW}(hg:Gl X "range")(hm:X.mg "range" = ag)(ha:PA X [a] ta)(hs:aE [a] X.env=[(ak,cD a X.env)]:=by rfl):PI X tg (.Call (.Name "range" p) [a] [] pos) (Ze0 ta):=by
 intro pq s Z H R I h;refine Call_<|YX I hg hm boot_range<|cQ (thn (ha pos pq s Z H _ I h) λus s1 #[vs,H1,I1,r1,q1]=>?_) hs rfl
 obtain⟨j,e,q1,q2,q⟩:=q1;subst e;cases r1 with
 |cons r rr=>
  cases rr;obtain⟨t,rfl⟩:=r;exact call_range_1<|GN I1 (by lia) (by lia) q1 q2 (by simpa using q)
def vq{a b:Expr}{ta:TA}{p pos:gW}(hg:Gl X "range")(hm:X.mg "range" = ag)(ha:PA X [a,b] ta)(hs:aE [a,b] X.env=[(ak,cD a X.env),(ak,cD b X.env)]:=by rfl)(hs2:aE [b] X.env=[(ak,cD b X.env)]:=by rfl) :
  PI X tg (.Call (.Name "range" p) [a,b] [] pos) (ZeU ta):=by
 intro pq s Z H R I h;refine Call_<|YX I hg hm boot_range<|cQ (thn (ha pos pq s Z H _ I h) λus s1 #[vs,H1,I1,r1,q1]=>?_) (by rw[hs,hs2]) (by rw[hs2];rfl)
 obtain⟨i,j,e,⟨q1,q2,q3,q4⟩,q⟩:=q1;subst e;cases r1 with
 |cons r rr=>
  cases rr with
  |cons r' rr=>
   cases rr;obtain⟨t,rfl⟩:=r;obtain⟨t',rfl⟩:=r';exact call_range_2<|GN I1 q1 q2 q3 q4 q
def Zfw(wi:TI)(g:TG)(tb:TS):TS:=λD Z H=>wi Z H λJ H1=>∃W:Nat->Nat->St->Hp->Prop,(∃m,W 0 m Z H1)/\∀i m Z H,W i m Z H->
 (J.stop i H/\D.nx Z H)\/(J.go i H/\∃N:St->Hp->Prop,(∀σ' H',N σ' H'->∃m',m'<m/\W (i+1) m' σ' H')/\∀x H',J.yld i H x H'->g x Z H' λσ2 H2=>tb {D with nx:=N,ct:=N,bk:=D.nx} σ2 H2)
noncomputable def Ux(fp:List aJ)(h:cc):List (aJ×fA):=fp.filterMap λb=>(h.get? b).map λo=>(b,o)
def Xi(hb:b∈fp)(e:h.get? b=aa o):(b,o)∈Ux fp h:=mF.mpr #[b,hb,by rw[e];rfl]
def wE(hp:p∈Ux fp h):p.1∈fp/\h.get? p.1=aa p.2:=by
 obtain⟨b,hb,e⟩:=mF.mp hp;cases q:h.get? b with
 |none=>rw[q]at e;cases e
 |some o=>
  rw[q]at e;have e':=al e;subst e';exact#[hb,q]
def Inv.pinned(I:Inv X pq Z H s)(hf:∀b∈fp,Vd X pq H b)(ho:∀b∈fp,∃o,s.heap.get? b=aa o/\∀v,o.data≠.cell v):Inv X (pq++Ux fp s.heap) Z H s:=
 I.pins_of λp hp=>(cW.mp hp).elim (λz=>I.pin p<|bG _ z) λz=>by
  obtain⟨hb,e⟩:=wE z;obtain⟨f0,f1,f2,_⟩:=hf p.1 hb;obtain⟨o,e',d⟩:=ho p.1 hb;rw[e]at e';cases e';exact#[e,f0,f1,f2,d]
def Inv.unpinned(I:Inv X (pq++pl) Z H s):Inv X pq Z H s:=I.pins_of λp hp=>I.pin p<|bG _<|dJ _ hp
def ji{iter:Expr}{body:List fG}{wi:TI}{g:TG}{tb:TS}{pos:gW}(hp:l8 (aS X.prog X.w) X.A X.env X.xe)(hc:X.calm=aj)(hi:PI X tg iter wi)(hg:PG X tg g)(hb:PSs X body tb)
  (hs:∀x,dr iter X.env x=dg x:=by intro _;rfl):PS X (.For tg iter body [] pos) (Zfw wi g tb):=by
 intro pq s Z H D I h;refine wpAny_For (thn (hi pq s Z H _ I h) λv s1 h1=>thn h1 λitv s2 h2=>?_) hs
 obtain⟨it,fp,tn,J,H2,e,I2,T,st2,f2,W,⟨m0,w0⟩,turn⟩:=h2;subst e;have stat:∀{H':Hp},(∀b∈fp,H' b=ag)->∀b∈fp,Vd X pq H' b:=λhn b hb=>#[hn b hb,(f2 b hb).2]
 refine codeAny_forLoop_any (λn s'=>∃i σ' H',Inv X pq σ' H' s'/\tn i s'.heap/\(∀b∈fp,H' b=ag)/\W i n σ' H') ?_ m0 #[0,Z,H2,I2,st2,λb hb=>(f2 b hb).1,w0]
 rintro n s3 ⟨i,σ3,H3,I3,st3,fr3,w3⟩
 rcases turn i n σ3 H3 w3 with⟨stop,qn⟩|⟨go,N,hN,step⟩
 .refine eF hp (thn (T.done X rfl rfl rfl hc i pq s3 σ3 H3 X.xe I3 (stat fr3) st3 stop) λr s4 #[hr,I4]=>?_)
  subst hr;exact lp #[σ3,H3,I4,qn]
 .refine eF hp (thn (T.item X rfl rfl rfl hc i pq s3 σ3 H3 X.xe I3 (stat fr3) st3 go) λr s4 #[u,hr,h4]=>?_)
  subst hr;refine eF hp<|thn h4 λ_ s5 #[x,H5,I5,r5,y5,st5,fr5]=>?_
  have I5':=I5.pinned (stat fr5)<|T.obj _ _ st5;refine eF hp<|thn (hg _ s5 σ3 H5 x u _ I5' r5<|step x H5 y5) λ_ s6 #[σ6,H6,I6,q6]=>?_
  refine eF hp<|thn (hb _ s6 σ6 H6 _ I6 q6) λf s7 q7=>?_
  have pA:∀{σ7:St}{H7:Hp},Inv X (pq++Ux fp s5.heap) σ7 H7 s7->N σ7 H7->∃m,m<n/\∃i σ' H',Inv X pq σ' H' s7/\tn i s7.heap/\(∀b∈fp,H' b=ag)/\W i m σ' H':=λ{σ7 H7} I7 n7=>by
   obtain⟨m',hm,w7⟩:=hN σ7 H7 n7;refine#[m',hm,i+1,σ7,H7,I7.unpinned,T.keep _ _ _ st5 λb hb o e=>(I7.pin (b,o)<|bG _<|bG _<|Xi hb e).1,λb hb=>?_,w7]
   obtain⟨o,e,d⟩:=T.obj _ _ st5 b hb;exact(I7.pin (b,o)<|bG _<|bG _<|Xi hb e).2.1
  cases f with|next=>obtain⟨σ7,H7,I7,n7⟩:=q7;exact pA I7 n7|cont=>obtain⟨σ7,H7,I7,n7⟩:=q7;exact pA I7 n7|brk=>obtain⟨σ7,H7,I7,q7⟩:=q7;exact#[σ7,H7,I7.unpinned,q7]|ret v=>obtain⟨x7,σ7,H7,I7,r7,q7⟩:=q7;exact#[x7,σ7,H7,I7.unpinned,r7,q7]
end
abbrev R2:=V->V->Hp->VK->Prop
def OpR(X:Cx)(f:ap->ap->nH ap)(r:R2):Prop:=
 ∀(pq:List (aJ×fA))(s:ax)(Z:St)(H:Hp)(x y:V)(v u:ap)(Q:VK),Inv X pq Z H s->Zu x v->Zu y u->r x y H Q->
  aV (aS X.prog X.w) X.A (f v u) (EP X pq Z Q) X.xe s
def UnR(X:Cx)(f:ap->nH ap)(r:V->Hp->VK->Prop):Prop:=
 ∀(pq:List (aJ×fA))(s:ax)(Z:St)(H:Hp)(x:V)(v:ap)(Q:VK),Inv X pq Z H s->Zu x v->r x H Q->
  aV (aS X.prog X.w) X.A (f v) (EP X pq Z Q) X.xe s
def ZI(X:Cx)(f:ap)(r:List V->Hp->VK->Prop):Prop:=
 ∀(pq:List (aJ×fA))(s:ax)(Z:St)(H:Hp)(xs:List V)(us:List ap)(Q:VK),Inv X pq Z H s->Vals xs us->r xs H Q->
  aV (aS X.prog X.w) X.A (call f us) (EP X pq Z Q) X.xe s
def ZfZ(X:Cx)(r:V->Hp->(Bool->Hp->Prop)->Prop):Prop:=
 ∀(pq:List (aJ×fA))(s:ax)(Z:St)(H:Hp)(x:V)(v:ap)(Q:Bool->Hp->Prop),Inv X pq Z H s->Zu x v->r x H Q->
  aV (aS X.prog X.w) X.A (truthy v) (TP X pq Z Q) X.xe s
def tOp(r:R2)(ta tb:TE):TE:=λZ H Q=>ta Z H λx H1=>tb Z H1 λy H2=>r x y H2 Q
def tUn(r:V->Hp->VK->Prop)(ta:TE):TE:=λZ H Q=>ta Z H λx H1=>r x H1 Q
def rI(C:Int->Int->Prop)(g:Int->Int->V):R2:=λx y H Q=>∃i j,x=.int i/\y=.int j/\C i j/\Q (g i j) H
def rI0(g:Int->Int->V):R2:=λx y H Q=>∃i j,x=.int i/\y=.int j/\Q (g i j) H
def rU(g:Int->V):V->Hp->VK->Prop:=λx H Q=>∃i,x=.int i/\Q (g i) H
section
variable{X:Cx}{a b c:Expr}{ta tb tc:TE}{pos:gW}
def ZcI(ha:PE X a ta)(hb:PE X b tb){pq:List (aJ×fA)}{s:ax}{Z:St}{H:Hp}{R:V->V->Hp->Prop}(I:Inv X pq Z H s)
  (h:ta Z H λx H1=>tb Z H1 λy H2=>R x y H2){Q:ap->ax->Prop}{f:ap->ap->nH ap}
  (hf:∀v u s2 x y H2,Inv X pq Z H2 s2->Zu x v->Zu y u->R x y H2->aV (aS X.prog X.w) X.A (f v u) Q X.xe s2) :
  aV (aS X.prog X.w) X.A (cD a X.env) (λv s₁=>aV (aS X.prog X.w) X.A (cD b X.env) (λu s₂=>aV (aS X.prog X.w) X.A (f v u) Q X.xe s₂) X.xe s₁) X.xe s:=by
 refine thn (ha pq s Z H _ I h) λv s1 #[x,H1,I1,r1,q1]=>?_
 refine thn (hb pq s1 Z H1 _ I1 q1) λu s2 #[y,H2,I2,r2,q2]=>?_
 exact hf v u s2 x y H2 I2 r1 r2 q2
def QM(ho:OpR X (eJ op) r)(ha:PE X a ta)(hb:PE X b tb):PE X (.BinOp a op b pos) (tOp r ta tb):=by
 intro pq s Z H Q I h;exact wpAny_BinOp<|ZcI ha hb I h λv u s2 x y H2 I2 rx ry q=>ho pq s2 Z H2 x y v u Q I2 rx ry q
def ZeB{op:UnaryOp}{r:V->Hp->VK->Prop}(ho:UnR X (unaryOp op) r)(ha:PE X a ta):PE X (.UnaryOp op a pos) (tUn r ta):=by
 intro pq s Z H Q I h;exact UnaryOp_<|thn (ha pq s Z H _ I h)<|by rintro v s1 ⟨x,H1,I1,r1,q1⟩;exact ho pq s1 Z H1 x v Q I1 r1 q1
def opI{f:ap->ap->nH ap}{C:Int->Int->Prop}{g:Int->Int->Int}
  (mV:∀(i j:Int)(t u:pb)(s:ax)(Q:ap->ax->Prop)(E:ap->ax->Prop),C i j->Q (.int (g i j) s.toks) {s with toks:=s.toks+1}->aV (aS X.prog X.w) X.A (f (.int i t)<|.int j u) Q E s) :
  OpR X f (rI C λi j=>.int<|g i j):=by
 intro pq s Z H x y v u Q I rx ry h;obtain⟨i,j,rfl,rfl,hc,q⟩:=h;obtain⟨t,rfl⟩:=rx;obtain⟨t',rfl⟩:=ry;exact mV i j t t' s _ _ hc #[.int<|g i j,H,I.tok _,#[_,rfl],q]
def Zee{f:ap->ap->nH ap}{g:Int->Int->Int}
  (mV:∀(i j:Int)(t u:pb)(s:ax)(Q:ap->ax->Prop)(E:ap->ax->Prop),Q (.int (g i j) s.toks) {s with toks:=s.toks+1}->aV (aS X.prog X.w) X.A (f (.int i t)<|.int j u) Q E s) :
  OpR X f (rI0 λi j=>.int<|g i j):=by
 intro pq s Z H x y v u Q I rx ry h;obtain⟨i,j,rfl,rfl,q⟩:=h;obtain⟨t,rfl⟩:=rx;obtain⟨t',rfl⟩:=ry;exact mV i j t t' s _ _ #[.int<|g i j,H,I.tok _,#[_,rfl],q]
def ZaN{f:ap->ap->nH ap}{g:Int->Int->Bool}
  (mV:∀(i j:Int)(t u:pb)(s:ax)(Q:ap->ax->Prop)(E:ap->ax->Prop),Q (.bool<|g i j) s->aV (aS X.prog X.w) X.A (f (.int i t)<|.int j u) Q E s) :
  OpR X f (rI0 λi j=>.bl<|g i j):=by
 intro pq s Z H x y v u Q I rx ry h;obtain⟨i,j,rfl,rfl,q⟩:=h;obtain⟨t,rfl⟩:=rx;obtain⟨t',rfl⟩:=ry;exact mV i j t t' s _ _ #[.bl<|g i j,H,I,rfl,q]
def CPow(i j:Int):Prop:=0<=j/\j<=1000000/\i.natAbs<2^64
def Zef:OpR X (eJ .Add) (rI0 λi j=>.int<|i+j):=Zee λ_ _ _ _ _ _ _ q=>add_int q
def ZcD:OpR X (eJ .Sub) (rI0 λi j=>.int<|i-j):=Zee λ_ _ _ _ _ _ _ q=>sub_int q
theorem ZcJ:OpR X (eJ .Mod) (rI (λ_ j=>0<j) λi j=>.int<|i%j):=opI λi j _ _ _ _ _ hc q=>by
 have h1:=hc;exact mod_int' (by lia) (by rw[Int.fmod_eq_emod_of_nonneg i (by lia)];exact q)
def Zek:OpR X (eJ .Pow) (rI CPow λi j=>.int<|i^j.toNat):=opI λ_ _ _ _ _ _ _ hc q=>pow_int_small hc.1 hc.2.1 hc.2.2 q
def Zat:OpR X (inplaceOp .Add) (rI0 λi j=>.int<|i+j):=Zee λ_ _ _ _ _ _ _ q=>iadd_int q
def unI{f:ap->nH ap}{g:Int->Int}
  (mV:∀(i:Int)(t:pb)(s:ax)(Q:ap->ax->Prop)(E:ap->ax->Prop),Q (.int (g i) s.toks) {s with toks:=s.toks+1}->aV (aS X.prog X.w) X.A (f<|.int i t) Q E s) :
  UnR X f (rU λi=>.int<|g i):=by
 intro pq s Z H x v Q I rx h;obtain⟨i,rfl,q⟩:=h;obtain⟨t,rfl⟩:=rx;exact mV i t s _ _ #[.int<|g i,H,I.tok _,#[_,rfl],q]
def Zd0:UnR X (unaryOp .USub) (rU λi=>.int<|-i):=unI λ_ _ _ _ _ q=>neg_int q
end
noncomputable def scal:V->V->Bool
 |.non,.non=>aj|.non,.int _=>aj|.int _,.non=>aj|.non,.bl _=>aj|.bl _,.non=>aj|.non,.str _=>aj|.str _,.non=>aj
 |.int _,.int _=>aj|.bl _,.bl _=>aj|.str _,.str _=>aj|.byt _,.byt _=>aj
 |.int _,.str _=>aj|.str _,.int _=>aj|.bl _,.str _=>aj|.str _,.bl _=>aj
 |_,_=>ak
def rEq:R2:=λx y H Q=>scal x y=aj/\Q (.bl<|ae<|x=y) H
def rNe:R2:=λx y H Q=>scal x y=aj/\Q (.bl<|!decide (x=y)) H
def xq :ae (V.int i=V.int j)=(i == j):=by
 rw[cf];simp
def qS :ae (V.bl i=V.bl j)=(i == j):=by
 rw[cf];simp
def xL :ae (V.str i=V.str j)=(i == j):=by
 rw[cf];simp
def xC :ae (V.byt i=V.byt j)=(i.toList == j.toList):=by
 rw[cf];cases i;cases j;simp
section
variable{X:Cx}{a b c:Expr}{ta tb tc:TE}{pos:gW}
def ZB(I:Inv X pq Z H s)(q:Q (.bl k) H)(e:k=k'):EP X pq Z Q (.bool k') s:=by
 subst e;exact#[.bl k,H,I,rfl,q]
def ZeC:OpR X (cB .Eq) rEq:=by
 intro pq s Z H x y v u Q I rx ry h;obtain⟨hs,q⟩:=h;cases x with
 |non=>
  cases rx;cases y with|non=>cases ry;exact PySem.EqNone.eq_none_none<|ZB I q (by simp)|bl j=>cases ry;exact PySem.EqNone.eq_none_bool<|ZB I q (by simp)|int j=>obtain⟨t',rfl⟩:=ry;exact PySem.EqNone.eq_none_int<|ZB I q (by simp)|str j=>obtain⟨t',rfl⟩:=ry;exact PySem.EqNone.eq_none_str<|ZB I q (by simp)|_=>exact T7 (hs) aG
 |bl i=>
  cases rx;cases y with|non=>cases ry;exact PySem.EqNone.eq_bool_none<|ZB I q (by simp)|bl j=>cases ry;exact eq_bool<|ZB I q qS|str j=>obtain⟨t',rfl⟩:=ry;exact PySem.EqMixed.eq_bool_str<|ZB I q (by simp)|_=>exact T7 (hs) aG
 |int i=>
  obtain⟨t,rfl⟩:=rx;cases y with|non=>cases ry;exact PySem.EqNone.eq_int_none<|ZB I q (by simp)|int j=>obtain⟨t',rfl⟩:=ry;exact eq_int<|ZB I q xq|str j=>obtain⟨t',rfl⟩:=ry;exact PySem.EqMixed.eq_int_str<|ZB I q (by simp)|_=>exact T7 (hs) aG
 |str i=>
  obtain⟨t,rfl⟩:=rx;cases y with|non=>cases ry;exact PySem.EqNone.eq_str_none<|ZB I q (by simp)|bl j=>cases ry;exact PySem.EqMixed.eq_str_bool<|ZB I q (by simp)|int j=>obtain⟨t',rfl⟩:=ry;exact PySem.EqMixed.eq_str_int<|ZB I q (by simp)|str j=>obtain⟨t',rfl⟩:=ry;exact eq_str<|ZB I q xL|_=>exact T7 (hs) aG
 |byt i=>
  obtain⟨t,rfl⟩:=rx;cases y with|byt j=>obtain⟨t',rfl⟩:=ry;exact PySem.W.eq_bytes<|ZB I q xC|_=>exact T7 (hs) aG
 |_=>cases y<;>exact T7 (hs) aG
def Zez:OpR X (cB .NotEq) rNe:=by
 intro pq s Z H x y v u Q I rx ry h;obtain⟨hs,q⟩:=h;cases x with
 |non=>
  cases rx;cases y with|non=>cases ry;exact PySem.EqNone.ne_none_none<|ZB I q (by simp)|bl j=>cases ry;exact PySem.EqNone.ne_none_bool<|ZB I q (by simp)|int j=>obtain⟨t',rfl⟩:=ry;exact PySem.EqNone.ne_none_int<|ZB I q (by simp)|str j=>obtain⟨t',rfl⟩:=ry;exact PySem.EqNone.ne_none_str<|ZB I q (by simp)|_=>exact T7 (hs) aG
 |bl i=>
  cases rx;cases y with|non=>cases ry;exact PySem.EqNone.ne_bool_none<|ZB I q (by simp)|bl j=>cases ry;exact ne_bool<|ZB I q<|congrArg not qS|str j=>obtain⟨t',rfl⟩:=ry;exact PySem.EqMixed.ne_bool_str<|ZB I q (by simp)|_=>exact T7 (hs) aG
 |int i=>
  obtain⟨t,rfl⟩:=rx;cases y with|non=>cases ry;exact PySem.EqNone.ne_int_none<|ZB I q (by simp)|int j=>obtain⟨t',rfl⟩:=ry;exact ne_int<|ZB I q<|congrArg not xq|str j=>obtain⟨t',rfl⟩:=ry;exact PySem.EqMixed.ne_int_str<|ZB I q (by simp)|_=>exact T7 (hs) aG
 |str i=>
  obtain⟨t,rfl⟩:=rx;cases y with|non=>cases ry;exact PySem.EqNone.ne_str_none<|ZB I q (by simp)|bl j=>cases ry;exact PySem.EqMixed.ne_str_bool<|ZB I q (by simp)|int j=>obtain⟨t',rfl⟩:=ry;exact PySem.EqMixed.ne_str_int<|ZB I q (by simp)|str j=>obtain⟨t',rfl⟩:=ry;exact ne_str<|ZB I q<|congrArg not xL|_=>exact T7 (hs) aG
 |byt i=>
  obtain⟨t,rfl⟩:=rx;cases y with|byt j=>obtain⟨t',rfl⟩:=ry;exact PySem.W.ne_bytes<|ZB I q<|congrArg not xC|_=>exact T7 (hs) aG
 |_=>cases y<;>exact T7 (hs) aG
def ZeG:OpR X (cB .Lt) (rI0 λi j=>.bl<|ae<|i<j):=ZaN λ_ _ _ _ _ _ _ q=>lt_int q
def ZeN:OpR X (cB .LtE) (rI0 λi j=>.bl<|ae<|i<=j):=ZaN λ_ _ _ _ _ _ _ q=>le_int q
def ZeA:OpR X (cB .Gt) (rI0 λi j=>.bl<|ae<|j<i):=ZaN λ_ _ _ _ _ _ _ q=>gt_int q
def ZeS:OpR X (cB .GtE) (rI0 λi j=>.bl<|ae<|j<=i):=ZaN λ_ _ _ _ _ _ _ q=>ge_int q
def ZcZ:OpR X (cB .Is) (λx y H Q=>y=.non/\Q (.bl<|ae<|x=.non) H):=by
 intro pq s Z H x y v u Q I rx ry h;obtain⟨rfl,q⟩:=h;cases ry;refine is_none_gen<|ZB I q ?_;cases x<;>first
  |(cases rx;rfl)
  |(obtain⟨t,rfl⟩:=rx;rfl)
def OpR.or(h:OpR X f r)(h':OpR X f r'):OpR X f (λx y H Q=>r x y H Q\/r' x y H Q):=by
 intro pq s Z H x y v u Q I rx ry q;rcases q with q|q
 .exact h pq s Z H x y v u Q I rx ry q
 .exact h' pq s Z H x y v u Q I rx ry q
def Zd9(b:Expr)(h:op≠.In:=by decide)(h2:op≠.NotIn:=by decide):fW op b=ak:=by
 have e1:(op == CmpOp.In)=ak:=by cases op<;>first|rfl|exact T7 rfl h
 have e2:(op == CmpOp.NotIn)=ak:=by cases op<;>first|rfl|exact T7 rfl h2
 cases b<;>simp[fW,e1,e2]
def Zaw(ho:OpR X (cB op) r)(ha:PE X a ta)(hb:PE X b tb)(hm:fW op b=ak):PE X (.Compare a [op] [b] pos) (tOp r ta tb):=by
 intro pq s Z H Q I h;exact wpAny_Compare1 (ZcI ha hb I h λv u s2 x y H2 I2 rx ry q=>ho pq s2 Z H2 x y v u Q I2 rx ry q) hm
def ZeX(t:TE):TT:=λZ H Q=>t Z H λx H'=>∃k,x=.bl k/\Q k H'
def Zar(ho:OpR X (cB op) r)(ha:PE X a ta)(hb:PE X b tb)(hm:fW op b=ak):PT X (.Compare a [op] [b] pos) (ZeX<|tOp r ta tb):=by
 intro pq s Z H Q I h;refine wpAny_isTrue_Compare1 (thn (ha pq s Z H _ I h) λv s1 #[x,H1,I1,r1,q1]=>thn (hb pq s1 Z H1 _ I1 q1) λu s2 #[y,H2,I2,r2,q2]=>
  thn (ho pq s2 Z H2 x y v u _ I2 r1 r2 q2) λc s3 #[z,H3,I3,r3,k,e,q3]=>?_) hm
 subst e;cases r3;exact fB #[H3,I3,q3]
def ZcH(r r':R2)(ta tb tc:TE):TE:=λZ H Q=>ta Z H λx H1=>tb Z H1 λy H2=>r x y H2 λz H3=>∃k,z=.bl k/\
 (if k=aj then tc Z H3 λw' H4=>r' y w' H4 Q else Q (.bl ak) H3)
def uj(ho:OpR X (cB op) r)(ho':OpR X (cB op') r')(ha:PE X a ta)(hb:PE X b tb)(hc:PE X c tc)
  (hm:lastMarks [op,op'] [b,c]=ak:=by with_unfolding_all rfl):PE X (.Compare a [op,op'] [b,c] pos) (ZcH r r' ta tb tc):=by
 intro pq s Z H Q I h;refine Compare_chain (thn (ha pq s Z H _ I h) λv s1 #[x,H1,I1,r1,q1]=>chain_link (thn (hb pq s1 Z H1 _ I1 q1) λu s2 #[y,H2,I2,r2,q2]=>
  thn (ho pq s2 Z H2 x y v u _ I2 r1 r2 q2) λd s3 #[z,H3,I3,r3,k,e,q3]=>?_)) hm
 subst e;cases r3;refine fB ?_;cases k with|false=>exact ite_ff #[.bl ak,H3,I3,rfl,q3]|true=>exact ite_tt<|chain_last<|thn (hc pq s3 Z H3 _ I3 q3)<|by rintro w' s4 ⟨z',H4,I4,r4,q4⟩;exact ho' pq s4 Z H4 y z' u w' Q I4 r2 r4 q4
def Zaq(K:aq)(x:V)(H:Hp)(k:Bool):Prop:=
 match x with
 |.non=>k=ak
 |.bl b=>k=b
 |.int i=>k=(i != 0)
 |.str y=>y.length<=aZ/\k=((y.length:Int) != 0)
 |.byt y=>y.size<=aZ/\k=((y.size:Int) != 0)
 |.ref p=>(∃xs,SqL K H p xs/\k = !xs.isEmpty)\/(∃xs,SqT K H p xs/\k = !xs.isEmpty)\/∃kvs,H p=aa (.dK kvs)/\k = !kvs.isEmpty
 |_=>False
def yx{κ:Type}{kvs:List (κ×V)}{vs:List (κ×ap)}(r:KV kvs vs):(!vs.isEmpty) = !kvs.isEmpty:=by
 cases r<;>rfl
def UC{xs:List V}{its:List ap}(r:Vals xs its):(!its.toArray.isEmpty) = !xs.isEmpty:=by
 cases r<;>simp
def Vb:(aZ:Nat)<2^63:=by rw[cI];decide
theorem qQ:ZfZ X (λx H Q=>∃k,Zaq X.K x H k/\Q k H):=by
 intro pq s Z H x v Q I rx h;obtain⟨k,e,q⟩:=h;have hl:=Vb;have hs:=cI;cases x with
 |non=>
  cases rx;have e':=e;subst e';exact truthy_none #[H,I,q]
 |bl b=>
  cases rx;have e':k=b:=e;subst e';exact fB #[H,I,q]
 |int i=>
  obtain⟨t,rfl⟩:=rx;have e':=e;subst e';exact mG #[H,I,q]
 |str y=>
  obtain⟨t,rfl⟩:=rx;obtain⟨hy,e'⟩:=e;subst e';exact PySem.P.truthy_str (by lia) #[H,I.tok _,q]
 |byt y=>
  obtain⟨t,rfl⟩:=rx;obtain⟨hy,e'⟩:=e;subst e';exact PySem.W.truthy_bytes (by lia) #[H,I.tok _,q]
 |ref p=>
  cases rx;have e':=e;rcases e' with⟨xs,hx,e'⟩|⟨xs,hx,e'⟩|⟨kvs,hx,e'⟩
  .subst e'
   obtain⟨its,r,pl,hz⟩:=I.list hx;have hlen:=r.length;exact wpAny_truthy_list pl.isList (by simp only[ay];lia) #[H,I.tok _,by rw[UC r];exact q]
  .subst e'
   obtain⟨its,r,pl,hz⟩:=I.tuple hx;have hlen:=r.length;exact truthy_tuple pl (by simp only[ay];lia) #[H,I.tok _,by rw[UC r];exact q]
  .subst e'
   obtain⟨hz,hS,vs,r,m⟩:=I.hok p _ hx;have hlen:=Paired.length r;exact wpAny_truthy_dict hS m (by lia) #[H,I.tok _,by rw[yx r];exact q]
 |_=>exact(e).elim
def qM(ha:PE X a ta)(he:∀whole,isTrue a X.env whole=(do let v <-whole;oG a.pos;kf [v] (truthy v))) :
  PT X a (λZ H Q=>ta Z H λx H'=>∃k,Zaq X.K x H' k/\Q k H'):=by
 intro pq s Z H Q I h;exact isTrue_plain (thn (ha pq s Z H _ I h)<|by rintro v s1 ⟨x,H1,I1,r1,q1⟩;exact qQ pq s1 Z H1 x v Q I1 r1 q1)<|he _
def XJ(r:Vals [x] us):∃u,us=[u]/\Zu x u:=by
 cases r with|cons r1 r2=>cases r2;exact#[_,rfl,r1]
def zq(r:Vals [x,y] us):∃u w',us=[u,w']/\Zu x u/\Zu y w':=by
 cases r with
 |cons r1 r2=>
  cases r2 with|cons r3 r4=>cases r4;exact#[_,_,rfl,r1,r3]
def vh(hc:X.calm=aj):ZI X (.builtin "max") (λxs H Q=>∃i j,xs=[.int i,.int j]/\Q (.int (if j>i then j else i)) H):=by
 intro pq s Z H xs us Q I r h;obtain⟨i,j,rfl,q⟩:=h;obtain⟨u,w',rfl,⟨t,rfl⟩,⟨t',rfl⟩⟩:=zq r;refine max_two_ints (I.ok.hd hc) λh' tk k=>#[_,H,I.kept k,?_,q]
 by_cases hj:j>i
 .rw[T9 hj,T9 hj];exact#[_,rfl]
 .rw[T8 hj,T8 hj];exact#[_,rfl]
def wl(hc:X.calm=aj):ZI X (.builtin "min") (λxs H Q=>∃i j,xs=[.int i,.int j]/\Q (.int (if j<i then j else i)) H):=by
 intro pq s Z H xs us Q I r h;obtain⟨i,j,rfl,q⟩:=h;obtain⟨u,w',rfl,⟨t,rfl⟩,⟨t',rfl⟩⟩:=zq r;refine min_two_ints (I.ok.hd hc) λh' tk k=>#[_,H,I.kept k,?_,q]
 by_cases hj:j<i
 .rw[T9 hj,T9 hj];exact#[_,rfl]
 .rw[T8 hj,T8 hj];exact#[_,rfl]
def vx:ZI X (.type "int") (λxs H Q=>(∃i,xs=[.int i]/\Q (.int i) H)\/∃k,xs=[.bl k]/\Q (.int (if k then 1 else 0)) H):=by
 intro pq s Z H xs us Q I r h;rcases h with⟨i,rfl,q⟩|⟨k,rfl,q⟩
 .obtain⟨u,rfl,t,rfl⟩:=XJ r
  exact call_int_int #[.int i,H,I,#[_,rfl],q]
 .obtain⟨u,rfl,r1⟩:=XJ r
  cases r1;exact call_int_bool #[.int (if k then 1 else 0),H,I.tok _,#[_,rfl],q]
def Jd:ZI X (.type "str") (λxs H Q=>∃i,xs=[.int i]/\i.natAbs.log2<1920/\Q (.str<|mW i) H):=by
 intro pq s Z H xs us Q I r h;obtain⟨i,rfl,hz,q⟩:=h;obtain⟨u,rfl,t,rfl⟩:=XJ r;exact PySem.P.str_of_int hz #[.str _,H,I.tok _,#[_,rfl],q]
end
structure ObjM(h:cc)(x dx C:aJ)(mA:bx->Option ap):Prop where
 obj:h.get? x=aa (ln C dx)
 ns:h.Ns1 dx mA
 ne:dx≠x
def wm{h:cc}{dx:aJ}{mA:bx->Option ap}(n:h.Ns1 dx mA):∃od,h.get? dx=aa od/\∀name,lK name od=aa (mA name):=by
 obtain⟨o,es,ep,ho,hd,hk,_,hm⟩:=n;refine#[o,ho,λname=>?_]
 have e:=hm name;unfold nsFind findBy at e;rw[<-Array.find?_toList]at e;unfold lK;rw[hd]
 dsimp only
 split
 .rename_i y q
  rw[q]at e;exact congrArg aa e
 .rename_i q
  rw[q]at e;have a:es.toList.any (·.refKey)=ak:=by
   rw[List.any_eq_false];intro y hy;obtain⟨z,t,hkey⟩:=hk y<|lL.mp hy;simp[fL.refKey,hkey]
  have a':¬es.toList.any (·.refKey)=aj:=by rw[a];exact aG
  rw[T8 a'];exact congrArg aa e
def ObjM.look(I:ObjM h x dx C mA):∃od,PySem.W.InstAt h x (ln C dx) C (aa od)/\∀name,lK name od=aa (mA name):=
 let #[od,ho,hl]:=wm I.ns
 #[od,#[I.obj,rfl,rfl,ho],hl]
section
variable{P:bC}{w:bU}{H H':Hp}{h h':cc}{a C dx:aJ}{fs fs':List (bx×V)}
def yZ(hok:HOk P w H h)(e:H a=aa (.ins C dx fs)):∃mA,ObjM h a dx C mA/\(∀f,yh (fs.lookup f)<|mA f)/\PySem.Within mA (fs.map (·.1))/\fs.length<=1000/\H dx=aa (.own a):=by
 obtain⟨d,z,ne,ob,mA,n,r,q⟩:=(hok a _ e)
 exact#[mA,#[ob,n,ne],r,q,z,d]
end
structure Cls(K:aq)(C:aJ):Prop where
 pg:nI K C bx.empty=aj
 hd:PySem.W.hasDictIn K C=aj
 po:PySem.W.plainOver K C=aj
 sa:oM K (.ref C) "__setattr__" = aa (aa<|.builtin "object.__setattr__")
def Cls.get{K:aq}{C:aJ}(c:Cls K C)(f:bx):nI K C f=aj:=c.pg
section
variable{X:Cx}{pq:List (aJ×fA)}{Z:St}{H:Hp}{s:ax}{A:cL}{E:ap->ax->Prop}{Q:ap->ax->Prop}{c:ap}{b:Bool}
inductive TyOf(K:aq)(H:Hp):V->ap->Prop where
 |non:TyOf K H .non (.type "NoneType")
 |bl (x:Bool):TyOf K H (.bl x) (.type "bool")
 |int (i:Int):TyOf K H (.int i) (.type "int")
 |str (x:bx):TyOf K H (.str x) (.type "str")
 |flt (x:UInt64):TyOf K H (.flt x) (.type "float")
 |lst {a:aJ} {xs:List V} (e:H a=aa (.lst xs)):TyOf K H (.ref a) (.type "list")
 |frz {a:aJ} {o:fA} {xs:List V} (e:H a=aa (.frz o<|.lst xs)):TyOf K H (.ref a) (.type "list")
 |tup {a:aJ} {xs:List V} (e:H a=aa (.tup xs)):TyOf K H (.ref a) (.type "tuple")
 |dK {a:aJ} {kvs:List (Key×V)} (e:H a=aa (.dK kvs)):TyOf K H (.ref a) (.type "dict")
 |dT {a:aJ} {kvs:List (List Key×V)} (e:H a=aa (.dT kvs)):TyOf K H (.ref a) (.type "dict")
 |ins {a C dx:aJ} {fs:List (bx×V)} (e:H a=aa (.ins C dx fs)) (cl:Cls K C) (ha:oM K (.ref C) "__class__" = aa (aa<|.builtin "object.__class__"))
   (hn:PySem.W.specialIn K (.builtin "object.__class__") "__get__" = aa (aa<|.builtin "getset_descriptor.__get__")) (htk:PySem.W.takesIn K (.builtin "object.__class__")=aa aj)
   (hm:PySem.W.mroIn K C (.type "object")=aa aj):TyOf K H (.ref a) (.ref C)
def wt(I:Inv X pq Z H s)(rx:Zu x u)(ty:TyOf X.K H x t)(e:lN X.K t c=aa b)(h:∀tk,Q (.bool b) {s with toks:=tk}) :
  aV (aS X.prog X.w) A (call (.builtin "isinstance") [u,c]) Q E s:=by
 cases ty with
 |non=>cases(show u=bh from rx);exact cX mX I.kIn c8 e (λz=>nomatch z) h
 |bl y=>cases(rx);exact cX mY I.kIn c8 e (λz=>nomatch z) h
 |int i=>obtain⟨t,q⟩:=(rx);cases q;exact cX nJ I.kIn c8 e (λz=>nomatch z) h
 |str y=>obtain⟨t,q⟩:=(rx);cases q;exact cX nK I.kIn c8 e (λz=>nomatch z) h
 |flt y=>obtain⟨t,q⟩:=(rx);cases q;exact cX mH I.kIn c8 e (λz=>nomatch z) h
 |@lst a xs ea=>
  cases(rx)
  obtain⟨_,_,n,_,h1⟩:=(I.hok a _ ea)
  exact cX gx I.kIn #[_,h1,rfl] e (λz=>nomatch z) h
 |@frz a ob xs ea=>
  cases(rx)
  obtain⟨_,_,_,n,_,h1⟩:=(I.hok a _ ea)
  exact cX gx I.kIn #[_,h1,rfl] e (λz=>nomatch z) h
 |@tup a xs ea=>
  cases(rx)
  obtain⟨_,_,_,p⟩:=(I.hok a _ ea)
  obtain⟨o,h1,h2,_⟩:=p;exact cX mI I.kIn #[o,h1,h2] e (λz=>nomatch z) h
 |@dK a kvs ea=>
  cases(show u=bV a from rx)
  obtain⟨_,_,vs,_,p⟩:=(I.hok a _ ea)
  obtain⟨o,es,ep,h1,h2,_⟩:=p;exact cX gy I.kIn #[o,h1,h2.1] e (λz=>nomatch z) h
 |@dT a kvs ea=>
  cases(show u=bV a from rx)
  obtain⟨_,_,xs,_,o,es,ep,h1,h2,_⟩:=(I.hok a _ ea)
  exact cX gy I.kIn #[o,h1,h2.1] e (λz=>nomatch z) h
 |@ins a C dx fs ea cl ha hn htk hm=>
  cases(show u=bV a from rx)
  obtain⟨mA,O,_⟩:=yZ I.hok ea;obtain⟨od,J,_⟩:=O.look;exact cX (nL (cl.get _) cl.hd ha hn htk hm) I.kIn J e (λz=>nomatch z) h
end
structure Room(k:Nat)(A:cL):Prop where
 hd:A.handled=ag
 dp:A.depth+3*k+5<recursionLimit
 un:A.units+16*k+200<du
theorem Room.deeper(r:Room (k+1) A)(env:Env):Room k (A.deeper env):=
 #[r.hd,by have:=r.dp;show A.depth+1+3*k+5<_;lia,by have:=r.un;show A.units+3+16*k+200<_;lia]
theorem Room.depth(r:Room k A):A.depth<recursionLimit:=by have:=r.dp;lia
def ZfM:TA:=λ_ H Q=>Q [] H
def ZeT(ta:TE)(tr:TA):TA:=λZ H Q=>ta Z H λx H1=>tr Z H1 λxs H2=>Q (x::xs) H2
section
variable{X:Cx}{e:Expr}{es:List Expr}{te:TE}{t:TA}{pos:gW}
def XI:PA X [] ZfM:=λ_ _ _ _ H Q I h=>Calls.spliced_nil #[[],H,I,.nil,h]
def Yj(ha:PE X e te)(hr:PA X es t)(hs:aE (e::es) X.env=(ak,cD e X.env)::aE es X.env:=by rfl):PA X (e::es) (ZeT te t):=by
 intro pos pq s Z H Q I h;rw[hs];refine Calls.spliced_cons<|thn (ha pq s Z H _ I h) λu s1 #[x,H1,I1,r1,q1]=>?_
 exact thn (hr pos pq s1 Z H1 _ I1 q1)<|by rintro us s2 ⟨xs,H2,I2,r2,q2⟩;exact #[x::xs,H2,I2,.cons r1 r2,q2]
def ZfS(t:TA):TE:=λZ H Q=>t Z H λxs H1=>xs.length<=aZ/\∀p,H1 p=ag->Q (.ref p) (upd H1 p<|.tup xs)
def ZfT(t:TA):TE:=λZ H Q=>t Z H λxs H1=>xs.length<=aZ/\∀p,H1 p=ag->Q (.ref p) (upd H1 p<|.lst xs)
def uP{x1}(h:PA X es t):PE X (.Tuple es x1 pos) (ZfS t):=by
 intro pq s Z H Q I hq;refine wpAny_Tuple_spliced<|thn (h pos pq s Z H _ I hq) λus s1 #[xs,H1,I1,r,z,q]=>#[by rw[<-r.length];exact z,?_]
 have hf:=I1.hok.fresh<|aH _;refine#[.ref s1.heap.objs.size,upd H1 s1.heap.objs.size<|.tup xs,I1.laid (t':=s1.toks) (λb u e=>ao _ e) (aH _) ?_,rfl,q _ hf]
 exact#[z,us,r,#[_,aD _ rfl,rfl,_,rfl]]
def Zdg(h:PA X es t):PE X (.List es pos) (ZfT t):=by
 intro pq s Z H Q I hq;refine wpAny_List_spliced<|thn (h pos pq s Z H _ I hq) λus s1 #[xs,H1,I1,r,z,q]=>#[by rw[<-r.length];exact z,?_]
 have hf:=I1.hok.fresh<|aH _;refine#[.ref s1.heap.objs.size,upd H1 s1.heap.objs.size<|.lst xs,I1.laid (t':=s1.toks) (λb u e=>ao _ e) (aH _) ?_,rfl,q _ hf]
 exact#[z,us,0,r,aD _ rfl]
end
abbrev Sp:=List V->Hp->VK->XK->Prop
abbrev CXT:=List Env->Hp->ax->XK->ap->ax->Prop
structure Env0(P:bC)(w:bU)(K:aq)(mg:bx->Option ap)(base:cc)(A:cL)(outer:List Env)(s:ax)(H:Hp):Prop where
 frames:A.frames=aa outer
 mod:Mod K mg base
 bs:∀b o,base.get? b=aa o->s.heap.get? b=aa o/\H b=ag
 bsz:base.objs.size<=s.heap.objs.size
 funs:s.heap.FunFrames base outer
 frf:∀b∈frs outer,H b=ag
 hok:HOk P w H s.heap
 bare:ke s.gens
def CE(outer:List Env)(P:bC)(w:bU)(H:Hp)(s:ax)(Q:VK)(u:ap)(s':ax):Prop:=
 ∃v H',s'.os=s.os/\ke s'.gens/\Un (frs outer) [] H H' s.heap s'.heap/\HOk P w H' s'.heap/\Zu v u/\Q v H'
def CR(CX:CXT)(outer:List Env)(P:bC)(w:bU)(H:Hp)(s:ax)(Q:VK)(E:XK)(r:pG)(s':ax):Prop:=
 match r with
 |.ok (.ret u)=>CE outer P w H s Q u s'
 |.ok _=>False
 |.error e=>CX outer H s E e s'
structure FnOk(P:bC)(w:bU)(K:aq)(mg:bx->Option ap)(base:cc)(CX:CXT)(k:Nat)(f:aJ)(fd:c6)(ps:List bx)(sp:Sp):Prop where
 len:∀vs H Q E,sp vs H Q E->vs.length=ps.length
 run:∀(A:cL)(outer:List Env)(s:ax)(H:Hp)(args:Args)(us:List ap)(vs:List V)(Q:VK)(E:XK),Room k A->Env0 P w K mg base A outer s H->mZ s fd args (ps.zip us)->Vals vs us->sp vs H Q E->
  iA (aS P w) A (.call (.ref f) args) (CR CX outer P w H s Q E) s
section
variable{X:Cx}{pq:List (aJ×fA)}{Z:St}{H:Hp}{s s':ax}
def Inv.env0(I:Inv X pq Z H s):Env0 X.prog X.w X.K X.mg X.base X.A X.stack s H:=
 #[I.ok.frames,I.ok.mod,I.bs,cn I.ok.bsz I.sz,I.stack,I.stkFree,I.hok,I.bare]
def Inv.after(I:Inv X pq Z H s)(h:CE X.stack X.prog X.w H s Q u s'):EP X pq Z Q u s':=by
 obtain⟨v,H',os,bare,un,hok,r,q⟩:=h;obtain⟨hh,g,d,t,os'⟩:=s';obtain rfl:os'=s.os:=os;exact#[v,H',I.call (h':=hh) (g':=g) (d':=d) (t':=t) un hok bare (λb z=>T7 z (by simp)),r,q]
end
def Zb2(sp:Sp)(dvs:List V)(E:XK)(t:TA):TE:=λZ H Q=>t Z H λvs H1=>sp (vs++dvs) H1 Q E
def V1(K:aq)(fd:c6)(ps:List bx)(ds:List ap):Prop:=
 ∀(s:ax)(us:List ap),K.In s.heap->(us++ds).length=ps.length->mZ s fd #[us,[]] (ps.zip<|us++ds)
def V1.all{K:aq}{fd:c6}{ps:List bx}(h:∀us:List ap,us.length=ps.length->oN fd #[us,[]]=dg (ps.zip us)):V1 K fd ps []:=λs us _ hl=>by
 rw[bS]at hl ⊢;exact .of_eq<|h us hl
def yz(CX:CXT)(X:Cx)(E:XK):Prop:=∀(pq:List (aJ×fA))(Z:St)(H:Hp)(s:ax)(e:ap)(s':ax),Inv X pq Z H s->CX X.stack H s E e s'->X.xe e s'
section
variable{X:Cx}{CX:CXT}{k:Nat}{f C:aJ}{fd:c6}{ps:List bx}{sp:Sp}{dvs:List V}{ds:List ap}{E:XK}{x m:bx}{p pos apos:gW}{e o:Expr}{es:List Expr}{ta:TE}{t:TA}
def ZdM(F:FnOk X.prog X.w X.K X.mg X.base CX k f fd ps sp)(hr:Room k X.A)(hb:V1 X.K fd ps ds)(hd:Vals dvs ds)(hx:yz CX X E)
  (I:Inv X pq Z H s)(r:Vals vs us)(h:sp (vs++dvs) H Q E):aV (aS X.prog X.w) X.A (call (.ref f) us) (EP X pq Z Q) X.xe s:=by
 have r2:=r.append hd;have hl:(us++ds).length=ps.length:=by rw[<-r2.length];exact F.len _ _ _ _ h
 refine wpAny_call<|gz (F.run X.A X.stack s H #[us,[]] (us++ds) (vs++dvs) Q E hr I.env0 (hb s us I.kIn hl) r2 h) λr s' hq=>?_
 cases r with
 |error e=>exact hx pq Z H s e s' I hq
 |ok fl=>
  cases fl with|ret u=>exact I.after hq|next=>exact False.elim hq|brk=>exact False.elim hq|cont=>exact False.elim hq
def yY(F:FnOk X.prog X.w X.K X.mg X.base CX k f fd ps sp)(hr:Room k X.A)(hg:Gl X x)(hm:X.mg x=aa (.ref f))(hk:gA X.K (.ref f)=aj)(hb:V1 X.K fd ps ds)(hd:Vals dvs ds)(hx:yz CX X E)
  (ha:PA X (e::es) t)(hdb:(x == ("__debug__" : bx))=ak:=by decide)(he:aE (e::es) X.env=(ak,cD e X.env)::aE es X.env:=by rfl)(hpl:(dz pos<|aE es X.env).any (·.1)=ak:=by rfl) :
  PE X (.Call (.Name x p) (e::es) [] pos) (Zb2 sp dvs E t):=by
 intro pq s Z H Q I h;refine d8<|xX I hg hm ?_ hdb;refine PySem.W.callWith_K I.ok.mod.kin hk (thn (ha pos pq s Z H _ I h) λus s1 #[vs,H1,I1,r,q]=>#[I1.kIn,?_]) he hpl
 exact ZdM F hr hb hd hx I1 r q
end
structure FnScope(N P:List bx)(sc:eX):Prop where
 kind:sc.kind=.function
 co:sc.isCoroutine=ak
 gen:sc.isGenerator=ak
 nd:N.Nodup
 pre:N.take P.length=P
 par:∀x∈P,sc.names.lookup x=aa .local\/sc.names.lookup x=aa .cell
 nofree:∀y∈sc.names,y.2≠.free
theorem UX{kindOf:bx->Option eK}{x:bx}:∀{binds:List (bx×ap)}{m:bx->Option ap},(∀v,(x,v)∉binds)->pB kindOf binds m x=m x
 |[],_,_=>rfl
 |(n,v)::r,m,h=>by
  unfold pB;rw[UX λw hw=>h w<|ai _ hw]
  split
  .have:x≠n:=by rintro rfl;exact h v am
   simp[this]
  .rfl
theorem U6{kindOf:bx->Option eK}{x:bx}:∀{binds:List (bx×ap)}{m:bx->Option ap},(∀v,(x,v)∉binds)->pC kindOf binds m x=m x
 |[],_,_=>rfl
 |(n,v)::r,m,h=>by
  unfold pC;rw[U6 λw hw=>h w<|ai _ hw]
  split
  .rfl
  .have:x≠n:=by rintro rfl;exact h v am
   simp[this]
theorem Qy{kindOf:bx->Option eK}{x:bx}{v:ap}:∀{P:List bx}{vs:List ap}{i:Nat}{m:bx->Option ap},P.Nodup->P[i]?=aa x->vs[i]?=aa v->kindOf x=aa .local->
  pB kindOf (P.zip vs) m x=aa v
 |[],_,_,_,_,h,_,_=>by simp at h
 |_::_,[],_,_,_,_,h,_=>by simp at h
 |p::P,w::vs,0,m,nd,h1,h2,hk=>by
  simp at h1 h2;subst h1;subst h2;show pB kindOf ((p,w)::P.zip vs) m p=_;unfold pB;rw[UX λv hv=>(dP.mp nd).1 (hZ hv).1,T9 hk]
  simp
 |p::P,w::vs,i+1,m,nd,h1,h2,hk=>by
  unfold pB;exact Qy (dP.mp nd).2 (by simpa using h1) (by simpa using h2) hk
theorem Qp{kindOf:bx->Option eK}{x:bx}{v:ap}:∀{P:List bx}{vs:List ap}{i:Nat}{m:bx->Option ap},P.Nodup->P[i]?=aa x->vs[i]?=aa v->kindOf x≠aa .local->
  pC kindOf (P.zip vs) m x=aa v
 |[],_,_,_,_,h,_,_=>by simp at h
 |_::_,[],_,_,_,_,h,_=>by simp at h
 |p::P,w::vs,0,m,nd,h1,h2,hk=>by
  simp at h1 h2;subst h1;subst h2;show pC kindOf ((p,w)::P.zip vs) m p=_;unfold pC;rw[U6 λv hv=>(dP.mp nd).1 (hZ hv).1,T8 hk]
  simp
 |p::P,w::vs,i+1,m,nd,h1,h2,hk=>by
  unfold pC;exact Qp (dP.mp nd).2 (by simpa using h1) (by simpa using h2) hk
noncomputable def start(N:List bx)(vs:List V):St:=vs.map aa++aA (N.length-vs.length) ag
noncomputable def zC(CX:CXT)(P:bC)(w:bU)(K:aq)(mg:bx->Option ap)(base:cc)(N:List bx)(qual:bx)(scope:eX)(f:aJ)(cd:ap)(A:cL)(outer:List Env)(s:ax)(H:Hp)(E:XK):Cx where
 prog:=P
 w:=w
 K:=K
 mg:=mg
 base:=base
 A:=A.deeper<|iJ qual scope s.heap.objs.size f cd
 N:=N
 s₀:=s
 H₀:=H
 env:=iJ qual scope s.heap.objs.size f cd
 outer:=outer
 stack:=iJ qual scope s.heap.objs.size f cd::outer
 ex:=[]
 calm:=aj
 fn:=λ_=>aj
 pn:=[]
 xe:=λe s'=>aV (aS P w) (A.deeper<|iJ qual scope s.heap.objs.size f cd) (leaving (iJ qual scope s.heap.objs.size f cd) e) (λ_ s''=>CX outer H s E e s'') (λe' s''=>CX outer H s E e' s'') s'
def zy{sc:eX}{n:Nat}{x:bx}(h:sc.names.lookup x=aa .cell):∃c,(d3 n sc.names []).lookup x=aa c:=by
 have q:=kX sc.names n []<|.inl h;exact bO.mp q
def vC{CX:CXT}{P:bC}{w:bU}{K:aq}{mg:bx->Option ap}{base:cc}{N ps:List bx}{qual:bx}{scope:eX}{f:aJ}{cd:ap}{A:cL}{outer:List Env}{s s1:ax}{H:Hp}{E:XK}{us:List ap}{vs:List V}
  (S:FnScope N ps scope)(hd:A.handled=ag)(e0:Env0 P w K mg base A outer s H)(hl:vs.length=ps.length)(r:Vals vs us)
  (x:InCallC s s.heap.objs.size (pB (iJ qual scope s.heap.objs.size f cd).kindOf (ps.zip us) λ_=>ag) (d3 (s.heap.objs.size+1) scope.names []) (pC (iJ qual scope s.heap.objs.size f cd).kindOf (ps.zip us) λ_=>ag) s1) :
  Inv (zC CX P w K mg base N qual scope f cd A outer s H E) [] (start N vs) H s1:=by
 have hpl:ps.length<=N.length:=by have:=congrArg fH S.pre;rw[bz]at this;lia
 obtain⟨h1,tk,rfl,hk⟩:=x.done;have noA:∀b:aJ,b∉(zC CX P w K mg base N qual scope f cd A outer s H E).ex:=λb z=>T7 (show b∈([]:List aJ)from z) (by simp)
 refine#[#[e0.mod,S.kind,rfl,rfl,aH _,λy z c h1 h2=>?_,λy hy=>?_,λy c _ h=>?_,λ_=>hd,cL.frames_deeper e0.frames,.inr #[rfl,rfl],λb z=>T7 z<|noA b,e0.bs,e0.bsz,λb _ _=>noA b,λb z=>T7 z<|noA b,e0.funs,e0.frf],
  rfl,e0.bare,Un.kept hk,#[_,x.toInCall.ns,λi y v h1 h2 h3=>?_],λy c h=>#[_,x.cell y c h],e0.hok.fresh<|aH _,λy c h=>?_,λp hp=>T7 (show p∈([]:List (aJ×fA))from hp) (by simp),e0.hok.kept hk,?_]
 .exact name_of_addr x.apart (eR h1)<|eR h2
 .have hy:=hy
  rcases hy with hy|hy
  .exact zy hy
  .exact T7 rfl<|S.nofree _<|eR hy
 .exact gw<|x.above y c<|eR h
 .have hi:i<vs.length:=by
   unfold start at h2;by_cases hi:i<vs.length
   .exact hi
   .rw[bB<|by simpa using hi]at h2
    rw[cT]at h2;split at h2<;>cases h2
  have ha:vs[i]?=aa v:=by
   unfold start at h2;rw[bT (by simpa using hi),aM]at h2
   cases e:vs[i]? with|none=>rw[e]at h2;cases h2|some a=>rw[e]at h2;cases h2;rfl
  obtain⟨u,hu,rv⟩:=r.get ha;have hp:ps[i]?=aa y:=by
   rw[<-S.pre,List.getElem?_take_of_lt (by lia)];exact h1
  have ndP:ps.Nodup:=by rw[<-S.pre];exact S.nd.sublist<|m3 _ _
  refine#[u,rv,?_];rcases S.par y (dL hp)with k|k
  .exact .inl #[k,Qy ndP hp hu k]
  .obtain⟨c,e⟩:=zy k
   refine .inr #[.inl k,c,e,?_];have q:=x.cell y c e;rw[Qp ndP hp hu<|by show scope.names.lookup y≠_;rw[k];decide]at q
   exact q
 .exact e0.hok.fresh<|gw<|x.above y c<|eR h
 .unfold start
  show _=N.length;rw[bc,aw,b8];lia
def Zeq{CX:CXT}{P:bC}{w:bU}{K:aq}{mg:bx->Option ap}{base:cc}{k:Nat}{f:aJ}{name qual:bx}{params:Arguments}{body:List fG}{scope:eX}{dV kV doc pm cdv ct oc:ap}{an od:Option aJ}
  {osl:Array (Option ap)}{N ps:List bx}{sp:Sp}(lk:K.lookup f=aa #[oc,od,.func<|dW name qual params body scope dV kV doc pm an cdv ct,osl])(hcd:iK K cdv qual=aj)(S:FnScope N ps scope)
  (len:∀vs H Q E,sp vs H Q E->vs.length=ps.length)
  (hbody:∀(A:cL)(outer:List Env)(s:ax)(H:Hp)(vs:List V)(Q:VK)(E:XK),Room k (A.deeper<|iJ qual scope s.heap.objs.size f cdv)->sp vs H Q E->
   ∃t,PSs (zC CX P w K mg base N qual scope f cdv A outer s H E) body t/\t {nx:=λ_ H'=>Q .non H',rt:=Q} (start N vs) H) :
  FnOk P w K mg base CX (k+1) f (dW name qual params body scope dV kV doc pm an cdv ct) ps sp:=by
 refine#[len,λA outer s H args us vs Q E hr e0 hb r hsp=>?_]
 have hl:=len _ _ _ _ hsp;have KX:=e0.mod.kin.keeps λb o e=>(e0.bs b o e).1
 have lim:=e0.mod.nolimit.keeps λb o e=>(e0.bs b o e).1
 have hkind:∀y∈ps.zip us,scope.names.lookup y.1=aa .local\/(scope.names.lookup y.1=aa .cell/\((d3 (s.heap.objs.size+1) scope.names []).lookup y.1).isSome=aj):=by
  rintro ⟨n,v⟩ hy;rcases S.par n (hZ hy).1 with q|q
  .exact .inl q
  .exact .inr #[q,kX _ _ _<|.inl q]
 refine codeAny_call_function hr.depth (KX _ _ lk) rfl S.co S.gen rfl (PySem.W.codeRec_of KX hcd)<|hb _ _ _ _ ?_;refine wpAny_newFunctionEnv_cells S.kind hkind λenv he s1 x=>?_
 subst he;refine#[lim.keeps x.toInCall.keep,codeAny_func ?_];obtain⟨t,ht,hq⟩:=hbody A outer s H vs Q E (hr.deeper _) hsp;have I:Inv (zC CX P w K mg base N qual scope f cdv A outer s H E) [] (start N vs) H s1:=vC S hr.hd e0 hl r x;refine dD (ht [] s1 (start N vs) H _ I hq) (λfl s' hs=>?_) λe s' hs=>hs
 have fin:∀{σ':St}{H':Hp}{v:V}{u:ap},Inv (zC CX P w K mg base N qual scope f cdv A outer s H E) [] σ' H' s'->Zu v u->Q v H'->CE outer P w H s Q u s':=
  λ{σ' H' v u} J rv q=>#[v,H',J.os,J.bare,J.base,J.hok,rv,q]
 cases fl with
 |ret u=>
  obtain⟨v,σ',H',J,rv,q⟩:=hs;exact fin J rv q
 |next=>
  obtain⟨σ',H',J,q⟩:=hs;exact fin (v:=V.non) J rfl q
 |brk=>
  obtain⟨_,_,_,q⟩:=hs;exact False.elim q
 |cont=>
  obtain⟨_,_,_,q⟩:=hs;exact False.elim q
section
variable{X:Cx}{x:bx}{p pos:gW}{e:Expr}{es:List Expr}{t:TA}{id T:String}{r:List V->Hp->VK->Prop}
def tCB(r:List V->Hp->VK->Prop)(t:TA):TE:=λZ H Q=>t Z H λvs H1=>r vs H1 Q
def WH(hc:ZI X (.builtin id) r)(hg:Gl X x)(hm:X.mg x=ag)(hv:cZ x=aa (.builtin id))(ha:PA X (e::es) t)(hn:x≠"__name__":=by decide)(hdb:(x == ("__debug__" : bx))=ak:=by decide)
  (he:aE (e::es) X.env=(ak,cD e X.env)::aE es X.env:=by rfl)(hpl:(dz pos<|aE es X.env).any (·.1)=ak:=by rfl):PE X (.Call (.Name x p) (e::es) [] pos) (tCB r t):=by
 intro pq s Z H Q I h;refine d8<|YX I hg hm hv ?_ hn hdb;exact gP (thn (ha pos pq s Z H _ I h)<|by rintro us s1 ⟨vs,H1,I1,r1,q1⟩;exact hc pq s1 Z H1 vs us Q I1 r1 q1) he hpl
def U9(hc:ZI X (.type T) r)(hg:Gl X x)(hm:X.mg x=ag)(hv:cZ x=aa (.type T))(ha:PA X (e::es) t)(hn:x≠"__name__":=by decide)(hdb:(x == ("__debug__" : bx))=ak:=by decide)
  (he:aE (e::es) X.env=(ak,cD e X.env)::aE es X.env:=by rfl)(hpl:(dz pos<|aE es X.env).any (·.1)=ak:=by rfl):PE X (.Call (.Name x p) (e::es) [] pos) (tCB r t):=by
 intro pq s Z H Q I h;refine d8<|YX I hg hm hv ?_ hn hdb;exact cQ (thn (ha pos pq s Z H _ I h)<|by rintro us s1 ⟨vs,H1,I1,r1,q1⟩;exact hc pq s1 Z H1 vs us Q I1 r1 q1) he hpl
end
end L2
namespace HT
open PySem PyProof.Rows
section
variable{prog:bC}{w:bU}{A:cL}{E:ap->ax->Prop}{s:ax}
def ZaP{Q:ap->ax->Prop}(ht:oa s.heap t vs.toArray)(hb:oa s.heap b ws.toArray)(hv:vs≠[])
  (h1:ws=[]->Q (.ref t) s)(h2:ws≠[]->Q (.ref s.heap.objs.size) {s with heap:=s.heap.push {cls:=.type "tuple",data:=.seq (vs++ws).toArray}})
  (hsz:vs.length+ws.length<=aZ):aV (aS prog w) A (eJ .Add (.ref t)<|.ref b) Q E s:=by
 obtain⟨⟨cls,dd,data,sl⟩,ho,hc,n,hd⟩:=id ht;obtain⟨⟨cls2,dd2,data2,sl2⟩,ho2,hc2,n2,hd2⟩:=id hb;simp only at hc hd hc2 hd2;subst hc hd hc2 hd2;have e:vs.toArray++ws.toArray=(vs++ws).toArray:=by simp
 by_cases hw:ws=[]
 .exact m4 #[_,ho,rfl] #[_,ho2,rfl] kK mr gB gn (fX _ _)
   (tuple_addW1 t b vs.toArray ws.toArray n n2 dd dd2 sl sl2 (by simpa using hv)<|by simp[hw]) #[ho,ho2,h1 hw]
 .refine m4 #[_,ho,rfl] #[_,ho2,rfl] kK mr gB gn (fX _ _)
   (tuple_addW2 t b vs.toArray ws.toArray n n2 dd dd2 sl sl2 (by simpa using hv) (by simpa using hw)<|by rw[ay,ay];exact hsz) #[ho,ho2,?_]
  rw[e];exact h2 hw
noncomputable def sIx(n d:Nat):Option Int->Nat
 |none=>d
 |some v=>if v<0 then(v+(n:Int)).toNat else pc v.toNat n
theorem ZcS(n d:Nat)(hd:d<=n)(o:Option Int):sIx n d o<=n:=by
 cases o with
 |none=>exact hd
 |some v=>
  show(if v<0 then(v+(n:Int)).toNat else pc v.toNat n)<=n
  by_cases hv:v<0
  .rw[T9 hv];lia
  .rw[T8 hv];exact Nat.min_le_right _ _
theorem wa(v:Int)(n d:Nat):(if v<0 then max (v+(n:Int)) 0 else pc v (n:Int))=((sIx n d (aa v):Nat):Int):=by
 show(if v<0 then max (v+(n:Int)) 0 else pc v (n:Int))=(((if v<0 then(v+(n:Int)).toNat else pc v.toNat n):Nat):Int)
 by_cases hv:v<0
 .simp only[T9 hv];lia
 .simp only[T8 hv];lia
theorem zP(lo hi:Option Int)(n:Nat):fS lo hi 1 (n:Int)=(((sIx n 0 lo:Nat):Int),((sIx n n hi:Nat):Int)):=by
 have h1:¬((1:Int)<0):=by lia
 unfold fS;simp only[h1,if_false];refine Prod.ext ?_ ?_
 .cases lo with|none=>rfl|some v=>exact wa v n 0
 .cases hi with|none=>rfl|some v=>exact wa v n n
theorem yQ(i j:Nat):eD (i:Int) (j:Int) 1=j-i:=by
 unfold eD;have h1:(1:Int)>0:=by lia
 simp only[h1,if_true,Int.ediv_one];split<;>lia
def Ua{Q:Option Int->ax->Prop}(p:kY v o)(h:Q o s):aV (aS prog w) A (db.Slice.slicePartIndex v) Q E s:=by
 cases p with|none=>exact slicePart_none h|int i t=>exact slicePart_int h
def Y3{sl:aJ}{vl vu:ap}{lo hi:Option Int}{n:Nat}{Q:Int×Int×Nat->ax->Prop}(hs:s.heap.IsSliceOf sl vl vu .none)(pl:kY vl lo)(pu:kY vu hi)
  (h:Q (((sIx n 0 lo:Nat):Int),1,sIx n n hi-sIx n 0 lo) s):aV (aS prog w) A (db.Slice.sliceApplied (.ref sl)<|dg (n:Int)) Q E s:=by
 obtain⟨os,hos,hcs,hds⟩:=id hs;refine ab<|ab<|da hos hds rfl<|ab<|da hos hds rfl<|ab<|da hos hds rfl<|au ?_;refine ab<|slicePart_none ?_;show aV _ _ (if((1:Int) == 0)=aj then _ else _) _ _ s
 rw[T8 (by decide)]
 refine ab<|Ua pl<|ab<|Ua pu<|ab<|au ?_;show aV _ _ (match fS lo hi 1 (n:Int)with|(lo,hi)=>dg (lo,(1:Int),eD lo hi 1)) _ _ s
 rw[zP lo hi n];show aV _ _ (dg (((sIx n 0 lo:Nat):Int),(1:Int),eD ((sIx n 0 lo:Nat):Int) ((sIx n n hi:Nat):Int) 1)) _ _ s;rw[yQ];exact au h
theorem jm(xs:Array ap)(i k:Nat):((aL k).filterMap λ(m:Nat)=>xs[((i:Int)+(m:Int)*1).toNat]?).toArray=((xs.toList.drop i).take k).toArray:=by
 have e:(λ(m:Nat)=>xs[((i:Int)+(m:Int)*1).toNat]?)=λm=>xs[i+m]?:=by
  funext m
  have:((i:Int)+(m:Int)*1).toNat=i+m:=by lia
  rw[this]
 rw[e];have:=pick_run xs i k;rw[List.filterMap_map]at this;have e2:((λx=>xs[x]?)∘λx=>i+x)=λm=>xs[i+m]?:=rfl
 rw[e2]at this;rw[this]
theorem WK{t sl:aJ}{items:Array ap}{vl vu:ap}{lo hi:Option Int}{Q:ap->ax->Prop}(ht:oa s.heap t items)(hs:s.heap.IsSliceOf sl vl vu .none)(pl:kY vl lo)(pu:kY vu hi)
  (hw:¬(sIx items.size 0 lo=0/\sIx items.size items.size hi=items.size))
  (h:Q (.ref s.heap.objs.size) {s with heap:=s.heap.push {cls:=.type "tuple",data:=.seq ((items.toList.drop<|sIx items.size 0 lo).take<|sIx items.size items.size hi-sIx items.size 0 lo).toArray}})
  (hsz:items.size<=aZ):aV (aS prog w) A (l9 (.ref t)<|.ref sl) Q E s:=by
 have htake:sizeOk (.seq ((items.toList.drop<|sIx items.size 0 lo).take<|sIx items.size items.size hi-sIx items.size 0 lo).toArray):=by
  show((items.toList.drop<|sIx items.size 0 lo).take<|sIx items.size items.size hi-sIx items.size 0 lo).toArray.size<=aZ;rw[ay,bz,bo,aI];lia
 have hj:sIx items.size items.size hi<=items.size:=ZcS _ _ (aH _) hi;obtain⟨os,hos,hcs,hds⟩:=id hs;have hTs:s.TypeIs (.ref sl) "slice":=#[os,hos,hcs];unfold l9
 try with_reducible refine bI ?_
 first|refine ab<|au ?_|skip
 refine ab<|m5 ht.typeIs (by decide) ?_
 refine ab (cC ht.typeIs dA
  (cg dA ht.typeIs mf ?_<|mJ _ _))
 show aV _ _ (iL (.ref t) >>= _) _ _ s;refine ab<|tupleItemsOf_ ht ?_;refine ab<|fK hTs ?_;rw[T9 (by decide)]
 refine ab<|Y3 hs pl pu ?_;have hno:¬((((sIx items.size 0 lo:Nat):Int) == 0&&(1:Int) == 1&&(sIx items.size items.size hi-sIx items.size 0 lo) == items.size)=aj):=by
  intro q;rw[aF,aF]at q;have q1:=eS q.1.1;have q2:=eS q.2;exact hw #[by lia,by lia]
 show aV _ _ (if(((sIx items.size 0 lo:Nat):Int) == 0&&(1:Int) == 1&&(sIx items.size items.size hi-sIx items.size 0 lo) == items.size)=aj then _ else _) _ _ s
 rw[T8 hno,jm]
 first
  |exact ab<|bD (au #[_,rfl,au h]) htake
  |exact ab<|bD (ab<|au<|au #[_,rfl,au h]) htake
  |exact ab<|ab<|bD (au<|au #[_,rfl,au h]) htake
  |exact ab<|ab (m:=db.Tuple.tupleExact _)<|bD (au #[_,rfl,au h]) htake
end
end HT
namespace L2
open PySem PySem.Spec PyProof.Rows
abbrev TO:=St->Hp->(Option Int->Hp->Prop)->Prop
def PO(X:Cx)(e:Option Expr)(t:TO):Prop:=
 ∀(pq:List (aJ×fA))(s:ax)(Z:St)(H:Hp)(Q:Option Int->Hp->Prop),Inv X pq Z H s->t Z H Q->
  aV (aS X.prog X.w) X.A (evalPart e X.env) (λu s'=>∃o H',Inv X pq Z H' s'/\kY u o/\Q o H') X.xe s
def ZbS:TO:=λ_ H Q=>Q ag H
def ZeQ(t:TE):TO:=λZ H Q=>t Z H λx H1=>∃i,x=.int i/\Q (aa i) H1
section
variable{X:Cx}{e:Expr}{te:TE}{lo hi:Option Expr}{tl th:TO}{pos p2:gW}
def Zbk:PO X ag ZbS:=by
 intro pq s Z H Q I h;rw[evalPart_none];exact au #[ag,H,I,.none,h]
def ZN(h:PE X e te):PO X (aa e) (ZeQ te):=by
 intro pq s Z H Q I hw;rw[evalPart_some];refine thn (h pq s Z H _ I hw) λu s1 #[x,H1,I1,r1,q1]=>?_
 obtain⟨i,rfl,q⟩:=q1;obtain⟨t,rfl⟩:=r1;exact#[aa i,H1,I1,.int i t,q]
def SlR(X:Cx)(r:V->Option Int->Option Int->Hp->VK->Prop):Prop:=
 ∀(pq:List (aJ×fA))(s:ax)(Z:St)(H:Hp)(x:V)(v vl vu:ap)(lo hi:Option Int)(sl:aJ)(Q:VK),Inv X pq Z H s->Zu x v->s.heap.IsSliceOf sl vl vu .none->kY vl lo->kY vu hi->r x lo hi H Q->
  ∃T id,oO (.type T) "__getitem__" = dg (aa<|.builtin id)/\s.TypeIs v T/\aV (aS X.prog X.w) X.A (l9 v<|.ref sl) (EP X pq Z Q) X.xe s
def SlR.or{r r':V->Option Int->Option Int->Hp->VK->Prop}(h:SlR X r)(h':SlR X r'):SlR X (λx lo hi H Q=>r x lo hi H Q\/r' x lo hi H Q):=by
 intro pq s Z H x v vl vu lo hi sl Q I rx hs pl pu q;rcases q with q|q
 .exact h pq s Z H x v vl vu lo hi sl Q I rx hs pl pu q
 .exact h' pq s Z H x v vl vu lo hi sl Q I rx hs pl pu q
def tSl(r:V->Option Int->Option Int->Hp->VK->Prop)(te:TE)(tl th:TO):TE:=λZ H Q=>te Z H λx H1=>tl Z H1 λl H2=>th Z H2 λu H3=>r x l u H3 Q
def jA{r:V->Option Int->Option Int->Hp->VK->Prop}(hr:SlR X r)(he:PE X e te)(hl:PO X lo tl)(hu:PO X hi th):PE X (.Subscript e (.Slice lo hi ag p2) pos) (tSl r te tl th):=by
 intro pq s Z H Q I h;refine Subscript_<|thn (he pq s Z H _ I h) λv s1 #[x,H1,I1,r1,q1]=>?_
 refine wpAny_Slice<|thn (hl pq s1 Z H1 _ I1 q1) λvl s2 #[l,H2,I2,pl,q2]=>thn (hu pq s2 Z H2 _ I2 q2) λvu s3 #[u,H3,I3,pu,q3]=>?_
 rw[evalPart_none];refine au ?_;have I4:Inv X pq Z H3 {s3 with heap:=s3.heap.push {cls:=.type "slice",data:=.fields [vl,vu,.none].toArray}}:=I3.kept (t':=s3.toks) λb ob q=>ao _ q
 obtain⟨T,id,hT,ht,hg⟩:=hr pq {s3 with heap:=s3.heap.push {cls:=.type "slice",data:=.fields [vl,vu,.none].toArray}} Z H3 x v vl vu l u s3.heap.objs.size Q I4 r1 (cc.IsSliceOf.new ..) pl pu q3
 exact tail_any ht hT hg (by with_unfolding_all rfl)
noncomputable def Xp(xs:List V)(lo hi:Option Int):List V:=(xs.drop<|HT.sIx xs.length 0 lo).take<|HT.sIx xs.length xs.length hi-HT.sIx xs.length 0 lo
theorem VF(xs:List V)(lo hi:Option Int):(Xp xs lo hi).length<=xs.length:=by
 unfold Xp;rw[bz,bo];lia
def ZfJ(K:aq):V->Option Int->Option Int->Hp->VK->Prop:=λx lo hi H Q=>∃a xs,x=.ref a/\SqT K H a xs/\
 ¬(HT.sIx xs.length 0 lo=0/\HT.sIx xs.length xs.length hi=xs.length)/\∀p,H p=ag->Q (.ref p) (upd H p<|.tup<|Xp xs lo hi)
def Zec:SlR X (ZfJ X.K):=by
 intro pq s Z H x v vl vu lo hi sl Q I rx hs pl pu h;obtain⟨a,xs,rfl,hx,hw,q⟩:=h;cases rx;obtain⟨its,r,ht,hz⟩:=I.tuple hx;have hlen:its.toArray.size=xs.length:=by rw[ay];exact r.length.symm
 refine#["tuple",_,dA.lookup,ht.typeIs,?_];refine HT.WK ht hs pl pu (by rw[hlen];exact hw) ?_ (by rw[hlen];exact hz)
 rw[hlen];refine#[.ref s.heap.objs.size,_,I.laid (t':=s.toks) (λb ob q=>ao _ q) (aH _) ?_,rfl,q _<|I.hok.fresh<|aH _]
 exact#[cn (VF xs lo hi) hz,_,(r.drop<|HT.sIx xs.length 0 lo).take<|HT.sIx xs.length xs.length hi-HT.sIx xs.length 0 lo,iF _ _]
def Zcj(K:aq):R2:=λx y H Q=>∃a b xs ys,x=.ref a/\y=.ref b/\SqT K H a xs/\SqT K H b ys/\xs≠[]/\xs.length+ys.length<=aZ/\
 (ys=[]->Q (.ref a) H)/\(ys≠[]->∀p,H p=ag->Q (.ref p) (upd H p<|.tup<|xs++ys))
def Vals.nil_iff(r:Vals xs us):us=[]↔xs=[]:=by
 cases r with|nil=>simp|cons _ _=>simp
def ZbV:OpR X (eJ .Add) (Zcj X.K):=by
 intro pq s Z H x y v u Q I rx ry h;obtain⟨a,b,xs,ys,rfl,rfl,ha,hb,hx,hz,q1,q2⟩:=h;cases rx;cases ry;obtain⟨its,r1,p1,_⟩:=I.tuple ha;obtain⟨its2,r2,p2,_⟩:=I.tuple hb;refine HT.ZaP p1 p2 (λz=>hx<|r1.nil_iff.mp z) (λz=>#[.ref a,H,I,rfl,q1<|r2.nil_iff.mp z]) (λz=>?_) (by rw[<-r1.length,<-r2.length];exact hz)
 refine#[.ref s.heap.objs.size,_,I.laid (t':=s.toks) (λb ob q=>ao _ q) (aH _) ?_,rfl,q2 (λw=>z<|r2.nil_iff.mpr w) _<|I.hok.fresh<|aH _]
 exact#[by rw[bc];exact hz,_,r1.append r2,iF _ _]
end
noncomputable def ixN(n:Nat)(i:Int):Option Nat:=if 0<=i then(if i<n then aa i.toNat else ag)else if -(n:Int)<=i then aa (i+n).toNat else ag
noncomputable def atI{B:Type}(xs:List B)(i:Int):Option B:=(ixN xs.length i).bind λj=>xs[j]?
def xB(h:ixN n i=aa j):seqIndex? i n=aa j/\j<n/\-(n:Int)<=i/\i<n:=by
 unfold ixN at h;by_cases h0:0<=i
 .rw[T9 h0]at h
  by_cases h1:i<n
  .rw[T9 h1]at h
   have e:=al h;exact#[by rw[og h0 h1,e],by lia,by lia,h1]
  .rw[T8 h1]at h;cases h
 .rw[T8 h0]at h
  by_cases h1:-(n:Int)<=i
  .rw[T9 h1]at h
   have e:=al h;exact#[by rw[m7 (by lia) h1,e],by lia,h1,by lia]
  .rw[T8 h1]at h;cases h
def Jy{B:Type}{xs:List B}{i:Int}{v:B}(h:atI xs i=aa v):∃j,seqIndex? i xs.length=aa j/\xs[j]?=aa v/\j<xs.length/\-(xs.length:Int)<=i/\i<xs.length:=by
 unfold atI at h;cases e:ixN xs.length i with
 |none=>rw[e]at h;cases h
 |some j=>
  rw[e]at h;obtain⟨h1,h2,h3,h4⟩:=xB e;exact#[j,h1,h,h2,h3,h4]
def Ja(b:Expr):Prop:=∀o i,subscripted b ak o i=operate [o,i] (l9 o i)
def IxR(X:Cx)(r:R2):Prop:=
 ∀(value slice:Expr)(pq:List (aJ×fA))(s:ax)(Z:St)(H:Hp)(x y:V)(v u:ap)(Q:VK),Inv X pq Z H s->Zu x v->Zu y u->r x y H Q->
  subscripted slice ak v u=operate [v,u] (l9 v u)->aV (aS X.prog X.w) X.A (subscriptTail value slice v u) (EP X pq Z Q) X.xe s
def MtR(X:Cx)(id:String)(r:V->List V->Hp->VK->Prop):Prop:=
 ∀(pq:List (aJ×fA))(s:ax)(Z:St)(H:Hp)(x:V)(xs:List V)(v:ap)(us:List ap)(Q:VK),Inv X pq Z H s->Zu x v->Vals xs us->r x xs H Q->
  aV (aS X.prog X.w) X.A (call (.builtin id) (v::us)) (EP X pq Z Q) X.xe s
section
variable{X:Cx}{a b:Expr}{ta tb:TE}{pos:gW}
def IxR.or(h:IxR X r)(h':IxR X r'):IxR X (λx y H Q=>r x y H Q\/r' x y H Q):=by
 intro value slice pq s Z H x y v u Q I rx ry q hs;rcases q with q|q
 .exact h value slice pq s Z H x y v u Q I rx ry q hs
 .exact h' value slice pq s Z H x y v u Q I rx ry q hs
def xT(hr:IxR X r)(ha:PE X a ta)(hb:PE X b tb)(hs:Ja b):PE X (.Subscript a b pos) (tOp r ta tb):=by
 intro pq s Z H Q I h;exact Subscript_<|ZcI ha hb I h λv u s2 x y H2 I2 rx ry q=>hr a b pq s2 Z H2 x y v u Q I2 rx ry q<|hs _ _
def ZfO(K:aq):R2:=λx y H Q=>∃p xs i v,x=.ref p/\y=.int i/\SqL K H p xs/\atI xs i=aa v/\Q v H
def Zft(K:aq):R2:=λx y H Q=>∃p xs i v,x=.ref p/\y=.int i/\SqT K H p xs/\atI xs i=aa v/\Q v H
def Zfy:R2:=λx y H Q=>∃z i c,x=.str z/\y=.int i/\z.length<=aZ/\atI z.cps.toList i=aa c/\Q (.str ⟨#[c]⟩) H
theorem Jt:IxR X (ZfO X.K):=by
 intro value slice pq s Z H x y v u Q I rx ry h hs;obtain⟨p,xs,i,z,rfl,rfl,hq,he,q⟩:=h;cases rx;obtain⟨t,rfl⟩:=ry;obtain⟨its,r,pl,hz⟩:=I.list hq;obtain⟨j,h1,h2,h3,h4,h5⟩:=Jy he;obtain⟨w,ew,rw'⟩:=r.get h2;have hl:=r.length;have hn:=Vb;have fin:EP X pq Z Q w s:=#[z,H,I,rw',q];by_cases h0:0<=i
 .have hj:i.toNat=j:=by
   rw[og h0 h5]at h1;exact al h1
  exact item_listR pl.isList h0 (by lia) (by rw[hj];simpa using ew) fin hs
 .have hj:(i+(its.toArray.size:Int)).toNat=j:=by
   rw[m7 (by lia) h4]at h1
   rw[ay,<-hl];exact al h1
  exact kZ pl.isList.typeIs slot_list_getitem.lookup
   (wpAny_getItem_list_neg pl.isList (by lia) (by rw[ay]<;>lia) (by lia) (by rw[hj];simpa using ew) #[rfl,fin]) hs
theorem Zc2:IxR X (Zft X.K):=by
 intro value slice pq s Z H x y v u Q I rx ry h hs;obtain⟨p,xs,i,z,rfl,rfl,hq,he,q⟩:=h;cases rx;obtain⟨t,rfl⟩:=ry;obtain⟨its,r,pl,hz⟩:=I.tuple hq;obtain⟨j,h1,h2,h3,h4,h5⟩:=Jy he;obtain⟨w,ew,rw'⟩:=r.get h2;have hl:=r.length;have hn:=Vb;have fin:EP X pq Z Q w s:=#[z,H,I,rw',q];exact kZ pl.typeIs slot_tuple_getitem.lookup
  (getItem_tuple pl (by lia) (by lia) (by rw[ay,<-hl];exact h1) (by simpa using ew) #[rfl,fin]) hs
theorem ZcV:IxR X Zfy:=by
 intro value slice pq s Z H x y v u Q I rx ry h hs;obtain⟨z,i,c,rfl,rfl,hz,he,q⟩:=h;obtain⟨t,rfl⟩:=rx;obtain⟨t',rfl⟩:=ry;obtain⟨j,h1,h2,h3,h4,h5⟩:=Jy he;have hl:z.cps.toList.length=z.length:=by simp[oP]
 rw[hl]at h1 h4 h5;have hn:=Vb;exact tail_any (iM s z t) slot_str_getitem.lookup (getItem_str (c:=c) (by
  have e1:ae (i < -(2^63:Int))=ak:=T4 (by lia)
  have e2:ae (i>=2^63)=ak:=T4 (by lia)
  rw[e1,e2,pf]) (by rw[h1];simpa using h2) #[.str ⟨#[c]⟩,H,I.tok _,#[_,rfl],q]) hs
def zT(its:List ap)(n j:Nat)(u:ap):d9 (·.setIfInBounds j u) {cls:=.type "list",data:=.seq its.toArray n}={cls:=.type "list",data:=.seq (its.set j u).toArray n}:=by
 simp[d9]
theorem Inv.lst{pq:List (aJ×fA)}{Z:St}{H:Hp}{s:ax}{p:aJ}{xs:List V}(I:Inv X pq Z H s)(h:H p=aa (.lst xs)) :
  ∃(its:List ap)(n:Nat),Vals xs its/\s.heap.get? p=aa {cls:=.type "list",data:=.seq its.toArray n}/\xs.length<=aZ:=by
 obtain⟨z,its,n,r,e⟩:=I.hok p _ h;exact#[its,n,r,e,z]
def Inv.lstUpd{pq:List (aJ×fA)}{Z:St}{H:Hp}{s:ax}{p:aJ}{xs ys:List V}{its its':List ap}{n n':Nat}{f:fA->fA}(I:Inv X pq Z H s)(h:H p=aa (.lst xs))
  (ho:s.heap.get? p=aa {cls:=.type "list",data:=.seq its.toArray n})(hf:f {cls:=.type "list",data:=.seq its.toArray n}={cls:=.type "list",data:=.seq its'.toArray n' })(r:Vals ys its')(hz:ys.length<=aZ)(t:Nat) :
  Inv X pq Z (upd H p<|.lst ys) {s with heap:=s.heap.update p f,toks:=t}:=by
 have e:(s.heap.update p f).get? p=aa {cls:=.type "list",data:=.seq its'.toArray n' }:=by
  rw[de f ho (by rw[hf]<;>rfl),hf]
 refine I.write (by rw[h];trivial) (.inl rfl) (λb u hb q=>(k5 _ _<|Ne.symm hb).trans q) #[_,e] ?_
 exact#[hz,its',n',r,e]
def ZeI:V->V->V->Hp->(Hp->Prop)->Prop:=λo i v H Q=>∃p xs k j,o=.ref p/\i=.int k/\H p=aa (.lst xs)/\ixN xs.length k=aa j/\Q (upd H p<|.lst<|xs.set j v)
theorem u8:PSet X ZeI:=by
 intro pq s Z H o i v ov iv u Q I ro ri rv h;obtain⟨p,xs,k,j,rfl,rfl,hp,hj,q⟩:=h;cases ro;obtain⟨t,rfl⟩:=ri;obtain⟨its,n,r,ho,hz⟩:=I.lst hp;obtain⟨h1,h2,h3,h4⟩:=xB hj;have hl:=r.length;have hn:=Vb;have I':=
  I.lstUpd hp ho (zT its n j u) (r.set rv j) (by rw[bZ];exact hz) s.toks
 by_cases h0:0<=k
 .have hk:k.toNat=j:=by
   rw[og h0 h4]at h1;exact al h1
  exact PySem.W.ki_setAt ho h0 (by lia) (by rw[ay,<-hl];exact h4) (by rw[hk];exact#[_,I',q])
 .have hk:(k+(its.toArray.size:Int)).toNat=j:=by
   rw[m7 (by lia) h3]at h1
   rw[ay,<-hl];exact al h1
  exact PySem.W.ki_setBack ho (by lia) (by rw[ay,<-hl];exact h3) (by lia) (by rw[hk];exact#[_,I',q])
theorem Jx(lo hi:Option Int)(n:Nat):(gp lo hi ag n).1=((HT.sIx n 0 lo:Nat):Int)/\(gp lo hi ag n).2.1=((HT.sIx n n hi:Nat):Int)/\(gp lo hi ag n).2.2=1:=by
 refine#[?_,?_,rfl]
 .cases lo with
  |none=>simp[gp,HT.sIx]
  |some i=>
   simp only[gp,HT.sIx,nM,show(1:Int)>0 by decide,if_true]
   by_cases h:i<0
   .simp only[h,if_true]<;>lia
   .simp only[h,if_false]<;>lia
 .cases hi with
  |none=>simp[gp,HT.sIx]
  |some i=>
   simp only[gp,HT.sIx,nM,show(1:Int)>0 by decide,if_true]
   by_cases h:i<0
   .simp only[h,if_true]<;>lia
   .simp only[h,if_false]<;>lia
def UN(its:List ap)(lo hi:Option Int):slicePick its.toArray lo hi ag=((its.drop<|HT.sIx its.length 0 lo).take<|HT.sIx its.length its.length hi-HT.sIx its.length 0 lo).toArray:=by
 obtain⟨h1,h2,h3⟩:=Jx lo hi its.toArray.size;unfold slicePick;rw[h1,h2,h3];simp only[sliceRange_one,pick_run,ay]<;>rfl
def Zf1(K:aq):V->Option Int->Option Int->Hp->VK->Prop:=λx lo hi H Q=>∃a xs,x=.ref a/\SqL K H a xs/\∀p,H p=ag->Q (.ref p) (upd H p<|.lst<|Xp xs lo hi)
theorem ZaC:SlR X (Zf1 X.K):=by
 intro pq s Z H x v vl vu lo hi sl Q I rx hs pl pu h;obtain⟨a,xs,rfl,hx,q⟩:=h;cases rx;obtain⟨its,r,ht,hz⟩:=I.list hx;have hlen:=r.length;refine#["list",_,slot_list_getitem.lookup,ht.isList.typeIs,?_];refine wpAny_getItem_list_slice ht.isList hs pl pu .none (by simp) ?_ (by rw[ay]<;>lia)
 rw[UN,<-hlen];refine#[.ref s.heap.objs.size,_,I.laid (t':=s.toks) (λb ob q=>ao _ q) (aH _) ?_,rfl,q _<|I.hok.fresh<|aH _]
 exact#[cn (VF xs lo hi) hz,_,0,(r.drop<|HT.sIx xs.length 0 lo).take<|HT.sIx xs.length xs.length hi-HT.sIx xs.length 0 lo,aD _ rfl]
noncomputable def wg:V->Bool
 |.non=>aj
 |.bl _=>aj
 |.int _=>aj
 |.str _=>aj
 |_=>ak
noncomputable def eqV:V->V->Bool
 |.non,.non=>aj
 |.bl a,.bl b=>a == b
 |.bl a,.int b=>(if a then 1 else 0) == b
 |.int a,.bl b=>a == (if b then 1 else 0)
 |.int a,.int b=>a == b
 |.str a,.str b=>a == b
 |_,_=>ak
def Zd2{A:cL}{s:ax}{y x:V}{u v:ap}(ry:Zu y u)(rx:Zu x v)(fy:wg y=aj)(fx:wg x=aj):gQ A s u v (eqV y x):=by
 cases y with
 |non=>
  cases ry;cases x with|non=>cases rx;exact h8 _|bl b=>cases rx;exact gQ.none_bool b|int b=>obtain⟨t,rfl⟩:=rx;exact gQ.none_int b t|str b=>obtain⟨t,rfl⟩:=rx;exact gQ.none_str b t|_=>exact T7 (fx) aG
 |bl a=>
  cases ry;cases x with|non=>cases rx;exact gQ.bool_none a|bl b=>cases rx;exact gQ.bool_bool a b|int b=>obtain⟨t,rfl⟩:=rx;exact gQ.bool_int a b t|str b=>obtain⟨t,rfl⟩:=rx;exact gQ.bool_str a b t|_=>exact T7 (fx) aG
 |int a=>
  obtain⟨t',rfl⟩:=ry;cases x with|non=>cases rx;exact gQ.int_none a t'|bl b=>cases rx;exact gQ.int_bool a t' b|int b=>obtain⟨t,rfl⟩:=rx;exact mK a t' b t|str b=>obtain⟨t,rfl⟩:=rx;exact mz a t' b t|_=>exact T7 (fx) aG
 |str a=>
  obtain⟨t',rfl⟩:=ry;cases x with|non=>cases rx;exact gQ.str_none a t'|bl b=>cases rx;exact gQ.str_bool a t' b|int b=>obtain⟨t,rfl⟩:=rx;exact mB a t' b t|str b=>obtain⟨t,rfl⟩:=rx;exact gQ.str_str a t' b t|_=>exact T7 (fx) aG
 |_=>exact T7 (fy) aG
theorem Q7:ZI X (.builtin "len") (λxs H Q=>∃p ys,xs=[.ref p]/\(SqL X.K H p ys\/SqT X.K H p ys)/\Q (.int ys.length) H):=by
 intro pq s Z H xs us Q I r h;obtain⟨p,ys,rfl,hq,q⟩:=h;obtain⟨u,rfl,rx⟩:=XJ r;cases rx;have hn:=Vb;rcases hq with hq|hq
 .obtain⟨its,r',pl,hz⟩:=I.list hq
  have hlen:=r'.length;exact Calls.call_len_list pl.isList (by simp only[ay]<;>lia) #[.int ys.length,H,I.tok _,#[s.toks+1,by rw[ay,hlen]],q]
 .obtain⟨its,r',pl,hz⟩:=I.tuple hq
  have hlen:=r'.length;exact len_tuple pl (by simp only[ay]<;>lia) #[.int ys.length,H,I.tok _,#[s.toks+1,by rw[ay,hlen]],q]
theorem UR:ZI X (.type "tuple") (λxs H Q=>∃p ys,xs=[.ref p]/\((SqL X.K H p ys/\∀l,H l=ag->Q (.ref l) (upd H l<|.tup ys))\/(SqT X.K H p ys/\Q (.ref p) H))):=by
 intro pq s Z H xs us Q I r h;obtain⟨p,ys,rfl,h⟩:=h;obtain⟨u,rfl,rx⟩:=XJ r;cases rx;rcases h with⟨hq,q⟩|⟨hq,q⟩
 .obtain⟨its,r',pl,hz⟩:=I.list hq
  have hlen:=r'.length;refine call_tuple_list pl.isList (λh' kp=>?_) (by simp only[ay]<;>lia)
  have I1:=I.kept (t':=s.toks) kp
  have I2:=
   I1.laid (t':=s.toks) (λb o e=>ao _ e) (aH _) (show Ym X.prog X.w _ _ _ (.tup ys)from#[hz,its,r',iF _ _])
  exact#[.ref h'.objs.size,_,I2,rfl,q _<|I1.hok.fresh<|aH _]
 .obtain⟨its,r',pl,hz⟩:=I.tuple hq
  exact call_tuple_same pl #[.ref p,H,I,rfl,q]
def tyV(K:aq)(T:String)(x:V)(H:Hp):Prop:=match x with
 |.str _=>T = "str"
 |.int _=>T = "int"
 |.ref p=>(T = "list"/\∃xs,SqL K H p xs)\/(T = "tuple"/\∃o,K.lookup p=aa o/\o.cls=.type "tuple"/\o.dict=ag)\/
   (T = "dict"/\((∃kvs,H p=aa (.dK kvs))\/∃kvs,H p=aa (.dT kvs)))\/(T = "set"/\∃S n,H p=aa (.set S n))
 |_=>False
def ZdR(I:Inv X pq Z H s)(r:Zu x v)(ty:tyV X.K T x H) :
  s.TypeIs v T/\∀a,v=.ref a->∃ob,s.heap.get? a=aa ob/\ob.dict=ag:=by
 cases x with
 |str z=>
  obtain⟨t,rfl⟩:=r;cases(ty)
  exact#[iM s z t,λ_ e=>nomatch e]
 |int i=>
  obtain⟨t,rfl⟩:=r;cases(ty)
  exact#[k6 s i t,λ_ e=>nomatch e]
 |ref p=>
  cases r;rcases ty with⟨rfl,xs,hq⟩|⟨rfl,o,hk,hc,hd⟩|⟨rfl,hk⟩|⟨rfl,S,n,hk⟩
  .obtain⟨its,_,pl,_⟩:=I.list hq
   refine#[pl.isList.typeIs,λa e=>?_]
   cases e;obtain⟨o,n,e,c,hd,_⟩:=pl;exact#[o,e,hd]
  .refine#[#[o,I.kIn p o hk,hc],λa e=>?_]
   cases e;exact#[o,I.kIn _ o hk,hd]
  .have z:∃o,s.heap.get? p=aa o/\o.ExactDict:=by
    rcases hk with⟨kvs,hk⟩|⟨kvs,hk⟩
    .obtain⟨_,_,_,_,o,_,_,e,ex,_⟩:=I.hok p _ hk
     exact#[o,e,ex]
    .obtain⟨_,_,_,_,o,_,_,e,ex,_⟩:=I.hok p _ hk
     exact#[o,e,ex]
   obtain⟨o,e,ex⟩:=z;refine#[#[o,e,ex.1],λa e2=>?_]
   cases e2;exact#[o,e,ex.2.1]
  .obtain⟨o,_,_,_,e,ex,_⟩:=I.hok p _ hk
   refine#[#[o,e,ex.1],λa e2=>?_]
   cases e2;exact#[o,e,ex.2.1]
 |_=>exact False.elim ty
def tBM(K:aq)(T:String)(r:V->List V->Hp->VK->Prop)(to:TE)(t:TA):TE:=λZ H Q=>to Z H λx H1=>tyV K T x H1/\t Z H1 λxs H2=>r x xs H2 Q
variable{o e:Expr}{es:List Expr}{to:TE}{t:TA}{name:bx}{apos cpos:gW}{T id:String}{r:V->List V->Hp->VK->Prop}
def xQ(pa:PlainAttrs T)(slot:Slot T name id)(hty:typeOf (.builtin id)=dg (.type "method_descriptor"))(hm:MtR X id r)(ho:PE X o to)(ha:PA X (e::es) t)
  (hbase:gX o name X.env (cD o X.env)=cD o X.env:=by rfl)
  (hfew:((dz cpos<|aE (e::es) X.env).all (λx=>!x.1)&&(m8 cpos<|kg [] X.env).all (λx=>x.1.isSome)
   && ae ((e::es).length+([]:List iB).length+(if([]:List iB).isEmpty then 0 else 1)<30))=aj:=by rfl)
  (hline:(apos.endLine == cpos.line)=aj:=by rfl)(hs:aE (e::es) X.env=(ak,cD e X.env)::aE es X.env:=by rfl)(hplain:(dz cpos<|aE es X.env).any (·.1)=ak:=by rfl) :
  PE X (.Call (.Attribute o name apos) (e::es) [] cpos) (tBM X.K T r to t):=by
 intro pq s Z H Q I h;refine wpAny_Call_method_late hbase hfew hline rfl<|thn (ho pq s Z H _ I h) λv s1 #[x,H1,I1,r1,ty,q1]=>?_
 obtain⟨h1,h2⟩:=ZdR I1 r1 ty;refine#[T,id,pa,slot,hty,h1,h2,?_];have hA:=ha cpos pq s1 Z H1 _ I1 q1;rw[hs]at hA ⊢;refine Calls.callWith_builtin (by show(ak||(dz cpos<|aE es X.env).any (·.1))=ak;rw[hplain]<;>rfl)<|Calls.evalArgs_plain ?_
 exact thn hA<|by rintro us s2 ⟨vs,H2,I2,r2,q2⟩;exact hm pq s2 Z H2 x vs v us Q I2 r1 r2 q2
end
def MtM(X:Cx)(id:String)(r:V->List V->Hp->VK->Prop):Prop:=
 ∀(pq:List (aJ×fA))(s:ax)(Z:St)(H:Hp)(x:V)(xs:List V)(v:ap)(us:List ap)(Q:VK),Inv X pq Z H s->Zu x v->Vals xs us->r x xs H Q->
  aV (aS X.prog X.w) X.A (call (.builtin id) (v::us)) (EP X pq Z Q) X.xe s
def Vals.one:∀{x:V}{us:List ap},Vals [x] us->∃u,us=[u]/\Zu x u
 |_,_,.cons r .nil=>#[_,rfl,r]
theorem Vals.rep(h:Vals xs us):∀k:Nat,Vals (aA k xs).flatten (aA k us).flatten
 |0=>.nil
 |k+1=>by
  rw[bN,bN,cE,cE];exact Vals.append h<|Vals.rep h k
theorem W5(its:List ap):∀(k:Nat)(acc:List ap),
  List.foldl (λx1 x2=>x1++x2) acc.toArray (aA k its.toArray)=(acc++(aA k its).flatten).toArray
 |0,acc=>by simp
 |k+1,acc=>by
  have e:acc.toArray++its.toArray=(acc++its).toArray:=by simp
  have e2:(acc++its)++(aA k its).flatten=acc++(aA (k+1) its).flatten:=by
   rw[bN,cE,bq]
  rw[<-e2,<-W5 its k (acc++its),<-e,bN,dQ]
section
variable{X:Cx}{pq:List (aJ×fA)}{Z:St}{H:Hp}{s:ax}{l b:aJ}{xs ys zs:List V}
def Inv.lset{its its':List ap}{n:Nat}{f:Array ap->Array ap}{t':Nat}(I:Inv X pq Z H s)(hH:H l=aa (.lst xs))
  (e:s.heap.get? l=aa {cls:=.type "list",data:=.seq its.toArray n})(hf:f its.toArray=its'.toArray)(hv:Vals ys its')(hz:ys.length<=aZ) :
  Inv X pq Z (upd H l<|.lst ys) {s with heap:=s.heap.update l<|d9 f,toks:=t' }:=by
 have q:=PySem.IsL.update e f;rw[hf]at q;refine I.write (by rw[hH];exact trivial) (.inl rfl) (λb' u hb hu=>(k5 s.heap (d9 f)<|Ne.symm hb).trans hu) #[_,q] ?_
 exact#[hz,its',_,hv,q]
def Inv.lnew(I:Inv X pq Z H s)(hv:Vals ys its)(hz:ys.length<=aZ) :
  Inv X pq Z (upd H s.heap.objs.size<|.lst ys) {s with heap:=s.heap.push {cls:=.type "list",data:=.seq its.toArray},toks:=t' }:=
 I.laid (λ_ _ q=>ao _ q) (aH _) #[hz,its,0,hv,aD _ rfl]
theorem Inv.fresh(I:Inv X pq Z H s):H s.heap.objs.size=ag:=I.hok.fresh<|aH _
def Inv.lstM(I:Inv X pq Z H s)(hH:H l=aa (.lst xs)):xs.length<=aZ/\∃(its:List ap)(n:Nat),Vals xs its/\xs.length=its.length/\s.heap.get? l=aa {cls:=.type "list",data:=.seq its.toArray n}:=by
 obtain⟨z,its,n,r,e⟩:=I.hok l _ hH;exact#[z,its,n,r,r.length,e]
theorem ZeR(h:n<=aZ):kw n=ak:=by
 exact T4 (by lia)
end
section
variable{X:Cx}
def ZaF:V->List V->Hp->VK->Prop:=λx vs H Q=>∃l xs y,x=.ref l/\vs=[y]/\H l=aa (.lst xs)/\xs.length<aZ/\Q .non (upd H l<|.lst<|xs++[y])
theorem QW:MtM X "list.append" ZaF:=by
 intro pq s Z H x vs v us Q I rx rv h;obtain⟨l,xs,y,rfl,rfl,hH,hz,q⟩:=h;cases rx;obtain⟨u,rfl,ru⟩:=rv.one;obtain⟨z,its,n,r,hl,e⟩:=I.lstM hH;refine fc F.slot_list_append #[_,e,rfl] F.entry_list_append (F.args_list_append_2 _ _) (PySem.list_append l its.toArray n u<|by rw[ay];lia) #[e,?_]
 refine#[.non,_,I.lset (its':=its++[u]) hH e (by simp) (r.append<|.cons ru .nil) ?_,rfl,q]
 rw[bc,dB];lia
def Zfq:V->List V->Hp->VK->Prop:=λx vs H Q=>∃l b xs zs,x=.ref l/\vs=[.ref b]/\H l=aa (.lst xs)/\H b=aa (.lst zs)/\xs.length+zs.length<=aZ/\Q .non (upd H l<|.lst<|xs++zs)
def ZeL:R2:=λx y H Q=>∃l b xs zs,x=.ref l/\y=.ref b/\H l=aa (.lst xs)/\H b=aa (.lst zs)/\xs.length+zs.length<=aZ/\∀p,H p=ag->Q (.ref p) (upd H p<|.lst<|xs++zs)
theorem ZdC:OpR X (eJ .Add) ZeL:=by
 intro pq s Z H x y v u Q I rx ry h;obtain⟨l,b,xs,zs,rfl,rfl,hH,hB,hz,q⟩:=h;cases rx;cases ry;obtain⟨z,its,n,r,hl,e⟩:=I.lstM hH;obtain⟨z2,its2,n2,r2,hl2,e2⟩:=I.lstM hB;refine PySem.P.add_list e e2 ?_ (by rw[ay,ay];lia)
 have ea:its.toArray++its2.toArray=(its++its2).toArray:=by simp
 rw[ea];exact#[.ref _,_,I.lnew (t':=s.toks) (r.append r2) (by rw[bc];lia),rfl,q _ I.fresh]
def JF{B:Type}(xs:List B)(k:Nat):(aA k xs).flatten.length=k*xs.length:=by
 induction k with|zero=>simp|succ k ih=>rw[bN,cE,bc,ih,Nat.succ_mul,m9]
end
end L2
namespace Att
open PySem PySem.W PySem.Calls PyProof.Rows
def VL :∀(ns:List Int)(vs:List ap),WellAll P h vs (ns.map WData.int)->gC vs ns:=by
 intro ns
 induction ns with
 |nil=>
  intro vs w;rw[List.map_nil]at w;cases w;exact .nil
 |cons n ns ih=>
  intro vs w;rw[aW]at w;cases w with
  |cons a b=>
   cases a;exact .cons _ _<|ih _ b
def vk{l:OpenLaw}{n:Nat}(hn:l.most=aa n){P:Params}{h:cc}{args:List WData}{vals:List ap}
  (hpre:l.row.toRowW.claim.pre args=aj)(hwl:WellAll P h vals args) :
  ∃a vs ns,vals=[bV a]/\args=[WData.list<|ns.map WData.int]/\h.get? a=aa {cls:=.type "list",data:=.seq vs.toArray}/\gC vs ns/\ns.length<=n:=by
 have hsh:=(pre_splitW hpre).1;have hc:l.pre.holds [] {args:=args}=aj:=(pre_splitW hpre).2;obtain⟨d,r,rfl,h1,h2⟩:=hasAllW_cons hsh;obtain rfl:=hasAllW_nil h2;obtain⟨xs,rfl,h3⟩:=hasW_list h1;obtain⟨ns,rfl⟩:=items_int h3;have hlen:ns.length<=n:=by
  have h4:(WTm.not<|.lt (.lit<|.int (n:Int))<|.len<|.arg 0).holds [] {args:=[.list<|ns.map .int]}=aj:=by
   have h4:=(holds_andW hc).1;rw[hn]at h4;exact h4
  have h5:=condW_of h4<|w_not<|w_lt w_lit<|w_len_list<|w_arg rfl;rw[aw]at h5;refine d4 λq=>?_
  have q':(n:Int)<((ns.length:Nat):Int):=by lia
  first
   |(rw[T5 q']at h5;exact T7 h5 (by decide))
   |(simp at h5;lia)
 cases hwl with
 |cons w1 w2=>
  cases w2;cases w1 with|list ho hall=>exact#[_,_,ns,rfl,rfl,ho,VL ns _ hall,hlen]
def wI(l:OpenLaw)(args:List WData):l.row.toRowW.claim.post args (.bool aj) args=aj:=
 postW_of
  (by first|rfl|decide|simp[WShape.has,WShape.arms,WShape.armsAll])
  (w_eq_bool (w_res rfl) w_lit) rfl
def GI{l:OpenLaw}{n:Nat}{q:bC}{loose:List bx}{XP:(bx->Option ap)->cc->Prop}{YP:bU->cc->Prop}{d:DefRec}
  (hn:l.most=aa n)(hdf:d.params.defaults=[])
  (call:∀(w:bU)(s₀ s₁:ax)(mg mb:bx->Option ap)(fa:aJ)(o:fA)(pm cd doc:ap)(a:aJ)(vs:List ap)(ns:List Int),
   Ground q loose [] XP w s₀ mg mb s₁.heap->YP w s₁.heap->
   s₁.heap.get? fa=aa o->o.data=.func (docDef d.name d.params d.body d.scope pm cd doc)->s₁.heap.CodeRec cd d.name->mg d.name=aa (.ref fa)->
   s₁.heap.get? a=aa {cls:=.type "list",data:=.seq vs.toArray}->gC vs ns->ns.length<=n->s₁.gens = #[]->
   iA (aS l.prog w) md (.call (.ref fa) #[[.ref a],[]]) (λr s'=>r=.ok (.ret<|.bool aj)/\OldK s₁.heap s'.heap/\s'.os=s₁.os/\ke s'.gens) s₁) :
  WalkO q loose XP YP l.row.toRowW d [] (λf vs=>oQ f vs):=by
 intro w s₀ s₁ mg mb G Y fa o pm cd doc dV kV ho hd hcd hD hmg hg args vals as hpre hlay hrd hwl hlo;obtain rfl:dV=.none:=Dflts.none hD hdf;obtain rfl:kV=.none:=Dflts.noKw hD;obtain⟨a,vs,ns,rfl,rfl,hobj,hints,hlen⟩:=vk hn hpre hwl;refine enter_call<|gz (call w s₀ s₁ mg mb fa o pm cd doc a vs ns G Y ho (fd_plain hd) hcd hmg hobj hints hlen hg) λr s' hq=>?_
 obtain⟨rfl,h2,h3,h4⟩:=hq;exact#[.inl #[.bool aj,.bool aj,[],rfl,λ_=>rfl,.bool aj,wI l _,λ_=>#[kh,λ_ hm=>(nomatch hm)]],h2,h3,h4]
end Att
namespace L2
open PySem PySem.Spec PyProof.Rows
theorem Xb:∀{vs:List ap}{ns:List Int},gC vs ns->Vals (ns.map V.int) vs
 |_,_,.nil=>.nil
 |_,_,.cons n t h=>.cons #[t,rfl]<|Xb h
def Only(H:Hp):Prop:=∀b,H b=ag\/∃o xs,H b=aa (.frz o<|.lst xs)
def uv{P:bC}{w:bU}{K:aq}{mg mb:bx->Option ap}{CX:CXT}{k:Nat}{fa a:aJ}{fd:c6}{x:bx}{sp:Sp}{s₁:ax}{vs:List ap}{ns:List Int}
  (KX:K.In s₁.heap)(hns:s₁.heap.Ns cG mg)(hb:s₁.heap.Ns mD mb)(hbb:∀x:bx,x≠"__name__"->mb x=cZ x)(hlim:s₁.heap.NoLimit)(hg:s₁.gens = #[])
  (ha:s₁.heap.get? a=aa {cls:=.type "list",data:=.seq vs.toArray})(hi:gC vs ns)(hl:ns.length<=aZ)(hr:Room k md)
  (F:∀base:cc,K.In base->base.Ns cG mg->FnOk P w K mg base CX k fa fd [x] sp)(hbind:∀(s:ax)(u:ap),mZ s fd #[[u],[]] [(x,u)])
  (hsp:∀H:Hp,Only H->SqL K H a (ns.map V.int)->sp [.ref a] H (λv _=>v=.bl aj) λ_ _ _=>False)
  (hCX:∀H e s',CX [] H s₁ (λ_ _ _=>False) e s'->False) :
  iA (aS P w) md (.call (.ref fa) #[[.ref a],[]]) (λr s'=>r=.ok (.ret<|.bool aj)/\OldK s₁.heap s'.heap/\s'.os=s₁.os/\ke s'.gens) s₁:=by
 have rv:=Xb hi;have lenV:=hi.length;have core:∀H:Hp,Only H->SqL K H a (ns.map V.int)->HOk P w H s₁.heap->(∀b,H b≠ag->b=a)->(H a≠ag->K.lookup a=ag)->
   iA (aS P w) md (.call (.ref fa) #[[.ref a],[]]) (λr s'=>r=.ok (.ret<|.bool aj)/\OldK s₁.heap s'.heap/\s'.os=s₁.os/\ke s'.gens) s₁:=by
  intro H hO hS hok hA hK;have base_of:∀{b:aJ}{o:fA},s₁.heap.get? b=aa o->H b=ag->(Q6 s₁.heap H).get? b=aa o:=λe n=>jp e n
  have noA:∀{b:aJ}{o:fA}{es:Array fL}{ep:Nat},s₁.heap.get? b=aa o->o.data=.dict es ep->H b=ag:=λ{b o es ep} e d=>by
   cases q:H b with
   |none=>rfl
   |some u=>
    have e':b=a:=hA b (by rw[q];simp)
    subst e';rw[ha]at e;cases e;have d':Data.seq vs.toArray _=Data.dict es ep:=d;cases d'
  have nsK:∀{b:aJ}{m:bx->Option ap},s₁.heap.Ns b m->(Q6 s₁.heap H).Ns b m:=λ{b m} #[o,es,ep,e,d,r]=>#[o,es,ep,base_of e<|noA e d,d,r]
  have hKb:K.In (Q6 s₁.heap H):=λb o e=>base_of (KX b o e) (by
   cases q:H b with
   |none=>rfl
   |some u=>
    have e':b=a:=hA b (by rw[q];simp)
    subst e';rw[hK<|by rw[q];simp]at e;cases e)
  have hM:Mod K mg (Q6 s₁.heap H):=#[hKb,nsK hns,#[mb,nsK hb,hbb],let #[mc,h1,h2]:=hlim;#[mc,nsK h1,h2]];have e0:Env0 P w K mg (Q6 s₁.heap H) md [] s₁ H:=#[rfl,hM,λb o e=>Zbm e,nc<|w4 _ _,trivial,λb hb=>T7 (show b∈([]:List aJ)from hb) (by simp),hok,.of_eq hg]
  refine gz ((F _ hKb<|nsK hns).run md [] s₁ H #[[.ref a],[]] [.ref a] [.ref a] _ _ hr e0 (hbind s₁<|.ref a) (.cons rfl .nil)<|hsp H hO hS) λr s' h=>?_
  cases r with
  |error e=>exact(hCX H e s' h).elim
  |ok fl=>
   cases fl with
   |next=>exact False.elim h
   |brk=>exact False.elim h
   |cont=>exact False.elim h
   |ret u=>
    obtain⟨v,H',os,bare,un,hok',r',q⟩:=h;have q':v=.bl aj:=q;subst q';obtain rfl:u=bX aj:=r';refine#[rfl,OldK.of_keep λb o e=>?_,os,bare]
    cases q:H b with
    |none=>exact un.keep b o e q (by intro z;exact T7 (show b∈([]:List aJ)from z)<|by simp) (by simp)
    |some u=>
     rcases hO b with z|⟨ob,xs,z⟩
     .rw[q]at z;cases z
     .have z2:=un.frzs b ob _ z
      obtain⟨e1,_⟩:=hok b _ z;obtain⟨e2,_⟩:=hok' b _ z2;rw[e]at e1;cases e1;exact e2
 cases hk:K.lookup a with
 |some o=>
  have e:=KX a o hk;rw[ha]at e;cases e;refine core (λ_=>ag) (λ_=>.inl rfl) (.inr #[_,vs.toArray,_,hk,rfl,rfl,rfl,by rw[ay,lenV];exact hl,by simpa using rv]) (λb u z=>by have z':(ag:Option HO)=aa u:=z;cases z') (λb z=>T7 rfl z) λz=>T7 rfl z
 |none=>
  refine core (λb=>if b=a then aa (.frz {cls:=.type "list",data:=.seq vs.toArray}<|.lst<|ns.map V.int)else ag) (λb=>?_) (.inl<|.inr #[{cls:=.type "list",data:=.seq vs.toArray},T9 rfl]) (λb u z=>?_) (λb z=>?_) λ_=>hk
  .by_cases hb:b=a
   .exact .inr #[_,_,T9 hb]
   .exact .inl<|T8 hb
  .by_cases hb:b=a
   .have z':=(T9 hb).symm.trans z
    cases z';subst hb;exact#[ha,by rw[aw];exact hl,vs,_,rv,ha]
   .have z':=(T8 hb).symm.trans z
    cases z'
  .by_cases hb:b=a
   .exact hb
   .exact T7 (T8 hb) z
def ZbO{l:lv}{n k:Nat}{q:bC}{loose:List bx}{XP:(bx->Option ap)->cc->Prop}{YP:bU->cc->Prop}{d:DefRec}{K:Params->aq}{CX:bU->CXT}{sp:bU->Sp}{x:bx}
  (hn:l.most=aa n)(hn2:n<=aZ)(hdf:d.params.defaults=[])(hr:Room k md)
  (hY:∀(w:bU)(h:cc),YP w h->(K w.params).In h)
  (F:∀(w:bU)(mg:bx->Option ap)(fa:aJ)(h:cc),(K w.params).In h->h.Ns cG mg->mg d.name=aa (.ref fa)->
   ∃fd:c6,(∀(s:ax)(u:ap),mZ s fd #[[u],[]] [(x,u)])/\
    ∀base:cc,(K w.params).In base->base.Ns cG mg->FnOk l.prog w (K w.params) mg base (CX w) k fa fd [x] (sp w))
  (hsp:∀(w:bU)(H:Hp)(a:aJ)(ns:List Int),ns.length<=n->Only H->SqL (K w.params) H a (ns.map V.int)->sp w [.ref a] H (λv _=>v=.bl aj) λ_ _ _=>False)
  (hCX:∀(w:bU)(H:Hp)(s:ax)(e:ap)(s':ax),CX w [] H s (λ_ _ _=>False) e s'->False) :
  pi q loose XP YP l.row.toRowW d [] (λf vs=>oQ f vs):=by
 refine Att.GI hn hdf λw s₀ s₁ mg mb fa o pm cd doc a vs ns G Y ho hd hcd hmg hobj hints hlen hg=>?_
 have KX:=hY w _ Y;obtain⟨fd,hb,hF⟩:=F w mg fa _ KX G.T.g hmg;exact uv KX G.T.g G.T.b G.T.builtins G.T.nolimit hg hobj hints (cn hlen hn2) hr hF hb (λH hO hS=>hsp w H a ns hlen hO hS) λH e s'=>hCX w H s₁ e s'
noncomputable def YS(s:fG):Arguments:=match s with
 |.FunctionDef _ a _ _ _ _ _ _ _ _=>a
 |_=>{posonlyargs:=[],args:=[],vararg:=ag,kwonlyargs:=[],kw_defaults:=[],kwarg:=ag,defaults:=[]}
noncomputable def Yi(s:fG):List fG:=match s with
 |.FunctionDef _ _ b _ _ _ _ _ _ _=>b
 |_=>[]
noncomputable def ZD(s:fG):eX:=match s with
 |.FunctionDef _ _ _ _ _ _ sc _ _ _=>sc
 |_=>{kind:=.function,names:=[],isGenerator:=ak,isCoroutine:=ak}
noncomputable abbrev CX0:CXT:=λ_ _ _ _ _ _=>False
noncomputable abbrev E0:XK:=λ_ _ _=>False
def Zcm{X:Cx}:yz CX0 X E0:=λ_ _ _ _ _ _ _ h=>h.elim
structure Fun(K:aq)(x qual:bx)(st:fG)(f:aJ)(fd:c6):Prop where
 ex:∃(oc:ap)(od:Option aJ)(kV doc pm:ap)(an:Option aJ)(cdv ct:ap)(osl:Array (Option ap)),
  fd=dW x qual (YS st) (Yi st) (ZD st) .none kV doc pm an cdv ct/\K.lookup f=aa #[oc,od,.func fd,osl]/\iK K cdv qual=aj
 kp:gA K (.ref f)=aj
section
variable{P:bC}{w:bU}{K:aq}{mg:bx->Option ap}{base:cc}
def Fun.ok{x qual:bx}{st:fG}{f:aJ}{fd:c6}{N ps:List bx}{k:Nat}{sp:Sp}(F:Fun K x qual st f fd)(S:FnScope N ps (ZD st))(len:∀vs H Q E,sp vs H Q E->vs.length=ps.length)
  (hbody:∀(cdv:ap)(A:cL)(outer:List Env)(s:ax)(H:Hp)(vs:List V)(Q:VK)(E:XK),Room k (A.deeper<|iJ qual (ZD st) s.heap.objs.size f cdv)->sp vs H Q E->
   ∃t,PSs (zC CX0 P w K mg base N qual (ZD st) f cdv A outer s H E).nox (Yi st) t/\t {nx:=λ_ H'=>Q .non H',rt:=Q} (start N vs) H):FnOk P w K mg base CX0 (k+1) f fd ps sp:=by
 obtain⟨oc,od,kV,doc,pm,an,cdv,ct,osl,rfl,lk,hcd⟩:=F.ex;refine Zeq lk hcd S len λA outer s H vs Q E hr hsp=>?_
 obtain⟨t,h,q⟩:=hbody cdv A outer s H vs Q E hr hsp;exact#[t,h.nox,q]
def Fun.binds{x qual:bx}{st:fG}{f:aJ}{fd:c6}{ps:List bx}(F:Fun K x qual st f fd)
  (h:∀(kV doc pm:ap)(an:Option aJ)(cdv ct:ap)(us:List ap),us.length=ps.length->oN (dW x qual (YS st) (Yi st) (ZD st) .none kV doc pm an cdv ct) #[us,[]]=dg (ps.zip us)):V1 K fd ps []:=by
 obtain⟨oc,od,kV,doc,pm,an,cdv,ct,osl,rfl,lk,hcd⟩:=F.ex;exact .all<|h kV doc pm an cdv ct
def Zc7{x qual:bx}{st:fG}{f:aJ}{oc:ap}{od an:Option aJ}{osl:Array (Option ap)}{kV doc pm cdv ct:ap}(l:K.lookup f=aa #[oc,od,.func<|dW x qual (YS st) (Yi st) (ZD st) .none kV doc pm an cdv ct,osl])
  (c:iK K cdv qual=aj)(k:gA K (.ref f)=aj):Fun K x qual st f (dW x qual (YS st) (Yi st) (ZD st) .none kV doc pm an cdv ct):=#[#[oc,od,kV,doc,pm,an,cdv,ct,osl,rfl,l,c],k]
end
section
variable{κ:Type}[DecidableEq κ]
noncomputable def VJ(kvs:List (κ×V))(k:κ):Option V:=(kvs.find? λkv=>ae<|kv.1=k).map (·.2)
noncomputable def Wl(kvs:List (κ×V))(k:κ)(v:V):List (κ×V):=
 if(kvs.any λkv=>ae<|kv.1=k)=aj then kvs.map (λkv=>if kv.1=k then(kv.1,v)else kv)else kvs++[(k,v)]
def Uc{p:κ×V}{r:List (κ×V)}{k:κ}(e:p.1=k):VJ (p::r) k=aa p.2:=by simp[VJ,eG,e]
def Uv{p:κ×V}{r:List (κ×V)}{k:κ}(e:¬p.1=k):VJ (p::r) k=VJ r k:=by simp[VJ,eG,e]
theorem XQ(k:κ):∀kvs:List (κ×V),(kvs.any λkv=>ae<|kv.1=k)=(VJ kvs k).isSome
 |[]=>rfl
 |p::r=>by
  rw[fY];by_cases e:p.1=k
  .simp only[Uc e,T5 e,Bool.true_or,mL]
  .rw[Uv e,T4 e,kx];exact XQ k r
theorem Vw(kvs:List (κ×V))(k:κ)(v:V):(Wl kvs k v).length<=kvs.length+1:=by
 unfold Wl;split
 .rw[aw];lia
 .rw[bc,aP,List.length_nil];lia
def ub{kvs:List (κ×V)}{k:κ}(v:V)(h:VJ kvs k=ag):Wl kvs k v=kvs++[(k,v)]:=by
 unfold Wl;rw[XQ,h];exact T8 (by decide)
def yh.isSome_eq(r:yh o u):o.isSome=u.isSome:=by
 cases o with
 |none=>cases u with|none=>rfl|some _=>exact(r).elim
 |some _=>cases u with|none=>exact(r).elim|some _=>rfl
def KV.val{kvs:List (κ×V)}{vs:List (κ×ap)}(r:KV kvs vs)(k:κ):yh (VJ kvs k) (ng vs k):=by
 unfold KV at r
 induction r with
 |nil=>exact c8
 |@cons p q ps qs h t ih=>
  obtain⟨h1,h2⟩:=h;by_cases e:p.1=k
  .have e':=h1.symm.trans e
   have b:ng (q::qs) k=aa q.2:=by simp[ng,eG,e']
   rw[Uc e,b];exact h2
  .have e':¬q.1=k:=λz=>e (h1.trans z)
   have b:ng (q::qs) k=ng qs k:=by simp[ng,eG,e']
   rw[Uv e,b];exact ih
theorem KV.any(r:KV kvs vs)(k:κ):(kvs.any λkv=>ae<|kv.1=k)=vs.any λkv=>ae (kv.1=k):=by
 unfold KV at r
 induction r with|nil=>rfl|cons h t ih=>rw[fY,fY,ih,h.1]
def KV.repl(r:KV kvs vs)(k:κ)(ry:Zu y u) :
  KV (kvs.map λkv=>if kv.1=k then(kv.1,y)else kv) (vs.map λkv=>if kv.1=k then(kv.1,u)else kv):=by
 unfold KV at r ⊢
 induction r with
 |nil=>exact .nil
 |@cons p q ps qs h t ih=>
  rw[aW,aW];refine .cons ?_ ih;obtain⟨h1,h2⟩:=h;by_cases e:p.1=k
  .rw[T9 e,T9<|h1.symm.trans e];exact#[h1,ry]
  .rw[T8 e,T8 λz=>e<|h1.trans z];exact#[h1,h2]
def KV.put(r:KV kvs vs)(k:κ)(ry:Zu y u):KV (Wl kvs k y) (stored vs k u):=by
 unfold Wl stored;rw[r.any k];by_cases e:(vs.any λkv=>ae<|kv.1=k)=aj
 .rw[T9 e,T9 e];exact r.repl k ry
 .rw[T8 e,T8 e];exact Paired.snoc r #[rfl,ry]
theorem KV.length{kvs:List (κ×V)}{vs:List (κ×ap)}(r:KV kvs vs):kvs.length=vs.length:=Paired.length r
end
def xG(r:Zu (kV k) u):(ZP P w).is k u=aj:=by
 cases k with|inl i=>obtain⟨t,e⟩:=(r);subst e;exact zE P w i t|inr x=>obtain⟨t,e⟩:=(r);subst e;exact zi P w x t
theorem Qt :∀{ks:List Key}{us:List ap},Vals (ks.map kV) us->ItemsAre (ZP P w) ks us
 |[],_,r=>by rw[List.map_nil]at r;cases r;exact .nil
 |k::ks,_,r=>by
  rw[aW]at r;cases r with|cons h t=>exact .cons (xG h)<|Qt t
abbrev KT(H:Hp):List (List Key×V)->List (List Key×aJ×ap)->Prop:=Paired λp q=>p.1=q.1/\H q.2.1=aa (.tup<|p.1.map kV)/\Zu p.2 q.2.2
def KT.val{H:Hp}{kvs:List (List Key×V)}{xs:List (List Key×aJ×ap)}(r:KT H kvs xs)(k:List Key):yh (VJ kvs k) ((nh xs k).map (·.2)):=by
 induction r with
 |nil=>exact c8
 |@cons p q ps qs h t ih=>
  obtain⟨h1,_,h2⟩:=h;by_cases e:p.1=k
  .have e':=h1.symm.trans e
   have b:nh (q::qs) k=aa q.2:=by simp[nh,eG,e']
   rw[Uc e,b];exact h2
  .have e':¬q.1=k:=λz=>e (h1.trans z)
   have b:nh (q::qs) k=nh qs k:=by simp[nh,eG,e']
   rw[Uv e,b];exact ih
def KT.repl{H:Hp}{kvs:List (List Key×V)}{xs:List (List Key×aJ×ap)}(r:KT H kvs xs)(k:List Key){y:V}{u:ap}(ry:Zu y u) :
  KT H (kvs.map λkv=>if kv.1=k then(kv.1,y)else kv) (xs.map<|putAt k u):=by
 induction r with
 |nil=>exact .nil
 |@cons p q ps qs h t ih=>
  rw[aW,aW];refine .cons ?_ ih;obtain⟨h1,h2,h3⟩:=h;unfold putAt;by_cases e:p.1=k
  .rw[T9 e,T9<|h1.symm.trans e];exact#[h1,h2,ry]
  .rw[T8 e,T8 λz=>e<|h1.trans z];exact#[h1,h2,h3]
def KT.put{H:Hp}{kvs:List (List Key×V)}{xs:List (List Key×aJ×ap)}(r:KT H kvs xs)(k:List Key){b:aJ}{y:V}{u:ap}(hb:H b=aa (.tup<|k.map kV))(ry:Zu y u) :
  KT H (Wl kvs k y) (storedH xs k b u):=by
 have e:(kvs.any λkv=>ae<|kv.1=k)=(nh xs k).isSome:=by
  rw[XQ,(r.val k).isSome_eq,ki]
 unfold Wl storedH;rw[e];by_cases q:(nh xs k).isSome=aj
 .rw[T9 q,T9 q];exact r.repl k ry
 .rw[T8 q,T8 q];exact Paired.snoc r #[rfl,hb,ry]
def KT.keeps{H H':Hp}{kvs:List (List Key×V)}{xs:List (List Key×aJ×ap)}(r:KT H kvs xs)(ht:∀b ys,H b=aa (.tup ys)->H' b=aa (.tup ys)):KT H' kvs xs:=
 Paired.mapP r λ_ _ z=>#[z.1,ht _ _ z.2.1,z.2.2]
def Zco(ok:HOk P w H h)(e:Rd H a u):Ym P w H h a u:=e.ok ok
def jI(ok:HOk P w H h)(e:Rd H a (.dK kvs)):kvs.length<=aZ/\(a == c7)=ak/\∃vs,KV kvs vs/\h.DictOf (ZP P w) a vs:=
 Zco ok e
def ZeZ(ok:HOk P w H h)(e:H a=aa (.dK kvs)):kvs.length<=aZ/\(a == c7)=ak/\∃vs,KV kvs vs/\h.DictOf (ZP P w) a vs:=jI ok<|.inl e
def Vo(ok:HOk P w H h)(e:H a=aa (.tup<|ks.map kV)):(dC<|ZP P w).is h ks a:=by
 obtain⟨_,its,r,o,h1,h2,n,h3⟩:=(ok a _ e)
 exact#[o,its.toArray,n,h1,h2,h3,by simpa using Qt r]
def qy(ok:HOk P w H h)(e:Rd H a (.dT kvs)):kvs.length<=aZ/\(a == c7)=ak/\
  ∃xs,KT H kvs xs/\h.DictOfH (dC<|ZP P w) a xs:=by
 obtain⟨z,y,xs,r,o,es,ep,h1,h2,h3,h4,h5⟩:=(Zco ok e)
 refine#[z,y,xs,r,o,es,ep,h1,h2,h3,h4,λx hx=>?_,h5]
 have all:∀{l:List (List Key×V)}{m:List (List Key×aJ×ap)},KT H l m->∀x∈m,(dC<|ZP P w).is h x.1 x.2.1:=by
  intro l m q
  induction q with
  |nil=>intro x hx;exact nomatch hx
  |@cons p q ps qs hq t ih=>
   intro x hx;rcases aB.mp hx with e|hx
   .subst e
    exact Vo ok (by rw[<-hq.1];exact hq.2.1)
   .exact ih x hx
 exact all r x hx
def Zca{kvs:List (List Key×V)}(ok:HOk P w H h)(e:H a=aa (.dT kvs)):kvs.length<=aZ/\(a == c7)=ak/\
  ∃xs,KT H kvs xs/\h.DictOfH (dC<|ZP P w) a xs:=qy ok<|.inl e
def DGet(H:Hp)(a:aJ)(y:V)(r:Option V):Prop:=
 (∃kvs k,Rd H a (.dK kvs)/\y=kV k/\r=VJ kvs k)\/∃kvs k b,Rd H a (.dT kvs)/\y=.ref b/\H b=aa (.tup<|k.map kV)/\r=VJ kvs k
def DPut(H:Hp)(a:aJ)(y v:V)(H':Hp):Prop:=
 (∃kvs k,H a=aa (.dK kvs)/\y=kV k/\kvs.length<aZ/\H'=upd H a (.dK<|Wl kvs k v))\/
 ∃kvs k b,H a=aa (.dT kvs)/\y=.ref b/\H b=aa (.tup<|k.map kV)/\kvs.length<aZ/\H'=upd H a (.dT<|Wl kvs k v)
def DPut.t{H:Hp}{a b:aJ}{kvs:List (List Key×V)}{k:List Key}{v:V}(e:H a=aa (.dT kvs))(eb:H b=aa (.tup<|k.map kV))(hl:kvs.length<aZ) :
  DPut H a (.ref b) v (upd H a<|.dT<|Wl kvs k v):=.inr #[kvs,k,b,e,rfl,eb,hl,rfl]
def Inv.big(I:Inv X pq Z H s):c7<s.heap.objs.size:=by
 have h:=(I.mod.glob.keeps I.bk).lt;exact c0 (by decide) h
def ZfE{Q:ap->ax->Prop}(hu:A.units+1<du)(I:Inv X pq Z H s)(g:DGet H a y o)(ry:Zu y u)(h:∀s',Inv X pq Z H s'->Q (.bool o.isSome) s') :
  aV (aS X.prog X.w) A (cB .In u<|.ref a) Q E s:=by
 rcases g with⟨kvs,k,e,ey,l⟩|⟨kvs,k,b,e,ey,eb,l⟩
 .subst ey
  obtain⟨z,hd,vs,rel,dd⟩:=jI I.hok e;refine wpAny_in_of (xG ry) hd dd.mapOf ?_;rw[<-(rel.val k).isSome_eq,<-l];exact h _<|I.tok _
 .subst ey
  cases(ry)
  obtain⟨z,hd,xs,rel,dd⟩:=qy I.hok e;refine wpAny_in_heap (gf hu) (Vo I.hok eb) hd dd ?_;have q:=(rel.val k).isSome_eq;rw[ki]at q;rw[<-q,<-l];exact h _<|I.tok _
def ZaV{Q:ap->ax->Prop}(hu:A.units+1<du)(I:Inv X pq Z H s)(g:DGet H a y o)(ry:Zu y u)(h:∀s',Inv X pq Z H s'->Q (.bool<|!o.isSome) s') :
  aV (aS X.prog X.w) A (cB .NotIn u<|.ref a) Q E s:=by
 rcases g with⟨kvs,k,e,ey,l⟩|⟨kvs,k,b,e,ey,eb,l⟩
 .subst ey
  obtain⟨z,hd,vs,rel,dd⟩:=jI I.hok e;refine wpAny_notIn_of (xG ry) hd dd.mapOf ?_;rw[<-(rel.val k).isSome_eq,<-l];exact h _<|I.tok _
 .subst ey
  cases(ry)
  obtain⟨z,hd,xs,rel,dd⟩:=qy I.hok e;refine wpAny_notIn_heap (gf hu) (Vo I.hok eb) hd dd ?_;have q:=(rel.val k).isSome_eq;rw[ki]at q;rw[<-q,<-l];exact h _<|I.tok _
def Jj(I:Inv X pq Z H s)(mu:Mut (H a))(hs:dU a s.heap h')(he:∃q,h'.get? a=aa q)(new:Ym X.prog X.w (upd H a ob) h' a ob) :
  Inv X pq Z (upd H a ob) {s with heap:=h',toks:=t' }:=
 I.write mu (.inl rfl) (λb q hb z=>(hs.2 b hb).trans z) he new
def Zdz(z:kvs.length<=aZ)(hd:(a == c7)=ak)(rel:KV kvs vs)(dd:h'.DictOf (ZP P w) a vs) :
  Ym P w H' h' a (.dK kvs):=#[z,hd,vs,rel,dd]
def wJ{H':Hp}{Q:Unit->ax->Prop}(hu:A.units+1<du)(I:Inv X pq Z H s)(g:DPut H a y v H')(ry:Zu y u)(rv:Zu v r)(h:∀s',Inv X pq Z H' s'->Q () s') :
  aV (aS X.prog X.w) A (pF (.ref a) u r) Q E s:=by
 rcases g with⟨kvs,k,e,ey,l,eH⟩|⟨kvs,k,b,e,ey,eb,l,eH⟩
 .subst ey eH
  obtain⟨z,hd,vs,rel,dd⟩:=ZeZ I.hok e;have hz:vs.length<=aZ:=by rw[<-rel.length];exact z
  have hl:(Wl kvs k v).length<=aZ:=by have:=Vw kvs k v;lia
  refine wpAny_setItem_pairs (hsz:=hz) (xG ry) dd λh' dd' hs=>h _ ?_
  have he:∃q,h'.get? a=aa q:=let #[q,_,_,hq,_]:=dd';#[q,hq];exact Jj I (by rw[e];exact c8) hs he<|Zdz hl hd (rel.put k rv) dd'
 .subst ey eH
  cases(show u=bV b from ry)
  obtain⟨z,hd,xs,rel,dd⟩:=Zca I.hok e;have hz:xs.length<=aZ:=by rw[<-Paired.length rel];exact z
  have hl:(Wl kvs k v).length<=aZ:=by have:=Vw kvs k v;lia
  refine wpAny_setItem_heap (hsz:=hz) (gf hu) (Vo I.hok eb) dd λh' dd' hs=>h _ ?_
  obtain⟨q,es,ep,hq,h2,h3,h4,_,h5⟩:=dd';refine Jj I (by rw[e];exact c8) hs #[q,hq] #[hl,hd,_,(rel.put k eb rv).keeps λc ys ec=>?_,q,es,ep,hq,h2,h3,h4,h5]
  rw[Zp (Zcq ec e (λz=>nomatch z))]
  exact ec
def Zfa(td ty tv:TE):TS:=λD Z H=>tv Z H λv H1=>td Z H1 λx H2=>ty Z H2 λy H3=>∃a H4,x=.ref a/\DPut H3 a y v H4/\D.nx Z H4
section
variable{X:Cx}{o i e value:Expr}{pos pos' tpos:gW}{td ty tv:TE}
def Zav(hu:X.A.units+1<du)(ho:PE X o td)(hi:PE X i ty)(hv:PE X value tv)(hs:kJ value (aa<|.Subscript o i pos') pos.line X.env=dg ak) :
  PS X (.Assign [.Subscript o i pos'] value pos) (Zfa td ty tv):=by
 intro pq s Z H D I h;refine wpAny_Assign_Subscript (thn (hv pq s Z H _ I h) λr s1 #[v,H1,I1,rv,q1]=>thn (ho pq s1 Z H1 _ I1 q1) λu s2 #[x,H2,I2,rx,q2]=>thn (hi pq s2 Z H2 _ I2 q2) λiv s3 #[y,H3,I3,ry,a,H4,ex,g,q3]=>?_) hs
 subst ex;obtain rfl:u=bV a:=rx;exact wJ hu I3 g ry rv λs4 I4=>#[Z,H4,I4,q3]
end
def uQ(h:cc)(hb:c7<h.objs.size):Ym P w H (h.push {cls:=.type "dict",data:=.dict #[]}) h.objs.size (.dT []):=
 #[cJ _,beq_eq_false_iff_ne.mpr<|Ne.symm<|a9 hb,[],.nil,_,#[],0,aD _ rfl,#[rfl,rfl,rfl],rfl,rfl,oR]
def yD:List (TE×TE)->St->Hp->(List (V×V)->Hp->Prop)->Prop
 |[],_,H,Q=>Q [] H
 |(tk,tv)::r,Z,H,Q=>tk Z H λx H1=>tv Z H1 λy H2=>yD r Z H2 λps H3=>Q ((x,y)::ps) H3
abbrev VV:List (V×V)->List (ap×ap)->Prop:=Paired λp q=>Zu p.1 q.1/\Zu p.2 q.2
def PPs(X:Cx)(pos:gW)(keys:List (Option Expr))(values:List Expr)(trs:List (TE×TE)):Prop:=
 ∀(pq:List (aJ×fA))(s:ax)(Z:St)(H:Hp)(Q:List (V×V)->Hp->Prop),Inv X pq Z H s->yD trs Z H Q->
  aV (aS X.prog X.w) X.A (evalPairs<|pairTrees keys values X.env pos) (λvs s'=>∃ps H',Inv X pq Z H' s'/\VV ps vs/\Q ps H') X.xe s
def Zab :PPs X pos [] [] []:=λpq s Z H Q I h=>pairTrees_nil_walk #[[],H,I,.nil,h]
def v3(hk:PE X k tk)(hv:PE X v tv)(hr:PPs X pos ks vs trs) :
  PPs X pos (aa k::ks) (v::vs) ((tk,tv)::trs):=λpq s Z H Q I h=>
 pairTrees_cons_walk (thn (hk pq s Z H _ I h) λu s1 #[x,H1,I1,rx,q1]=>thn (hv pq s1 Z H1 _ I1 q1) λw2 s2 #[y,H2,I2,ry,q2]=>
  thn (hr pq s2 Z H2 _ I2 q2)<|by rintro ws s3 ⟨ps,H3,I3,rel,q3⟩;exact #[(x,y)::ps,H3,I3,.cons #[rx,ry] rel,q3])
end L2
namespace Pv
open PySem (Str)
inductive V where
 |non|bl (b:Bool)|int (i:Int)|str (x:bx)|tup (xs:List V)|lst (xs:List V)|drw|dct (ks:Option (List<|List Int))|scr (ns:List Int)
 |dow (ks:List (List Int))
 deriving Inhabited
end Pv
namespace Ev
open PySem (Str)
def nos{B:Type}{P:Prop}{b:B}(h:ag=aa b):P:=by cases h
noncomputable def lim:Nat:=16777216
inductive Bop where|add|sub|mul|fdiv|mod|pow
 deriving DecidableEq
inductive Cop where|eq|ne|lt|le|gt|ge|is|isn|inn|nin
 deriving DecidableEq
inductive Ty where|int|bool|str|tuple|list|dict|cls (c:Nat)
 deriving DecidableEq
inductive Bf where|len|max2|min2|toInt|tuple|list|all|any|sum|sorted|sortedR|dictP|listD|sortedD|sortedS|sortedT|sortedU|index|rangeT|rangeL|strI
 deriving DecidableEq
inductive So where|join|split|find|ix
 deriving DecidableEq
inductive Mf where|append|extend|index
 deriving DecidableEq
mutual
inductive E where
 |c (d:Pv.V)|v (i:Nat)
 |tup (es:List E)|lst (es:List E)|dnew
 |bin (op:Bop) (a b:E)|neg (a:E)|not (a:E)|and (a b:E)|or (a b:E)|ite (t a b:E)
 |cmp (op:Cop) (a b:E)|chain (o p:Cop) (a b d:E)
 |ix (a i:E)|sl (a:E) (lo hi:Option E)|rev (a:E)
 |call (f:Nat) (as:List E)|blt (f:Bf) (as:List E)|mt (m:Mf) (o:E) (as:List E)
 |isi (a:E) (ts:List Ty)
 |inT (a:E) (tab:List (Int×Int))|getT (tab:List (Int×Int)) (a:E)
 |dput1 (k v:E)
 |comp1 (cap:List Nat) (nl:Nat) (t:List Nat) (it:W) (ifs:List E) (elt:E)
 |comp2 (cap:List Nat) (nl:Nat) (t:List Nat) (it:W) (ifs:List E) (u:List Nat) (jt:W) (jfs:List E) (elt:E)
 |fi (e:E)
 |refu (w:Bool) (e:E)
 |dix (a:E) (k:Bool)
 |callF (f:Nat) (as:List E)
 |sop (f:So) (a b:E)
inductive W where
 |of (e:E)|rng1 (a:E)|rng2 (a b:E)|zip (a b:E)|enum (a:E)|rrng (a b:E)|rtup (a:E)|dk (e:E)|sgn (e:E)
end
inductive Sm where
 |asg (t:List Nat) (e:E)|par (t:List Nat) (es:List E)|aug (i:Nat) (op:Bop) (e:E)|put (o i e:E)|dput (o i e:E)
 |ret (e:E)|ex (e:E)|ite (t:E) (a b:List Sm)|forr (t:List Nat) (it:W) (b:List Sm)|whl (t:E) (b:List Sm)
 |raise (c:Nat) (as:List E)|pas|brk|cnt
 |mov (i j:Nat)
 |dset (i:Nat) (e:E)|cel (i f:Nat) (as:List E) (b:List Sm)
 |retO (i:Nat)
 |dnw (i:Nat) (k:E)|forF (t:List Nat) (e:E) (b:List Sm)
 |lnw (i:Nat) (es:List E)|cat (i:Nat) (es:List E)|app (i:Nat) (e:E)
noncomputable def b2i(b:Bool):Int:=if b then 1 else 0
noncomputable def Zw:Nat:=6
noncomputable def ixN(n:Nat)(i:Int):Option Nat:=if 0<=i then(if i<n then aa i.toNat else ag)else if -(n:Int)<=i then aa (i+n).toNat else ag
noncomputable def at'{B:Type}(xs:List B)(i:Int):Option B:=(ixN xs.length i).bind λj=>xs[j]?
noncomputable def sIx(n d:Nat):Option Int->Nat
 |none=>d
 |some i=>if i<0 then(i+n).toNat else pc i.toNat n
noncomputable def fits(i:Int):Bool:=ae<|i.natAbs<2^8000
noncomputable def big:Int:=2^8000
def vM(h:b<1073741824):b<big:=Int.lt_trans h (by decide +kernel)
noncomputable def ltI:List Int->List Int->Bool
 |[],[]=>ak
 |[],_::_=>aj
 |_::_,[]=>ak
 |a::x,b::y=>if a=b then ltI x y else ae (a<b)
noncomputable def YA(x:List Int):List (List Int)->List (List Int)
 |[]=>[x]
 |y::r=>if ltI x y then x::y::r else y::YA x r
noncomputable def Zi:List (List Int)->List (List Int)
 |[]=>[]
 |x::r=>YA x<|Zi r
noncomputable def UT{B:Type}(lt:B->B->Bool)(x:B):List B->List B
 |[]=>[x]
 |y::r=>if lt x y then x::y::r else y::UT lt x r
noncomputable def Y4{B:Type}(lt:B->B->Bool):List B->List B
 |[]=>[]
 |x::r=>UT lt x<|Y4 lt r
noncomputable def ltP:List (List Int)->List (List Int)->Bool
 |[],[]=>ak
 |[],_::_=>aj
 |_::_,[]=>ak
 |a::x,b::y=>if a=b then ltP x y else ltI a b
noncomputable def ZeH(is:List Int):Bool:=ae (is.length<=1000)&&is.all λi=>ae<|-1099511627776<=i/\i<=1099511627776
noncomputable def Z0(rs:List (List Int)):Bool:=ae (rs.length<=100000)&&decide rs.Nodup&&rs.all λr=>!r.isEmpty
noncomputable def Yt(ps:List (List<|List Int)):Bool:=ae (ps.length<=100000)&&decide ps.Nodup&&(ae (ps.length<=1)||ps.all λP=>!P.isEmpty)
noncomputable def Uz(ks:List (List Int)):Bool:=ae (ks.length<=lim)&&decide ks.Nodup
noncomputable def Y7(i:Int):Bool:=ae<|-(2^62)<=i/\i<2^62
noncomputable def few(i:Int):Bool:=ae<|0<=i/\i<=1000
noncomputable def GR:Nat:=1000
noncomputable def Zd7:List bx:=["row","part","number","heads","not beside","not in","turn","lot","many","note"]
noncomputable def spcs:List (Nat×Nat):=[(2,1),(2,2),(2,3),(2,4),(3,1),(3,2),(3,3),(5,1),(5,2),(2,5),(2,6),(3,4),(5,3)]
noncomputable def Zcn(rs:List (List Int)):Bool:=Z0 rs&&(ae (rs.length<=300)&&spcs.any λq=>rs.all λr=>ae (r.length=q.2)&&r.all λa=>ae<|0<=a/\a<(q.1:Int))
noncomputable def Ze5(P:List (List Int)):Int:=nN<|gM<|P.map λr=>nN<|gM<|r.map PySem.hashInt
noncomputable def qe(ps:List (List<|List Int)):Bool:=Yt ps&&(ae (ps.length<=1399)&&ae (ps.map Ze5).Nodup)
structure Fn where
 ps:Nat
 ns:Nat
 body:List Sm
end Ev
namespace Pv
open Ev
open PySem (Str)
noncomputable abbrev DS:=Int×Bool
inductive PR(B:Type) where
 |ok (a:B) (s:DS)|ex (c:Nat) (s:DS)|no
noncomputable def PR.bind{B β:Type}(r:PR B)(f:B->DS->PR β):PR β:=match r with
 |.ok a s=>f a s
 |.ex c s=>.ex c s
 |.no=>.no
noncomputable def PR.nox{B:Type}(r:PR B):PR B:=match r with
 |.ex _ _=>.no
 |r=>r
noncomputable def po{B:Type}(o:Option B)(s:DS):PR B:=match o with
 |some a=>.ok a s
 |none=>.no
abbrev Env:=List<|Option V
mutual
noncomputable def V.flat:V->Bool
 |.tup xs=>YJ xs
 |.lst _=>ak
 |.drw=>ak
 |.dct _=>ak
 |.dow _=>ak
 |_=>aj
noncomputable def YJ:List V->Bool
 |[]=>aj
 |x::xs=>x.flat&&YJ xs
end
mutual
noncomputable def ofD:V->Option V
 |.non=>aa .non
 |.bl b=>aa<|.bl b
 |.int i=>aa<|.int i
 |.str x=>aa<|.str x
 |.tup xs=>(Zfo xs).map .tup
 |_=>ag
noncomputable def Zfo:List V->Option (List V)
 |[]=>aa []
 |x::xs=>match ofD x,Zfo xs with
  |some a,aa b=>aa (a::b)
  |_,_=>ag
end
noncomputable def Zq:V->Option Bool
 |.non=>aa ak
 |.bl b=>aa b
 |.int i=>aa<|ae<|i≠0
 |.tup xs=>aa<|!xs.isEmpty
 |.lst xs=>aa<|!xs.isEmpty
 |_=>ag
noncomputable def Yq(f:V->V->Option Bool):List V->List V->Option Bool
 |[],[]=>aa aj
 |x::xs,y::ys=>match f x y,Yq f xs ys with
  |some a,aa b=>aa<|a&&b
  |_,_=>ag
 |_,_=>aa ak
noncomputable def eqV:Nat->V->V->Option Bool
 |0,_,_=>ag
 |k+1,x,y=>match x with
  |.non=>match y with
   |.non=>aa aj
   |.bl _|.int _|.str _=>aa ak
   |_=>ag
  |.bl a=>match y with
   |.bl b=>aa<|ae<|a=b
   |.int b=>aa<|ae<|b2i a=b
   |.non|.str _=>aa ak
   |_=>ag
  |.int a=>match y with
   |.int b=>aa<|ae<|a=b
   |.bl b=>aa<|ae<|a=b2i b
   |.non|.str _=>aa ak
   |_=>ag
  |.str a=>match y with
   |.str b=>aa<|ae<|a=b
   |.non|.bl _|.int _=>aa ak
   |_=>ag
  |.tup xs=>match y with
   |.tup ys=>Yq (eqV k) xs ys
   |_=>ag
  |.lst xs=>match y with
   |.lst ys=>if xs.length=ys.length then Yq (eqV k) xs ys else aa ak
   |_=>ag
  |_=>ag
noncomputable def Wc(x:V):List V->Option Bool
 |[]=>aa ak
 |y::ys=>match eqV Zw y x,Wc x ys with
  |some a,aa b=>aa (a||b)
  |_,_=>ag
noncomputable def ZfH(x:V)(xs:List V):Option Nat:=if Wc x xs=aa aj then xs.findIdx? λy=>eqV Zw y x == aa aj else ag
noncomputable def YD:V->Ty->Option Bool
 |.non,_=>aa ak
 |.bl _,t=>aa<|ae<|t=.bool\/t=.int
 |.int _,t=>aa<|ae<|t=.int
 |.str _,t=>aa<|ae<|t=.str
 |.tup _,t=>aa<|ae<|t=.tuple
 |.lst _,t=>aa<|ae<|t=.list
 |.dct ag,t=>aa<|ae<|t=.dict
 |_,_=>ag
noncomputable def Z9(x:V):List Ty->Option Bool
 |[]=>aa ak
 |t::ts=>match YD x t with
  |some aj=>aa aj
  |some ak=>Z9 x ts
  |none=>ag
noncomputable def Xp(xs:List V)(lo hi:Option Int):List V:=(xs.drop<|sIx xs.length 0 lo).take<|sIx xs.length xs.length hi-sIx xs.length 0 lo
noncomputable def UO(op:Bop)(a b:Int)(s:DS):PR V:=match op with
 |.add=>.ok (.int<|a+b) s
 |.sub=>.ok (.int<|a-b) s
 |.mul=>if(fits a&&fits b)=aj then .ok (.int<|a*b) s else .no
 |.fdiv=>if 0<b/\b<Ev.big then .ok (.int<|a / b) s else .no
 |.mod=>if 0<b then .ok (.int<|a%b) s else .no
 |.pow=>if 0<=b/\b<=1000/\a.natAbs<2^64 then .ok (.int<|a^b.toNat) s else .no
noncomputable def YZ(op:Bop)(x y:V)(s:DS):PR V:=match x with
 |.int a=>match y with
  |.int b=>UO op a b s
  |_=>.no
 |.tup a=>match y with
  |.tup b=>match op with
   |.add=>if a.length+b.length<=lim then .ok (.tup<|a++b) s else .no
   |_=>.no
  |.int b=>match op with
   |.mul=>if 0<=b/\b<1000/\a.length<=1000 then .ok (.tup (aA b.toNat a).flatten) s else .no
   |_=>.no
  |_=>.no
 |.lst a=>match y with
  |.lst b=>match op with
   |.add=>if a.length+b.length<=lim then .ok (.lst<|a++b) s else .no
   |_=>.no
  |.int b=>match op with
   |.mul=>if 0<=b/\b<1000/\a.length<=1000 then .ok (.lst (aA b.toNat a).flatten) s else .no
   |_=>.no
  |_=>.no
 |_=>.no
noncomputable def Zer(op:Bop)(x y:V)(s:DS):PR V:=match x,y with
 |.int _,.int _=>YZ op x y s
 |_,_=>.no
noncomputable def intsV:List V->Option (List Int)
 |[]=>aa []
 |.int i::r=>(intsV r).map (i :: ·)
 |_::_=>ag
noncomputable def Vv(x y:V):Option Bool:=match y with
 |.tup ys=>Wc x ys
 |.lst ys=>Wc x ys
 |.dct (aa ks)=>match x with
  |.tup k=>(intsV k).map λk=>ks.contains k
  |_=>ag
 |.dow ks=>match x with
  |.tup k=>(intsV k).map λk=>ks.contains k
  |_=>ag
 |_=>ag
noncomputable def Vz:V->Bool
 |.non=>aj
 |_=>ak
noncomputable def Zb(r:List Int):V:=.tup<|r.map .int
noncomputable def Z4:List V->Option (List<|List Int)
 |[]=>aa []
 |.tup x::r=>match intsV x,Z4 r with
  |some a,aa b=>aa (a::b)
  |_,_=>ag
 |_::_=>ag
noncomputable def int2(x y:V):Option (Int×Int):=match x with
 |.int a=>match y with
  |.int b=>aa (a,b)
  |_=>ag
 |_=>ag
noncomputable def isV(x y:V):Option Bool:=match y with
 |.non=>aa<|Vz x
 |.bl b=>match x with
  |.bl a=>aa<|ae<|a=b
  |_=>ag
 |_=>ag
noncomputable def Yl(op:Cop)(x y:V):Option V:=match op with
 |.eq=>(eqV Zw x y).map .bl
 |.ne=>(eqV Zw x y).map λb=>.bl !b
 |.lt=>match x with
  |.tup a=>match y with
   |.tup b=>(Z4 a).bind λP=>(Z4 b).map λQ=>.bl<|ltP P Q
   |_=>ag
  |x=>(int2 x y).map λz=>.bl<|ae<|z.1<z.2
 |.gt=>(int2 x y).map λz=>.bl<|ae<|z.2<z.1
 |.le=>(int2 x y).map λz=>.bl<|ae<|z.1<=z.2
 |.ge=>(int2 x y).map λz=>.bl<|ae<|z.2<=z.1
 |.is=>(isV x y).map .bl
 |.isn=>(isV x y).map λb=>.bl !b
 |.inn=>(Vv x y).map .bl
 |.nin=>(Vv x y).map λb=>.bl !b
noncomputable def ixV(x y:V):Option V:=match x,y with
 |.tup xs,.int i=>at' xs i
 |.lst xs,.int i=>at' xs i
 |.scr xs,.int i=>(at' xs i).map .int
 |_,_=>ag
noncomputable def slV(x:V)(lo hi:Option Int):Option V:=match x with
 |.tup xs=>aa<|.tup<|Xp xs lo hi
 |.lst xs=>aa<|.lst<|Xp xs lo hi
 |_=>ag
noncomputable def Zfz:V->Option V
 |.tup xs=>aa<|.tup xs.reverse
 |_=>ag
noncomputable def VM:V->Option Bool
 |.non=>aa ak
 |.bl b=>aa b
 |.int i=>aa<|ae<|i≠0
 |_=>ag
noncomputable def ZW:List V->Option (List Bool)
 |[]=>aa []
 |x::xs=>match VM x,ZW xs with
  |some b,aa bs=>aa (b::bs)
  |_,_=>ag
noncomputable def Zf(P:List (List Int)):V:=.tup<|P.map Zb
noncomputable def ZdQ:V->Option (List<|List Int)
 |.tup ks=>Z4 ks
 |_=>ag
noncomputable def zR:List V->Option (List<|List<|List Int)
 |[]=>aa []
 |x::r=>match ZdQ x,zR r with
  |some a,aa b=>aa (a::b)
  |_,_=>ag
noncomputable def ZfF:List V->Bool
 |.tup (.int _::_)::_=>aj
 |_=>ak
noncomputable def Yu:V->Option (List V)
 |.tup xs=>aa xs
 |.lst xs=>aa xs
 |.scr ns=>aa<|ns.map .int
 |_=>ag
noncomputable def Zfh:V->Option (List V)
 |.dct (aa ks)=>aa<|ks.map Zb
 |_=>ag
noncomputable def ZZ(lo:Int)(n:Nat):List V:=(aL n).map λ(k:Nat)=>.int<|lo+(k:Int)
noncomputable def Zck:V->Option (List Int)
 |.tup [.tup k,.bl b]=>if b=aj then intsV k else ag
 |_=>ag
noncomputable def Ws:List V->Option (List<|List Int)
 |[]=>aa []
 |v::r=>(Zck v).bind λa=>(Ws r).map (a :: ·)
noncomputable def Wm:List V->Option (List Nat)
 |[]=>aa []
 |.int i::r=>if 0<=i/\i<6 then(Wm r).map (i.toNat :: ·)else ag
 |_=>ag
noncomputable def blt1(f:Bf)(x:V):Option V:=match f with
 |.len=>(Yu x).map λxs=>.int xs.length
 |.toInt=>match x with
  |.int a=>aa<|.int a
  |.bl b=>aa<|.int<|b2i b
  |_=>ag
 |.tuple=>(Yu x).map .tup
 |.list=>(Yu x).map .lst
 |.all=>match x with
  |.lst xs=>(ZW xs).map λbs=>.bl<|bs.all id
  |_=>ag
 |.any=>(Yu x).bind λxs=>(ZW xs).map λbs=>.bl<|bs.any id
 |.sum=>match x with
  |.lst xs=>(intsV xs).bind λis=>if ZeH is=aj then aa (.int is.sum)else ag
  |_=>ag
 |.sorted=>match x with
  |.lst xs=>if ZfF xs=aj then(Z4 xs).bind λrs=>if Z0 rs=aj then aa (.lst<|(Zi rs).map Zb)else ag else(zR xs).bind λps=>if Yt ps=aj then aa (.lst<|(Y4 ltP ps).map Zf)else ag
  |_=>ag
 |.sortedR=>match x with
  |.lst xs=>(Z4 xs).bind λrs=>if Z0 rs=aj then aa (.lst<|(Zi rs).reverse.map Zb)else ag
  |_=>ag
 |.rangeT=>match x with
  |.int i=>if few i then aa (.tup<|ZZ 0 i.toNat)else ag
  |_=>ag
 |.rangeL=>match x with
  |.int i=>if few i then aa (.lst<|ZZ 0 i.toNat)else ag
  |_=>ag
 |.listD=>match x with
  |.dow ks=>aa<|.lst<|ks.map Zb
  |_=>ag
 |.sortedD=>match x with
  |.dow ks=>if Z0 ks=aj then aa (.lst<|(Zi ks).map Zb)else ag
  |_=>ag
 |.sortedS=>match x with
  |.lst xs=>(Wm xs).map λks=>.lst (((aL 6).filter ks.contains).map λk:Nat=>.int k)
  |_=>ag
 |.sortedU=>match x with
  |.lst xs=>(zR xs).bind λps=>if qe ps=aj then aa (.lst<|(Y4 ltP ps).map Zf)else ag
  |_=>ag
 |.sortedT=>match x with
  |.lst xs=>(Z4 xs).bind λrs=>if Zcn rs=aj then aa (.lst<|(Zi rs).map Zb)else ag
  |_=>ag
 |.strI=>match x with
  |.int i=>if 0<=i/\i<10 then aa (.str<|mW i)else ag
  |_=>ag
 |.dictP=>match x with
  |.lst xs=>(Ws xs).bind λks=>if Uz ks=aj then aa (.dct<|aa ks)else ag
  |_=>ag
 |_=>ag
noncomputable def U4:List V->Option (List bx)
 |[]=>aa []
 |.str x::r=>(U4 r).map (x :: ·)
 |_::_=>ag
noncomputable def Z3(xs:List bx):Bool:=ae (xs.length<=1000)&&xs.all λx=>ae<|x.length<=1000
noncomputable def V3(x:bx):List V:=x.cps.toList.map λc=>.str ⟨#[c]⟩
noncomputable def zQ(f:So)(x y:V):Option V:=match x with
 |.str a=>match f with
  |.join=>match y with
   |.lst xs=>(U4 xs).bind λts=>if(Z3 ts&&Z3 [a])=aj then aa (.str<|ee a ts)else ag
   |_=>ag
  |.split=>match y with
   |.str b=>if b.length=1/\a.length<=1000000 then aa (.lst<|(ga a b).map .str)else ag
   |_=>ag
  |.find=>match y with
   |.str b=>if a.length<=1000 then aa (.int<|lO a b)else ag
   |_=>ag
  |.ix=>match y with
   |.int i=>if a.length<=1000 then(at' a.cps.toList i).map λc=>.str ⟨#[c]⟩else ag
   |_=>ag
 |_=>ag
noncomputable def Zfu:V->Option (List V)
 |.str x=>if x.cps.all (· < 128)=aj then aa (V3 x)else ag
 |_=>ag
noncomputable def blt2(f:Bf)(x y:V):Option V:=match x,y with
 |.lst xs,y=>match f with
  |.index=>(ZfH y xs).map λj:Nat=>.int j
  |_=>ag
 |.int a,.int b=>match f with
  |.max2=>aa<|.int (if b>a then b else a)
  |.min2=>aa<|.int (if b<a then b else a)
  |_=>ag
 |_,_=>ag
noncomputable def Xt(f:Bf)(as:List V):Option V:=match as with
 |[x]=>blt1 f x
 |[x,y]=>blt2 f x y
 |_=>ag
noncomputable def YM:List Nat->List V->Env->Option Env
 |[],[],O=>aa O
 |i::t,x::xs,O=>YM t xs<|O.set i<|aa x
 |_,_,_=>ag
noncomputable def qv:V->Option (List V)
 |.tup xs=>aa xs
 |.lst xs=>aa xs
 |_=>ag
noncomputable def Zk(t:List Nat)(x:V)(O:Env):Option Env:=match t with
 |[i]=>aa<|O.set i<|aa x
 |t=>match qv x with
  |some xs=>YM t xs O
  |none=>ag
abbrev Zz:=Nat->List V->DS->PR V
noncomputable def Z5(cap:List Nat)(nl:Nat)(O:Env):Env:=aA nl ag++cap.map λi=>(O[i]?).join
noncomputable def mapP(f:V->DS->PR (List V)):List V->DS->PR (List V)
 |[],s=>.ok [] s
 |x::xs,s=>match f x s with
  |.ok ys s=>match mapP f xs s with
   |.ok zs s=>.ok (ys++zs) s
   |_=>.no
  |_=>.no
noncomputable def Zfr(w:Bool)(c:Nat):V:=if w then .str (Zd7.getD c "")else .int c
noncomputable def own(nl:Nat)(t:List Nat):Bool:=t.all λi=>ae<|i<nl
noncomputable def own2(nl:Nat)(t u:List Nat):Bool:=own nl t&&u.all λi=>ae (i<nl) && !t.contains i
mutual
noncomputable def pv(C:Zz):E->Env->DS->PR V
 |.c d,_,s=>po (ofD d) s
 |.v i,O,s=>po (O[i]?).join s
 |.tup es,O,s=>(pvs C es O s).bind λxs s=>if xs.length<=lim then .ok (.tup xs) s else .no
 |.lst es,O,s=>(pvs C es O s).bind λxs s=>if xs.length<=lim then .ok (.lst xs) s else .no
 |.dnew,_,s=>.ok (.dct ag) s
 |.dput1 k v,O,s=>(pv C k O s).bind λx s=>(pv C v O s).bind λy s=>match x,y with
  |.int _,.int _=>.ok (.dct ag) s
  |_,_=>.no
 |.bin op a b,O,s=>(pv C a O s).bind λx s=>(pv C b O s).bind λy s=>YZ op x y s
 |.neg a,O,s=>(pv C a O s).bind λx s=>match x with
  |.int i=>.ok (.int<|-i) s
  |_=>.no
 |.not a,O,s=>(pv C a O s).bind λx s=>(po (Zq x) s).bind λb s=>.ok (.bl !b) s
 |.and a b,O,s=>(pv C a O s).bind λx s=>match x with
  |.bl c=>if c then pv C b O s else .ok (.bl ak) s
  |_=>.no
 |.or a b,O,s=>(pv C a O s).bind λx s=>match x with
  |.bl c=>if c then .ok (.bl aj) s else pv C b O s
  |_=>.no
 |.ite t a b,O,s=>(pv C t O s).bind λx s=>(po (Zq x) s).bind λc s=>if c then pv C a O s else pv C b O s
 |.cmp op a b,O,s=>(pv C a O s).bind λx s=>(pv C b O s).bind λy s=>po (Yl op x y) s
 |.chain o p a b d,O,s=>(pv C a O s).bind λx s=>(pv C b O s).bind λy s=>(po (Yl o x y) s).bind λz s=>match z with
  |.bl c=>if c then(pv C d O s).bind λw s=>po (Yl p y w) s else .ok (.bl ak) s
  |_=>.no
 |.ix a i,O,s=>(pv C a O s).bind λx s=>(pv C i O s).bind λy s=>po (ixV x y) s
 |.sl a lo hi,O,s=>(pv C a O s).bind λx s=>(pvo C lo O s).bind λl s=>(pvo C hi O s).bind λh s=>po (slV x l h) s
 |.rev a,O,s=>(pv C a O s).bind λx s=>po (Zfz x) s
 |.call f as,O,s=>(pvs C as O s).bind λxs s=>C f xs s
 |.blt f as,O,s=>(pvs C as O s).bind λxs s=>po (Xt f xs) s
 |.mt _ _ _,_,_=>.no
 |.isi a ts,O,s=>(pv C a O s).bind λx s=>(po (Z9 x ts) s).bind λb s=>.ok (.bl b) s
 |.inT a tab,O,s=>(pv C a O s).bind λx s=>match x with
  |.int i=>.ok (.bl ((tab.map (·.1)).contains i)) s
  |_=>.no
 |.getT tab a,O,s=>(pv C a O s).bind λx s=>match x with
  |.int i=>(po (tab.lookup i) s).bind λj s=>.ok (.int j) s
  |_=>.no
 |.comp1 cap nl t it ifs elt,O,s=>if own nl t=aj then(pvw C it O s).bind λw s=>
   ((mapP (λx s=>(po (Zk t x<|Z5 cap nl O) s).bind λZ s=>(pvt C ifs Z s).bind λb s=>if b then(pv C elt Z s).bind λy s=>.ok [y] s else .ok [] s) w s).bind
    λys s=>if ys.length<=lim then .ok (.lst ys) s else .no).nox
  else .no
 |.comp2 cap nl t it ifs u jt jfs elt,O,s=>if own2 nl t u=aj then(pvw C it O s).bind λw s=>
   ((mapP (λx s=>(po (Zk t x<|Z5 cap nl O) s).bind λZ s=>(pvt C ifs Z s).bind λb s=>if b then
    (pvw C jt Z s).bind λw2 s=>mapP (λx s=>(po (Zk u x Z) s).bind λZ s=>(pvt C jfs Z s).bind λb s=>if b then(pv C elt Z s).bind λy s=>.ok [y] s else .ok [] s) w2 s
    else .ok [] s) w s).bind
    λys s=>if ys.length<=lim then .ok (.lst ys) s else .no).nox
  else .no
 |.fi a,O,s=>(pv C a O s).bind λx s=>match x with
  |.int i=>if Y7 i=aj then .ok (.int i) s else .no
  |_=>.no
 |.refu w e,O,s=>match pv C e O s with
  |.ok _ s=>.ok .non s
  |.ex c s=>if 1<=c/\c<=10 then .ok (Zfr w<|c-1) s else .no
  |.no=>.no
 |.dix a k,O,s=>(pv C a O s).bind λx s=>match x with
  |.drw=>.ok (if k then .bl s.2 else .int s.1) s
  |_=>.no
 |.callF f as,O,s=>(pvs C as O s).bind λxs s=>C f xs s
 |.sop f a b,O,s=>(pv C a O s).bind λx s=>(pv C b O s).bind λy s=>po (zQ f x y) s
noncomputable def pvs(C:Zz):List E->Env->DS->PR (List V)
 |[],_,s=>.ok [] s
 |e::es,O,s=>(pv C e O s).bind λx s=>(pvs C es O s).bind λxs s=>.ok (x::xs) s
noncomputable def pvo(C:Zz):Option E->Env->DS->PR (Option Int)
 |none,_,s=>.ok ag s
 |some e,O,s=>(pv C e O s).bind λx s=>match x with
  |.int i=>.ok (aa i) s
  |_=>.no
noncomputable def pvt(C:Zz):List E->Env->DS->PR Bool
 |[],_,s=>.ok aj s
 |e::es,O,s=>(pv C e O s).bind λx s=>(po (Zq x) s).bind λb s=>if b then pvt C es O s else .ok ak s
noncomputable def pvw(C:Zz):W->Env->DS->PR (List V)
 |.rng1 a,O,s=>(pv C a O s).bind λx s=>match x with
  |.int i=>if Y7 i then .ok (ZZ 0 i.toNat) s else .no
  |_=>.no
 |.rng2 a b,O,s=>(pv C a O s).bind λx s=>(pv C b O s).bind λy s=>match x,y with
  |.int i,.int j=>if(Y7 i&&Y7 j)=aj then .ok (ZZ i (j-i).toNat) s else .no
  |_,_=>.no
 |.rrng a b,O,s=>(pv C a O s).bind λx s=>(pv C b O s).bind λy s=>match x,y with
  |.int i,.int j=>if(Y7 i&&Y7 j)=aj then .ok (ZZ i (j-i).toNat).reverse s else .no
  |_,_=>.no
 |.rtup a,O,s=>(pv C a O s).bind λx s=>match x with
  |.tup xs=>.ok xs.reverse s
  |_=>.no
 |.zip a b,O,s=>(pv C a O s).bind λx s=>(pv C b O s).bind λy s=>match Yu x,Yu y with
  |some v,aa w=>.ok ((v.zip w).map λp=>.tup [p.1,p.2]) s
  |_,_=>.no
 |.enum a,O,s=>(pv C a O s).bind λx s=>match Yu x with
  |some w=>.ok (((ZZ 0 w.length).zip w).map λp=>.tup [p.1,p.2]) s
  |none=>.no
 |.of e,O,s=>(pv C e O s).bind λx s=>po (Yu x) s
 |.dk e,O,s=>(pv C e O s).bind λx s=>po (Zfh x) s
 |.sgn e,O,s=>(pv C e O s).bind λx s=>po (Zfu x) s
end
inductive FlV where|nx (O:Env) (os:List Nat)|ret (v:V)|brk (O:Env) (os:List Nat)|cnt (O:Env) (os:List Nat)
noncomputable def hide(os:List Nat)(O:Env):Env:=O.mapIdx λi o=>if os.contains i then ag else o
noncomputable def fresh:E->Bool
 |.lst _=>aj
 |.comp1 .. => aj
 |.comp2 .. => aj
 |.bin .mul (.lst _) _=>aj
 |.blt .list _=>aj
 |.blt .sorted _=>aj
 |.blt .rangeL _=>aj
 |.blt .listD _=>aj
 |.blt .sortedD _=>aj
 |.blt .sortedS _=>aj
 |.blt .sortedT _=>aj
 |.blt .sortedU _=>aj
 |.callF _ _=>aj
 |_=>ak
noncomputable def Gz:V->Bool
 |.lst xs=>YJ xs
 |_=>ak
noncomputable def pvA(C:Zz)(e:E)(O:Env)(os:List Nat)(s:DS):PR V:=match os with
 |[]=>pv C e O s
 |os=>match pv C e (hide os O) s with
  |.ok v s=>.ok v s
  |.ex c s=>.ex c s
  |.no=>(pv C e O s).bind λv s=>if(v.flat||fresh e&&Gz v)=aj then .ok v s else .no
noncomputable def ZfX(C:Zz)(es:List E)(O:Env)(os:List Nat)(s:DS):PR (List V):=match os with
 |[]=>pvs C es O s
 |os=>match pvs C es (hide os O) s with
  |.ok v s=>.ok v s
  |.ex c s=>.ex c s
  |.no=>(pvs C es O s).bind λv s=>if YJ v then .ok v s else .no
noncomputable def Y5(C:Zz)(e:E)(O:Env)(s:DS):PR Bool:=(pv C e O s).bind λx s=>po (Zq x) s
noncomputable def Y2(body:V->Env->List Nat->DS->PR FlV):List V->Env->List Nat->DS->PR FlV
 |[],O,os,s=>.ok (.nx O os) s
 |x::xs,O,os,s=>(body x O os s).bind λf s=>match f with
  |.nx O os=>Y2 body xs O os s
  |.cnt O os=>Y2 body xs O os s
  |.brk O os=>.ok (.nx O os) s
  |.ret v=>.ok (.ret v) s
noncomputable def YW(test:Env->DS->PR Bool)(body:Env->List Nat->DS->PR FlV):Nat->Env->List Nat->DS->PR FlV
 |0,_,_,_=>.no
 |n+1,O,os,s=>(test O s).bind λb s=>if b then(body O os s).bind λf s=>match f with
  |.nx O os=>YW test body n O os s
  |.cnt O os=>YW test body n O os s
  |.brk O os=>.ok (.nx O os) s
  |.ret v=>.ok (.ret v) s
  else .ok (.nx O os) s
noncomputable def okS(x:Int)(b:Bool):Bool:=ae (0<=x)&&(b||decide (x<2147483647))
noncomputable def UK:V->Option DS
 |.lst [.int a,.bl b]=>if okS a b=aj then aa (a,b)else ag
 |_=>ag
noncomputable def Vt(o:Option V):Option V:=o.filter V.flat
noncomputable def Ww(i:Nat)(O:Env):Env:=(O.take i).map Vt++aA (O.length-i) ag
noncomputable def ZeM:Option (Option V)->Option (List<|List Int)
 |some (aa<|.dow ks)=>aa ks
 |_=>ag
noncomputable def Yk(ks:List (List Int))(k:List Int):List (List Int):=if ks.contains k then ks else ks++[k]
noncomputable def ZdP:V->Option (List Int)
 |.tup k=>intsV k
 |_=>ag
noncomputable def isT:V->Bool
 |.bl aj=>aj
 |_=>ak
noncomputable def WU:Option (Option V)->Option (List V)
 |some (aa<|.lst xs)=>aa xs
 |_=>ag
mutual
noncomputable def rv(C:Zz)(ms:List Nat):Sm->Env->List Nat->DS->PR FlV
 |.asg [i] e,O,os,s=>(pvA C e O os s).bind λv s=>if(ms.contains i&&fresh e)=aj then match v with
   |.lst xs=>if YJ xs=aj/\i<O.length then .ok (.nx (O.set i<|aa v) (i::os.filter (· != i))) s else .no
   |_=>.no
  else .ok (.nx (O.set i<|aa v) (os.filter (· != i))) s
 |.asg t e,O,os,s=>(pvA C e O os s).bind λv s=>if(t.any os.contains)=aj then .no else(po (Zk t v O) s).bind λO s=>.ok (.nx O os) s
 |.par t es,O,os,s=>(ZfX C es O os s).bind λvs s=>if(t.any os.contains)=aj then .no else(po (YM t vs O) s).bind λO s=>.ok (.nx O os) s
 |.aug i op e,O,os,s=>if os.contains i then .no else(po (O[i]?).join s).bind λx s=>(pv C e O s).bind λy s=>(Zer op x y s).bind λz s=>.ok (.nx (O.set i<|aa z) os) s
 |.put (.v i) k e,O,os,s=>if os.contains i then(pv C e O s).bind λv s=>if v.flat then(po (WU O[i]?) s).bind λxs s=>(pv C k O s).bind λy s=>match y with
   |.int n=>(po (ixN xs.length n) s).bind λj s=>.ok (.nx (O.set i<|aa<|.lst<|xs.set j v) os) s
   |_=>.no
  else .no else .no
 |.put _ _ _,_,_,_=>.no
 |.dput (.v i) k e,O,os,s=>if os.contains i then(pv C e O s).bind λv s=>if isT v=aj then(po (ZeM O[i]?) s).bind λks s=>(pv C k O s).bind λy s=>(po (ZdP y) s).bind λr s=>if ks.length<lim then .ok (.nx (O.set i<|aa<|.dow<|Yk ks r) os) s else .no
  else .no else .no
 |.dput _ _ _,_,_,_=>.no
 |.ret e,O,os,s=>(pv C e O s).bind λv s=>.ok (.ret v) s
 |.ex (.mt .append (.v i) [e]),O,os,s=>if os.contains i then(po (WU O[i]?) s).bind λxs s=>(pv C e O s).bind λv s=>if v.flat=aj/\xs.length<lim then .ok (.nx (O.set i<|aa<|.lst<|xs++[v]) os) s else .no else .no
 |.ex (.mt .extend (.v i) [e]),O,os,s=>if os.contains i then(po (WU O[i]?) s).bind λxs s=>(pv C e (hide os O) s).bind λv s=>match v with
   |.lst ys=>if YJ ys=aj/\xs.length+ys.length<=lim then .ok (.nx (O.set i<|aa<|.lst<|xs++ys) os) s else .no
   |_=>.no
  else .no
 |.ex e,O,os,s=>(pv C e O s).bind λ_ s=>.ok (.nx O os) s
 |.ite t a b,O,os,s=>(Y5 C t O s).bind λc s=>if c then rvs C ms a O os s else rvs C ms b O os s
 |.forr t it b,O,os,s=>(pvw C it (hide os O) s).bind λw s=>Y2 (λx O os s=>if(t.any os.contains)=aj then .no else(po (Zk t x O) s).bind λO s=>rvs C ms b O os s) w O os s
 |.whl t b,O,os,s=>YW (Y5 C t) (rvs C ms b) GR O os s
 |.raise c as,O,os,s=>(pvs C as O s).bind λ_ s=>.ex c s
 |.pas,O,os,s=>.ok (.nx O os) s
 |.brk,O,os,s=>.ok (.brk O os) s
 |.cnt,O,os,s=>.ok (.cnt O os) s
 |.mov i j,O,os,s=>if(os.contains j&&(!os.contains i&&ae (i≠j)))=aj then(po (WU O[j]?) s).bind λxs s=>.ok (.nx ((O.set i<|aa<|.lst xs).set j ag) (os.filter (· != j))) s else .no
 |.dset i e,O,os,s=>(pv C e O s).bind λv s=>match v with
  |.int x=>if okS x s.2=aj then match(O[i]?).join with
   |some .drw=>.ok (.nx O os) (x,s.2)
   |_=>.no
   else .no
  |_=>.no
 |.cel i f as b,O,os,s=>if os.isEmpty=aj then(pvs C as O s).bind λxs s=>(C f xs s).bind λv s=>(po (UK v) s).bind λd s=>match rvs C ms b ((Ww i O).set i<|aa .drw) [] d with
  |.ok (.nx O _) _=>.ok (.nx (O.map Vt) []) s
  |.ok (.cnt O _) _=>.ok (.cnt (O.map Vt) []) s
  |.ok (.brk O _) _=>.ok (.brk (O.map Vt) []) s
  |.ok (.ret v) _=>if v.flat=aj then .ok (.ret v) s else .no
  |_=>.no
  else .no
 |.retO i,O,os,s=>if os.contains i then(po (WU O[i]?) s).bind λxs s=>.ok (.ret<|.lst xs) s else .no
 |.dnw i k,O,os,s=>(pv C k O s).bind λy s=>(po (ZdP y) s).bind λr s=>if i<O.length then .ok (.nx (O.set i<|aa<|.dow [r]) (i::os.filter (· != i))) s else .no
 |.lnw i es,O,os,s=>(pvs C es (hide os O) s).bind λxs s=>if xs.length<=lim/\i<O.length then .ok (.nx (O.set i<|aa<|.lst xs) (i::os.filter (· != i))) s else .no
 |.cat i es,O,os,s=>if os.contains i then(po (WU O[i]?) s).bind λxs s=>(pvs C es (hide os O) s).bind λys s=>if ys.length<=lim/\xs.length+ys.length<=lim/\i<O.length then .ok (.nx (O.set i<|aa<|.lst<|xs++ys) (i::os.filter (· != i))) s else .no else .no
 |.app i e,O,os,s=>if os.contains i then(po (WU O[i]?) s).bind λxs s=>(pv C e (hide os O) s).bind λv s=>if xs.length<lim then .ok (.nx (O.set i<|aa<|.lst<|xs++[v]) os) s else .no else .no
 |.forF t e b,O,os,s=>(pvA C e O os s).bind λv s=>match v with
  |.lst w=>Y2 (λx O os s=>if(t.any os.contains)=aj then .no else(po (Zk t x O) s).bind λO s=>rvs C ms b O os s) w O os s
  |_=>.no
noncomputable def rvs(C:Zz)(ms:List Nat):List Sm->Env->List Nat->DS->PR FlV
 |[],O,os,s=>.ok (.nx O os) s
 |m::ss,O,os,s=>(rv C ms m O os s).bind λf s=>match f with
  |.nx O os=>rvs C ms ss O os s
  |f=>.ok f s
end
mutual
noncomputable def xJ:Sm->List Nat
 |.put (.v i) _ _=>[i]
 |.ex (.mt .append (.v i) _)=>[i]
 |.ex (.mt .extend (.v i) _)=>[i]
 |.ite _ a b=>muts a++muts b
 |.forr _ _ b=>muts b
 |.whl _ b=>muts b
 |.cel _ _ _ b=>muts b
 |.retO i=>[i]
 |.dput (.v i) _ _=>[i]
 |.forF _ _ b=>muts b
 |_=>[]
noncomputable def muts:List Sm->List Nat
 |[]=>[]
 |m::ss=>xJ m++muts ss
end
noncomputable def ZS(n:Nat)(xs:List V):Env:=xs.map aa++aA (n-xs.length) ag
noncomputable def XM(s:DS)(m:Int):Int×DS:=
 if s.2 then(s.1%m,(s.1 / m,aj))else
  let x:=(s.1*48271+29)%2147483647
  let y:=(x*x+39373*x+7)%2147483629
  let z:=(y*y+16807*y)%2147483587
  (z / 8%m,(x,ak))
noncomputable def Zb8(vs:List V)(s:DS):PR V:=match vs with
 |[.drw,.int m]=>if 0<m/\m<1073741824 then .ok (.int (XM s m).1) (XM s m).2 else .no
 |_=>.no
noncomputable def Zo(F:List Fn)(tk:Nat):Nat->Zz
 |0,_,_,_=>.no
 |d+1,f,xs,s=>if f=tk then Zb8 xs s else match F[f]? with
  |some fn=>if xs.length=fn.ps then(rvs (Zo F tk d) (muts fn.body) fn.body (ZS fn.ns xs) [] s).bind λf s=>match f with
    |.ret v=>.ok v s
    |.nx _ _=>.ok .non s
    |_=>.no
   else .no
  |none=>.no
end Pv
namespace Sd
open PySem PySem.Spec PyProof.Rows L2
open Ev (E Sm Fn Bop Cop Ty Bf Mf)
noncomputable abbrev D:=Pv.V
noncomputable abbrev Zv:=Pv.DS
noncomputable abbrev Lc:=Pv.Env
noncomputable abbrev R:=Pv.PR
noncomputable abbrev Calls:=Pv.Zz
structure Mx where
 K:aq
 n0:Option aJ
 X:aJ->Prop
 xz:∀a,n0=aa a->X a
def Scr(K:aq)(H:Hp)(a:aJ)(ns:List Int):Prop:=
 (∃o,H a=aa (.frz o<|.lst<|ns.map V.int))\/
  ∃(o:fA)(its:Array ap)(n:Nat),K.lookup a=aa o/\o.cls=.type "list"/\o.dict=ag/\o.data=.seq its n/\its.size<=aZ/\Vals (ns.map V.int) its.toList
def Scr.sq{K:aq}{H:Hp}{a:aJ}{ns:List Int}(h:Scr K H a ns):SqL K H a (ns.map V.int):=by
 rcases h with⟨o,h⟩|h
 .exact .inl<|.inr #[o,h]
 .exact .inr h
def Dct(H:Hp)(a:aJ):Option (List<|List Int)->Prop
 |none=>∃vs,H a=aa (.dK vs)
 |some ks=>∃o vs,H a=aa (.frz o<|.dT vs)/\vs.map (·.1)=ks.map (·.map cP)
mutual
def Rep(O:Mx)(H:Hp):D->V->Prop
 |.non,v=>v=.non
 |.bl b,v=>v=.bl b
 |.int i,v=>v=.int i
 |.str x,v=>v=.str x
 |.tup ds,v=>∃a xs,v=.ref a/\H a=aa (.tup xs)/\Rq O H ds xs
 |.lst ds,v=>∃a xs,v=.ref a/\H a=aa (.lst xs)/\¬O.X a/\Rq O H ds xs
 |.drw,v=>∃a,v=.ref a/\O.n0=aa a
 |.dct o,v=>∃a,v=.ref a/\Dct H a o
 |.scr ns,v=>∃a,v=.ref a/\Scr O.K H a ns
 |.dow ks,v=>∃a vs,v=.ref a/\H a=aa (.dT vs)/\¬O.X a/\vs.map (·.1)=ks.map (·.map cP)
def Rq(O:Mx)(H:Hp):List D->List V->Prop
 |[],xs=>xs=[]
 |d::ds,xs=>∃v vs,xs=v::vs/\Rep O H d v/\Rq O H ds vs
end
structure Fut(O:Mx)(H:Hp)(ρ':Mx)(H':Hp):Prop where
 eq:ρ'=O
 keep:∀a o,H a=aa o->H' a=aa o\/(O.n0=aa a/\∃xs,o=.lst xs)\/((∃ps,o=.tbl ps)/\∃ps,H' a=aa (.tbl ps))
def Fut.refl(O:Mx)(H:Hp):Fut O H O H:=#[rfl,λ_ _ h=>.inl h]
def Fut.trans{O ρ1 ρ2:Mx}{H H1 H2:Hp}(a:Fut O H ρ1 H1)(b:Fut ρ1 H1 ρ2 H2):Fut O H ρ2 H2:=by
 obtain⟨rfl,f⟩:=a;obtain⟨rfl,g⟩:=b;refine#[rfl,λa o h=>(f a o h).elim (λh=>g a o h) λz=>z.elim (λz=>.inr<|.inl z) λ#[e,ps,h]=>?_]
 rcases g a _ h with q|⟨_,xs,q⟩|⟨_,q⟩
 .exact .inr<|.inr #[e,ps,q]
 .cases q
 .exact .inr<|.inr #[e,q]
def Fut.there(f:Fut O H ρ' H')(n:O.n0≠.some a)(h:H a≠ag):H' a≠ag:=by
 obtain⟨o,e⟩:=Option.ne_none_iff_exists'.mp h;rcases f.keep a o e with q|q|⟨_,_,q⟩
 .rw[q];intro z;cases z
 .exact T7 q.1 n
 .rw[q];intro z;cases z
def Fut.new(f:Fut O H ρ' H')(h:H' a=ag)(xd:∀a,O.X a->H' a≠ag):H a=ag:=by
 cases q:H a with
 |none=>rfl
 |some o=>
  rcases f.keep a o q with e|e|⟨_,_,e⟩
  .rw[h]at e;cases e
  .exact T7 h<|xd a<|O.xz a e.1
  .rw[h]at e;cases e
structure Lat(O:Mx)(H:Hp)(ρ':Mx)(H':Hp):Prop where
 K:ρ'.K=O.K
 n0:ρ'.n0=O.n0
 keep':∀a o,H a=aa o->(∀xs,o=.lst xs->¬O.X a)->(∀ps,o≠.tbl ps)->(∀vs,o=.dT vs->¬O.X a)->H' a=aa o
 X:∀a,H a≠ag->ρ'.X a->O.X a
def Lat.keep(f:Lat O H ρ' H')(a:aJ)(o:HO)(h:H a=aa o)(x:∀xs,o=.lst xs->¬O.X a)(n:∀ps,o≠.tbl ps:=by intro _ z;cases z)(m:∀vs,o=.dT vs->¬O.X a:=by intro _ z;cases z):H' a=aa o:=f.keep' a o h x n m
mutual
theorem Rep.lat(f:Lat O H ρ' H'):∀{d:D}{v:V},Rep O H d v->Rep ρ' H' d v
 |.non,_,h|.bl _,_,h|.int _,_,h|.str _,_,h=>by exact h
 |.tup ds,v,h=>by
  obtain⟨a,xs,e,t,r⟩:=h;exact#[a,xs,e,f.keep a _ t (λ_ z=>by cases z),r.lat f]
 |.lst ds,v,h=>by
  obtain⟨a,xs,e,t,x,r⟩:=h;exact#[a,xs,e,f.keep a _ t λ_ _=>x,λz=>x (f.X a (by rw[t];intro z;cases z) z),r.lat f]
 |.drw,v,h=>by unfold Rep at h ⊢;rw[f.n0];exact h
 |.dct o,v,h=>by
  obtain⟨a,e,t⟩:=h;refine#[a,e,?_];cases o with|none=>obtain⟨vs,t⟩:=t;exact#[vs,f.keep a _ t λ_ z=>by cases z]|some ks=>obtain⟨o,vs,t,q⟩:=t;exact#[o,vs,f.keep a _ t (λ_ z=>by cases z),q]
 |.scr ns,v,h=>by
  unfold Rep at h ⊢;obtain⟨a,e,t⟩:=h;rw[f.K];refine#[a,e,?_];rcases t with⟨o,t⟩|t
  .exact .inl #[o,f.keep a _ t λ_ z=>by cases z]
  .exact .inr t
 |.dow ks,v,h=>by
  unfold Rep at h ⊢;obtain⟨a,vs,e,t,x,q⟩:=h;exact#[a,vs,e,f.keep a _ t (λ_ z=>by cases z) (by intro _ z;cases z) λ_ _=>x,λz=>x (f.X a (by rw[t];intro z;cases z) z),q]
theorem Rq.lat(f:Lat O H ρ' H'):∀{ds:List D}{xs:List V},Rq O H ds xs->Rq ρ' H' ds xs
 |[],_,h=>by exact h
 |d::ds,xs,h=>by
  obtain⟨v,vs,e,r,rs⟩:=h;exact#[v,vs,e,r.lat f,rs.lat f]
end
noncomputable def ZfN:bx:="law.<locals>.<lambda>"
def Tb(H:Hp):Prop:=∀(P:aJ)(ps:Array ap),H P=aa (.tbl ps)->TriplesOk ps.toList/\∀(pos:gW)(cv:ap),codeAmong pos ps.toList=aa cv->
 ∃(c:aJ)(oc:fA)(vs:Array ap)(t:pb),cv=.ref c/\H c=aa (.frz oc<|.own c)/\oc.data=.fields vs/\vs[1]?=aa (.str ZfN t)
theorem Tb.upd(h:Tb H)(hp:∀ob u,H p≠aa (.frz ob u))(ho:∀ps,o≠.tbl ps):Tb (upd H p o):=λP ps e=>by
 by_cases z:P=p
 .subst z;rw[Zy]at e;cases e;exact T7 rfl<|ho ps
 .rw[Zp z]at e
  obtain⟨a,b⟩:=h P ps e;refine#[a,λpos cv q=>?_]
  obtain⟨c,oc,vs,t,e1,e2,e3⟩:=b pos cv q;exact#[c,oc,vs,t,e1,by rw[Zp λz=>hp oc (.own c) (by rw[<-z];exact e2)];exact e2,e3]
structure St3(K:aq)(O:Mx)(S:Zv)(H:Hp):Prop where
 hk:O.K=K
 xd:∀a,O.X a->H a≠ag
 dw:∀a,O.n0=aa a->H a=aa (.lst [.int S.1,.bl S.2])/\Pv.okS S.1 S.2=aj
 tb:Tb H
def Fut.lat(f:Fut O H ρ' H'):Lat O H ρ' H':=by
 obtain⟨rfl,f⟩:=f;exact#[rfl,rfl,λa o h x n _=>(f a o h).elim id λz=>z.elim (λz=>T7 (ρ'.xz a z.1) (let #[xs,e]:=z.2;x xs e))<|by rintro ⟨⟨ps,e⟩,_⟩;exact T7 e<|n ps,λ_ _ h=>h]
def Rep.mono(f:Fut O H ρ' H')(h:Rep O H d v):Rep ρ' H' d v:=h.lat f.lat
def Rq.mono(f:Fut O H ρ' H')(h:Rq O H d v):Rq ρ' H' d v:=h.lat f.lat
section
variable{O:Mx}{H:Hp}{v:V}
def Rq.nil:Rq O H [] []:=by rfl
def Rq.cons{d:D}{v:V}{ds:List D}{vs:List V}(r:Rep O H d v)(rs:Rq O H ds vs):Rq O H (d::ds) (v::vs):=by
 exact#[v,vs,rfl,r,rs]
theorem Rq.length:∀{ds:List D}{xs:List V},Rq O H ds xs->xs.length=ds.length
 |[],_,h=>by rw[h];rfl
 |d::ds,xs,h=>by
  obtain⟨v,vs,rfl,_,rs⟩:=h;rw[aP,aP,Rq.length rs]
theorem Rq.append:∀{ds es:List D}{xs ys:List V},Rq O H ds xs->Rq O H es ys->Rq O H (ds++es) (xs++ys)
 |[],_,_,_,h,r=>by rw[h];exact r
 |d::ds,_,_,_,h,r=>by
  obtain⟨v,vs,rfl,a,rs⟩:=h;exact Rq.cons a<|Rq.append rs r
theorem Rq.take:∀{ds:List D}{xs:List V}(k:Nat),Rq O H ds xs->Rq O H (ds.take k) (xs.take k)
 |_,_,0,_=>Rq.nil
 |[],_,k+1,h=>by rw[h];exact Rq.nil
 |d::ds,_,k+1,h=>by
  obtain⟨v,vs,rfl,a,rs⟩:=h;exact Rq.cons a<|Rq.take k rs
theorem Rq.drop:∀{ds:List D}{xs:List V}(k:Nat),Rq O H ds xs->Rq O H (ds.drop k) (xs.drop k)
 |_,_,0,h=>h
 |[],_,k+1,h=>by rw[h];exact Rq.nil
 |d::ds,_,k+1,h=>by
  obtain⟨v,vs,rfl,a,rs⟩:=h;exact Rq.drop k rs
theorem Rq.get:∀{ds:List D}{xs:List V}{i:Nat}{d:D},Rq O H ds xs->ds[i]?=aa d->∃v,xs[i]?=aa v/\Rep O H d v
 |[],_,_,_,_,e=>by simp at e
 |d::ds,_,0,_,h,e=>by
  obtain⟨v,vs,rfl,a,rs⟩:=h;simp at e;subst e;exact#[v,rfl,a]
 |d::ds,_,i+1,_,h,e=>by
  obtain⟨v,vs,rfl,a,rs⟩:=h;obtain⟨u,q,r⟩:=Rq.get rs (by simpa using e)
  exact#[u,by simpa using q,r]
theorem Rq.reverse:∀{ds:List D}{xs:List V},Rq O H ds xs->Rq O H ds.reverse xs.reverse
 |[],_,h=>by rw[h];exact Rq.nil
 |d::ds,_,h=>by
  obtain⟨v,vs,rfl,a,rs⟩:=h;rw[gD,gD];exact Rq.append (Rq.reverse rs)<|Rq.cons a Rq.nil
theorem Rq.rep(h:Rq O H ds xs):∀k:Nat,Rq O H (aA k ds).flatten (aA k xs).flatten
 |0=>Rq.nil
 |k+1=>by
  rw[bN,bN,cE,cE];exact Rq.append h<|Rq.rep h k
theorem Rq.ints:∀ns:List Int,Rq O H (ns.map Pv.V.int) (ns.map V.int)
 |[]=>Rq.nil
 |n::ns=>Rq.cons (by rfl)<|Rq.ints ns
def Rep.int'{i:Int}(h:Rep O H (.int i) v):v=.int i:=by exact h
def Rep.bl'{b:Bool}(h:Rep O H (.bl b) v):v=.bl b:=by exact h
def Rep.non'(h:Rep O H .non v):v=.non:=by exact h
def Rep.str'{x:bx}(h:Rep O H (.str x) v):v=.str x:=by exact h
def Rep.tup'{ds:List D}(h:Rep O H (.tup ds) v):∃a xs,v=.ref a/\H a=aa (.tup xs)/\Rq O H ds xs:=by exact h
def Rep.lst'{ds:List D}(h:Rep O H (.lst ds) v):∃a xs,v=.ref a/\H a=aa (.lst xs)/\¬O.X a/\Rq O H ds xs:=by exact h
def Rep.drw'(h:Rep O H .drw v):∃a,v=.ref a/\O.n0=aa a:=by exact h
def Rep.dct'(h:Rep O H (.dct o) v):∃a,v=.ref a/\Dct H a o:=by exact h
def Rep.scr'(h:Rep O H (.scr ns) v):∃a,v=.ref a/\Scr O.K H a ns:=by exact h
def Rep.dow'{ks:List (List Int)}(h:Rep O H (.dow ks) v):∃a vs,v=.ref a/\H a=aa (.dT vs)/\¬O.X a/\vs.map (·.1)=ks.map (·.map cP):=by unfold Rep at h;exact h
def ZQ(i:Int):Rep O H (.int i) (.int i):=by rfl
def Ya(b:Bool):Rep O H (.bl b) (.bl b):=by rfl
def xN:Rep O H .non .non:=by rfl
def Xo(x:bx):Rep O H (.str x) (.str x):=by rfl
def YR(h:H a=aa (.tup xs))(r:Rq O H ds xs):Rep O H (.tup ds) (.ref a):=by exact#[a,xs,rfl,h,r]
def X4(h:H a=aa (.lst xs))(x:¬O.X a)(r:Rq O H ds xs):Rep O H (.lst ds) (.ref a):=by exact#[a,xs,rfl,h,x,r]
def Rep.seq(h:Rep O H x v)(e:Pv.Yu x=aa ds):∃p xs,v=.ref p/\(SqL O.K H p xs\/SqT O.K H p xs)/\Rq O H ds xs:=by
 cases x with|tup es=>cases e;obtain⟨p,xs,rfl,h,r⟩:=h.tup';exact#[p,xs,rfl,.inr<|SqT.of h,r]|lst es=>cases e;obtain⟨p,xs,rfl,h,_,r⟩:=h.lst';exact#[p,xs,rfl,.inl<|SqL.of h,r]|scr ns=>cases e;obtain⟨p,e,q⟩:=h.scr';exact#[p,_,e,.inl q.sq,Rq.ints ns]|_=>cases e
end
structure LocR(O:Mx)(H:Hp)(l:Lc)(Z:L2.St):Prop where
 len:l.length=Z.length
 val:∀(i:Nat)(d:D),l[i]?=aa (aa d)->∃v,Z[i]?=aa (aa v)/\Rep O H d v
theorem LocR.mono(f:Fut O H ρ' H')(r:LocR O H l Z):LocR ρ' H' l Z:=
 #[r.len,λi d e=>let #[v,q,h]:=r.val i d e;#[v,q,h.mono f]]
theorem LocR.set(r:LocR O H l Z)(i:Nat)(h:Rep O H d v):LocR O H (l.set i<|aa d) (Z.set i<|aa v):=
 #[by rw[bZ,bZ];exact r.len,λj e q=>by
  rw[ni]at q ⊢;split at q
  .rename_i hij
   subst hij;split at q
   .rename_i hl
    cases q;rw[T9 rfl,T9 (by rw[<-r.len];exact hl)]
    exact#[v,rfl,h]
   .cases q
  .rename_i hij
   rw[T8 hij];exact r.val j e q]
def End{B β:Type}(K:aq)(xw:Nat->Hp->Prop)(rep:Mx->Hp->B->β->Prop)(O:Mx)(H:Hp)(Q:β->Hp->Prop):R B->Prop
 |.ok d S=>∀ρ' H' v,Fut O H ρ' H'->St3 K ρ' S H'->rep ρ' H' d v->Q v H'
 |.ex c S=>∀ρ' H',Fut O H ρ' H'->St3 K ρ' S H'->xw c H'
 |.no=>False
section
variable{K:aq}{xw:Nat->Hp->Prop}{O ρ':Mx}{H H':Hp}{B β α' β':Type}{rep:Mx->Hp->B->β->Prop}{rep':Mx->Hp->α'->β'->Prop}
def End.mono{Q:β->Hp->Prop}(f:Fut O H ρ' H')(h:End K xw rep O H Q r):End K xw rep ρ' H' Q r:=by
 cases r with|ok d S=>exact λρ2 H2 v g st r=>h ρ2 H2 v (f.trans g) st r|ex c S=>exact λρ2 H2 g st=>h ρ2 H2 (f.trans g) st|no=>exact h
theorem End.bind{Q:β'->Hp->Prop}{Q1:β->Hp->Prop}(h:End K xw rep' O H Q (r.bind f))
  (k:∀d S ρ1 H1 v,Fut O H ρ1 H1->St3 K ρ1 S H1->rep ρ1 H1 d v->End K xw rep' ρ1 H1 Q (f d S)->Q1 v H1):End K xw rep O H Q1 r:=by
 cases r with|ok d S=>exact λρ1 H1 v g st r=>k d S ρ1 H1 v g st r<|End.mono g h|ex c S=>exact h|no=>exact h
theorem End.ok{Q:β->Hp->Prop}(h:End K xw rep O H Q (.ok a S))(st:St3 K O S H)(r:rep O H a v):Q v H:=h O H v (Fut.refl O H) st r
def End.ob{Q:β'->Hp->Prop}(h:End K xw rep' O H Q ((Pv.po o S).bind f)):∃a,o=aa a/\End K xw rep' O H Q (f a S):=by
 cases o with|none=>exact h.elim|some a=>exact#[a,rfl,h]
theorem End.po{Q:β->Hp->Prop}(h:End K xw rep O H Q (Pv.po o S)):∃a,o=aa a/\End K xw rep O H Q (.ok a S):=by
 cases o with|none=>exact h.elim|some a=>exact#[a,rfl,h]
theorem End.map{Q:β->Hp->Prop}(h:End K xw rep O H Q (Pv.po (o.map f) S)):∃a,o=aa a/\End K xw rep O H Q (.ok (f a) S):=by
 cases o with|none=>exact h.elim|some a=>exact#[a,rfl,h]
def End.ite{c:Prop}[Decidable c]{Q:β->Hp->Prop}(h:End K xw rep O H Q (if c then a else b)):(c/\End K xw rep O H Q a)\/(¬c/\End K xw rep O H Q b):=by
 split at h
 .exact .inl #[‹_›,h]
 .exact .inr #[‹_›,h]
def End.guard{c:Prop}[Decidable c]{Q:β->Hp->Prop}(h:End K xw rep O H Q (if c then a else .no)):c/\End K xw rep O H Q a:=by
 rcases h.ite with h|⟨_,h⟩
 .exact h
 .exact h.elim
end
abbrev nx:Nat->Hp->Prop:=λ_ _=>False
theorem End.nox{B β:Type}{K:aq}{xw:Nat->Hp->Prop}{O:Mx}{H:Hp}{rep:Mx->Hp->B->β->Prop}{Q:β->Hp->Prop}{r:R B}(h:End K xw rep O H Q r.nox):End K nx rep O H Q r:=by
 cases r with|ok d S=>exact h|ex c S=>exact h.elim|no=>exact h
def Wb(_:Mx)(_:Hp)(a b:Bool):Prop:=a=b
def Zfs(_:Mx)(_:Hp)(a b:Option Int):Prop:=a=b
section
variable(X:Cx)(xw:Nat->Hp->Prop)
def tE(f:Lc->Zv->R D):TE:=λZ H Q=>∃O l S,St3 X.K O S H/\LocR O H l Z/\End X.K xw Rep O H Q (f l S)
def tA(f:Lc->Zv->R (List D)):TA:=λZ H Q=>∃O l S,St3 X.K O S H/\LocR O H l Z/\End X.K xw Rq O H Q (f l S)
def tB3(f:Lc->Zv->R Bool):TT:=λZ H Q=>∃O l S,St3 X.K O S H/\LocR O H l Z/\End X.K xw Wb O H Q (f l S)
def tO(f:Lc->Zv->R (Option Int)):TO:=λZ H Q=>∃O l S,St3 X.K O S H/\LocR O H l Z/\End X.K xw Zfs O H Q (f l S)
variable(C:Calls)
structure CE(e:Expr)(i:E):Prop where
 h:PE X e (tE X xw<|Pv.pv C i)
structure CT(e:Expr)(i:E):Prop where
 h:PT X e (tB3 X xw<|Pv.Y5 C i)
structure CA(es:List Expr)(is:List E):Prop where
 h:PA X es (tA X xw<|Pv.pvs C is)
structure CO(e:Option Expr)(i:Option E):Prop where
 h:PO X e (tO X xw<|Pv.pvo C i)
end
def PE.imp(h:PE X e t)(k:∀Z H Q,t' Z H Q->t Z H Q):PE X e t':=λpq s Z H Q I q=>h pq s Z H Q I<|k Z H Q q
def PT.imp(h:PT X e t)(k:∀Z H Q,t' Z H Q->t Z H Q):PT X e t':=λpq s Z H Q I q=>h pq s Z H Q I<|k Z H Q q
def PA.imp(h:PA X e t)(k:∀Z H Q,t' Z H Q->t Z H Q):PA X e t':=λpos pq s Z H Q I q=>h pos pq s Z H Q I<|k Z H Q q
def PO.imp(h:PO X e t)(k:∀Z H Q,t' Z H Q->t Z H Q):PO X e t':=λpq s Z H Q I q=>h pq s Z H Q I<|k Z H Q q
section
variable{K:aq}{O ρ':Mx}{S:Zv}{H H':Hp}{a p:aJ}
def ZH(hp:H p=ag):Fut O H O (upd H p o):=#[rfl,λb u h=>.inl (by rw[Zp<|ZK h hp];exact h)]
def St3.fresh(st:St3 K O S H)(hp:H p=ag)(ho:∀ps,o≠.tbl ps:=by intro _ z;cases z):St3 K O S (upd H p o):=
 have n:∀b,H b≠ag->b≠p:=λb h z=>h (by rw[z];exact hp)
 #[st.hk,λb h=>by rw[Zp<|n b<|st.xd b h];exact st.xd b h,λb h=>by
  have:=st.dw b h;rw[Zp<|n b (by rw[this.1];intro z;cases z)];exact this,st.tb.upd (λob u z=>by rw[hp]at z;cases z) ho]
def St3.nx(st:St3 K O S H)(hp:H p=ag):¬O.X p:=λz=>st.xd p z hp
end
def XB:Ev.lim=aZ:=by rw[cI];rfl
section
variable{K:aq}{xw:Nat->Hp->Prop}{O:Mx}{H:Hp}{S:Zv}{Q:VK}
def End.newT(h:End K xw Rep O H Q (.ok (.tup ds) S))(st:St3 K O S H)(r:Rq O H ds xs):∀p,H p=ag->Q (.ref p) (upd H p<|.tup xs):=λp hp=>
 h O _ _ (ZH hp) (st.fresh hp) (YR Zy<|r.mono<|ZH hp)
def End.newL(h:End K xw Rep O H Q (.ok (.lst ds) S))(st:St3 K O S H)(r:Rq O H ds xs):∀p,H p=ag->Q (.ref p) (upd H p<|.lst xs):=λp hp=>
 h O _ _ (ZH hp) (st.fresh hp) (X4 Zy (st.nx hp)<|r.mono<|ZH hp)
end
section
variable{X:Cx}{xw:Nat->Hp->Prop}{C:Calls}{e a b c:Expr}{i j k:E}{pos:gW}
def ZdN{n:Int}{q}:CE X xw C (.Constant (.int n) q pos) (.c<|.int n):=.mk <| PE.imp JD<|by rintro Z H Q ⟨O,l,S,st,lr,h⟩;exact End.ok h st<|ZQ n
def Ze6{n:Bool}{q}:CE X xw C (.Constant (.bool n) q pos) (.c<|.bl n):=.mk <| PE.imp jc<|by rintro Z H Q ⟨O,l,S,st,lr,h⟩;exact End.ok h st<|Ya n
def Zdp{q}:CE X xw C (.Constant .none q pos) (.c .non):=.mk <| PE.imp Zd3<|by rintro Z H Q ⟨O,l,S,st,lr,h⟩;exact End.ok h st xN
def Zdb{x:bx}{q}:CE X xw C (.Constant (.str x) q pos) (.c<|.str x):=.mk <| PE.imp ZcF<|by rintro Z H Q ⟨O,l,S,st,lr,h⟩;exact End.ok h st<|Xo x
def ZfR(n:Nat){x:bx}(hN:X.N[n]?=aa x)(hv:Vis X.env.scope x)(hd:(x == ("__debug__" : bx))=ak)
  (hcd:(x == ("__classdict__" : bx))=ak):CE X xw C (.Name x pos) (.v n):=.mk <| PE.imp (Jz hN hv hd hcd)<|by
 rintro Z H Q ⟨O,l,S,st,lr,h⟩;rw[Pv.pv]at h;cases q:l[n]? with
 |none=>rw[q]at h;exact h.elim
 |some o=>
  cases o with
  |none=>rw[q]at h;exact h.elim
  |some d=>
   rw[q]at h;obtain⟨v,q2,r⟩:=lr.val n d q;exact#[v,q2,End.ok h st r]
def ZcW:CA X xw C [] []:=.mk <| PA.imp XI<|by
 rintro Z H Q ⟨O,l,S,st,lr,h⟩;rw[Pv.pvs]at h;exact End.ok h st Rq.nil
def Zax{es:List Expr}{is:List E}(ha:CE X xw C e i)(hr:CA X xw C es is)(hs:aE (e::es) X.env=(ak,cD e X.env)::aE es X.env):CA X xw C (e::es) (i::is):=.mk <|
 PA.imp (Yj ha.h hr.h hs)<|by
  rintro Z H Q ⟨O,l,S,st,lr,h⟩;rw[Pv.pvs]at h;exact#[O,l,S,st,lr,h.bind λx S1 ρ1 H1 v f1 st1 r1 h1=>#[ρ1,l,S1,st1,lr.mono f1,h1.bind λxs S2 ρ2 H2 vs f2 st2 r2 h2=>h2.ok st2<|Rq.cons (r1.mono f2) r2]]
def Zdo{es:List Expr}{is:List E}{q}(h:CA X xw C es is):CE X xw C (.Tuple es q pos) (.tup is):=.mk <| PE.imp (uP h.h)<|by
 rintro Z H Q ⟨O,l,S,st,lr,h⟩;rw[Pv.pv]at h;refine#[O,l,S,st,lr,h.bind λxs S1 ρ1 H1 vs f1 st1 r1 h1=>?_]
 obtain⟨hl,h1⟩:=h1.guard;exact#[by rw[r1.length,<-XB];exact hl,h1.newT st1 r1]
def Xf{r:R2}{g:D->D->Zv->R D}(hg:∀{O H S x y v u Q},St3 X.K O S H->Rep O H x v->Rep O H y u->End X.K xw Rep O H Q (g x y S)->r v u H Q) :
  ∀Z H Q,tE X xw (λl S=>(Pv.pv C i l S).bind λx S=>(Pv.pv C j l S).bind λy S=>g x y S) Z H Q->tOp r (tE X xw<|Pv.pv C i) (tE X xw<|Pv.pv C j) Z H Q:=λZ H Q #[O,l,S,st,lr,h]=>
 #[O,l,S,st,lr,h.bind λx S1 ρ1 H1 v f1 st1 r1 h1=>#[ρ1,l,S1,st1,lr.mono f1,h1.bind λy S2 ρ2 H2 u f2 st2 r2 h2=>hg st2 (r1.mono f2) r2 h2]]
end
def qc(K:aq):R2:=λx y H Q=>∃a b ys,x=.ref a/\y=.ref b/\SqT K H a []/\SqT K H b ys/\Q (.ref b) H
def jd:OpR X (eJ .Add) (qc X.K):=by
 intro pq s Z H x y v u Q I rx ry h;obtain⟨a,b,ys,rfl,rfl,ha,hb,q⟩:=h;cases rx;cases ry;obtain⟨its,r1,p1,_⟩:=I.tuple ha;obtain⟨its2,r2,p2,_⟩:=I.tuple hb;have e0:=r1.nil_iff.mpr rfl;obtain⟨⟨cls,dd,data,sl⟩,ho,hc,n,hd⟩:=id p1;obtain⟨⟨cls2,dd2,data2,sl2⟩,ho2,hc2,n2,hd2⟩:=id p2;simp only at hc hd hc2 hd2;subst hc hd hc2 hd2;exact m4 #[_,ho,rfl] #[_,ho2,rfl] kK mr gB gn (fX _ _)
   (tuple_addW0 a b its.toArray its2.toArray n n2 dd dd2 sl sl2<|by rw[e0];rfl) #[ho,ho2,#[.ref b,H,I,rfl,q]]
def Zfx(K:aq):V->Option Int->Option Int->Hp->VK->Prop:=λx lo hi H Q=>∃a xs,x=.ref a/\SqT K H a xs/\
 (HT.sIx xs.length 0 lo=0/\HT.sIx xs.length xs.length hi=xs.length)/\Q (.ref a) H
def Wd{prog:bC}{w:bU}{A:cL}{E:ap->ax->Prop}{s:ax}{t sl:aJ}{items:Array ap}{vl vu:ap}{lo hi:Option Int}{Q:ap->ax->Prop}(ht:oa s.heap t items)(hs:s.heap.IsSliceOf sl vl vu .none)(pl:kY vl lo)(pu:kY vu hi)
  (hw:HT.sIx items.size 0 lo=0/\HT.sIx items.size items.size hi=items.size)(h:Q (.ref t) s):aV (aS prog w) A (l9 (.ref t)<|.ref sl) Q E s:=by
 obtain⟨os,hos,hcs,hds⟩:=id hs;have hTs:s.TypeIs (.ref sl) "slice":=#[os,hos,hcs];unfold l9
 try with_reducible refine bI ?_
 first|refine ab<|au ?_|skip
 refine ab<|m5 ht.typeIs (by decide) ?_
 refine ab (cC ht.typeIs dA
  (cg dA ht.typeIs mf ?_<|mJ _ _))
 show aV _ _ (iL (.ref t) >>= _) _ _ s;refine ab<|tupleItemsOf_ ht ?_;refine ab<|fK hTs ?_;rw[T9 (by decide)]
 refine ab<|HT.Y3 hs pl pu ?_;have hyes:((((HT.sIx items.size 0 lo:Nat):Int) == 0&&(1:Int) == 1&&(HT.sIx items.size items.size hi-HT.sIx items.size 0 lo) == items.size)=aj):=by
  rw[hw.1,hw.2];simp
 show aV _ _ (if(((HT.sIx items.size 0 lo:Nat):Int) == 0&&(1:Int) == 1&&(HT.sIx items.size items.size hi-HT.sIx items.size 0 lo) == items.size)=aj then _ else _) _ _ s
 rw[T9 hyes];refine ab<|ab<|fK ht.typeIs<|au ?_;rw[T9 (by decide)]
 exact ab<|d7<|au #[_,rfl,au h]
def vS:SlR X (Zfx X.K):=by
 intro pq s Z H x v vl vu lo hi sl Q I rx hs pl pu h;obtain⟨a,xs,rfl,hx,hw,q⟩:=h;cases rx;obtain⟨its,r,ht,hz⟩:=I.tuple hx;have hlen:its.toArray.size=xs.length:=by rw[ay];exact r.length.symm
 refine#["tuple",_,dA.lookup,ht.typeIs,?_];exact Wd ht hs pl pu (by rw[hlen];exact hw) #[.ref a,H,I,rfl,q]
def yX(h:Ev.fits i=aj):mh i<=2^20:=by
 have h1:=T6 h;unfold mh;split
 .exact cJ _
 .rename_i hz
  have hne:i.natAbs≠0:=by intro z;exact hz (by simp[Int.natAbs_eq_zero.mp z])
  have:=(Nat.log2_lt hne).mpr h1;have e:(2:Nat)^20=1048576:=by decide
  omega
def ux:OpR X (eJ .FloorDiv) (rI (λ_ j=>0<j/\j<Ev.big) λi j=>.int<|i / j):=opI λi j _ _ _ _ _ hc q=>by
 have h1:=hc.1;have h2:=hc.2;have hne:j.natAbs≠0:=by omega
 have h3:j.natAbs<2^8000:=by
  have e:(j.natAbs:Int)=j:=Int.natAbs_of_nonneg (by omega)
  have h4:(j.natAbs:Int)<((2^8000:Nat):Int):=by rw[e,Int.natCast_pow];exact h2
  exact Int.ofNat_lt.mp h4
 have h5:=(Nat.log2_lt hne).mpr h3;exact floordiv_int (by omega) (by rw[Int.fdiv_eq_ediv_of_nonneg i (by omega)];exact q)<|.inl<|PyProof.noPylong_of_log2 (by omega)
def Za6:OpR X (eJ .Mult) (rI (λi j=>Ev.fits i=aj/\Ev.fits j=aj) λi j=>.int<|i*j):=opI λ_ _ _ _ _ _ _ hc q=>mul_int q<|IntMulOk.of_bits (yX hc.1)<|yX hc.2
def ZcK:OpR X (cB .Is) (λx y H Q=>∃a b,x=.bl a/\y=.bl b/\Q (.bl<|ae<|a=b) H):=by
 intro pq s Z H x y v u Q I rx ry h;obtain⟨a,b,rfl,rfl,q⟩:=h;cases rx;cases ry;cases a<;>cases b<;>exact au #[.bl _,H,I,rfl,q]
def UM:fillsNumberSlot (.type "tuple") "mul" = dg ak:=
 PySem.fillsNumberSlot_seq kM.lookup (by decide +kernel) F.slot_tuple_rmul.lookup (by decide +kernel)
def JC:seqRepeat? (.type "tuple")=dg (aa<|.builtin "tuple.__mul__"):=by
 unfold seqRepeat?
 rw[nO (name:="__mul__") kM.lookup (by decide +kernel),nO (name:="__rmul__") F.slot_tuple_rmul.lookup (by decide +kernel)]
 rfl
def Uk(a:Int)(t:pb)(l:aJ)(items:Array ap)(n:Nat)(dd:Option aJ)(sl:Array (Option ap)) :
  oS (db.«int.__rmul__» #[[.int a t,.ref l],[]]) (λ_ R s=>s.heap.get? l=aa {cls:=.type "tuple",dict:=dd,data:=.seq items n,slots:=sl}/\R (.ok<|.ret ap.notImplemented) s):=
 .of_wp λprog w A R s h=>by obtain⟨hp,g,d,tk,os⟩:=s;obtain⟨hl,h⟩:=h;wp_walk;exact#[_,rfl,h]
def Jb(l:aJ)(items:Array ap)(n:Nat)(dd:Option aJ)(sl:Array (Option ap))(x:Int)(u:pb)(h0:¬(x < -(2^63)||x>=2^63)=aj)(hc:(items.isEmpty||x == 1)=aj) :
  oS (db.«tuple.__mul__» #[[.ref l,.int x u],[]]) (λ_ R s=>s.heap.get? l=aa {cls:=.type "tuple",dict:=dd,data:=.seq items n,slots:=sl}/\R (.ok<|.ret<|bV l) {s with heap:=s.heap,toks:=s.toks}):=
 .of_wp λprog w A R s h=>by obtain⟨hp,g,d,tk,os⟩:=s;obtain⟨hl,h⟩:=h;have f1:=kL;have f2:=dH;wp_walk;rw[T8 h0];wp_walk using dE hl;exact#[_,rfl,h]
def JU(l:aJ)(items:Array ap)(n:Nat)(dd:Option aJ)(sl:Array (Option ap))(x:Int)(u:pb)(h0:¬(x < -(2^63)||x>=2^63)=aj)(hc:¬(items.isEmpty||x == 1)=aj)(h1:(x<=0||items.isEmpty)=aj) :
  oS (db.«tuple.__mul__» #[[.ref l,.int x u],[]]) (λ_ R s=>s.heap.get? l=aa {cls:=.type "tuple",dict:=dd,data:=.seq items n,slots:=sl}/\R (.ok<|.ret<|bV s.heap.objs.size) {s with heap:=s.heap.push {cls:=.type "tuple",data:=.seq #[]},toks:=s.toks}):=
 .of_wp λprog w A R s h=>by obtain⟨hp,g,d,tk,os⟩:=s;obtain⟨hl,h⟩:=h;have f1:=kL;have f2:=dH;wp_walk;rw[T8 h0];wp_walk using dE hl;exact#[_,rfl,h]
def zF(l:aJ)(items:Array ap)(n:Nat)(dd:Option aJ)(sl:Array (Option ap))(x:Int)(u:pb)(h0:¬(x < -(2^63)||x>=2^63)=aj)(hc:¬(items.isEmpty||x == 1)=aj)(h1:¬(x<=0||items.isEmpty)=aj)
  (h2:¬(items.size*x>(2^63-1) / 8))(h3:¬iN (items.size*x)=aj)(hsz:((aA x.toNat items).foldl (·++·) #[]).size<=aZ) :
  oS (db.«tuple.__mul__» #[[.ref l,.int x u],[]]) (λ_ R s=>s.heap.get? l=aa {cls:=.type "tuple",dict:=dd,data:=.seq items n,slots:=sl}/\R (.ok<|.ret<|bV s.heap.objs.size) {s with heap:=s.heap.push {cls:=.type "tuple",data:=.seq ((aA x.toNat items).foldl (·++·) #[])},toks:=s.toks}):=
 .of_wp λprog w A R s h=>by obtain⟨hp,g,d,tk,os⟩:=s;obtain⟨hl,h⟩:=h;have f1:=kL;have f2:=dH;wp_walk;rw[T8 h0];wp_walk using dE hl;rw[T8 h2];wp_walk using dE hl;exact#[_,rfl,h]
def Zb1(K:aq):R2:=λx y H Q=>∃a k xs,x=.ref a/\y=.int k/\SqT K H a xs/\(0<=k/\k<1000/\xs.length<=1000)/\
 ((xs=[]\/k=1)->Q (.ref a) H)/\(¬(xs=[]\/k=1)->∀p,H p=ag->Q (.ref p) (upd H p<|.tup (aA k.toNat xs).flatten))
def ZaR :OpR X (eJ .Mult) (Zb1 X.K):=by
 intro pq s Z H x y v u Q I rx ry h;obtain⟨a,k,xs,rfl,rfl,hx,⟨k0,k1,hz⟩,q1,q2⟩:=h;cases rx;obtain⟨t,rfl⟩:=ry;obtain⟨its,r,pt,_⟩:=I.tuple hx;have hl:=r.length;obtain⟨⟨cls,dd,data,sl⟩,ho,hc,n,hd⟩:=id pt;simp only at hc hd;subst hc hd;have h0:¬(ae (k < -(2^63))||decide (k>=2^63))=aj:=by
  rw[T4 (by lia),T4 (by lia)];exact aG
 refine i9 (by decide) #[_,ho,rfl] (λs'=>k6 s' k t) UM ox h9 JC F.slot_int_index.lookup
  (fc h9 (k6 s k t) nP (nj _ _) (Uk k t a its.toArray n dd sl) #[ho,rfl,#[_,ho,rfl],?_])
 have hnil:=r.nil_iff;by_cases c:xs=[]\/k=1
 .have c':(its.toArray.isEmpty||k == 1)=aj:=by
   rcases c with c|c
   .rw[hnil.mpr c];rfl
   .rw[c];simp
  exact fc kM #[_,ho,rfl] kj (iO _ _) (Jb a its.toArray n dd sl k t h0 c') #[ho,#[.ref a,H,I,rfl,q1 c]]
 .have ne:=λz=>c (.inl<|hnil.mp z)
  have k1:k≠1:=λz=>c<|.inr z
  have c':¬(its.toArray.isEmpty||k == 1)=aj:=by
   rw[beq_eq_false_iff_ne.mpr k1,pf,g7];cases its with|nil=>exact T7 rfl ne|cons _ _=>exact aG
  have fin:∀arr:List ap,arr=(aA k.toNat its).flatten->EP X pq Z Q (bV s.heap.objs.size) {s with heap:=s.heap.push {cls:=.type "tuple",data:=.seq arr.toArray}}:=λarr e=>by
   subst e;refine#[.ref s.heap.objs.size,_,I.laid (t':=s.toks) (λb ob q=>ao _ q) (aH _) ?_,rfl,q2 c _<|I.hok.fresh<|aH _]
   refine#[?_,_,r.rep k.toNat,iF _ _];rw[JF,cI];have:k.toNat*xs.length<=1000*1000:=fI (by lia) hz
   lia
  by_cases z:k=0
  .have h1:(ae (k<=0)||its.toArray.isEmpty)=aj:=by rw[z];rfl
   refine fc kM #[_,ho,rfl] kj (iO _ _) (JU a its.toArray n dd sl k t h0 c' h1) #[ho,?_];exact fin [] (by rw[z];rfl)
  .have h1:¬(ae (k<=0)||its.toArray.isEmpty)=aj:=by
    rw[T4 (by lia),kx,g7]
    cases its with|nil=>exact T7 rfl ne|cons _ _=>exact aG
   have hm:(its.toArray.size:Int)*k<=1000*1000:=by
    rw[ay,<-hl];exact Int.mul_le_mul (by lia) (by lia) k0 (by lia)
   have joined:(aA k.toNat its.toArray).foldl (·++·) #[]=(aA k.toNat its).flatten.toArray:=by
    have:=W5 its k.toNat [];rw[ic]at this;exact this
   have hsz:((aA k.toNat its.toArray).foldl (·++·) #[]).size<=aZ:=by
    rw[joined,ay,JF,cI,<-hl];have:k.toNat*xs.length<=1000*1000:=fI (by lia) hz
    lia
   refine fc kM #[_,ho,rfl] kj (iO _ _) (zF a its.toArray n dd sl k t h0 c' h1 (by lia) (by
    unfold iN;rw[T4 (by rw[cI];lia)]
    exact aG) hsz) #[ho,?_]
   rw[joined];exact fin _ rfl
def Zcu:R2:=λx y H Q=>∃a k xs,x=.ref a/\y=.int k/\H a=aa (.lst xs)/\(0<=k/\k<1000/\xs.length<=1000)/\∀p,H p=ag->Q (.ref p) (upd H p<|.lst (aA k.toNat xs).flatten)
def Zbo :OpR X (eJ .Mult) Zcu:=by
 intro pq s Z H x y v u Q I rx ry h;obtain⟨a,k,xs,rfl,rfl,hx,⟨k0,k1,hz⟩,q2⟩:=h;cases rx;obtain⟨t,rfl⟩:=ry;obtain⟨its,r,pl,_⟩:=I.list<|SqL.of hx;have hl:=r.length;obtain⟨⟨cls,dd,data,sl⟩,n,ho,hc,hd2,hd⟩:=id pl;simp only at hc hd hd2;subst hc hd;have hm:k.toNat*its.length<=1000*1000:=fI (by lia) (by lia)
 have hm2:its.length*k.toNat<=1000*1000:=by rw[nk];exact hm
 refine i9 (by decide) #[_,ho,rfl] (λs'=>k6 s' k t) noFill_list_mul ox h9 repeat_list F.slot_int_index.lookup
  (fc h9 (k6 s k t) nP (nj _ _) (lm_int_rmul_list_any k t a its.toArray n dd sl) #[ho,rfl,#[_,ho,rfl],
   fc F.slot_list_mul #[_,ho,rfl] F.entry_list_mul (F.args_list_mul_2 _ _) (lm_list_mul_any a its.toArray n dd sl k t (by simp[db.List.listFitsIndex];lia) (by rw[ay];lia)<|by rw[ay];simp[kw,aZ];lia) #[ho,?_]])
 have joined:(aA (if its.toArray.isEmpty=aj then 0 else k.toNat) its.toArray).foldl (λx1 x2=>x1++x2) #[]=(aA k.toNat its).flatten.toArray:=by
  have h0:=W5 its k.toNat [];rw[ic]at h0;by_cases z:its=[]
  .subst z
   have e:∀m:Nat,(aA m ([]:List ap)).flatten=[]:=λm=>by induction m with|zero=>rfl|succ m ih=>rw[bN,cE,ih];rfl
   rw[e];rfl
  .rw[T8 (by rw[g7];cases its with|nil=>exact T7 rfl z|cons _ _=>exact aG)]
   exact h0
 rw[joined];refine#[.ref s.heap.objs.size,_,I.laid (t':=s.toks) (λb ob q=>ao _ q) (aH _) ?_,rfl,q2 _<|I.hok.fresh<|aH _]
 refine#[?_,_,0,r.rep k.toNat,aD _ rfl];rw[JF,cI];rw[hl];lia
section
variable{X:Cx}{xw:Nat->Hp->Prop}{C:Calls}{e a b c:Expr}{i j k:E}{pos:gW}
variable{O:Mx}{H:Hp}{S:Zv}{x y:D}{v u:V}{Q:VK}{K:aq}
def Zb3(K:aq):R2:=λx y H Q=>rI0 (λi j=>.int<|i+j) x y H Q\/(Zcj K x y H Q\/(qc K x y H Q\/ZeL x y H Q))
def Zah:OpR X (eJ .Add) (Zb3 X.K):=Zef.or<|ZbV.or<|jd.or ZdC
def ZcX(st:St3 K O S H)(rx:Rep O H x v)(ry:Rep O H y u)(h:End K xw Rep O H Q (Pv.YZ .add x y S)):Zb3 K v u H Q:=by
 cases x with
 |int i=>cases y with|int j=>exact .inl #[i,j,rx.int',ry.int',End.ok h st<|ZQ _]|_=>exact False.elim h
 |tup ds=>cases y with
  |tup es=>
   obtain⟨hl,h⟩:=End.guard h;obtain⟨p,xs,rfl,hp,r1⟩:=rx.tup';obtain⟨q,ys,rfl,hq,r2⟩:=ry.tup';have l1:=r1.length;have l2:=r2.length;by_cases z:xs=[]
   .subst z
    have e1:=gq.mp l1.symm;subst e1;exact .inr<|.inr<|.inl #[p,q,ys,rfl,rfl,SqT.of hp,SqT.of hq,End.ok h st<|YR hq r2]
   .refine .inr (.inl #[p,q,xs,ys,rfl,rfl,SqT.of hp,SqT.of hq,z,by rw[l1,l2,<-XB];exact hl,λz2=>?_,λ_=>h.newT st<|r1.append r2])
    subst z2;have e2:=gq.mp l2.symm;subst e2;refine End.ok h st ?_;rw[bS];exact YR hp r1
  |_=>exact False.elim h
 |lst ds=>cases y with
  |lst es=>
   obtain⟨hl,h⟩:=End.guard h;obtain⟨p,xs,rfl,hp,_,r1⟩:=rx.lst';obtain⟨q,ys,rfl,hq,_,r2⟩:=ry.lst';exact .inr<|.inr<|.inr #[p,q,xs,ys,rfl,rfl,hp,hq,by rw[r1.length,r2.length,<-XB];exact hl,h.newL st<|r1.append r2]
  |_=>exact False.elim h
 |_=>cases y<;>exact False.elim h
def Zdq(st:St3 K O S H)(rx:Rep O H x v)(ry:Rep O H y u)(h:End K xw Rep O H Q (Pv.YZ .sub x y S)):rI0 (λi j=>.int<|i-j) v u H Q:=by
 cases x with
 |int i=>cases y with|int j=>exact#[i,j,rx.int',ry.int',End.ok h st<|ZQ _]|_=>exact False.elim h
 |_=>cases y<;>exact False.elim h
def Zb7(K:aq):R2:=λx y H Q=>rI (λi j=>Ev.fits i=aj/\Ev.fits j=aj) (λi j=>.int<|i*j) x y H Q\/(Zb1 K x y H Q\/Zcu x y H Q)
def ZbJ:OpR X (eJ .Mult) (Zb7 X.K):=Za6.or<|ZaR.or Zbo
def ZdK(st:St3 K O S H)(rx:Rep O H x v)(ry:Rep O H y u)(h:End K xw Rep O H Q (Pv.YZ .mul x y S)):Zb7 K v u H Q:=by
 cases x with
 |int i=>cases y with
  |int j=>
   obtain⟨hc,h⟩:=End.guard h;exact .inl #[i,j,rx.int',ry.int',(aF _ _).mp hc,End.ok h st<|ZQ _]
  |_=>exact False.elim h
 |tup ds=>cases y with
  |int k=>
   obtain⟨⟨h0,h1,h2⟩,h⟩:=End.guard h;obtain⟨p,xs,rfl,hp,r1⟩:=rx.tup';have l1:=r1.length;refine .inr <| .inl #[p,k,xs,rfl,ry.int',SqT.of hp,#[h0,h1,by rw[l1];exact h2],λz=>?_,λ_=>h.newT st<|r1.rep k.toNat]
   refine End.ok h st<|YR hp ?_;rcases z with z|z
   .subst z
    have e1:=gq.mp l1.symm;subst e1;have:∀m:Nat,(aA m ([]:List D)).flatten=[]:=λm=>by induction m with|zero=>rfl|succ m ih=>rw[bN,cE,ih];rfl
    rw[this];exact Rq.nil
   .subst z
    show Rq O H (aA 1 ds).flatten xs;rw[bN,List.replicate_zero,cE,List.flatten_nil,bS];exact r1
  |_=>exact False.elim h
 |lst ds=>cases y with
  |int k=>
   obtain⟨⟨h0,h1,h2⟩,h⟩:=End.guard h;obtain⟨p,xs,rfl,hp,_,r1⟩:=rx.lst';exact .inr<|.inr #[p,k,xs,rfl,ry.int',hp,#[h0,h1,by rw[r1.length];exact h2],h.newL st<|r1.rep k.toNat]
  |_=>exact False.elim h
 |_=>cases y<;>exact False.elim h
def Zbc(st:St3 K O S H)(rx:Rep O H x v)(ry:Rep O H y u)(h:End K xw Rep O H Q (Pv.YZ .fdiv x y S)):rI (λ_ j=>0<j/\j<Ev.big) (λi j=>.int<|i / j) v u H Q:=by
 cases x with
 |int i=>cases y with
  |int j=>
   obtain⟨hc,h⟩:=End.guard h;exact#[i,j,rx.int',ry.int',hc,End.ok h st<|ZQ _]
  |_=>exact False.elim h
 |_=>cases y<;>exact False.elim h
def Zc5(st:St3 K O S H)(rx:Rep O H x v)(ry:Rep O H y u)(h:End K xw Rep O H Q (Pv.YZ .mod x y S)):rI (λ_ j=>0<j) (λi j=>.int<|i%j) v u H Q:=by
 cases x with
 |int i=>cases y with
  |int j=>
   obtain⟨hc,h⟩:=End.guard h;exact#[i,j,rx.int',ry.int',hc,End.ok h st<|ZQ _]
  |_=>exact False.elim h
 |_=>cases y<;>exact False.elim h
theorem ZcQ(st:St3 K O S H)(rx:Rep O H x v)(ry:Rep O H y u)(h:End K xw Rep O H Q (Pv.YZ .pow x y S)):rI CPow (λi j=>.int<|i^j.toNat) v u H Q:=by
 cases x with
 |int i=>cases y with
  |int j=>
   obtain⟨hc,h⟩:=End.guard h;exact#[i,j,rx.int',ry.int',#[hc.1,by lia,hc.2.2],End.ok h st<|ZQ _]
  |_=>exact False.elim h
 |_=>cases y<;>exact False.elim h
def Zdr(ha:CE X xw C a i)(hb:CE X xw C b j):CE X xw C (.BinOp a .Add b pos) (.bin .add i j):=.mk <| PE.imp (QM Zah ha.h hb.h) (Xf λst rx ry h=>ZcX st rx ry h)
def ZdF(ha:CE X xw C a i)(hb:CE X xw C b j):CE X xw C (.BinOp a .Sub b pos) (.bin .sub i j):=.mk <| PE.imp (QM ZcD ha.h hb.h) (Xf λst rx ry h=>Zdq st rx ry h)
def Zdk(ha:CE X xw C a i)(hb:CE X xw C b j):CE X xw C (.BinOp a .Mult b pos) (.bin .mul i j):=.mk <| PE.imp (QM ZbJ ha.h hb.h) (Xf λst rx ry h=>ZdK st rx ry h)
def Za1(ha:CE X xw C a i)(hb:CE X xw C b j):CE X xw C (.BinOp a .FloorDiv b pos) (.bin .fdiv i j):=.mk <| PE.imp (QM ux ha.h hb.h) (Xf λst rx ry h=>Zbc st rx ry h)
def Zeb(ha:CE X xw C a i)(hb:CE X xw C b j):CE X xw C (.BinOp a .Mod b pos) (.bin .mod i j):=.mk <| PE.imp (QM ZcJ ha.h hb.h) (Xf λst rx ry h=>Zc5 st rx ry h)
def Zea(ha:CE X xw C a i)(hb:CE X xw C b j):CE X xw C (.BinOp a .Pow b pos) (.bin .pow i j):=.mk <| PE.imp (QM Zek ha.h hb.h) (Xf λst rx ry h=>ZcQ st rx ry h)
def Zd6(ha:CE X xw C a i):CE X xw C (.UnaryOp .USub a pos) (.neg i):=.mk <| PE.imp (ZeB Zd0 ha.h)<|by
 rintro Z H Q ⟨O,l,S,st,lr,h⟩;refine#[O,l,S,st,lr,End.bind (h) λx S1 ρ1 H1 v f1 st1 r1 h1=>?_]
 cases x with|int n=>exact#[n,r1.int',End.ok h1 st1<|ZQ _]|_=>exact False.elim h1
def GF(st:St3 K O S H)(rx:Rep O H x v)(h:Pv.Zq x=aa n):Zaq K v H n:=by
 cases x with
 |non=>rw[rx.non'];exact(al h).symm
 |bl b=>rw[rx.bl'];exact(al h).symm
 |int i=>
  rw[rx.int'];have h':=al h;rw[<-h'];by_cases z:i=0
  .subst z;rfl
  .rw[T5 z];exact(bne_iff_ne.mpr z).symm
 |tup ds=>
  obtain⟨p,xs,rfl,hp,r⟩:=rx.tup';have h':=al h;refine .inr<|.inl #[xs,SqT.of hp,?_];rw[<-h'];have:=r.length;cases ds<;>cases xs<;>first|rfl|(simp at this)
 |lst ds=>
  obtain⟨p,xs,rfl,hp,_,r⟩:=rx.lst';refine .inl #[xs,SqL.of hp,?_];rw[<-al h];have:=r.length;cases ds<;>cases xs<;>first|rfl|(simp at this)
 |_=>cases h
def Zdh(ha:CE X xw C a i)(he:∀whole,isTrue a X.env whole=(do let v <-whole;oG a.pos;kf [v] (truthy v))):CT X xw C a i:=.mk <|
 PT.imp (qM ha.h he)<|by
  rintro Z H Q ⟨O,l,S,st,lr,h⟩;refine#[O,l,S,st,lr,End.bind (show End X.K xw Wb O H Q ((Pv.pv C i l S).bind λx S=>Pv.po (Pv.Zq x) S)from h) λx S1 ρ1 H1 v f1 st1 r1 h1=>?_]
  cases q:Pv.Zq x with|none=>rw[q]at h1;exact False.elim h1|some n=>rw[q]at h1;exact#[n,GF st1 r1 q,End.ok h1 st1 rfl]
def Zd4(ha:CT X xw C a i):CT X xw C (.UnaryOp .Not a pos) (.not i):=.mk <| PT.imp (Zeh ha.h)<|by
 rintro Z H Q ⟨O,l,S,st,lr,h⟩;refine#[O,l,S,st,lr,?_];have h':End X.K xw Wb O H Q (((Pv.pv C i l S).bind λx S=>(Pv.po (Pv.Zq x) S).bind λb S=>.ok (.bl !b) S).bind λx S=>Pv.po (Pv.Zq x) S):=h
 show End X.K xw Wb O H (λc H1=>Q (!c) H1) ((Pv.pv C i l S).bind λx S=>Pv.po (Pv.Zq x) S)
 cases q:Pv.pv C i l S with
 |no=>rw[q]at h';exact h'
 |ex c S1=>rw[q]at h';exact h'
 |ok x S1=>
  rw[q]at h';show End X.K xw Wb O H _ (Pv.po (Pv.Zq x) S1);have h2:End X.K xw Wb O H Q (((Pv.po (Pv.Zq x) S1).bind λb S=>.ok (.bl !b) S).bind λx S=>Pv.po (Pv.Zq x) S):=h'
  cases t:Pv.Zq x with
  |none=>rw[t]at h2;exact h2
  |some n=>
   rw[t]at h2;intro ρ1 H1 w f1 st1 e;exact h2 ρ1 H1 (!w) f1 st1 (by rw[<-(e)];rfl)
def Zds(ha:CE X xw C a i):CE X xw C (.UnaryOp .Not a pos) (.not i):=.mk <| by
 intro pq s Z H Q I hq;obtain⟨O,l,S,st,lr,h⟩:=hq;have h':=h
 refine UnaryOp_<|thn (ha.h pq s Z H (λv H1=>∃k,Zaq X.K v H1 k/\Q (.bl !k) H1) I #[O,l,S,st,lr,End.bind h' λx S1 ρ1 H1 v f1 st1 r1 h1=>?_]) λv s1 #[x,H1,I1,r1,q1]=>?_
 .cases q:Pv.Zq x with|none=>rw[q]at h1;exact False.elim h1|some n=>rw[q]at h1;exact#[n,GF st1 r1 q,End.ok h1 st1<|Ya _]
 .obtain⟨k,tk,q2⟩:=q1
  refine not_of<|thn (qQ pq s1 Z H1 x v (λk' H'=>Q (.bl !k') H') I1 r1 #[k,tk,q2]) λk' s2 #[H2,I2,q3]=>?_
  exact#[.bl<|!k',H2,I2,rfl,q3]
def ZdO{rest:List Expr}(ha:CE X xw C a i)(hb:CE X xw C (.BoolOp .And (b::rest) pos) j):CE X xw C (.BoolOp .And (a::b::rest) pos) (.and i j):=.mk <| PE.imp (Zd8 ha.h hb.h)<|by
 rintro Z H Q ⟨O,l,S,st,lr,h⟩;refine#[O,l,S,st,lr,End.bind (h) λx S1 ρ1 H1 v f1 st1 r1 h1=>?_]
 cases x with
 |bl c=>
  refine#[c,r1.bl',?_];cases c with|true=>exact#[ρ1,l,S1,st1,lr.mono f1,h1]|false=>exact End.ok h1 st1<|Ya _
 |_=>exact False.elim h1
def Zdm{op}(ha:CE X xw C a i):CE X xw C (.BoolOp op [a] pos) i:=.mk <| ZdE ha.h
def Zc4(hc:CT X xw C c k)(ha:CE X xw C a i)(hb:CE X xw C b j):CE X xw C (.IfExp c a b pos) (.ite k i j):=.mk <| PE.imp (qN hc.h ha.h hb.h)<|by
 rintro Z H Q ⟨O,l,S,st,lr,h⟩;have h':End X.K xw Rep O H Q ((Pv.pv C k l S).bind λx S=>(Pv.po (Pv.Zq x) S).bind λc S=>if c then Pv.pv C i l S else Pv.pv C j l S):=h
 refine#[O,l,S,st,lr,?_];show End X.K xw Wb O H _ ((Pv.pv C k l S).bind λx S=>Pv.po (Pv.Zq x) S)
 cases q:Pv.pv C k l S with
 |no=>rw[q]at h';exact h'
 |ex c S1=>rw[q]at h';exact h'
 |ok x S1=>
  rw[q]at h';have h2:End X.K xw Rep O H Q ((Pv.po (Pv.Zq x) S1).bind λc S=>if c then Pv.pv C i l S else Pv.pv C j l S):=h'
  show End X.K xw Wb O H _ (Pv.po (Pv.Zq x) S1);cases t:Pv.Zq x with
  |none=>rw[t]at h2;exact h2
  |some n=>
   rw[t]at h2;have h3:End X.K xw Rep O H Q (if n then Pv.pv C i l S1 else Pv.pv C j l S1):=h2
   intro ρ1 H1 w f1 st1 e;have e':n=w:=e;subst e';cases n with|true=>exact#[ρ1,l,S1,st1,lr.mono f1,h3.mono f1]|false=>exact#[ρ1,l,S1,st1,lr.mono f1,h3.mono f1]
structure CWh(X:Cx)(xw:Nat->Hp->Prop)(C:Calls)(e:Expr)(i:E):Prop where
 h:PW X e (tB3 X xw<|Pv.Y5 C i)
def CWh.ct(h:CWh X xw C e i):CT X xw C e i:=.mk <| PW.pt h.h
def PW.imp(h:PW X e t)(k:∀Z H Q,t' Z H Q->t Z H Q):PW X e t':=λwh pq s Z H Q I q=>h wh pq s Z H Q I<|k Z H Q q
def j7(ha:CT X xw C a i):CWh X xw C (.BoolOp .And [a] pos) i:=.mk <| Zbx ha.h
def Zc0(ha:CT X xw C a i):CWh X xw C (.BoolOp .Or [a] pos) i:=.mk <| Zd5 ha.h
def uZ{rest:List Expr}(ha:CT X xw C a i)(hb:CWh X xw C (.BoolOp .And (b::rest) pos) j):CWh X xw C (.BoolOp .And (a::b::rest) pos) (.and i j):=.mk <| PW.imp (Zd1 ha.h hb.h)<|by
 rintro Z H Q ⟨O,l,S,st,lr,h⟩;have h':End X.K xw Wb O H Q (((Pv.pv C i l S).bind λx S=>match x with|.bl c=>if c then Pv.pv C j l S else .ok (.bl ak) S|_=>.no).bind λx S=>Pv.po (Pv.Zq x) S):=h
 refine#[O,l,S,st,lr,?_];show End X.K xw Wb O H _ ((Pv.pv C i l S).bind λx S=>Pv.po (Pv.Zq x) S)
 cases q:Pv.pv C i l S with
 |no=>rw[q]at h';exact h'
 |ex c S1=>rw[q]at h';exact h'
 |ok x S1=>
  rw[q]at h';cases x with
  |bl n=>
   intro ρ1 H1 w f1 st1 e;have e':n=w:=e;subst e';cases n with|true=>exact#[ρ1,l,S1,st1,lr.mono f1,End.mono f1 (show End X.K xw Wb O H Q ((Pv.pv C j l S1).bind λx S=>Pv.po (Pv.Zq x) S)from h')]|false=>exact(show End X.K xw Wb O H Q (.ok ak S1)from h') ρ1 H1 ak f1 st1 rfl
  |_=>exact False.elim h'
def Zcr{rest:List Expr}(ha:CT X xw C a i)(hb:CWh X xw C (.BoolOp .Or (b::rest) pos) j):CWh X xw C (.BoolOp .Or (a::b::rest) pos) (.or i j):=.mk <| PW.imp (ZeE ha.h hb.h)<|by
 rintro Z H Q ⟨O,l,S,st,lr,h⟩;have h':End X.K xw Wb O H Q (((Pv.pv C i l S).bind λx S=>match x with|.bl c=>if c then .ok (.bl aj) S else Pv.pv C j l S|_=>.no).bind λx S=>Pv.po (Pv.Zq x) S):=h
 refine#[O,l,S,st,lr,?_];show End X.K xw Wb O H _ ((Pv.pv C i l S).bind λx S=>Pv.po (Pv.Zq x) S)
 cases q:Pv.pv C i l S with
 |no=>rw[q]at h';exact h'
 |ex c S1=>rw[q]at h';exact h'
 |ok x S1=>
  rw[q]at h';cases x with
  |bl n=>
   intro ρ1 H1 w f1 st1 e;have e':n=w:=e;subst e';cases n with|false=>exact#[ρ1,l,S1,st1,lr.mono f1,End.mono f1 (h')]|true=>exact(h') ρ1 H1 aj f1 st1 rfl
  |_=>exact False.elim h'
end
theorem Ur{f:D->D->Option Bool}(hf:∀x y v b,Rep O H x v->Rep O H y v->f x y=aa b->b=aj):∀{ds es:List D}{xs:List V}{b:Bool},Rq O H ds xs->Rq O H es xs->Pv.Yq f ds es=aa b->b=aj
 |[],[],_,b,_,_,h=>(al h).symm
 |d::ds,e::es,_,b,r1,r2,h=>by
  obtain⟨v,vs,rfl,a1,b1⟩:=r1;obtain⟨v',vs',e',a2,b2⟩:=r2;cases e';unfold Pv.Yq at h;cases q1:f d e with
  |none=>rw[q1]at h;cases h
  |some p=>
   cases q2:Pv.Yq f ds es with
   |none=>rw[q1,q2]at h;cases h
   |some q=>
    rw[q1,q2]at h;have h':=al h;rw[<-h',hf d e v p a1 a2 q1,Ur hf b1 b2 q2];rfl
 |[],_::_,_,b,r1,r2,h=>by
  have l1:=r1.length;have l2:=r2.length;rw[l1]at l2;simp at l2
 |_::_,[],_,b,r1,r2,h=>by
  have l1:=r1.length;have l2:=r2.length;rw[l1]at l2;simp at l2
def Rep.sc{x y:D}{v:V}(r1:Rep O H x v)(r2:Rep O H y v)(h:∀a,v≠.ref a):x=y:=by
 cases x<;>cases y<;>unfold Rep at r1 r2<;>subst_vars<;>first
  |rfl
  |(cases r2;rfl)
  |(cases r1;rfl)
  |(obtain⟨a,z,_⟩:=r1;exact T7 z<|h a)
  |(obtain⟨a,z,_⟩:=r2;exact T7 z<|h a)
  |(obtain⟨a,_,z,_⟩:=r1;exact T7 z<|h a)
  |(obtain⟨a,_,z,_⟩:=r2;exact T7 z<|h a)
  |cases r1
  |cases r2
def uR{k:Nat}{x:D}{v:V}{b:Bool}(r:Rep O H x v)(hv:∀a,v≠.ref a)(h:Pv.eqV (k+1) x x=aa b):b=aj:=by
 cases x<;>first
  |exact(al h).symm
  |(rw[<-al h];exact T5 rfl)
  |exact Ev.nos h
  |(obtain⟨a,_,z,_⟩:=r.tup';exact T7 z<|hv a)
  |(obtain⟨a,_,z,_⟩:=r.lst';exact T7 z<|hv a)
theorem Rep.ref{x:D}{p:aJ}(r:Rep O H x (.ref p)){y:D}{k:Nat}{b:Bool}(h:Pv.eqV (k+1) x y=aa b\/Pv.eqV (k+1) y x=aa b):(∃ds es,x=.tup ds/\y=.tup es)\/∃ds es,x=.lst ds/\y=.lst es:=by
 cases x with
 |tup ds=>cases y<;>first|exact .inl #[_,_,rfl,rfl]|(rcases h with h|h<;>exact Ev.nos h)
 |lst ds=>cases y<;>first|exact .inr #[_,_,rfl,rfl]|(rcases h with h|h<;>exact Ev.nos h)
 |non=>cases r.non'
 |bl _=>cases r.bl'
 |int _=>cases r.int'
 |str _=>cases r.str'
 |_=>cases y<;>rcases h with h|h<;>exact Ev.nos h
theorem WN:∀(k:Nat)(x y:D)(v:V)(b:Bool),Rep O H x v->Rep O H y v->Pv.eqV k x y=aa b->b=aj
 |0,_,_,_,_,_,_,h=>by cases h
 |k+1,x,y,v,b,r1,r2,h=>by
  by_cases hv:∃a,v=.ref a
  .obtain⟨p,rfl⟩:=hv
   rcases r1.ref (.inl h)with⟨ds,es,rfl,rfl⟩|⟨ds,es,rfl,rfl⟩
   .obtain⟨_,_,z,e1,q1⟩:=r1.tup'
    cases z;obtain⟨_,_,z,e2,q2⟩:=r2.tup';cases z;rw[e1]at e2;cases e2;exact Ur (λx y v b=>WN k x y v b) q1 q2 h
   .obtain⟨_,_,z,e1,_,q1⟩:=r1.lst'
    cases z;obtain⟨_,_,z,e2,_,q2⟩:=r2.lst';cases z;rw[e1]at e2;cases e2;have h:(if ds.length=es.length then Pv.Yq (Pv.eqV k) ds es else aa ak)=aa b:=h
    rw[T9<|by rw[<-q1.length,q2.length]]at h
    exact Ur (λx y v b=>WN k x y v b) q1 q2 h
  .have hv:=λa z=>hv #[a,z]
   cases r1.sc r2 hv;exact uR r1 hv h
noncomputable def eAt(f:D->D->Option Bool)(ds es:List D)(j:Nat):Bool:=match ds[j]?,es[j]? with
 |some x,aa y=>(f x y).getD ak
 |_,_=>ak
theorem YU{f:D->D->Option Bool}:∀{ds es:List D}{b:Bool},Pv.Yq f ds es=aa b->
  ((aL<|pc ds.length es.length).all (eAt f ds es)&&ds.length == es.length)=b/\∀j x y,ds[j]?=aa x->es[j]?=aa y->f x y=aa (eAt f ds es j)
 |[],[],b,h=>#[al h,λj x y e=>by simp at e]
 |[],_::es,b,h=>#[by rw[<-al h];simp,λj x y e=>by simp at e]
 |_::ds,[],b,h=>#[by rw[<-al h];simp,λj x y _ e=>by simp at e]
 |d::ds,e::es,b,h=>by
  unfold Pv.Yq at h;cases q1:f d e with
  |none=>rw[q1]at h;cases h
  |some p=>
   cases q2:Pv.Yq f ds es with
   |none=>rw[q1,q2]at h;cases h
   |some q=>
    rw[q1,q2]at h;obtain⟨ih,ih2⟩:=YU q2;have h':=al h;have e0:eAt f (d::ds) (e::es) 0=p:=by simp[eAt,q1]
    have es':∀j,eAt f (d::ds) (e::es) (j+1)=eAt f ds es j:=λj=>by simp[eAt]
    refine#[?_,λj x y hx hy=>?_]
    .rw[<-h',<-ih,aP,aP,Nat.succ_min_succ,k7,fv,e0,iC]
     have:((aL<|pc ds.length es.length).all<|eAt f (d::ds) (e::es)∘Nat.succ)=(aL<|pc ds.length es.length).all (eAt f ds es):=by
      exact congrArg (λg=>(aL<|pc ds.length es.length).all g)<|funext λj=>es' j
     rw[this,Bool.and_assoc]
     congr 2
     simp
    .cases j with
     |zero=>
      simp at hx hy;subst hx hy;rw[e0];exact q1
     |succ j=>
      rw[es' j];exact ih2 j x y (by simpa using hx) (by simpa using hy)
def YB{A:cL}{k:Nat}(h:A.units+(k+1)<du):A.in1.units+k<du:=by
 have e:A.in1.units<=A.units+1:=by
  first|exact aH _|(simp[cL.in1,cL.units]<;>lia)
 lia
theorem yn(I:Inv X pq Z H s):∀(k:Nat)(A:cL)(x y:D)(v u:V)(vv uu:ap)(b:Bool),A.units+k<du->Rep O H x v->Rep O H y u->Zu v vv->Zu u uu->Pv.eqV k x y=aa b->gQ A s vv uu b
 |0,_,_,_,_,_,_,_,_,_,_,_,_,_,h=>by cases h
 |k+1,A,x,y,v,u,vv,uu,b,hu,r1,r2,e1,e2,h=>by
  have flat:wg v=aj->wg u=aj->eqV v u=b->gQ A s vv uu b:=λf1 f2 e=>by rw[<-e];exact Zd2 e1 e2 f1 f2
  have bb:∀{a c:Bool},(a == c)=ae (a=c):=λ{a c}=>by cases a<;>cases c<;>rfl
  have ii:∀{a c:Int},(a == c)=ae (a=c):=λ{a c}=>by rw[cf];simp
  have ss:∀{a c:bx},(a == c)=ae (a=c):=λ{a c}=>by rw[cf];simp
  have item:∀{ds es:List D}{xs ys:List V}(j:Nat)(its its2:List ap)(j1:j<its.toArray.size)(j2:j<its2.toArray.size),its.toArray.size=ds.length->its2.toArray.size=es.length->Vals xs its->Vals ys its2->Rq O H ds xs->Rq O H es ys->(∀j x y,ds[j]?=aa x->es[j]?=aa y->Pv.eqV k x y=aa (eAt (Pv.eqV k) ds es j))->gQ A.in1 s its.toArray[j] its2.toArray[j] (eAt (Pv.eqV k) ds es j):=λ{ds es xs ys} j its its2 j1 j2 n1 n2 v1 v2 q1 q2 ea=>by
   have d1:ds[j]?=aa ds[j]:=af (by lia)
   have d2:es[j]?=aa es[j]:=af (by lia)
   obtain⟨w1,g1,z1⟩:=q1.get d1;obtain⟨w2,g2,z2⟩:=q2.get d2;obtain⟨m1,k1,y1⟩:=v1.get g1;obtain⟨m2,k2,y2⟩:=v2.get g2;have o1:its.toArray[j]=m1:=by simpa using(aX.mp k1).2
   have o2:its2.toArray[j]=m2:=by simpa using(aX.mp k2).2
   rw[o1,o2];exact yn I k A.in1 ds[j] es[j] w1 w2 m1 m2 _ (YB hu) z1 z2 y1 y2<|ea j _ _ d1 d2
  cases x with
  |non=>
   cases r1.non';cases y with|non=>cases r2.non';exact flat rfl rfl<|al h|bl _=>cases r2.bl';exact flat rfl rfl<|al h|int _=>cases r2.int';exact flat rfl rfl<|al h|str _=>cases r2.str';exact flat rfl rfl<|al h|_=>exact Ev.nos h
  |bl i=>
   cases r1.bl';cases y with|non=>cases r2.non';exact flat rfl rfl<|al h|bl _=>cases r2.bl';exact flat rfl rfl<|bb.trans<|al h|int _=>cases r2.int';exact flat rfl rfl<|ii.trans<|al h|str _=>cases r2.str';exact flat rfl rfl<|al h|_=>exact Ev.nos h
  |int i=>
   cases r1.int';cases y with|non=>cases r2.non';exact flat rfl rfl<|al h|bl _=>cases r2.bl';exact flat rfl rfl<|ii.trans<|al h|int _=>cases r2.int';exact flat rfl rfl<|ii.trans<|al h|str _=>cases r2.str';exact flat rfl rfl<|al h|_=>exact Ev.nos h
  |str i=>
   cases r1.str';cases y with|non=>cases r2.non';exact flat rfl rfl<|al h|bl _=>cases r2.bl';exact flat rfl rfl<|al h|int _=>cases r2.int';exact flat rfl rfl<|al h|str _=>cases r2.str';exact flat rfl rfl<|ss.trans<|al h|_=>exact Ev.nos h
  |tup ds=>
   obtain⟨p,xs,rfl,hp,q1⟩:=r1.tup';cases e1;cases y with
   |tup es=>
    obtain⟨p',ys,rfl,hp',q2⟩:=r2.tup';cases e2;by_cases hpp:p=p'
    .subst hpp
     rw[WN (k+1) (.tup ds) (.tup es) (.ref p) b r1 r2 h];exact h8 _
    .obtain⟨its,v1,t1,_⟩:=I.tuple (SqT.of hp)
     obtain⟨its2,v2,t2,_⟩:=I.tuple<|SqT.of hp';have h':=h;obtain⟨ev,ea⟩:=YU h';have n1:its.toArray.size=ds.length:=by rw[ay,<-v1.length,q1.length]
     have n2:its2.toArray.size=es.length:=by rw[ay,<-v2.length,q2.length]
     refine iP hpp ?_;rw[<-ev,<-n1,<-n2];exact kl t1 t2 (by lia) λj j1 j2=>item j its its2 j1 j2 n1 n2 v1 v2 q1 q2 ea
   |_=>exact Ev.nos h
  |lst ds=>
   obtain⟨p,xs,rfl,u1,_,q1⟩:=r1.lst';cases e1;cases y with
   |lst es=>
    obtain⟨p',ys,rfl,u2,_,q2⟩:=r2.lst';cases e2;by_cases hpp:p=p'
    .subst hpp
     rw[WN (k+1) (.lst ds) (.lst es) (.ref p) b r1 r2 h];exact h8 _
    .obtain⟨its,v1,p1,_⟩:=I.list (SqL.of u1)
     obtain⟨its2,v2,p2,_⟩:=I.list<|SqL.of u2;have n1:its.toArray.size=ds.length:=by rw[ay,<-v1.length,q1.length]
     have n2:its2.toArray.size=es.length:=by rw[ay,<-v2.length,q2.length]
     refine iP hpp ?_;have h2:(if ds.length=es.length then Pv.Yq (Pv.eqV k) ds es else aa ak)=aa b:=h
     by_cases hl:ds.length=es.length
     .rw[T9 hl]at h2
      obtain⟨ev,ea⟩:=YU h2;have ev':(aL ds.length).all (eAt (Pv.eqV k) ds es)=b:=by
       rw[<-ev,<-hl,np];simp
      rw[<-ev',<-n1];exact nQ p1.isList p2.isList (by lia) (by lia) λj j1 j2=>item j its its2 j1 j2 n1 n2 v1 v2 q1 q2 ea
     .rw[T8 hl]at h2
      rw[<-al h2];exact ky p1.isList p2.isList (bne_iff_ne.mpr<|by lia) (by lia)
   |_=>exact Ev.nos h
  |_=>exact Ev.nos h
def WD(I:Inv X pq Z H s){k:Nat}{A:cL}{ds es:List D}{xs ys:List V}{its its2:List ap}{b:Bool}(hu:A.units+(k+1)<du)
  (q1:Rq O H ds xs)(q2:Rq O H es ys)(v1:Vals xs its)(v2:Vals ys its2)(h:Pv.Yq (Pv.eqV k) ds es=aa b) :
  ∀j (h1:j<its.toArray.size) (h2:j<its2.toArray.size),gQ A.in1 s its.toArray[j] its2.toArray[j] (eAt (Pv.eqV k) ds es j):=λj j1 j2=>by
 obtain⟨_,ea⟩:=YU h;have n1:its.toArray.size=ds.length:=by rw[ay,<-v1.length,q1.length]
 have n2:its2.toArray.size=es.length:=by rw[ay,<-v2.length,q2.length]
 have d1:ds[j]?=aa ds[j]:=af (by lia)
 have d2:es[j]?=aa es[j]:=af (by lia)
 obtain⟨w1,g1,z1⟩:=q1.get d1;obtain⟨w2,g2,z2⟩:=q2.get d2;obtain⟨m1,k1,y1⟩:=v1.get g1;obtain⟨m2,k2,y2⟩:=v2.get g2;have o1:its.toArray[j]=m1:=by
  have:=aX.mp k1
  simpa using this.2
 have o2:its2.toArray[j]=m2:=by
  have:=aX.mp k2
  simpa using this.2
 rw[o1,o2];exact yn I k A.in1 ds[j] es[j] w1 w2 m1 m2 _ (YB hu) z1 z2 y1 y2<|ea j _ _ d1 d2
def Zbv(K:aq)(xw:Nat->Hp->Prop)(op:Cop):R2:=λv u H Q=>∃O S x y,St3 K O S H/\Rep O H x v/\Rep O H y u/\End K xw Rep O H Q (Pv.po (Pv.Yl op x y) S)
def Zdl :∀Z H Q,tE X xw (Pv.pv C<|.cmp op i j) Z H Q->tOp (Zbv X.K xw op) (tE X xw<|Pv.pv C i) (tE X xw<|Pv.pv C j) Z H Q:=λZ H Q h=>
 Xf (λ{O H S x y v u Q} st rx ry h=>#[O,S,x,y,st,rx,ry,h]) Z H Q h
def dI{a c:Int}:(a == c)=ae (a=c):=by rw[cf];simp
def xo{H:Hp}{O:Mx}{k:Nat}{x y:D}{v u:V}{b:Bool}(rx:Rep O H x v)(ry:Rep O H y u)(hb:Pv.eqV (k+1) x y=aa b):(scal v u=aj/\ae (v=u)=b)\/(∃i j,v=.bl i/\u=.int j/\ae (Ev.b2i i=j)=b)\/(∃i j,v=.int i/\u=.bl j/\ae (i=Ev.b2i j)=b)\/(∃ds es,x=.tup ds/\y=.tup es/\Pv.Yq (Pv.eqV k) ds es=aa b)\/∃ds es,x=.lst ds/\y=.lst es/\(if ds.length=es.length then Pv.Yq (Pv.eqV k) ds es else aa ak)=aa b:=by
 cases x with
 |non=>cases rx.non';cases y with|non=>cases ry.non';exact .inl #[rfl,al hb▸by simp]|bl _=>cases ry.bl';exact .inl #[rfl,al hb]|int _=>cases ry.int';exact .inl #[rfl,al hb]|str _=>cases ry.str';exact .inl #[rfl,al hb]|_=>exact Ev.nos hb
 |bl i=>cases rx.bl';cases y with|non=>cases ry.non';exact .inl #[rfl,al hb]|bl j=>cases ry.bl';exact .inl #[rfl,al hb▸by simp]|int j=>cases ry.int';exact .inr<|.inl #[i,j,rfl,rfl,al hb]|str _=>cases ry.str';exact .inl #[rfl,al hb]|_=>exact Ev.nos hb
 |int i=>cases rx.int';cases y with|non=>cases ry.non';exact .inl #[rfl,al hb]|bl j=>cases ry.bl';exact .inr<|.inr<|.inl #[i,j,rfl,rfl,al hb]|int _=>cases ry.int';exact .inl #[rfl,al hb▸by simp]|str _=>cases ry.str';exact .inl #[rfl,al hb]|_=>exact Ev.nos hb
 |str i=>cases rx.str';cases y with|non=>cases ry.non';exact .inl #[rfl,al hb]|bl _=>cases ry.bl';exact .inl #[rfl,al hb]|int _=>cases ry.int';exact .inl #[rfl,al hb]|str _=>cases ry.str';exact .inl #[rfl,al hb▸by simp]|_=>exact Ev.nos hb
 |tup ds=>cases y with|tup es=>exact .inr<|.inr<|.inr<|.inl #[ds,es,rfl,rfl,hb]|_=>exact Ev.nos hb
 |lst ds=>cases y with|lst es=>exact .inr<|.inr<|.inr<|.inr #[ds,es,rfl,rfl,hb]|_=>exact Ev.nos hb
 |_=>exact Ev.nos hb
def Zed(hu:X.A.units+6<du):OpR X (cB .Eq) (Zbv X.K xw .eq):=by
 intro pq s Z H v u vv uu Q I e1 e2 h;obtain⟨O,S,x,y,st,rx,ry,h⟩:=h;obtain⟨b,hb,h1⟩:=End.map h;have q:=End.ok h1 st<|Ya b;rcases xo rx ry hb with⟨hs,e⟩|⟨i,j,rfl,rfl,e⟩|⟨i,j,rfl,rfl,e⟩|⟨ds,es,rfl,rfl,hb'⟩|⟨ds,es,rfl,rfl,h2⟩
 .exact ZeC pq s Z H v u vv uu Q I e1 e2 #[hs,by rw[e];exact q]
 .cases e1
  obtain⟨t,rfl⟩:=e2;refine EqBoolInt.eq_bool_int #[.bl b,H,I,?_,q];show bX ((if i then 1 else 0) == j)=bX b
  rw[dI];exact congrArg bX e
 .cases e2
  obtain⟨t,rfl⟩:=e1;refine EqBoolInt.eq_int_bool #[.bl b,H,I,?_,q];show bX (i == (if j then 1 else 0))=bX b
  rw[dI];exact congrArg bX e
 ·
  obtain⟨p,xs,rfl,hp,q1⟩:=rx.tup';cases e1;obtain⟨p',ys,rfl,hp',q2⟩:=ry.tup';cases e2;obtain⟨its,v1,t1,_⟩:=I.tuple<|SqT.of hp;obtain⟨its2,v2,t2,_⟩:=I.tuple<|SqT.of hp';obtain⟨ev,_⟩:=YU hb';have n1:its.toArray.size=ds.length:=by rw[ay,<-v1.length,q1.length]
  have n2:its2.toArray.size=es.length:=by rw[ay,<-v2.length,q2.length]
  refine kl t1 t2 (by lia) (WD I hu q1 q2 v1 v2 hb') X.prog X.w X.xe _ ?_
  rw[n1,n2,ev];exact#[.bl b,H,I,rfl,q]
 ·
  obtain⟨p,xs,rfl,u1,_,q1⟩:=rx.lst';cases e1;obtain⟨p',ys,rfl,u2,_,q2⟩:=ry.lst';cases e2;obtain⟨its,v1,p1,_⟩:=I.list<|SqL.of u1;obtain⟨its2,v2,p2,_⟩:=I.list<|SqL.of u2;have n1:its.toArray.size=ds.length:=by rw[ay,<-v1.length,q1.length]
  have n2:its2.toArray.size=es.length:=by rw[ay,<-v2.length,q2.length]
  by_cases hl:ds.length=es.length
  .rw[T9 hl]at h2
   obtain⟨ev,_⟩:=YU h2;have ev':(aL ds.length).all (eAt (Pv.eqV 5) ds es)=b:=by
    rw[<-ev,<-hl,np];simp
   refine nQ p1.isList p2.isList (by lia) (by lia) (WD I hu q1 q2 v1 v2 h2) X.prog X.w X.xe _ ?_
   rw[n1,ev'];exact#[.bl b,H,I,rfl,q]
  .rw[T8 hl]at h2
   refine ky p1.isList p2.isList (bne_iff_ne.mpr<|by lia) (by lia) X.prog X.w X.xe _ ?_
   exact#[.bl b,H,I,congrArg bX<|al h2,q]
def ZcB(hu:X.A.units+6<du):OpR X (cB .NotEq) (Zbv X.K xw .ne):=by
 intro pq s Z H v u vv uu Q I e1 e2 h;obtain⟨O,S,x,y,st,rx,ry,h⟩:=h;obtain⟨b,hb,h1⟩:=End.map h;have q:=End.ok h1 st<|Ya _;rcases xo rx ry hb with⟨hs,e⟩|⟨i,j,rfl,rfl,e⟩|⟨i,j,rfl,rfl,e⟩|⟨ds,es,rfl,rfl,hb'⟩|⟨ds,es,rfl,rfl,h2⟩
 .exact Zez pq s Z H v u vv uu Q I e1 e2 #[hs,by rw[e];exact q]
 .cases e1
  obtain⟨t,rfl⟩:=e2;refine EqBoolInt.ne_bool_int #[.bl !b,H,I,?_,q];show bX (!((if i then 1 else 0) == j))=bX !b
  rw[dI];exact congrArg (λz=>bX !z) e
 .cases e2
  obtain⟨t,rfl⟩:=e1;refine EqBoolInt.ne_int_bool #[.bl !b,H,I,?_,q];show bX (!(i == (if j then 1 else 0)))=bX !b
  rw[dI];exact congrArg (λz=>bX !z) e
 ·
  obtain⟨p,xs,rfl,hp,q1⟩:=rx.tup';cases e1;obtain⟨p',ys,rfl,hp',q2⟩:=ry.tup';cases e2;obtain⟨its,v1,t1,_⟩:=I.tuple<|SqT.of hp;obtain⟨its2,v2,t2,_⟩:=I.tuple<|SqT.of hp';obtain⟨ev,_⟩:=YU hb';have n1:its.toArray.size=ds.length:=by rw[ay,<-v1.length,q1.length]
  have n2:its2.toArray.size=es.length:=by rw[ay,<-v2.length,q2.length]
  refine SeqAt.RcNeAt.tuples t1 t2 (by lia) (WD I hu q1 q2 v1 v2 hb') X.prog X.w X.xe _ ?_
  rw[n1,n2,ev];exact#[.bl !b,H,I,rfl,q]
 ·
  obtain⟨p,xs,rfl,u1,_,q1⟩:=rx.lst';cases e1;obtain⟨p',ys,rfl,u2,_,q2⟩:=ry.lst';cases e2;obtain⟨its,v1,p1,_⟩:=I.list<|SqL.of u1;obtain⟨its2,v2,p2,_⟩:=I.list<|SqL.of u2;have n1:its.toArray.size=ds.length:=by rw[ay,<-v1.length,q1.length]
  have n2:its2.toArray.size=es.length:=by rw[ay,<-v2.length,q2.length]
  by_cases hl:ds.length=es.length
  .rw[T9 hl]at h2
   obtain⟨ev,_⟩:=YU h2;have ev':(aL ds.length).all (eAt (Pv.eqV 5) ds es)=b:=by
    rw[<-ev,<-hl,np];simp
   refine SeqAt.RcNeAt.lists p1.isList p2.isList (by lia) (by lia) (WD I hu q1 q2 v1 v2 h2) X.prog X.w X.xe _ ?_
   rw[n1,ev'];exact#[.bl !b,H,I,rfl,q]
  .rw[T8 hl]at h2
   refine SeqAt.RcNeAt.lists_lengths p1.isList p2.isList (bne_iff_ne.mpr<|by lia) (by lia) X.prog X.w X.xe _ ?_
   exact#[.bl !b,H,I,congrArg (λz=>bX !z)<|al h2,q]
theorem Jw(hf:∀x x' y v b b',Rep O H x v->Rep O H x' v->f x y=aa b->f x' y=aa b'->b=b') :
  ∀{ds ds' es:List D}{xs:List V}{b b':Bool},Rq O H ds xs->Rq O H ds' xs->Pv.Yq f ds es=aa b->Pv.Yq f ds' es=aa b'->b=b'
 |[],[],[],_,b,b',_,_,h,h'=>(al h).symm.trans<|al h'
 |[],[],_::_,_,b,b',_,_,h,h'=>(al h).symm.trans<|al h'
 |_::_,_::_,[],_,b,b',_,_,h,h'=>(al h).symm.trans<|al h'
 |d::ds,d'::ds',e::es,_,b,b',r1,r2,h,h'=>by
  obtain⟨v,vs,rfl,a1,b1⟩:=r1;obtain⟨v',vs',e',a2,b2⟩:=r2;cases e';unfold Pv.Yq at h h';cases q1:f d e with
  |none=>rw[q1]at h;cases h
  |some p=>
   cases q2:Pv.Yq f ds es with
   |none=>rw[q1,q2]at h;cases h
   |some q=>
    cases q3:f d' e with
    |none=>rw[q3]at h';cases h'
    |some p'=>
     cases q4:Pv.Yq f ds' es with
     |none=>rw[q3,q4]at h';cases h'
     |some q'=>
      rw[q1,q2]at h;rw[q3,q4]at h';have z1:=al h;have z2:=al h';rw[<-z1,<-z2,hf d d' e v p p' a1 a2 q1 q3,Jw hf b1 b2 q2 q4]
 |[],_::_,_,_,b,b',r1,r2,_,_=>by
  have l1:=r1.length;have l2:=r2.length;rw[l1]at l2;simp at l2
 |_::_,[],_,_,b,b',r1,r2,_,_=>by
  have l1:=r1.length;have l2:=r2.length;rw[l1]at l2;simp at l2
theorem JY:∀(k:Nat)(x x' y:D)(v:V)(b b':Bool),Rep O H x v->Rep O H x' v->Pv.eqV k x y=aa b->Pv.eqV k x' y=aa b'->b=b'
 |0,_,_,_,_,_,_,_,_,h,_=>by cases h
 |k+1,x,x',y,v,b,b',r1,r2,h,h'=>by
  by_cases hv:∃a,v=.ref a
  .obtain⟨p,rfl⟩:=hv
   rcases r1.ref (.inl h)with⟨ds,es,rfl,rfl⟩|⟨ds,es,rfl,rfl⟩<;>rcases r2.ref (.inl h')with⟨ds',es',rfl,z⟩|⟨ds',es',rfl,z⟩<;>cases z
   .obtain⟨_,_,z,e1,q1⟩:=r1.tup'
    cases z;obtain⟨_,_,z,e2,q2⟩:=r2.tup';cases z;rw[e1]at e2;cases e2;exact Jw (λx x' y v b b'=>JY k x x' y v b b') q1 q2 h h'
   .obtain⟨_,_,z,e1,_,q1⟩:=r1.lst'
    cases z;obtain⟨_,_,z,e2,_,q2⟩:=r2.lst';cases z;rw[e1]at e2;cases e2;have l:ds'.length=ds.length:=by rw[<-q1.length,q2.length]
    have h:(if ds.length=es.length then Pv.Yq (Pv.eqV k) ds es else aa ak)=aa b:=h
    have h':(if ds'.length=es.length then Pv.Yq (Pv.eqV k) ds' es else aa ak)=aa b':=h'
    rw[l]at h';by_cases c:ds.length=es.length
    .rw[T9 c]at h h'
     exact Jw (λx x' y v b b'=>JY k x x' y v b b') q1 q2 h h'
    .rw[T8 c]at h h'
     exact al<|h.symm.trans h'
  .cases r1.sc r2 λa z=>hv #[a,z]
   exact al<|h.symm.trans h'
theorem Jm :∀{ds:List D}{b:Bool},Pv.Wc x ds=aa b->∀d∈ds,∃c,Pv.eqV Ev.Zw d x=aa c
 |[],_,_,d,hd=>by cases hd
 |y::ys,b,h,d,hd=>by
  unfold Pv.Wc at h;cases q1:Pv.eqV Ev.Zw y x with
  |none=>rw[q1]at h;cases h
  |some p=>
   cases q2:Pv.Wc x ys with
   |none=>rw[q1,q2]at h;cases h
   |some q=>
    rcases aB.mp hd with rfl|hd
    .exact#[p,q1]
    .exact Jm q2 d hd
theorem xH :∀{ds:List D}{b:Bool},Pv.Wc x ds=aa b->(ds.any λd=>(Pv.eqV Ev.Zw d x).getD ak)=b
 |[],_,h=>al h
 |y::ys,b,h=>by
  unfold Pv.Wc at h;cases q1:Pv.eqV Ev.Zw y x with
  |none=>rw[q1]at h;cases h
  |some p=>
   cases q2:Pv.Wc x ys with
   |none=>rw[q1,q2]at h;cases h
   |some q=>
    rw[q1,q2]at h;rw[fY,xH q2,q1,<-al h];rfl
open Classical in
def WR(I:Inv X pq Z H s)(hu:A.units+6<du)(rx:Rep O H x v)(ex:Zu v vv)
  (q:Rq O H ds xs)(vs:Vals xs its)(h:Pv.Wc x ds=aa b):∃e:ap->Bool,(∀u,u∈its.toArray->gQ A s u vv (e u))/\its.toArray.any e=b:=by
 refine#[λu=>ae (∃d∈ds,∃w,Rep O H d w/\Zu w u/\Pv.eqV Ev.Zw d x=aa aj),λu hu'=>?_,?_]
 .have hu2:u∈its:=by simpa using hu'
  obtain⟨j,hj,e⟩:=b9 hu2;have hl:j<ds.length:=by rw[<-q.length,vs.length];exact hj
  obtain⟨w,g,r⟩:=q.get<|af hl;obtain⟨u',g',r'⟩:=vs.get g;have eu:u'=u:=by
   rw[af hj]at g';exact(al g').symm.trans e
  subst eu;obtain⟨c,hc⟩:=Jm h ds[j]<|aU hl;have ec:ae (∃d∈ds,∃w,Rep O H d w/\Zu w u'/\Pv.eqV Ev.Zw d x=aa aj)=c:=by
   cases c with
   |true=>exact T5 #[ds[j],aU hl,w,r,r',hc]
   |false=>
    refine T4 ?_
    rintro ⟨d,hd,w',a1,a2,a3⟩
    cases a2.inj r';exact T7 (JY 6 d ds[j] x w aj ak a1 r a3 hc) (by decide)
  dsimp only
  rw[ec];exact yn I 6 A ds[j] x w v u' vv c hu r rx r' ex hc
 .rw[<-xH h,List.any_toArray,cf,fM,fM]
  constructor
  .rintro ⟨u,hu1,h1⟩
   obtain⟨d,hd,w,a1,a2,a3⟩:=T6 h1;exact#[d,hd,by rw[a3];rfl]
  .rintro ⟨d,hd,h1⟩
   obtain⟨j,hj,e⟩:=b9 hd;subst e;obtain⟨w,g,r⟩:=q.get<|af hj;obtain⟨u,g',r'⟩:=vs.get g;refine#[u,dL g',T5 #[ds[j],hd,w,r,r',?_]];obtain⟨c,hc⟩:=Jm h ds[j] hd;rw[hc]at h1 ⊢;exact congrArg aa h1
section
variable{X:Cx}{xw:Nat->Hp->Prop}{C:Calls}{e a b c:Expr}{i j k:E}{pos p p':gW}
def Zda(hu:X.A.units+7<du):OpR X (cB .In) (λv u H Q=>∃O S x ds b,St3 X.K O S H/\Rep O H x v/\(Rep O H (.tup ds) u\/Rep O H (.lst ds) u)/\Pv.Wc x ds=aa b/\Q (.bl b) H):=by
 intro pq s Z H v u vv uu Q I e1 e2 h;obtain⟨O,S,x,ds,b,st,rx,ry,hb,q⟩:=h;rcases ry with ry|ry
 .obtain⟨p,xs,rfl,hp,q1⟩:=ry.tup'
  cases e2;obtain⟨its,v1,t1,_⟩:=I.tuple<|SqT.of hp;obtain⟨f,h1,h2⟩:=WR I (YB hu) rx e1 q1 v1 hb;exact SeqAt.in_tupleAt f t1 h1 (by rw[h2];exact#[.bl b,H,I,rfl,q])
 .obtain⟨p,xs,rfl,hx,_,q1⟩:=ry.lst'
  cases e2;obtain⟨its,v1,t1,_⟩:=I.list<|SqL.of hx;obtain⟨f,h1,h2⟩:=WR I (YB hu) rx e1 q1 v1 hb;exact SeqAt.in_listAt f t1.isList h1 (by rw[h2];exact#[.bl b,H,I,rfl,q])
def ZaA(hu:X.A.units+7<du):OpR X (cB .NotIn) (λv u H Q=>∃O S x ds b,St3 X.K O S H/\Rep O H x v/\(Rep O H (.tup ds) u\/Rep O H (.lst ds) u)/\Pv.Wc x ds=aa b/\Q (.bl !b) H):=by
 intro pq s Z H v u vv uu Q I e1 e2 h;obtain⟨O,S,x,ds,b,st,rx,ry,hb,q⟩:=h;rcases ry with ry|ry
 .obtain⟨p,xs,rfl,hp,q1⟩:=ry.tup'
  cases e2;obtain⟨its,v1,t1,_⟩:=I.tuple<|SqT.of hp;obtain⟨f,h1,h2⟩:=WR I (YB hu) rx e1 q1 v1 hb;exact SeqAt.notIn_tupleAt f t1 h1 (by rw[h2];exact#[.bl !b,H,I,rfl,q])
 .obtain⟨p,xs,rfl,hx,_,q1⟩:=ry.lst'
  cases e2;obtain⟨its,v1,t1,_⟩:=I.list<|SqL.of hx;obtain⟨f,h1,h2⟩:=WR I (YB hu) rx e1 q1 v1 hb;exact SeqAt.notIn_listAt f t1.isList h1 (by rw[h2];exact#[.bl !b,H,I,rfl,q])
variable{O:Mx}{H:Hp}{S:Zv}{x y:D}{v u:V}{Q:VK}{K:aq}
def Za0(h:Pv.int2 x y=aa z):x=.int z.1/\y=.int z.2:=by
 cases x<;>first|exact Ev.nos h|(cases y<;>first|exact Ev.nos h|(cases h;exact#[rfl,rfl]))
def Q5{f:Int×Int->Bool}(st:St3 K O S H)(rx:Rep O H x v)(ry:Rep O H y u)(h:End K xw Rep O H Q (Pv.po ((Pv.int2 x y).map λz=>.bl<|f z) S)):rI0 (λi j=>.bl<|f (i,j)) v u H Q:=by
 obtain⟨z,hz,h⟩:=End.map h;obtain⟨rfl,rfl⟩:=Za0 hz;exact#[_,_,rx.int',ry.int',End.ok h st<|Ya _]
def ZeP(st:St3 K O S H)(rx:Rep O H x v)(ry:Rep O H y u)(h:End K xw Rep O H Q (Pv.po (Pv.Yl .lt x y) S)):rI0 (λi j=>.bl<|ae<|i<j) v u H Q\/∃a b A B,x=.tup a/\y=.tup b/\Pv.Z4 a=aa A/\Pv.Z4 b=aa B/\Q (.bl<|Ev.ltP A B) H:=by
 cases x with
 |tup a=>cases y with
  |tup b=>
   obtain⟨z,hz,h⟩:=End.po h;obtain⟨A,hA,hz⟩:=bQ.mp hz;obtain⟨B,hB,rfl⟩:=bj.mp hz;exact .inr #[a,b,A,B,rfl,rfl,hA,hB,End.ok h st<|Ya _]
  |_=>exact False.elim h
 |_=>exact .inl<|Q5 (f:=λz=>ae<|z.1<z.2) st rx ry h
end
section
variable{X:Cx}{xw:Nat->Hp->Prop}{C:Calls}{e a b c:Expr}{i j k:E}{pos p p':gW}
def YQ{B β γ:Type}(r:R B)(f:B->Zv->R β)(g:β->Zv->R γ):(r.bind f).bind g=r.bind λa S=>(f a S).bind g:=by cases r<;>rfl
def yg{B:Type}{o:Option B}{f:B->Bool}{z:D}(h:o.map (λa=>Pv.V.bl<|f a)=aa z):∃b,z=.bl b:=by
 obtain⟨a,_,rfl⟩:=bj.mp h;exact#[_,rfl]
def uG{o:Cop}{x y:D}{S S':Zv}{z:D}(h:Pv.po (Pv.Yl o x y) S=.ok z S'):∃b,z=.bl b:=by
 have h:Pv.Yl o x y=aa z:=by
  cases q:Pv.Yl o x y<;>rw[q]at h<;>cases h;rfl
 cases o with
 |lt=>
  cases x with
  |tup a=>
   cases y with|tup b=>obtain⟨A,_,h⟩:=bQ.mp h;exact yg h|_=>exact Ev.nos h
  |int i=>exact yg h
  |_=>exact Ev.nos h
 |_=>exact yg h
def Y9(X:Cx)(xw:Nat->Hp->Prop)(op:CmpOp)(o:Cop):Prop:=OpR X (cB op)<|Zbv X.K xw o
def OpR.imp(h:OpR X f r)(k:∀v u H Q,r' v u H Q->r v u H Q):OpR X f r':=λpq s Z H x y v u Q I e1 e2 q=>h pq s Z H x y v u Q I e1 e2<|k x y H Q q
theorem qU(hu:X.A.units+7<du):Y9 X xw .Eq .eq:=Zed (by lia)
theorem uk(hu:X.A.units+7<du):Y9 X xw .NotEq .ne:=ZcB (by lia)
def Qf(hu:X.A.units+7<du):Y9 X xw .LtE .le:=OpR.imp ZeN<|by rintro v u H Q ⟨O,S,x,y,st,rx,ry,h⟩;exact Q5 st rx ry h
def qp(hu:X.A.units+7<du):Y9 X xw .Gt .gt:=OpR.imp ZeA<|by rintro v u H Q ⟨O,S,x,y,st,rx,ry,h⟩;exact Q5 (f:=λz=>ae<|z.2<z.1) st rx ry h
def vX(hu:X.A.units+7<du):Y9 X xw .GtE .ge:=OpR.imp ZeS<|by rintro v u H Q ⟨O,S,x,y,st,rx,ry,h⟩;exact Q5 st rx ry h
def ZdX{O:Mx}{H:Hp}{x y:D}{v u:V}{b:Bool}(rx:Rep O H x v)(ry:Rep O H y u)(h:Pv.isV x y=aa b):(u=.non/\ae (v=.non)=b)\/∃i j,v=.bl i/\u=.bl j/\ae (i=j)=b:=by
 cases y with
 |non=>
  refine .inl #[ry.non',?_];rw[<-al h];cases x<;>unfold Rep at rx<;>first
   |(subst rx;rfl)
   |(obtain⟨_,z,_⟩:=rx;subst z;rfl)
   |(obtain⟨_,_,z,_⟩:=rx;subst z;rfl)
 |bl j=>cases x with|bl i=>exact .inr #[i,j,rx.bl',ry.bl',al h]|_=>exact Ev.nos h
 |_=>exact Ev.nos h
def uF(hu:X.A.units+7<du):Y9 X xw .Is .is:=OpR.imp (ZcZ.or ZcK)<|by
 rintro v u H Q ⟨O,S,x,y,st,rx,ry,h⟩;obtain⟨b,hb,h⟩:=End.map h;have q:=End.ok h st<|Ya b;rcases ZdX rx ry hb with⟨e,z⟩|⟨i,j,e,e2,z⟩
 .exact .inl #[e,by rw[z];exact q]
 .exact .inr #[i,j,e,e2,by rw[z];exact q]
def GY{O:Mx}{H:Hp}{x y:D}{u:V}{b:Bool}(ry:Rep O H y u)(h:Pv.Vv x y=aa b) :
  (∃ds,(Rep O H (.tup ds) u\/Rep O H (.lst ds) u)/\Pv.Wc x ds=aa b)\/
  (∃(l:List (List Int))(k:List D)(ks:List Int),(∃(p:aJ)(vs:List (List Key×V)),u=.ref p/\Rd H p (.dT vs)/\vs.map (·.1)=l.map (·.map cP))/\x=.tup k/\Pv.intsV k=aa ks/\l.contains ks=b):=by
 cases y with
 |tup ys=>exact .inl #[ys,.inl ry,h]
 |lst ys=>exact .inl #[ys,.inr ry,h]
 |dct o=>
  cases o with
  |none=>exact Ev.nos h
  |some l=>
   cases x with
   |tup k=>
    obtain⟨ks,e,z⟩:=bj.mp h;obtain⟨p,e1,o,vs,e2,e3⟩:=ry.dct';exact .inr #[l,k,ks,#[p,vs,e1,.inr #[o,e2],e3],rfl,e,z]
   |_=>exact Ev.nos h
 |dow l=>
  cases x with
  |tup k=>
   obtain⟨ks,e,z⟩:=bj.mp h;obtain⟨p,vs,e1,e2,_,e3⟩:=ry.dow';exact .inr #[l,k,ks,#[p,vs,e1,.inl e2,e3],rfl,e,z]
  |_=>exact Ev.nos h
 |_=>exact Ev.nos h
def Xj{op:CmpOp}{o:Cop}(hc:Y9 X xw op o)(ha:CE X xw C a i)(hb:CE X xw C b j)(hm:fW op b=ak):CE X xw C (.Compare a [op] [b] pos) (.cmp o i j):=.mk <|
 PE.imp (Zaw hc ha.h hb.h hm) (Zdl)
def Xq{op:CmpOp}{o:Cop}(hc:Y9 X xw op o)(ha:CE X xw C a i)(hb:CE X xw C b j)(hm:fW op b=ak):CT X xw C (.Compare a [op] [b] pos) (.cmp o i j):=.mk <|
 PT.imp (Zar hc ha.h hb.h hm)<|by
  rintro Z H Q ⟨O,l,S,st,lr,h⟩;have h':End X.K xw Wb O H Q (((Pv.pv C i l S).bind λx S=>(Pv.pv C j l S).bind λy S=>Pv.po (Pv.Yl o x y) S).bind λx S=>Pv.po (Pv.Zq x) S):=h
  simp only[YQ]at h';refine#[O,l,S,st,lr,h'.bind λx S1 ρ1 H1 v f1 st1 r1 h1=>#[ρ1,l,S1,st1,lr.mono f1,h1.bind λy S2 ρ2 H2 u f2 st2 r2 h2=>#[ρ2,S2,x,y,st2,r1.mono f2,r2,?_]]]
  have h3:∀{r:R D},(∀z S',r=.ok z S'->∃b,z=.bl b)->End X.K xw Wb ρ2 H2 Q (r.bind λx S=>Pv.po (Pv.Zq x) S)->End X.K xw Rep ρ2 H2 (λx H'=>∃k,x=V.bl k/\Q k H') r:=λ{r} hr h=>by
   cases r with
   |no=>exact h
   |ex _ _=>exact h
   |ok z S3=>
    obtain⟨b,rfl⟩:=hr z S3 rfl;exact λρ3 H3 w f3 st3 r3=>#[b,r3.bl',h ρ3 H3 b f3 st3 rfl]
  exact h3 (λz S' e=>uG e) h2
def J6{op op':CmpOp}{o o':Cop}{d:Expr}{k:E}(hc:Y9 X xw op o)(hc':Y9 X xw op' o')(ha:CE X xw C a i)(hb:CE X xw C b j)(hd:CE X xw C d k)
  (hm:lastMarks [op,op'] [b,d]=ak):CE X xw C (.Compare a [op,op'] [b,d] pos) (.chain o o' i j k):=.mk <|
 PE.imp (uj hc hc' ha.h hb.h hd.h hm)<|by
  rintro Z H Q ⟨O,l,S,st,lr,h⟩;refine#[O,l,S,st,lr,End.bind (show End X.K xw Rep O H Q ((Pv.pv C i l S).bind _)from h) λx S1 ρ1 H1 v f1 st1 r1 h1=>#[ρ1,l,S1,st1,lr.mono f1,h1.bind λy S2 ρ2 H2 u f2 st2 r2 h2=>#[ρ2,S2,x,y,st2,r1.mono f2,r2,h2.bind λz S3 ρ3 H3 w f3 st3 r3 h3=>?_]]]
  cases z with
  |bl n=>
   refine#[n,r3.bl',?_];cases n with|true=>exact#[ρ3,l,S3,st3,((lr.mono f1).mono f2).mono f3,End.bind (show End X.K xw Rep ρ3 H3 Q ((Pv.pv C k l S3).bind _)from h3) λt S4 ρ4 H4 t' f4 st4 r4 h4=>#[ρ4,S4,y,t,st4,(r2.mono f3).mono f4,r4,h4]]|false=>exact End.ok h3 st3<|Ya _
  |_=>exact False.elim h3
end
section
variable{X:Cx}{xw:Nat->Hp->Prop}{C:Calls}{e a b c:Expr}{i j k:E}{pos p p' p2:gW}
variable{O:Mx}{H:Hp}{S:Zv}{x y:D}{v u:V}{Q:VK}{K:aq}
def QL{d:D}{ks:List D}{k:List Int}(h:Pv.intsV (d::ks)=aa k):∃n r,d=.int n/\Pv.intsV ks=aa r/\k=n::r:=by
 cases d<;>first|exact Ev.nos h|(obtain⟨r,e,z⟩:=bj.mp h;exact#[_,r,rfl,e,z.symm])
theorem Xc:∀{ks:List D}{k:List Int}{xs:List V},Pv.intsV ks=aa k->Rq O H ks xs->xs=(k.map (cP:Int->Key)).map kV
 |[],k,xs,h,r=>by cases h;rw[r];rfl
 |d::ks,k,xs,h,r=>by
  obtain⟨v,vs,rfl,a1,b1⟩:=r;obtain⟨n,r,rfl,e,rfl⟩:=QL h;rw[a1.int',Xc e b1];rfl
theorem Jf:∀{k k':List Int},k.map (cP:Int->Key)=k'.map cP->k=k'
 |[],[],_=>rfl
 |[],_::_,h=>by simp at h
 |_::_,[],h=>by simp at h
 |a::k,b::k',h=>by
  rw[aW,aW]at h;injection h with h1 h2
  rw[cP.inj h1,Jf h2]
def W3{k:List Int}{l:List (List Int)}{vs:List (List Key×V)}(h:vs.map (·.1)=l.map (·.map (cP:Int->Key))):(VJ vs<|k.map cP).isSome=l.contains k:=by
 rw[<-XQ,show(vs.any λkv=>ae<|kv.1=k.map cP)=(vs.map (·.1)).any λy=>ae (y=k.map cP) by rw[List.any_map];rfl,h,List.any_map,List.contains_eq_any_beq]
 congr 1
 funext y
 show ae (y.map cP=k.map cP)=(k == y);by_cases z:y=k
 .subst z;simp
 .rw[T4 λw=>z<|Jf w,beq_eq_false_iff_ne.mpr<|Ne.symm z]
theorem ZcL(hu:X.A.units+7<du):OpR X (cB .In) (λv u H Q=>∃a y o,u=.ref a/\v=y/\DGet H a y o/\Q (.bl o.isSome) H):=by
 intro pq s Z H v u vv uu Q I e1 e2 h;obtain⟨a,y,o,rfl,rfl,g,q⟩:=h;cases e2;exact ZfE (by lia) I g e1 λs' I'=>#[.bl o.isSome,H,I',rfl,q]
theorem ZaW(hu:X.A.units+7<du):OpR X (cB .NotIn) (λv u H Q=>∃a y o,u=.ref a/\v=y/\DGet H a y o/\Q (.bl !o.isSome) H):=by
 intro pq s Z H v u vv uu Q I e1 e2 h;obtain⟨a,y,o,rfl,rfl,g,q⟩:=h;cases e2;exact ZaV (by lia) I g e1 λs' I'=>#[.bl !o.isSome,H,I',rfl,q]
def qd(hu:X.A.units+7<du):Y9 X xw .In .inn:=OpR.imp ((Zda hu).or<|ZcL hu)<|by
 rintro v u H Q ⟨O,S,x,y,st,rx,ry,h⟩;obtain⟨b,hb,h⟩:=End.map h;have q:=End.ok h st<|Ya _;rcases GY ry hb with⟨ds,hy,hb⟩|⟨l,k,ks,hy,rfl,hk,e⟩
 .exact .inl #[O,S,x,ds,b,st,rx,hy,hb,q]
 .obtain⟨p,vs,rfl,hx,r⟩:=hy
  obtain⟨a,xs,rfl,ha,r2⟩:=rx.tup';refine .inr #[p,.ref a,_,rfl,rfl,.inr #[vs,_,a,hx,rfl,by rw[ha,Xc hk r2],rfl],?_]
  rw[W3 r,e];exact q
def yF(hu:X.A.units+7<du):Y9 X xw .NotIn .nin:=OpR.imp ((ZaA hu).or<|ZaW hu)<|by
 rintro v u H Q ⟨O,S,x,y,st,rx,ry,h⟩;obtain⟨b,hb,h⟩:=End.map h;have q:=End.ok h st<|Ya _;rcases GY ry hb with⟨ds,hy,hb⟩|⟨l,k,ks,hy,rfl,hk,e⟩
 .exact .inl #[O,S,x,ds,b,st,rx,hy,hb,q]
 .obtain⟨p,vs,rfl,hx,r⟩:=hy
  obtain⟨a,xs,rfl,ha,r2⟩:=rx.tup';refine .inr #[p,.ref a,_,rfl,rfl,.inr #[vs,_,a,hx,rfl,by rw[ha,Xc hk r2],rfl],?_]
  rw[W3 r,e];exact q
def ZcE(r:Rq O H ds xs)(q:Ev.at' ds n=aa d):∃w,atI xs n=aa w/\Rep O H d w:=by
 obtain⟨m,q2,q⟩:=bQ.mp q;obtain⟨w,g,rw'⟩:=r.get q;refine#[w,?_,rw'];unfold atI;rw[r.length,show ixN ds.length n=aa m from q2]
 exact g
def ZeW(ha:CE X xw C a i)(hb:CE X xw C b j)(hs:Ja b):CE X xw C (.Subscript a b pos) (.ix i j):=.mk <| PE.imp (xT (Jt.or Zc2) ha.h hb.h hs) (Xf λ{O H S x y v u Q} st rx ry h=>by
 obtain⟨d,hd,g0⟩:=End.po h;have k:∃ds n,Pv.Yu x=aa ds/\y=.int n/\Ev.at' ds n=aa d:=by
  cases y with
  |int n=>
   cases x with
   |tup ds=>exact#[ds,n,rfl,rfl,hd]
   |lst ds=>exact#[ds,n,rfl,rfl,hd]
   |scr ns=>
    obtain⟨z,e,rfl⟩:=bj.mp hd;obtain⟨m,q2,q⟩:=bQ.mp e;refine#[_,n,rfl,rfl,?_];unfold Ev.at';rw[aw,q2];show(ns.map Pv.V.int)[m]?=_;rw[aM,q];rfl
   |_=>exact Ev.nos hd
  |_=>cases x<;>exact Ev.nos hd
 obtain⟨ds,n,e,rfl,hn⟩:=k;obtain⟨p,xs,rfl,hp,r⟩:=rx.seq e;obtain⟨w,g,rw'⟩:=ZcE r hn;rw[st.hk]at hp;have q:=End.ok g0 st rw';rcases hp with hp|hp
 .exact .inl #[p,xs,n,w,rfl,ry.int',hp,g,q]
 .exact .inr #[p,xs,n,w,rfl,ry.int',hp,g,q])
def Zao:CO X xw C ag ag:=.mk <| PO.imp Zbk<|by rintro Z H Q ⟨O,l,S,st,lr,h⟩;exact End.ok h st rfl
def ZbD(h:CE X xw C e i):CO X xw C (aa e) (aa i):=.mk <| PO.imp (ZN h.h)<|by
 rintro Z H Q ⟨O,l,S,st,lr,h⟩;refine#[O,l,S,st,lr,End.bind (h) λx S1 ρ1 H1 v f1 st1 r1 h1=>?_]
 cases x with|int n=>exact#[n,r1.int',End.ok h1 st1 rfl]|_=>exact False.elim h1
def Q2(n d:Nat)(o:Option Int):Ev.sIx n d o=HT.sIx n d o:=by
 cases o with
 |none=>rfl
 |some i=>first|rfl|(rfl)
def xS(r:Rq O H ds xs)(lo hi:Option Int):Rq O H (Pv.Xp ds lo hi) (Xp xs lo hi):=by
 unfold Pv.Xp Xp;rw[Q2,Q2,r.length];exact(r.drop _).take _
def Ze8{lo hi:Option Expr}{il ih:Option E}(ha:CE X xw C a i)(hl:CO X xw C lo il)(hh:CO X xw C hi ih):CE X xw C (.Subscript a (.Slice lo hi ag p2) pos) (.sl i il ih):=.mk <|
 PE.imp (jA (Zec.or<|vS.or ZaC) ha.h hl.h hh.h)<|by
  rintro Z H Q ⟨O,l,S,st,lr,h⟩;refine#[O,l,S,st,lr,End.bind (h) λx S1 ρ1 H1 v f1 st1 r1 h1=>#[ρ1,l,S1,st1,lr.mono f1,h1.bind λy S2 ρ2 H2 u f2 st2 r2 h2=>#[ρ2,l,S2,st2,(lr.mono f1).mono f2,h2.bind λz S3 ρ3 H3 w f3 st3 r3 h3=>?_]]]
  have e1:y=u:=r2;have e2:z=w:=r3;subst e1 e2;have r0:=(r1.mono f2).mono f3;cases x with
  |tup ds=>
   obtain⟨p,xs,rfl,hp,r⟩:=r0.tup';have h':=h3;by_cases hw:HT.sIx xs.length 0 y=0/\HT.sIx xs.length xs.length z=xs.length
   .refine .inr (.inl #[p,xs,rfl,SqT.of hp,hw,End.ok h' st3 ?_])
    have ew:Pv.Xp ds y z=ds:=by
     unfold Pv.Xp;rw[Q2,Q2,<-r.length,hw.1,hw.2,gE,Nat.sub_zero,r.length,fN]
    rw[ew];exact YR hp r
   .exact .inl #[p,xs,rfl,SqT.of hp,hw,h'.newT st3<|xS r y z]
  |lst ds=>
   obtain⟨p,xs,rfl,hp,_,r⟩:=r0.lst';exact .inr<|.inr #[p,xs,rfl,SqL.of hp,End.newL (h3) st3<|xS r y z]
  |_=>exact False.elim h3
def VI(K:aq)(xw:Nat->Hp->Prop)(f:Bf):List V->Hp->VK->Prop:=λvs H Q=>∃O S ds,St3 K O S H/\Rq O H ds vs/\End K xw Rep O H Q (Pv.po (Pv.Xt f ds) S)
def ZI.imp{r r':List V->Hp->VK->Prop}(h:ZI X f r)(k:∀vs H Q,r' vs H Q->r vs H Q):ZI X f r':=λpq s Z H xs us Q I e q=>h pq s Z H xs us Q I e<|k xs H Q q
def jH :∀Z H Q,tE X xw (Pv.pv C<|.blt f is) Z H Q->tCB (VI X.K xw f) (tA X xw<|Pv.pvs C is) Z H Q:=λZ H Q #[O,l,S,st,lr,h]=>
 #[O,l,S,st,lr,End.bind (h) λxs S1 ρ1 H1 vs f1 st1 r1 h1=>#[ρ1,S1,xs,st1,r1,h1]]
def ur(r:Rq O H [d] vs):∃v,vs=[v]/\Rep O H d v:=by
 obtain⟨v,ws,rfl,a1,b1⟩:=r;exact#[v,by rw[b1],a1]
def GO{d e:D}{vs:List V}(r:Rq O H [d,e] vs):∃v w,vs=[v,w]/\Rep O H d v/\Rep O H e w:=by
 obtain⟨v,ws,rfl,a1,b1⟩:=r;obtain⟨w,rfl,b2⟩:=ur b1;exact#[v,w,rfl,a1,b2]
def Wh{rep:Mx->Hp->D->V->Prop}{f:Bf}{ds:List D}{vs:List V}(h:End K xw rep O H Q (Pv.po (Pv.Xt f ds) S))(r:Rq O H ds vs)(h1:f≠.max2:=by decide)(h2:f≠.min2:=by decide)(h3:f≠.index:=by decide):∃d v z,vs=[v]/\Rep O H d v/\Pv.blt1 f d=aa z/\End K xw rep O H Q (.ok z S):=by
 obtain⟨z,hz,g⟩:=End.po h
 match ds,hz with
 |[d],hz=>obtain⟨v,rfl,rv⟩:=ur r;exact#[d,v,z,rfl,rv,hz,g]
 |[x,y],hz=>
  have hz:Pv.blt2 f x y=aa z:=hz;cases x<;>first|exact Ev.nos hz|(cases y<;>first|exact Ev.nos hz|(cases f<;>first|exact Ev.nos hz|contradiction))
def Zch{f:Bf}{ds:List D}{vs:List V}(h:End K xw Rep O H Q (Pv.po (Pv.Xt f ds) S))(r:Rq O H ds vs)(h1:∀d,Pv.blt1 f d=ag)(h3:f≠.index:=by decide):∃m n z,vs=[.int m,.int n]/\Pv.blt2 f (.int m) (.int n)=aa z/\End K xw Rep O H Q (.ok z S):=by
 obtain⟨z,hz,g⟩:=End.po h
 match ds,hz with
 |[d],hz=>exact Ev.nos<|(h1 d).symm.trans hz
 |[x,y],hz=>
  have hz:Pv.blt2 f x y=aa z:=hz;cases x<;>first|exact Ev.nos hz|(cases y<;>first|exact Ev.nos hz|(obtain⟨v,w,rfl,r1,r2⟩:=GO r;exact#[_,_,z,by rw[r1.int',r2.int'],hz,g])|(cases f<;>first|exact Ev.nos hz|contradiction))
def xg:ZI X (.builtin "len") (VI X.K xw .len):=ZI.imp Q7<|by
 rintro vs H Q ⟨O,S,ds,st,r,h⟩;obtain⟨d,v,z,rfl,rv,hz,h⟩:=Wh h r;obtain⟨xs,hx,rfl⟩:=bj.mp hz;obtain⟨p,ys,rfl,hq,r2⟩:=rv.seq hx;refine#[p,ys,rfl,by rw[<-st.hk];exact hq,?_]
 rw[r2.length];exact End.ok h st<|ZQ _
def y3(hc:X.calm=aj):ZI X (.builtin "max") (VI X.K xw .max2):=ZI.imp (vh hc)<|by
 rintro vs H Q ⟨O,S,ds,st,r,h⟩;obtain⟨m,n,z,rfl,hz,h⟩:=Zch h r λ_=>rfl
 cases hz;exact#[m,n,rfl,End.ok h st<|ZQ _]
def xA(hc:X.calm=aj):ZI X (.builtin "min") (VI X.K xw .min2):=ZI.imp (wl hc)<|by
 rintro vs H Q ⟨O,S,ds,st,r,h⟩;obtain⟨m,n,z,rfl,hz,h⟩:=Zch h r λ_=>rfl
 cases hz;exact#[m,n,rfl,End.ok h st<|ZQ _]
def xM:ZI X (.type "int") (VI X.K xw .toInt):=ZI.imp vx<|by
 rintro vs H Q ⟨O,S,ds,st,r,h⟩;obtain⟨d,v,z,rfl,r1,hz,h⟩:=Wh h r;cases d with|int m=>cases hz;exact .inl #[m,by rw[r1.int'],End.ok h st<|ZQ _]|bl m=>cases hz;exact .inr #[m,by rw[r1.bl'],End.ok h st<|ZQ _]|_=>exact Ev.nos hz
def QA:ZI X (.type "tuple") (VI X.K xw .tuple):=ZI.imp UR<|by
 rintro vs H Q ⟨O,S,ds,st,r,h⟩;obtain⟨d,v,z,rfl,r1,hz,h⟩:=Wh h r;cases d with|tup ds=>cases hz;obtain⟨p,xs,rfl,hp,r2⟩:=r1.tup';exact#[p,xs,rfl,.inr #[SqT.of hp,End.ok h st r1]]|lst ds=>cases hz;obtain⟨p,xs,rfl,hp,_,r2⟩:=r1.lst';exact#[p,xs,rfl,.inl #[SqL.of hp,h.newT st r2]]|scr ns=>cases hz;obtain⟨p,rfl,hp⟩:=r1.scr';rw[st.hk]at hp;exact#[p,_,rfl,.inl #[hp.sq,h.newT st<|Rq.ints ns]]|_=>exact Ev.nos hz
def Wv{f:Bf}{id:String}{x:bx}{es:List Expr}{is:List E}(hc:ZI X (.builtin id) (VI X.K xw f))(hm:X.mg x=ag)(ha:CA X xw C (e::es) is)(hg:Gl X x)(hv:cZ x=aa (.builtin id))(hn:x≠"__name__")(hdb:(x == ("__debug__" : bx))=ak)
  (he:aE (e::es) X.env=(ak,cD e X.env)::aE es X.env)(hpl:(dz pos<|aE es X.env).any (·.1)=ak):CE X xw C (.Call (.Name x p) (e::es) [] pos) (.blt f is):=.mk <|
 PE.imp (WH hc hg hm hv ha.h hn hdb he hpl) jH
def VN{f:Bf}{id:String}{x:bx}{es:List Expr}{is:List E}(hc:ZI X (.type id) (VI X.K xw f))(hm:X.mg x=ag)(ha:CA X xw C (e::es) is)(hg:Gl X x)(hv:cZ x=aa (.type id))(hn:x≠"__name__")(hdb:(x == ("__debug__" : bx))=ak)
  (he:aE (e::es) X.env=(ak,cD e X.env)::aE es X.env)(hpl:(dz pos<|aE es X.env).any (·.1)=ak):CE X xw C (.Call (.Name x p) (e::es) [] pos) (.blt f is):=.mk <|
 PE.imp (U9 hc hg hm hv ha.h hn hdb he hpl) jH
end
section
variable{X:Cx}{xw:Nat->Hp->Prop}{C:Calls}{e a b c:Expr}{i j k:E}{pos p p' p2:gW}
theorem Wr:∀{ds:List D}{bs:List Bool},Pv.ZW ds=aa bs->bs.length=ds.length/\∀j d,ds[j]?=aa d->Pv.VM d=aa (bs.getD j ak)
 |[],bs,h=>by cases h;exact#[rfl,λj d e=>by simp at e]
 |d::ds,bs,h=>by
  unfold Pv.ZW at h;cases q1:Pv.VM d with
  |none=>rw[q1]at h;cases h
  |some b=>
   cases q2:Pv.ZW ds with
   |none=>rw[q1,q2]at h;cases h
   |some cs=>
    rw[q1,q2]at h;cases h;obtain⟨l,ih⟩:=Wr q2;refine#[by rw[aP,aP,l],λj d' e=>?_]
    cases j with|zero=>simp at e;subst e;simpa using q1|succ j=>simpa using ih j d' (by simpa using e)
def vf(bs:List Bool):(aL bs.length).all (λj=>bs.getD j ak)=bs.all id:=by
 rw[cf,aY,aY]
 constructor
 .intro h b hb
  obtain⟨j,hj,e⟩:=b9 hb;have:=h j<|aR.mpr hj
  simpa[af hj,e]using this
 .intro h j hj
  have hj':=aR.mp hj
  simpa[af hj']using h bs[j]<|aU hj'
def wU(bs:List Bool):(aL bs.length).any (λj=>bs.getD j ak)=bs.any id:=by
 rw[cf,fM,fM]
 constructor
 .rintro ⟨j,hj,h⟩
  have hj':=aR.mp hj;exact#[bs[j],aU hj',by simpa[af hj']using h]
 .rintro ⟨b,hb,h⟩
  obtain⟨j,hj,e⟩:=b9 hb;exact#[j,aR.mpr hj,by simpa[af hj,e]using h]
def WP(r:Rep O H d v)(e:Zu v u)(h:Pv.VM d=aa n)(s:ax)(Q:Bool->ax->Prop)(E:ap->ax->Prop)(q:Q n s) :
  aV (aS prog w) A (truthy u) Q E s:=by
 cases d with
 |non=>cases r.non';cases e;cases h;exact truthy_none q
 |bl b=>cases r.bl';cases e;cases h;exact fB q
 |int m=>
  cases r.int';obtain⟨t,rfl⟩:=e;have h':=al h;refine mG ?_;have:(m != 0)=n:=by
   rw[<-h'];by_cases z:m=0
   .subst z;rfl
   .rw[T5 z];exact bne_iff_ne.mpr z
  rw[this];exact q
 |_=>cases h
def wB(hc:X.calm=aj):ZI X (.builtin "all") (λvs H Q=>∃O ds v bs,vs=[v]/\Rep O H (.lst ds) v/\Pv.ZW ds=aa bs/\Q (.bl<|bs.all id) H):=by
 intro pq s Z H vs us Q I r h;obtain⟨O,ds,v,bs,rfl,rs,hb,q⟩:=h;obtain⟨p,xs,rfl,hx,_,rx⟩:=rs.lst';obtain⟨u,rfl,ru⟩:=XJ r;cases ru;obtain⟨its,rv,pl,hz⟩:=I.list<|SqL.of hx;obtain⟨lb,tb⟩:=Wr hb;have hlt:p<s.heap.objs.size:=by obtain⟨_,e,_⟩:=pl.isList;exact aC e
 have hlen:its.toArray.size=bs.length:=by rw[ay,<-rv.length,rx.length,lb]
 refine call_all_walk<|eL pl.isList #[s.heap.objs.size,[s.heap.objs.size,p],[s.heap.objs.size],its.toArray.size,(λi v=>its.toArray[i]?=aa v),(λi h=>h.IsListIter s.heap.objs.size p i/\h.IsList p its.toArray),λj=>bs.getD j ak,rfl,oT (A:=X.A.in1) (I.ok.hd hc) s.heap.objs.size p (a9 hlt) its.toArray,#[#[_,aD _ rfl,rfl,rfl],pl.isList.push _],?_,?_]
 .intro j v s' Q' E' hv hQ'
  have hj:its[j]?=aa v:=by simpa using hv
  have jl:j<ds.length:=by
   have:=(aX.mp hj).1;rw[<-rv.length,rx.length]at this;exact this
  obtain⟨w',g,r'⟩:=rx.get<|af jl;obtain⟨u',g',ru'⟩:=rv.get g;rw[hj]at g';cases g';exact WP r' ru' (tb j _<|af jl) s' Q' E' hQ'
 .intro h' tk hk
  rw[hlen,vf];have kp:=λb o e=>hk b o (λhm=>by
   have:b=s.heap.objs.size:=by simpa using hm
   exact T7 (this▸aC e)<|bw _)<|ao _ e
  exact#[.bl<|bs.all id,H,I.kept (t':=tk) kp,rfl,q]
def xm(hc:X.calm=aj):ZI X (.builtin "all") (VI X.K xw .all):=ZI.imp (wB hc)<|by
 rintro vs H Q ⟨O,S,ds,st,r,h⟩;obtain⟨d,v,z,rfl,r1,hz,h⟩:=Wh h r;cases d with|lst ds=>obtain⟨bs,hb,rfl⟩:=bj.mp hz;exact#[O,ds,v,bs,rfl,r1,hb,End.ok h st<|Ya _]|_=>exact Ev.nos hz
noncomputable def ZL:Ty->String
 |.int=>"int" | .bool=>"bool" | .str=>"str" | .tuple=>"tuple" | .list=>"list" | .dict=>"dict" | .cls _=>""
def yI{K:aq}{O:Mx}{H:Hp}{x:D}{v:V}{t:Ty}{n:Bool}(rx:Rep O H x v)(ht:∀m,t≠.cls m)(h:Pv.YD x t=aa n) :
  ∃tv,TyOf K H v tv/\lN K tv (.type<|ZL t)=aa n:=by
 cases x with
 |non=>rw[rx.non'];refine#[_,.non,?_];cases h;cases t<;>first|rfl|exact T7 rfl<|ht _
 |bl b=>rw[rx.bl'];refine#[_,.bl b,?_];cases h;cases t<;>first|rfl|exact T7 rfl<|ht _
 |int b=>rw[rx.int'];refine#[_,.int b,?_];cases h;cases t<;>first|rfl|exact T7 rfl<|ht _
 |str b=>rw[rx.str'];refine#[_,.str b,?_];cases h;cases t<;>first|rfl|exact T7 rfl<|ht _
 |tup ds=>
  obtain⟨p,xs,rfl,hp,_⟩:=rx.tup';refine#[_,.tup hp,?_];cases h;cases t<;>first|rfl|exact T7 rfl<|ht _
 |lst ds=>
  obtain⟨p,xs,rfl,hp,_⟩:=rx.lst';refine#[_,.lst hp,?_];cases h;cases t<;>first|rfl|exact T7 rfl<|ht _
 |dct o=>
  cases o with
  |some _=>exact Ev.nos h
  |none=>
   obtain⟨p,rfl,_,e⟩:=rx.dct';refine#[_,.dK e,?_];cases h;cases t<;>first|rfl|exact T7 rfl<|ht _
 |_=>exact Ev.nos h
def jL(T:String):ZI X (.builtin "isinstance") (λvs H Q=>∃v tv n,vs=[v,.ty T]/\TyOf X.K H v tv/\lN X.K tv (.type T)=aa n/\Q (.bl n) H):=by
 intro pq s Z H vs us Q I r h;obtain⟨v,tv,n,rfl,ty,e,q⟩:=h;obtain⟨u,w',rfl,r1,r2⟩:=zq r;cases r2;exact wt I r1 ty e λtk=>#[.bl n,H,I.tok tk,rfl,q]
def Vf{T:bx}{t:Ty}(ht:∀m,t≠.cls m)(hm:X.mg "isinstance" = ag)(hmT:X.mg T=ag)(ha:CE X xw C a i)(hg:Gl X "isinstance")(hgT:Gl X T)(hvT:cZ T=aa (.type<|ZL t))(hnT:T≠"__name__")(hdT:(T == ("__debug__" : bx))=ak)
  (hs1:aE [a,.Name T p2] X.env=(ak,cD a X.env)::aE [.Name T p2] X.env)(hs2:aE [.Name T p2] X.env=(ak,cD (.Name T p2) X.env)::aE [] X.env)(hpl:(dz pos<|aE [.Name T p2] X.env).any (·.1)=ak) :
  CE X xw C (.Call (.Name "isinstance" p) [a,.Name T p2] [] pos) (.isi i [t]):=.mk <|
 PE.imp (WH (jL<|ZL t) hg hm (by rfl) (Yj ha.h (Yj (Q4 (v:=.ty<|ZL t) hgT hmT hvT rfl hnT hdT) XI hs2) hs1) (by decide) (by decide) hs1 hpl)<|by
  rintro Z H Q ⟨O,l,S,st,lr,h⟩;refine#[O,l,S,st,lr,End.bind (show End X.K xw Rep O H Q ((Pv.pv C i l S).bind _)from h) λx S1 ρ1 H1 v f1 st1 r1 h1=>?_]
  obtain⟨n,hn,h2⟩:=End.ob h1;have hn':Pv.YD x t=aa n:=by
   unfold Pv.Z9 at hn;cases q:Pv.YD x t with|none=>rw[q]at hn;cases hn|some m=>rw[q]at hn;cases m<;>exact hn
  obtain⟨tv,ty,e⟩:=yI r1 ht hn';exact#[v,tv,n,rfl,ty,e,End.ok h2 st1<|Ya _]
def ZeY(P:bC)(w:bU)(K:aq)(a:aJ)(tab:List (Int×Int)):Prop:=(a == c7)=ak/\∃f:Int->Option ap,(∀h:cc,K.In h->h.MapOf (fb P w) a f)/\∀k,(tab.lookup k=ag->f k=ag)/\∀j,tab.lookup k=aa j->∃t,f k=aa (.int j t)
def Wu(fr:Bool)(H0:Hp)(O:Mx)(H:Hp)(d:D)(v:V):Prop:=Rep O H d v/\(fr=aj->∀ds,d=.lst ds->∃a,v=.ref a/\H0 a=ag)
theorem End.fr{K:aq}{xw:Nat->Hp->Prop}{O:Mx}{H H0:Hp}{Q:VK}{r:R D}{fr:Bool}(h:End K xw Rep O H Q r):End K xw (Wu fr H0) O H Q r:=by
 cases r with|ok d S=>exact λρ' H' v f st r=>h ρ' H' v f st r.1|_=>exact h
def spF(K:aq)(C:Calls)(fr:Bool)(n:Nat):Sp:=λvs H Q _=>∃O ds S,St3 K O S H/\Rq O H ds vs/\End K (λ_ _=>False) (Wu fr H) O H Q (C n ds S)
def Zbh{n kk:Nat}{fr:Bool}{f:aJ}{fd:c6}{ps:List bx}{x:bx}{es:List Expr}{is:List E}(F:FnOk X.prog X.w X.K X.mg X.base CX0 kk f fd ps (spF X.K C fr n))(hr:Room kk X.A)(hm:X.mg x=aa (.ref f))(hk:gA X.K (.ref f)=aj)(hb:V1 X.K fd ps [])
  (ha:CA X (λ_ _=>False) C (e::es) is)(hg:Gl X x:=by rfl)(hdb:(x == ("__debug__" : bx))=ak:=by decide)(he:aE (e::es) X.env=(ak,cD e X.env)::aE es X.env:=by rfl)(hpl:(dz pos<|aE es X.env).any (·.1)=ak:=by rfl) :
  CE X (λ_ _=>False) C (.Call (.Name x p) (e::es) [] pos) (.call n is):=.mk <|
 PE.imp (yY F hr hg hm hk hb .nil Zcm ha.h hdb he hpl) λZ H Q #[O,l,S,st,lr,h]=>
  #[O,l,S,st,lr,End.bind (show End X.K (λ_ _=>False) Rep O H Q ((Pv.pvs C is l S).bind _)from h) λxs S1 ρ1 H1 vs f1 st1 r1 h1=>by
   rw[bS];exact#[ρ1,xs,S1,st1,r1,h1.fr]]
end
abbrev Own:=Nat->Option aJ
noncomputable def Mx.ex(O:Mx)(W:Own):Mx:=#[O.K,O.n0,λa=>O.X a\/∃i,W i=aa a,λa h=>.inl<|O.xz a h]
mutual
theorem Rep.flat(hk:ρ'.K=O.K)(k:∀a o,H a=aa o->(∀xs,o≠.lst xs)->(∀vs,o≠.dT vs)->H' a=aa o):∀{d:D}{v:V},d.flat=aj->Rep O H d v->Rep ρ' H' d v
 |.non,_,_,h|.bl _,_,_,h|.int _,_,_,h|.str _,_,_,h=>by exact h
 |.tup ds,v,f,h=>by
  obtain⟨a,xs,e,t,r⟩:=h;exact#[a,xs,e,k a _ t (λ_ z=>by cases z) (λ_ z=>by cases z),r.flat hk k (by exact f)]
 |.scr ns,v,_,h=>by
  unfold Rep at h ⊢;obtain⟨a,e,t⟩:=h;rw[hk];refine#[a,e,?_];rcases t with⟨o,t⟩|t
  .exact .inl #[o,k a _ t (λ_ z=>by cases z) λ_ z=>by cases z]
  .exact .inr t
 |.lst _,_,f,_|.drw,_,f,_|.dct _,_,f,_|.dow _,_,f,_=>by cases f
theorem Rq.flat(hk:ρ'.K=O.K)(k:∀a o,H a=aa o->(∀xs,o≠.lst xs)->(∀vs,o≠.dT vs)->H' a=aa o):∀{ds:List D}{xs:List V},Pv.YJ ds=aj->Rq O H ds xs->Rq ρ' H' ds xs
 |[],_,_,h=>by exact h
 |d::ds,xs,f,h=>by
  obtain⟨v,vs,e,r,rs⟩:=h;have f:=(aF _ _).mp f;exact#[v,vs,e,r.flat hk k f.1,rs.flat hk k f.2]
end
def Xr(O:Mx)(H:Hp)(a:aJ):D->Prop
 |.lst xs=>∃us,H a=aa (.lst us)/\Rq O H xs us
 |.dow ks=>∃vs,H a=aa (.dT vs)/\vs.map (·.1)=ks.map (·.map cP)
 |_=>False
def Xr.ob{O:Mx}{H:Hp}{a:aJ}{d:D}(h:Xr O H a d):(∃us,H a=aa (.lst us))\/∃vs,H a=aa (.dT vs):=by
 cases d with|lst xs=>obtain⟨us,e,_⟩:=h;exact .inl #[us,e]|dow ks=>obtain⟨vs,e,_⟩:=h;exact .inr #[vs,e]|_=>exact h.elim
def Xr.ne{O:Mx}{H:Hp}{a:aJ}{d:D}(h:Xr O H a d):H a≠ag:=by
 rcases h.ob with⟨_,z⟩|⟨_,z⟩<;>(rw[z];intro q;cases q)
def Xr.rep{O:Mx}{H:Hp}{a:aJ}{d:D}(h:Xr O H a d)(x:¬O.X a):Rep O H d (.ref a):=by
 cases d with|lst xs=>obtain⟨us,e,r⟩:=h;exact X4 e x r|dow ks=>obtain⟨vs,e,q⟩:=h;unfold Rep;exact#[a,vs,rfl,e,x,q]|_=>exact h.elim
theorem Xr.lat{O ρ':Mx}{H H':Hp}{a:aJ}{d:D}(h:Xr O H a d)(f:Lat O H ρ' H')(e:H' a=H a):Xr ρ' H' a d:=by
 cases d with|lst xs=>obtain⟨us,q,r⟩:=h;exact#[us,e.trans q,r.lat f]|dow ks=>obtain⟨vs,q,r⟩:=h;exact#[vs,e.trans q,r]|_=>exact h
def Lat.own{O:Mx}{H:Hp}{b:aJ}{o':HO}(x:O.X b)(hb:(∃us,H b=aa (.lst us))\/∃vs,H b=aa (.dT vs)):Lat O H O (upd H b o'):=#[rfl,rfl,λc u z nx _ nd=>by
 rw[Zp (λq=>by
  rw[q]at z;rcases hb with⟨_,e⟩|⟨_,e⟩<;>(rw[e]at z;cases z)
  .exact nx _ rfl<|q▸x
  .exact nd _ rfl<|q▸x)]
 exact z,λ_ _ z=>z]
structure Eu(O:Mx)(H0:Hp)(W:Own)(l:Lc)(os:List Nat)(Z:L2.St)(H:Hp):Prop where
 fut:Fut O H0 O H
 xd:∀a,O.X a->H0 a≠ag
 len:l.length=Z.length
 osW:∀i,os.contains i=(W i).isSome
 inj:∀i j a,W i=aa a->W j=aa a->i=j
 new:∀i a,W i=aa a->H0 a=ag
 own:∀i a,W i=aa a->∃d,l[i]?=aa (aa d)/\Z[i]?=aa (aa<|.ref a)/\Xr (O.ex W) H a d
 val:∀(i:Nat)(d:D),l[i]?=aa (aa d)->W i=ag->∃v,Z[i]?=aa (aa v)/\Rep (O.ex W) H d v
section
variable{K:aq}{O:Mx}{H0 H H':Hp}{W W':Own}{l:Lc}{os:List Nat}{Z:L2.St}{S:Zv}
def Lat.unex:Lat (O.ex W) H O H:=#[rfl,rfl,λ_ _ h _ _ _=>h,λ_ _ x=>.inl x]
theorem Fut.ex(f:Fut O H O H'):Fut (O.ex W) H (O.ex W) H':=#[rfl,f.keep]
def St3.unex(st:St3 K (O.ex W) S H):St3 K O S H:=#[st.hk,λa x=>st.xd a<|.inl x,st.dw,st.tb]
def Eu.nx(h:Eu O H0 W l os Z H)(e:W i=aa a):¬O.X a:=λz=>h.xd a z<|h.new i a e
theorem Eu.st(h:Eu O H0 W l os Z H)(st:St3 K O S H):St3 K (O.ex W) S H:=
 #[st.hk,λa x=>x.elim (st.xd a) λ#[i,e]=>(let #[_,_,_,z]:=h.own i a e;z.ne),st.dw,st.tb]
def u4(f:Fut O H O H')(x:¬O.X a)(h:H a=aa o)(n:∀ps,o≠.tbl ps:=by intro _ z;cases z):H' a=aa o:=(f.keep a o h).elim id λz=>z.elim (λz=>T7 (O.xz a z.1) x)<|by rintro ⟨⟨ps,e⟩,_⟩;exact T7 e<|n ps
def Eu.all(h:Eu O H0 W l os Z H):LocR O H l Z:=#[h.len,λi v e=>by
 cases q:W i with
 |none=>obtain⟨d,a,b⟩:=h.val i v e q;exact#[d,a,b.lat Lat.unex]
 |some n=>
  obtain⟨d,a,c,r⟩:=h.own i n q;rw[a]at e;cases e;exact#[_,c,(r.lat Lat.unex rfl).rep<|h.nx q]]
def vK(e:(Pv.hide os l)[i]?=aa (aa v)):l[i]?=aa (aa v)/\os.contains i=ak:=by
 unfold Pv.hide at e;rw[g8]at e;cases q:l[i]? with
 |none=>rw[q]at e;cases e
 |some o=>
  rw[q]at e;have e':(if os.contains i=aj then ag else o)=aa v:=al e
  by_cases c:os.contains i=aj
  .rw[T9 c]at e';cases e'
  .rw[T8 c]at e';exact#[by rw[e'],by simpa using c]
def hide_nil:Pv.hide [] l=l:=by
 unfold Pv.hide;refine bR λi=>?_
 rw[g8];cases l[i]?<;>rfl
def Eu.nW(h:Eu O H0 W l os Z H){i:Nat}(b:os.contains i=ak):W i=ag:=by
 rw[h.osW]at b;cases q:W i with|none=>rfl|some _=>rw[q]at b;cases b
def Eu.hid(h:Eu O H0 W l os Z H):LocR (O.ex W) H (Pv.hide os l) Z:=#[by unfold Pv.hide;rw[List.length_mapIdx];exact h.len,λi v e=>by
 obtain⟨a,b⟩:=vK e;exact h.val i v a<|h.nW b]
theorem Eu.mono(h:Eu O H0 W l os Z H)(f:Fut O H O H'):Eu O H0 W l os Z H':=
 #[h.fut.trans f,h.xd,h.len,h.osW,h.inj,h.new,λi a q=>by
  obtain⟨d,p,c,r⟩:=h.own i a q;exact#[d,p,c,r.lat f.ex.lat (by rcases r.ob with⟨_,e⟩|⟨_,e⟩<;>rw[u4 f (h.nx q) e,e])],λi v a b=>by
  obtain⟨d,c,r⟩:=h.val i v a b;exact#[d,c,r.mono f.ex]]
def JW{B:Type}{l:List (Option B)}{i j:Nat}{o:Option B}{v:B}(e:(l.set i o)[j]?=aa (aa v)):(i=j/\o=aa v/\i<l.length)\/(i≠j/\l[j]?=aa (aa v)):=by
 rw[ni]at e;by_cases c:i=j
 .rw[T9 c]at e
  by_cases z:i<l.length
  .rw[T9 z]at e;exact .inl #[c,al e,z]
  .rw[T8 z]at e;cases e
 .rw[T8 c]at e;exact .inr #[c,e]
theorem Eu.set{i:Nat}{o:Option D}{v:V}(h:Eu O H0 W l os Z H)(hi:os.contains i=ak)(r:∀d,o=aa d->Rep (O.ex W) H d v):Eu O H0 W (l.set i o) os (Z.set i<|aa v) H:=by
 have hw:=h.nW hi;refine#[h.fut,h.xd,by rw[bZ,bZ];exact h.len,h.osW,h.inj,h.new,λj n q=>?_,λj w e q=>?_]
 .obtain⟨d,a,c,e⟩:=h.own j n q
  have ij:i≠j:=λz=>by rw[z,q]at hw;cases hw
  exact#[d,by rw[bp ij];exact a,by rw[bp ij];exact c,e]
 .rcases JW e with⟨rfl,z,hl⟩|⟨c,z⟩
  .exact#[v,bY (by rw[<-h.len];exact hl),r w z]
  .rw[bp c];exact h.val j w z q
noncomputable def V7:List Nat->List V->L2.St->L2.St
 |i::t,x::xs,Z=>V7 t xs<|Z.set i<|aa x
 |_,_,Z=>Z
theorem Eu.fill:∀{t:List Nat}{vs:List D}{us:List V}{l l':Lc}{Z:L2.St},Eu O H0 W l os Z H->(t.any os.contains)=ak->Rq (O.ex W) H vs us->Pv.YM t vs l=aa l'->us.length=t.length/\Eu O H0 W l' os (V7 t us Z) H
 |[],[],_,l,l',Z,h,_,r,e=>by rw[r];cases e;exact#[rfl,h]
 |[],_::_,_,_,_,_,_,_,_,e=>by cases e
 |_::_,[],_,_,_,_,_,_,_,e=>by cases e
 |i::t,v::vs,_,l,l',Z,h,ht,r,e=>by
  obtain⟨d,ds,rfl,a,b⟩:=r;rw[fY,Bool.or_eq_false_iff]at ht;obtain⟨z,q⟩:=Eu.fill (h.set ht.1 λ_ z=>by cases z;exact a) ht.2 b e
  exact#[by rw[aP,aP,z],q]
def tGU(K:aq)(t:List Nat):TG:=λv Z H Q=>match t with
 |[i]=>Q (Z.set i<|aa v) H
 |t=>∃a xs,v=.ref a/\(SqT K H a xs\/H a=aa (.lst xs))/\xs.length=t.length/\Q (V7 t xs Z) H
def Eu.assign{Q:L2.St->Hp->Prop}(h:Eu O H0 W l os Z H)(ht:(t.any os.contains)=ak)(r:Rep (O.ex W) H d v)(e:Pv.Zk t d l=aa l')(q:∀σ',Eu O H0 W l' os σ' H->Q σ' H):tGU K t v Z H Q:=by
 have gen:∀t:List Nat,(t.any os.contains)=ak->(match Pv.qv d with
   |some xs=>Pv.YM t xs l
   |none=>ag)=aa l'->∃a xs,v=.ref a/\(SqT K H a xs\/H a=aa (.lst xs))/\xs.length=t.length/\Q (V7 t xs Z) H:=by
  intro t ht e;cases d with|tup vs=>obtain⟨p,ds,rfl,hp,rs⟩:=r.tup';obtain⟨z,y⟩:=h.fill ht rs e;exact#[p,ds,rfl,.inl<|SqT.of hp,z,q _ y]|lst vs=>obtain⟨p,ds,rfl,hp,_,rs⟩:=r.lst';obtain⟨z,y⟩:=h.fill ht rs e;exact#[p,ds,rfl,.inr hp,z,q _ y]|_=>cases e
 match t,ht,e with
 |[i],ht,e=>cases e;exact q _<|h.set (by simpa using ht) λ_ z=>by cases z;exact r
 |[],ht,e=>exact gen [] ht e
 |i::j::t,ht,e=>exact gen (i::j::t) ht e
noncomputable def noW(W:Own)(i:Nat):Own:=λj=>if j=i then ag else W j
def Wa{i j:Nat}{a:aJ}(z:noW W i j=aa a):j≠i/\W j=aa a:=by
 unfold noW at z;by_cases c:j=i
 .rw[T9 c]at z;cases z
 .rw[T8 c]at z;exact#[c,z]
theorem Lat.noW{i:Nat}:Lat (O.ex W) H (O.ex<|noW W i) H:=#[rfl,rfl,λ_ _ h _ _ _=>h,λ_ _ x=>x.elim .inl λ#[j,e]=>.inr #[j,(Wa e).2]]
def V2{i:Nat}(h:∀i,os.contains i=(W i).isSome)(j:Nat):(os.filter (· != i)).contains j=(noW W i j).isSome:=by
 unfold noW;by_cases c:j=i
 .simp[c]
 .simp only[c,if_false]
  rw[<-h j,cf,cM,cM,bM];simp[c]
def Eu.drop{i:Nat}{o:Option D}{v:V}(h:Eu O H0 W l os Z H)(r:∀d,o=aa d->Rep (O.ex<|noW W i) H d v):Eu O H0 (noW W i) (l.set i o) (os.filter (· != i)) (Z.set i<|aa v) H:=by
 refine#[h.fut,h.xd,by rw[bZ,bZ];exact h.len,V2 h.osW,λa b n x y=>h.inj a b n (Wa x).2 (Wa y).2,λj n z=>h.new j n (Wa z).2,λj n z=>?_,λj w e z=>?_]
 .obtain⟨d,a,c,e⟩:=h.own j n (Wa z).2
  have ij:i≠j:=Ne.symm (Wa z).1;exact#[d,by rw[bp ij];exact a,by rw[bp ij];exact c,e.lat Lat.noW rfl]
 .rcases JW e with⟨rfl,e,hl⟩|⟨c,e⟩
  .exact#[v,bY (by rw[<-h.len];exact hl),r w e]
  .rw[bp c]
   unfold Sd.noW at z;rw[T8<|Ne.symm c]at z;obtain⟨d',a,b⟩:=h.val j w e z;exact#[d',a,b.lat Lat.noW]
noncomputable def JI(W:Own)(i:Nat)(a:aJ):Own:=λj=>if j=i then aa a else W j
def Eu.takeO{i:Nat}{a:aJ}{d:D}(h:Eu O H0 W l os Z H)(hd:∀a,O.X a->H a≠ag)(f:Fut O H O H')(hn:H a=ag)(hx:¬(O.ex W).X a)(r:Xr (O.ex<|JI W i a) H' a d)(hi:i<l.length) :
  Eu O H0 (JI W i a) (l.set i<|aa d) (i::os.filter (· != i)) (Z.set i<|aa<|.ref a) H':=by
 have h1:=h.mono f;have get:∀{j m},JI W i a j=aa m->(j=i/\a=m)\/(j≠i/\W j=aa m):=λ{j m} z=>by
  unfold JI at z;by_cases c:j=i
  .rw[T9 c]at z;exact .inl #[c,al z]
  .rw[T8 c]at z;exact .inr #[c,z]
 have na:H0 a=ag:=h.fut.new hn hd;have lt:Lat (O.ex W) H (O.ex<|JI W i a) H':=#[rfl,rfl,f.ex.lat.keep',λb hb x=>by
  rcases x with x|⟨j,x⟩
  .exact .inl x
  .rcases get x with⟨_,z⟩|⟨_,z⟩
   .exact T7 hn<|z▸hb
   .exact .inr #[j,z]]
 refine#[h1.fut,h.xd,by rw[bZ,bZ];exact h.len,λj=>?_,λp q m x y=>?_,λj m z=>?_,λj m z=>?_,λj w q z=>?_]
 .have:=V2 (i:=i) h.osW j
  unfold JI;by_cases c:j=i
  .simp[c]
  .unfold noW at this
   rw[T8 c]at this ⊢;rw[List.contains_cons,this,beq_eq_false_iff_ne.mpr c,kx]
 .rcases get x with⟨x1,x2⟩|⟨x1,x2⟩<;>rcases get y with⟨y1,y2⟩|⟨y1,y2⟩
  .rw[x1,y1]
  .exact T7 (.inr #[q,x2▸y2]) hx
  .exact T7 (.inr #[p,y2▸x2]) hx
  .exact h.inj p q m x2 y2
 .rcases get z with⟨_,z⟩|⟨_,z⟩
  .exact z▸na
  .exact h.new j m z
 .rcases get z with⟨z1,z2⟩|⟨z1,z2⟩
  .subst z1 z2
   exact#[d,bY hi,bY (by rw[<-h.len];exact hi),r]
  .obtain⟨d',p,c,q⟩:=h.own j m z2
   exact#[d',by rw[bp<|Ne.symm z1];exact p,by rw[bp<|Ne.symm z1];exact c,q.lat lt (by rcases q.ob with⟨_,e⟩|⟨_,e⟩<;>rw[u4 f (h.nx z2) e,e])]
 .unfold JI at z
  by_cases c:j=i
  .rw[T9 c]at z;cases z
  .rw[T8 c]at z
   rw[bp<|Ne.symm c]at q ⊢;obtain⟨d,p,b⟩:=h.val j w q z;exact#[d,p,b.lat lt]
def Eu.take(h:Eu O H0 W l os Z H)(hd:∀a,O.X a->H a≠ag)(f:Fut O H O H')(hn:H a=ag)(hf:Pv.YJ xs=aj)(r:Rep (O.ex W) H' (.lst xs) (.ref a))(hi:i<l.length) :
  Eu O H0 (JI W i a) (l.set i<|aa<|.lst xs) (i::os.filter (· != i)) (Z.set i<|aa<|.ref a) H':=by
 obtain⟨_,us,en,hs,hx,rs⟩:=r.lst';cases en;exact h.takeO (d:=.lst xs) hd f hn hx #[us,hs,rs.flat (O:=O.ex W) (ρ':=O.ex<|JI W i a) rfl (λ_ _ z _ _=>z) hf] hi
def Eu.mutO{i:Nat}{a:aJ}{d':D}{o':HO}(h:Eu O H0 W l os Z H)(hw:W i=aa a)(r:Xr (O.ex W) (upd H a o') a d'):Eu O H0 W (l.set i<|aa d') os Z (upd H a o'):=by
 obtain⟨d,p,c,e⟩:=h.own i a hw;have hi:i<l.length:=(aX.mp p).1;have lt:Lat (O.ex W) H (O.ex W) (upd H a o'):=Lat.own (show(O.ex W).X a from nR #[i,hw]) e.ob
 refine#[#[rfl,λb o z=>?_],h.xd,by rw[bZ];exact h.len,h.osW,h.inj,h.new,λj m z=>?_,λj w q z=>?_]
 .rw[Zp λq=>by rw[q,h.new i a hw]at z;cases z]
  exact h.fut.keep b o z
 .by_cases k:i=j
  .subst k
   rw[hw]at z;cases z;exact#[d',bY hi,c,r]
  .obtain⟨d2,a',c',e'⟩:=h.own j m z
   exact#[d2,by rw[bp k];exact a',c',e'.lat lt<|Zp λq:m=a=>k<|h.inj i j a hw<|q▸z]
 .have k:i≠j:=λk=>by rw[<-k,hw]at z;cases z
  rw[bp k]at q;obtain⟨d,a',b'⟩:=h.val j w q z;exact#[d,a',b'.lat lt]
def Eu.mut(h:Eu O H0 W l os Z H)(hw:W i=aa a)(r:Rq (O.ex W) H ys us):Eu O H0 W (l.set i<|aa<|.lst ys) os Z (upd H a<|.lst us):=by
 obtain⟨d,p,c,e⟩:=h.own i a hw;exact h.mutO hw (d':=.lst ys) #[us,Zy,r.lat<|Lat.own (show(O.ex W).X a from nR #[i,hw]) e.ob]
def St3.mut{K:aq}{i:Nat}{a:aJ}{o':HO}(st:St3 K O S H)(h:Eu O H0 W l os Z H)(hw:W i=aa a)(ht:∀ps,o'≠.tbl ps:=by intro _ z;cases z):St3 K O S (upd H a o'):=by
 obtain⟨d,p,c,e⟩:=h.own i a hw;have ne:∀b,O.X b->b≠a:=λb x z=>h.nx hw<|z▸x
 exact#[st.hk,λb x=>by rw[Zp<|ne b x];exact st.xd b x,λb x=>by rw[Zp<|ne b<|O.xz b x];exact st.dw b x,st.tb.upd (λo u z=>by rcases e.ob with⟨_,e⟩|⟨_,e⟩<;>(rw[e]at z;cases z)) ht]
structure Base(O:Mx)(H0 H1:Hp):Prop where
 fut:Fut O H0 O H1
 dom:∀a,H1 a=ag->H0 a=ag
def Eu.rebase(b:Base O H0 H1)(x:∀a,O.X a->H0 a≠ag)(h:Eu O H1 W l os Z H):Eu O H0 W l os Z H:=#[b.fut.trans h.fut,x,h.len,h.osW,h.inj,λi a e=>b.dom a<|h.new i a e,h.own,h.val]
open Classical in
noncomputable def UP(H:Hp)(W:Own):Hp:=λa=>if ∃i,W i=aa a then ag else H a
def Eu.off(h:Eu O H0 W l os Z H)(hd:∀a,O.X a->H a≠ag):Base O H0 (UP H W)/\Eu O (UP H W) W l os Z H:=by
 have nw:∀a,H0 a≠ag->UP H W a=H a:=λa z=>T8 λ#[i,e]=>z<|h.new i a e
 refine#[#[#[rfl,λa o e=>?_],λa e=>?_],#[rfl,λa o e=>.inl ?_],λa x=>?_,h.len,h.osW,h.inj,λi a e=>T9 #[i,e],h.own,h.val]
 .rw[nw a (by rw[e];intro z;cases z)];exact h.fut.keep a o e
 .cases q:H0 a with
  |none=>rfl
  |some o=>
   rw[nw a<|by rw[q];intro z;cases z]at e
   rw[h.fut.new e hd]at q;cases q
 .unfold UP at e
  split at e
  .cases e
  .exact e
 .rw[nw a<|h.xd a x];exact hd a x
def Eu.walk(h:Eu O H0 W l os Z H)(h':Eu O (UP H W) W' l' os' σ' H'):Lat (O.ex W) H (O.ex W') H':=by
 refine#[rfl,rfl,λa o e x n nd=>?_,λa e x=>?_]
 .have nw:¬∃i,W i=aa a:=by
   rintro ⟨i,w⟩;obtain⟨_,_,_,z⟩:=h.own i a w;rcases z.ob with⟨us,z⟩|⟨us,z⟩<;>rw[e]at z
   .exact x us (al z)<|.inr #[i,w]
   .exact nd us (al z)<|.inr #[i,w]
  rcases h'.fut.keep a o (by unfold UP;rw[T8 nw];exact e)with z|⟨z,xs,q⟩|⟨⟨ps,q⟩,_⟩
  .exact z
  .exact T7 (.inl<|O.xz a z)<|x xs q
  .exact T7 q<|n ps
 .rcases x with x|⟨i,x⟩
  .exact .inl x
  .have:=h'.new i a x
   unfold UP at this;split at this
   .exact .inr ‹_›
   .exact T7 this e
end
section
variable(X:Cx)(xw:Nat->Hp->Prop)(C:Calls)
def tF(f:Lc->Zv->R D):TE:=λZ H Q=>∃O l S,St3 X.K O S H/\LocR O H l Z/\End X.K xw (Wu aj H) O H Q (f l S)
structure CF(e:Expr)(i:E):Prop where
 h:PE X e (tF X xw<|Pv.pv C i)
end
def CF.ce{X:Cx}{xw:Nat->Hp->Prop}{C:Calls}{e:Expr}{i:E}(h:CF X xw C e i):CE X xw C e i:=.mk <| PE.imp h.h<|by rintro Z H Q ⟨O,l,S,st,lr,h⟩;exact #[O,l,S,st,lr,h.fr]
def End.newF{K:aq}{xw:Nat->Hp->Prop}{O:Mx}{H0 H:Hp}{Q:VK}{S S0:Zv}{ds:List D}{xs:List V}(h:End K xw (Wu aj H0) O H Q (.ok (.lst ds) S))(f:Fut O H0 O H)(s0:St3 K O S0 H0)(st:St3 K O S H)(r:Rq O H ds xs):∀p,H p=ag->Q (.ref p) (upd H p<|.lst xs):=λp hp=>
 h O _ _ (ZH hp) (st.fresh hp) #[X4 Zy (st.nx hp)<|r.mono<|ZH hp,λ_ _ _=>#[p,rfl,f.new hp st.xd]]
def zm(K:aq)(xw:Nat->Hp->Prop)(f:Bf):List V->Hp->VK->Prop:=λvs H Q=>∃O S ds,St3 K O S H/\Rq O H ds vs/\∃H0 S0,Fut O H0 O H/\St3 K O S0 H0/\End K xw (Wu aj H0) O H Q (Pv.po (Pv.Xt f ds) S)
def wb{xw:Nat->Hp->Prop}:∀Z H Q,tF X xw (Pv.pv C<|.blt f is) Z H Q->tCB (zm X.K xw f) (tA X xw<|Pv.pvs C is) Z H Q:=λZ H Q #[O,l,S,st,lr,h]=>
 #[O,l,S,st,lr,End.bind (h) λxs S1 ρ1 H1 vs f1 st1 r1 h1=>by cases f1.eq;exact#[O,S1,xs,st1,r1,H,S,f1,st,h1]]
def ZbK{X:Cx}{xw:Nat->Hp->Prop}{C:Calls}{e:Expr}{pos p:gW}{f:Bf}{id:String}{x:bx}{es:List Expr}{is:List E}(hc:ZI X (.builtin id) (zm X.K xw f))(hm:X.mg x=ag)(ha:CA X xw C (e::es) is)(hg:Gl X x)(hv:cZ x=aa (.builtin id))(hn:x≠"__name__")(hdb:(x == ("__debug__" : bx))=ak)
  (he:aE (e::es) X.env=(ak,cD e X.env)::aE es X.env)(hpl:(dz pos<|aE es X.env).any (·.1)=ak):CF X xw C (.Call (.Name x p) (e::es) [] pos) (.blt f is):=.mk <|
 PE.imp (WH hc hg hm hv ha.h hn hdb he hpl) wb
def jX{X:Cx}{xw:Nat->Hp->Prop}{C:Calls}{e:Expr}{pos p:gW}{f:Bf}{id:String}{x:bx}{es:List Expr}{is:List E}(hc:ZI X (.type id) (zm X.K xw f))(hm:X.mg x=ag)(ha:CA X xw C (e::es) is)(hg:Gl X x)(hv:cZ x=aa (.type id))(hn:x≠"__name__")(hdb:(x == ("__debug__" : bx))=ak)
  (he:aE (e::es) X.env=(ak,cD e X.env)::aE es X.env)(hpl:(dz pos<|aE es X.env).any (·.1)=ak):CF X xw C (.Call (.Name x p) (e::es) [] pos) (.blt f is):=.mk <|
 PE.imp (U9 hc hg hm hv ha.h hn hdb he hpl) wb
def Zt(fr:Bool)(K:aq)(xw:Nat->Hp->Prop)(O:Mx)(H0:Hp)(D:Ends):R Pv.FlV->Prop
 |.ok (.nx l os) S=>∀H' σ' W',St3 K O S H'->Eu O H0 W' l os σ' H'->D.nx σ' H'
 |.ok (.brk l os) S=>∀H' σ' W',St3 K O S H'->Eu O H0 W' l os σ' H'->D.bk σ' H'
 |.ok (.cnt l os) S=>∀H' σ' W',St3 K O S H'->Eu O H0 W' l os σ' H'->D.ct σ' H'
 |.ok (.ret d) S=>∀H' v,Fut O H0 O H'->St3 K O S H'->Wu fr H0 O H' d v->D.rt v H'
 |.ex c S=>∀H',Fut O H0 O H'->St3 K O S H'->xw c H'
 |.no=>False
section
variable{fr:Bool}{K:aq}{xw:Nat->Hp->Prop}{O:Mx}{H0 H:Hp}{B β:Type}{rep:Mx->Hp->B->β->Prop}{D:Ends}{W:Own}{l:Lc}{os:List Nat}{Z:L2.St}{S:Zv}
theorem Zt.bind{Q1:β->Hp->Prop}(he:Eu O H0 W l os Z H)(h:Zt fr K xw O H0 D (r.bind f))
  (k:∀d S H1 v,Fut O H O H1->St3 K O S H1->rep O H1 d v->Zt fr K xw O H0 D (f d S)->Q1 v H1):End K xw rep O H Q1 r:=by
 cases r with|ok d S=>exact λρ1 H1 v g st r=>by cases g.eq;exact k d S H1 v g st r h|ex c S=>exact λρ1 H1 g st=>by cases g.eq;exact h H1 (he.fut.trans g) st|no=>exact h
def Zt.bindW{Q1:β->Hp->Prop}(he:Eu O H0 W l os Z H)(h:Zt fr K xw O H0 D (r.bind f))
  (k:∀d S H1 v,Fut O H O H1->St3 K O S H1->rep (O.ex W) H1 d v->Zt fr K xw O H0 D (f d S)->Q1 v H1):End K xw rep (O.ex W) H Q1 r:=by
 cases r with|ok d S=>exact λρ1 H1 v g st r=>by cases g.eq;exact k d S H1 v #[rfl,g.keep] st.unex r h|ex c S=>exact λρ1 H1 g st=>by cases g.eq;exact h H1 (he.fut.trans #[rfl,g.keep]) st.unex|no=>exact h
def Zt.ob(h:Zt fr K xw O H0 D ((Pv.po o S).bind f)):∃a,o=aa a/\Zt fr K xw O H0 D (f a S):=by
 cases o with|none=>exact h.elim|some a=>exact#[a,rfl,h]
def Zt.guard{c:Prop}[Decidable c](h:Zt fr K xw O H0 D (if c then a else .no)):c/\Zt fr K xw O H0 D a:=by
 split at h
 .exact#[‹_›,h]
 .exact h.elim
def Zt.guardN{c:Prop}[Decidable c](h:Zt fr K xw O H0 D (if c then .no else a)):¬c/\Zt fr K xw O H0 D a:=by
 split at h
 .exact h.elim
 .exact#[‹_›,h]
theorem Zt.rebase(b:Base O H0 H1)(x:∀a,O.X a->H0 a≠ag)(h:Zt fr K xw O H0 D r):Zt fr K xw O H1 D r:=by
 cases r with
 |ok f S=>
  cases f with|nx l os=>exact λH' σ' W' st e=>h H' σ' W' st<|e.rebase b x|brk l os=>exact λH' σ' W' st e=>h H' σ' W' st<|e.rebase b x|cnt l os=>exact λH' σ' W' st e=>h H' σ' W' st<|e.rebase b x|ret d=>exact λH' v f st r=>h H' v (b.fut.trans f) st #[r.1,λz ds y=>let #[a,e,q]:=r.2 z ds y;#[a,e,b.dom a q]]
 |ex c S=>exact λH' f st=>h H' (b.fut.trans f) st
 |no=>exact h
end
section
variable(X:Cx)(xw:Nat->Hp->Prop)(fr:Bool)
def tS3(f:Lc->List Nat->Zv->R Pv.FlV):TS:=λD Z H=>∃O H0 W l os S,St3 X.K O S H/\Eu O H0 W l os Z H/\Zt fr X.K xw O H0 D (f l os S)
variable(C:Calls)(ms:List Nat)
structure CS(st:fG)(s:Sm):Prop where
 h:PS X st (tS3 X xw fr<|Pv.rv C ms s)
structure CSs(st:List fG)(s:List Sm):Prop where
 h:PSs X st (tS3 X xw fr<|Pv.rvs C ms s)
structure CG(tg:Expr)(t:List Nat):Prop where
 h:PG X tg (tGU X.K t)
def ZfY(t:List Nat):TGs:=λvs Z H Q=>vs.length=t.length/\Q (V7 t vs Z) H
structure CGs(tgs:List Expr)(t:List Nat):Prop where
 h:PGs X tgs (ZfY t)
end
def PS.imp(h:PS X e t)(k:∀D Z H,t' D Z H->t D Z H):PS X e t':=λpq s Z H D I q=>h pq s Z H D I<|k D Z H q
def PSs.imp(h:PSs X e t)(k:∀D Z H,t' D Z H->t D Z H):PSs X e t':=λpq s Z H D I q=>h pq s Z H D I<|k D Z H q
def PG.imp(h:PG X e t)(k:∀v Z H Q,t' v Z H Q->t v Z H Q):PG X e t':=λpq s Z H v u Q I r q=>h pq s Z H v u Q I r<|k v Z H Q q
def PGs.imp(h:PGs X e t)(k:∀v Z H Q,t' v Z H Q->t v Z H Q):PGs X e t':=λpq s Z H v u Q I r q=>h pq s Z H v u Q I r<|k v Z H Q q
section
variable{X:Cx}{xw:Nat->Hp->Prop}{fr:Bool}{C:Calls}{ns:List Nat}{e a b c:Expr}{i j k:E}{pos p p' p2:gW}{s0:fG}{ss:List fG}{m0:Sm}{ms ms':List Sm}
def Zej{es:List Expr}{is:List E}(h:CA X xw C es is):CF X xw C (.List es pos) (.lst is):=.mk <| PE.imp (Zdg h.h)<|by
 rintro Z H Q ⟨O,l,S,st,lr,h⟩;rw[Pv.pv]at h;refine#[O,l,S,st,lr,h.bind λxs S1 ρ1 H1 vs f1 st1 r1 h1=>?_]
 obtain⟨hl,h1⟩:=h1.guard;cases f1.eq;exact#[by rw[r1.length,<-XB];exact hl,h1.newF f1 st st1 r1]
def Zdy:CSs X xw fr C ns [] []:=.mk <| PSs.imp ZbA<|by rintro D Z H ⟨O,H0,W,l,os,S,st,he,h⟩;exact h H Z W st he
def Zbl(h1:CS X xw fr C ns s0 m0)(h2:CSs X xw fr C ns ss ms):CSs X xw fr C ns (s0::ss) (m0::ms):=.mk <| PSs.imp (Gs h1.h h2.h)<|by
 rintro D Z H ⟨O,H0,W,l,os,S,st,he,h⟩;refine#[O,H0,W,l,os,S,st,he,?_];rw[Pv.rvs]at h;cases q:Pv.rv C ns m0 l os S with
 |no=>rw[q]at h;exact h
 |ex c S1=>rw[q]at h;exact h
 |ok fl S1=>
  rw[q]at h;cases fl with|nx l1 os1=>exact λH1 σ1 W1 st1 he1=>#[O,H0,W1,l1,os1,S1,st1,he1,h]|_=>exact h
def Zc3(he:CE X xw C e i):CS X xw ak C ns (.Return (aa e) pos) (.ret i):=.mk <| PS.imp (qV he.h)<|by
 rintro D Z H ⟨O,H0,W,l,os,S,st,en,h⟩;rw[Pv.rv]at h;exact#[O,l,S,st,en.all,Zt.bind en h λx S1 H1 v f1 st1 r1 h1=>h1 H1 v (en.fut.trans f1) st1 #[r1,λz=>by cases z]]
def zu{K:aq}{O:Mx}{H0 H:Hp}{W:Own}{l:Lc}{os:List Nat}{Z:L2.St}{S:Zv}{a:aJ}(en:Eu O H0 W l os Z H)(st:St3 K O S H)(h:H a=ag):H0 a=ag:=en.fut.new h st.xd
def ZaG(he:CF X xw C e i):CS X xw fr C ns (.Return (aa e) pos) (.ret i):=.mk <| PS.imp (qV he.h)<|by
 rintro D Z H ⟨O,H0,W,l,os,S,st,en,h⟩;rw[Pv.rv]at h;exact#[O,l,S,st,en.all,Zt.bind en h λx S1 H1 v f1 st1 r1 h1=>h1 H1 v (en.fut.trans f1) st1 #[r1.1,λ_ ds y=>let #[a,e,q]:=r1.2 rfl ds y;#[a,e,zu en st q]]]
def Zfm{sa sb:List fG}(hc:CT X xw C c k)(ha:CSs X xw fr C ns sa ms)(hb:CSs X xw fr C ns sb ms'):CS X xw fr C ns (.If c sa sb pos) (.ite k ms ms'):=.mk <| PS.imp (Zeu hc.h ha.h hb.h)<|by
 rintro D Z H ⟨O,H0,W,l,os,S,st,en,h⟩;rw[Pv.rv]at h;refine#[O,l,S,st,en.all,Zt.bind en h λx S1 H1 v f1 st1 r1 h1=>?_]
 have e1:x=v:=r1;subst e1;cases x with|true=>exact#[O,H0,W,l,os,S1,st1,en.mono f1,h1]|false=>exact#[O,H0,W,l,os,S1,st1,en.mono f1,h1]
def Zam{n:Nat}{x:bx}(hN:X.N.Nodup)(hi:X.N[n]?=aa x)(hx:L2.Loc X.env.scope x)(hf:X.fn x=aj\/X.env.scope.names.lookup x=aa .local):CG X (.Name x pos) [n]:=.mk <|
 PG.imp (Jp hN hi hx hf) λv Z H Q q=>q
def Zau:CGs X [] []:=.mk <| PGs.imp Za4<|by
 rintro vs Z H Q ⟨h,q⟩;cases vs with|nil=>exact#[rfl,q]|cons _ _=>cases h
def qH{tgs:List Expr}{n:Nat}{t:List Nat}{x:bx}(hN:X.N.Nodup)(h2:CGs X tgs t)(hi:X.N[n]?=aa x)(hx:L2.Loc X.env.scope x)(hf:X.fn x=aj\/X.env.scope.names.lookup x=aa .local)
  (hs:(cu (.Name x pos::tgs) X.env).map (·.2)=dZ (.Name x pos) X.env::(cu tgs X.env).map (·.2)):CGs X (.Name x pos::tgs) (n::t):=.mk <|
 PGs.imp (jx (Jp hN hi hx hf) h2.h hs)<|by
  rintro vs Z H Q ⟨h,q⟩;cases vs with|nil=>cases h|cons v vs=>exact#[v,vs,rfl,Nat.succ.inj h,q]
theorem Qb{E:ap->ax->Prop}(hne:t≠it):∀(n i:Nat)(s:ax)(Q:List ap->ax->Prop),s.heap.IsListIter it t i->s.heap.IsList t items->i+n<=items.size->
  (∀h',cc.IsListIter h' it t (i+n)->dU it s.heap h'->Q ((items.toList.drop i).take n) {s with heap:=h' })->aV (aS prog w) A (draw (.ref it) n) Q E s
 |0,i,s,Q,hit,_,_,hQ=>by
  exact au (by simpa using hQ s.heap hit<|nq ..)
 |n+1,i,s,Q,hit,ht,hle,hQ=>by
  have hlt:i<items.size:=by lia
  refine ab<|kW hit ht (x:=items[i]) (by simp[hlt]) λh₁ hit₁ hs₁=>?_
  refine ab<|bI<|Qb hne n (i+1) _ _ hit₁ (ht.extBut hs₁.extBut hne) (by lia) λh₂ hit₂ hs₂=>au ?_
  have hd:items.toList.drop i=items[i]::items.toList.drop (i+1):=by simp[bE,hlt]
  have:=hQ h₂ (by rw[show i+(n+1)=i+1+n by lia];exact hit₂)<|hs₁.trans hs₂
  rw[hd,List.take_succ_cons]at this;exact this
theorem zb{E:ap->ax->Prop}{x1}{Q:Unit->ax->Prop}(hh:A.handled=ag)(ht:s.heap.IsList t items)
  (hn:(cu elts env).length=items.size)(hstar:(cu elts env).findIdx? (·.1)=ag)
  (h:∀h',gu s.heap.objs.size s.heap h'->aV (aS prog w) A (mq ((cu elts env).map (·.2)) items.toList) Q E {s with heap:=h' }) :
  aV (aS prog w) A (dZ (.Tuple elts x1 pos) env<|.ref t) Q E s:=by
 rw[assign_Tuple];refine ab<|fV ?_;have hlt:t≠s.heap.objs.size:=by obtain⟨o,ho,_⟩:=ht;exact a9<|aC ho
 unfold unpack;rw[hn,hstar];refine ab<|bI ?_;refine ab ?_;refine ab<|wpAny_specialOf ht.typeIs slot_list_iter.lookup ?_;refine au ?_;simp only[cw,if_false];refine ab<|bI<|eL ht ?_;refine ab<|bI<|Qb hlt items.size 0 _ _ #[_,aD _ rfl,rfl,rfl] (ht.push _) (by lia) λh₁ hit₁ hs₁=>?_
 have hall:iG items.size (pD 0 items.toList)=items.toList:=by
  rw[gE];exact cp (by simp)
 rw[hall];rw[T8 (by simp)]
 have ht₁:=(ht.push _).extBut hs₁.extBut hlt;refine ab<|bI<|lB hh hit₁ ht₁ (by simp) λh₂ he₂=>?_
 simp only[Option.isSome_none,cw,if_false];exact au<|h h₂ λb o hb e=>he₂ b o hb<|hs₁.extBut b o hb<|ao _ e
def gTL(K:aq)(n:Nat)(t:TGs):TG:=λv Z H Q=>∃a xs,v=.ref a/\(SqT K H a xs\/H a=aa (.lst xs))/\xs.length=n/\t xs Z H Q
def Zet{X:Cx}{pos:gW}{es:List Expr}{k:Nat}{t:TGs}{n:Nat}(hc:X.calm=aj)(h:PGs X es t)
  (hn:(cu es X.env).length=n:=by rfl)(hst:(cu es X.env).findIdx? (·.1)=ag:=by rfl):PG X (.Tuple es k pos) (gTL X.K n t):=by
 intro pq s Z H v u Q I r hw;obtain⟨a,xs,e1,hq|hq,hl,hw⟩:=hw
 .exact Zeg hc h hn hst pq s Z H v u Q I r #[a,xs,e1,hq,hl,hw]
 .subst e1
  cases r;obtain⟨its,rv,pl,hz⟩:=I.list<|SqL.of hq;refine zb (I.ok.hd hc) pl.isList (by simp[hn,<-hl,rv.length]) hst λh' hx=>?_
  have I1:=I.kept (t':=s.toks) λb o e=>hx b o (a9<|aC e) e
  exact h pq _ Z H xs _ Q I1 (by simpa using rv) hw
def ZdI{tgs:List Expr}{q2:Nat}{n m:Nat}{r:List Nat}(hc:X.calm=aj)(h:CGs X tgs (n::m::r))(hn:(cu tgs X.env).length=(n::m::r).length)(hst:(cu tgs X.env).findIdx? (·.1)=ag):CG X (.Tuple tgs q2 pos) (n::m::r):=.mk <|
 PG.imp (Zet hc h.h hn hst)<|by rintro v Z H Q ⟨a,xs,e,hp,hl,q⟩;exact #[a,xs,e,hp,hl,hl,q]
def Zt.evA{D:Ends}{K:aq}{O:Mx}{H0 H:Hp}{W:Own}{l:Lc}{os:List Nat}{Z:L2.St}{S:Zv}{f:Pv.V->Zv->R Pv.FlV}{Q1:VK}(z:Bool)(hz:Pv.fresh i=aj->z=aj)(st:St3 K O S H)(en:Eu O H0 W l os Z H)(h:Zt fr K xw O H0 D ((Pv.pvA C i l os S).bind f))
  (k:∀d S1 H1 v,Fut O H O H1->St3 K O S1 H1->Wu z H (O.ex W) H1 d v->Zt fr K xw O H0 D (f d S1)->Q1 v H1):∃ρ' l' S,St3 K ρ' S H/\LocR ρ' H l' Z/\End K xw (Wu z H) ρ' H Q1 (Pv.pv C i l' S):=by
 have hid:Zt fr K xw O H0 D ((Pv.pv C i (Pv.hide os l) S).bind f)->∃ρ' l' S,St3 K ρ' S H/\LocR ρ' H l' Z/\End K xw (Wu z H) ρ' H Q1 (Pv.pv C i l' S):=λh=>#[O.ex W,Pv.hide os l,S,en.st st,en.hid,Zt.bindW en h k]
 cases os with
 |nil=>exact hid (by rw[hide_nil];exact h)
 |cons o os=>
  have h:Zt fr K xw O H0 D (Pv.PR.bind (match Pv.pv C i (Pv.hide (o::os) l) S with
   |.ok v s=>.ok v s
   |.ex c s=>.ex c s
   |.no=>(Pv.pv C i l S).bind λv s=>if(v.flat||Pv.fresh i&&Pv.Gz v)=aj then .ok v s else .no) f):=h
  cases q:Pv.pv C i (Pv.hide (o::os) l) S with
  |ok v s=>rw[q]at h;exact hid (by rw[q];exact h)
  |ex c s=>rw[q]at h;exact hid (by rw[q];exact h)
  |no=>
   rw[q]at h;have h:Zt fr K xw O H0 D (((Pv.pv C i l S).bind λv s=>if(v.flat||Pv.fresh i&&Pv.Gz v)=aj then Pv.PR.ok v s else .no).bind f):=h
   rw[YQ]at h;refine#[O,l,S,st,en.all,Zt.bind en h λd S1 H1 v f1 st1 r1 h1=>?_]
   by_cases c:(d.flat||Pv.fresh i&&Pv.Gz d)=aj
   case neg=>rw[T8 c]at h1;exact h1.elim
   rw[T9 c]at h1;refine k d S1 H1 v f1 st1 #[?_,r1.2] h1;rcases(ig _ _).mp c with c|c
   .exact Rep.flat (O:=O) (ρ':=O.ex W) rfl (λ_ _ z _ _=>z) c r1.1
   .obtain⟨c1,c2⟩:=(aF _ _).mp c
    cases d with
    |lst xs=>
     obtain⟨a,rfl,ha⟩:=r1.2 (hz c1) xs rfl;obtain⟨_,us,e,hs,hx,rs⟩:=r1.1.lst';cases e;exact X4 hs (λx=>x.elim hx λ#[i,w]=>let #[_,_,_,z]:=en.own i a w;T7 ha z.ne)<|rs.flat (O:=O) (ρ':=O.ex W) rfl (λ_ _ z _ _=>z) c2
    |_=>cases c2
def End.unfr{K:aq}{O:Mx}{H H0:Hp}{Q:VK}{r:R D}(h:End K xw (Wu ak H0) O H Q r):End K xw Rep O H Q r:=by
 cases r with|ok d S=>exact λρ' H' v f st r=>h ρ' H' v f st #[r,λz=>by cases z]|_=>exact h
def ZaK{n:Nat}{tg:Expr}(he:CE X xw C e i)(hg:CG X tg [n])(hf:Pv.fresh i=ak)(hs:dF [tg] e pos.line X.env=dg ak)(hw:dG [tg] e X.env=dg ag)
  (h1:(cu [tg] X.env).map (·.2)=[dZ tg X.env]):CS X xw fr C ns (.Assign [tg] e pos) (.asg [n] i):=.mk <| PS.imp (W6 he.h hg.h hs hw h1)<|by
 rintro D Z H ⟨O,H0,W,l,os,S,st,en,h⟩;rw[Pv.rv]at h;obtain⟨ρ',l',S',a,b,c⟩:=Zt.evA (Q1:=λx H1=>tGU X.K [n] x Z H1 D.nx) ak (λz=>by rw[hf]at z;cases z) st en h λd S1 H1 v f1 st1 r1 h1=>by
  rw[hf,oU,T8 aG]at h1;exact h1 H1 _ _ st1<|(en.mono f1).drop (o:=aa d) λ_ z=>by cases z;exact r1.1.lat Lat.noW
 exact#[ρ',l',S',a,b,c.unfr]
def ZeD{D:Ends}{O:Mx}{H0 H:Hp}{W:Own}{l:Lc}{os:List Nat}{Z:L2.St}{S:Zv}{n:Nat}(st:St3 X.K O S H)(en:Eu O H0 W l os Z H)(h:Zt fr X.K xw O H0 D (Pv.rv C ns (.asg [n] i) l os S)):tF X xw (Pv.pv C i) Z H λx H1=>D.nx (Z.set n<|aa x) H1:=by
 rw[Pv.rv]at h;refine Zt.evA aj (λ_=>rfl) st en h λd S1 H1 v f1 st1 r1 h1=>?_
 by_cases c:(ns.contains n&&Pv.fresh i)=aj
 .rw[T9 c]at h1
  cases d with
  |lst xs=>
   obtain⟨⟨hf,hl⟩,h1⟩:=Zt.guard h1;obtain⟨a,rfl,ha⟩:=r1.2 rfl xs rfl;exact h1 H1 _ _ st1<|en.take st.xd f1 ha hf r1.1 hl
  |_=>exact h1.elim
 .rw[T8 c]at h1
  exact h1 H1 _ _ st1<|(en.mono f1).drop (o:=aa d) λ_ z=>by cases z;exact r1.1.lat Lat.noW
def ZaS{n:Nat}{tg:Expr}(he:CF X xw C e i)(hg:CG X tg [n])(hs:dF [tg] e pos.line X.env=dg ak)(hw:dG [tg] e X.env=dg ag)
  (h1:(cu [tg] X.env).map (·.2)=[dZ tg X.env]):CS X xw fr C ns (.Assign [tg] e pos) (.asg [n] i):=.mk <| PS.imp (W6 he.h hg.h hs hw h1)<|by rintro D Z H ⟨O,H0,W,l,os,S,st,en,h⟩;exact ZeD st en h
def ZdU{n m:Nat}{t:List Nat}{tg:Expr}(he:CE X xw C e i)(hg:CG X tg (n::m::t))(hf:Pv.fresh i=ak)(hs:dF [tg] e pos.line X.env=dg ak)(hw:dG [tg] e X.env=dg ag)
  (h1:(cu [tg] X.env).map (·.2)=[dZ tg X.env]):CS X xw fr C ns (.Assign [tg] e pos) (.asg (n::m::t) i):=.mk <| PS.imp (W6 he.h hg.h hs hw h1)<|by
 rintro D Z H ⟨O,H0,W,l,os,S,st,en,h⟩;rw[Pv.rv]at h
 .obtain⟨ρ',l',S',a,b,c⟩:=Zt.evA (Q1:=λx H1=>tGU X.K (n::m::t) x Z H1 D.nx) ak (λz=>by rw[hf]at z;cases z) st en h λd S1 H1 v f1 st1 r1 h1=>by
   obtain⟨ht,h1⟩:=h1.guardN;obtain⟨l',hl,h1⟩:=Zt.ob h1;exact(en.mono f1).assign (by simpa using ht) r1.1 hl λσ' e'=>h1 H1 σ' W st1 e'
  exact#[ρ',l',S',a,b,c.unfr]
 .intro _ z;cases z
end
theorem Eu.at{O:Mx}{H0 H:Hp}{W:Own}{l:Lc}{os:List Nat}{Z:L2.St}{i:Nat}{xs:List D}(h:Eu O H0 W l os Z H)(hi:os.contains i=aj)(hx:Pv.WU l[i]?=aa xs):∃a,W i=aa a/\Z[i]?=aa (aa<|.ref a)/\∃us,H a=aa (.lst us)/\Rq (O.ex W) H xs us:=by
 rw[h.osW]at hi;obtain⟨a,w⟩:=bO.mp hi;obtain⟨d,p,c,r⟩:=h.own i a w;rw[p]at hx;cases d with|lst ys=>cases hx;exact#[a,w,c,r]|_=>cases hx
section
variable{X:Cx}{xw:Nat->Hp->Prop}{fr:Bool}{C:Calls}{ns:List Nat}{e a b c:Expr}{i j k:E}{pos p p' p2:gW}{s0:fG}{ms ms':List Sm}{n:Nat}{x:bx}
def vi{apos cpos:gW}(he:CE X xw C e i)(hN:X.N[n]?=aa x)(hv:Vis X.env.scope x)(hd:(x == ("__debug__" : bx))=ak)
  (hcd:(x == ("__classdict__" : bx))=ak)
  (hbase:gX (.Name x p) "append" X.env (cD (.Name x p) X.env)=cD (.Name x p) X.env)
  (hfew:((dz cpos<|aE [e] X.env).all (λx=>!x.1)&&(m8 cpos<|kg [] X.env).all (λx=>x.1.isSome)
   && ae (([e]:List Expr).length+([]:List iB).length+(if([]:List iB).isEmpty then 0 else 1)<30))=aj)
  (hline:(apos.endLine == cpos.line)=aj)(hs:aE [e] X.env=(ak,cD e X.env)::aE [] X.env)(hplain:(dz cpos<|aE [] X.env).any (·.1)=ak)
  (hw:kJ (.Call (.Attribute (.Name x p) "append" apos) [e] [] cpos) ag pos.line X.env=dg ak) :
  CS X xw fr C ns (.Expr (.Call (.Attribute (.Name x p) "append" apos) [e] [] cpos) pos) (.ex<|.mt .append (.v n) [i]):=.mk <|
 PS.imp (Zay (xQ PySem.F.plainAttrs_list PySem.F.slot_list_append PySem.F.type_list_append QW (Jz hN hv hd hcd) (Yj he.h XI hs) hbase hfew hline hs hplain) hw)<|by
 rintro D Z H ⟨O,H0,W,l,os,S,st,en,h⟩;rw[Pv.rv]at h;obtain⟨c,h⟩:=h.guard;obtain⟨xs,hx,h⟩:=Zt.ob h;obtain⟨a,ha,q,us,e1,_⟩:=en.at c hx;refine#[.ref a,q,.inl #[rfl,us,SqL.of e1],O,l,S,st,en.all,Zt.bind en h λy S1 H1 v f1 st1 r1 h1=>?_]
 obtain⟨⟨hf,hl⟩,h1⟩:=h1.guard;have en1:=en.mono f1;obtain⟨a',ha',_,us,e2,r'⟩:=en1.at c hx;rw[ha]at ha';cases ha';exact#[a,us,v,rfl,rfl,e2,by rw[r'.length,<-XB];exact hl,h1 _ _ W (st1.mut en1 ha)<|en1.mut ha<|r'.append<|Rq.cons (Rep.flat (O:=O) (ρ':=O.ex W) rfl (λ_ _ z _ _=>z) hf r1) Rq.nil]
def ZdY{m:Nat}{y:bx}{px py pt:gW}{kt k2 pt2}(hc:X.calm=aj)(hN:X.N.Nodup)(ha:CA X xw C [a,b] [i,j])(hnm:n≠m)(hi:X.N[n]?=aa x)(hj:X.N[m]?=aa y)
  (hx:X.env.scope.names.lookup x=aa .local)(hy:X.env.scope.names.lookup y=aa .local)
  (hw:dG [.Tuple [.Name x px,.Name y py] kt pt] (.Tuple [a,b] k2 pt2) X.env=dg (aa [x,y]))
  (hs:dF [.Tuple [.Name x px,.Name y py] kt pt] (.Tuple [a,b] k2 pt2) pos.line X.env=dg ak) :
  CS X xw fr C ns (.Assign [.Tuple [.Name x px,.Name y py] kt pt] (.Tuple [a,b] k2 pt2) pos) (.par [n,m] [i,j]):=.mk <|
 PS.imp (ZcY hc hN hi hj hnm hx hy ha.h hw hs)<|by
 rintro D Z H ⟨O,H0,W,l,os,S,st,en,h⟩;rw[Pv.rv]at h;have fin:∀{vs:List Pv.V}{us:List V}{S1:Zv}{H1:Hp},Fut O H O H1->St3 X.K O S1 H1->Rq (O.ex W) H1 vs us->Zt fr X.K xw O H0 D (if([n,m].any os.contains)=aj then .no else(Pv.po (Pv.YM [n,m] vs l) S1).bind λO s=>.ok (.nx O os) s)->∃v w,us=[v,w]/\D.nx ((Z.set n<|aa v).set m<|aa w) H1:=λ{vs us S1 H1} f1 st1 r1 h1=>by
  obtain⟨ht,h1⟩:=h1.guardN;obtain⟨l',hl,h1⟩:=Zt.ob h1;obtain⟨hz,e'⟩:=(en.mono f1).fill (by simpa using ht) r1 hl
  match us,hz,e' with
  |[v,w],_,e'=>exact#[v,w,rfl,h1 H1 _ W st1 e']
 cases os with
 |nil=>exact#[O.ex W,Pv.hide [] l,S,en.st st,en.hid,Zt.bindW en (by rw[hide_nil];exact h) λvs S1 H1 us f1 st1 r1 h1=>fin f1 st1 r1 h1]
 |cons o os=>
  have h:Zt fr X.K xw O H0 D (Pv.PR.bind (match Pv.pvs C [i,j] (Pv.hide (o::os) l) S with
   |.ok v s=>.ok v s
   |.ex c s=>.ex c s
   |.no=>(Pv.pvs C [i,j] l S).bind λv s=>if Pv.YJ v then .ok v s else .no) _):=h
  cases q:Pv.pvs C [i,j] (Pv.hide (o::os) l) S with
  |ok v s=>rw[q]at h;exact#[O.ex W,_,S,en.st st,en.hid,Zt.bindW en (by rw[q];exact h) λvs S1 H1 us f1 st1 r1 h1=>fin f1 st1 r1 h1]
  |ex c s=>rw[q]at h;exact#[O.ex W,_,S,en.st st,en.hid,Zt.bindW en (by rw[q];exact h) λvs S1 H1 us f1 st1 r1 h1=>fin f1 st1 r1 h1]
  |no=>
   rw[q]at h;have h:Zt fr X.K xw O H0 D (((Pv.pvs C [i,j] l S).bind λv s=>if Pv.YJ v=aj then Pv.PR.ok v s else .no).bind _):=h
   rw[YQ]at h;refine#[O,l,S,st,en.all,Zt.bind en h λvs S1 H1 us f1 st1 r1 h1=>?_]
   by_cases c:Pv.YJ vs=aj
   case neg=>rw[T8 c]at h1;exact h1.elim
   rw[T9 c]at h1;exact fin f1 st1 (Rq.flat (O:=O) (ρ':=O.ex W) rfl (λ_ _ z _ _=>z) c r1) h1
def uz{n:Nat}:CS X (λ_ _=>False) fr C ns s0 (.raise n []):=.mk <| λpq s Z H D I #[O,H0,W,l,os,S,st,en,h]=>
 False.elim ((show Zt fr X.K (λ_ _=>False) O H0 D (.ex n S)from h) H en.fut st)
structure AugOk(X:Cx)(op:oK)(o:Bop):Prop where
 h:∃t:TIp,PIp X op t/\∀(xw:Nat->Hp->Prop) O S H n m Q,St3 X.K O S H->End X.K xw Rep O H Q (Pv.YZ o (.int n) (.int m) S)->t (.int n) (.int m) H Q
def qD:AugOk X .Add .add:=#[_,Zat,λxw O S H n m Q st h=>#[n,m,rfl,rfl,End.ok h st<|ZQ _]]
def qk{o:Bop}{a b:Int}{S S':Zv}{z:D}(h:Pv.UO o a b S=.ok z S'):∃y,z=.int y:=by
 unfold Pv.UO at h;cases o<;>simp only at h<;>first
  |(cases h;exact#[_,rfl])
  |(split at h<;>cases h;exact#[_,rfl])
def Zdd{op:oK}{o:Bop}(ho:AugOk X op o)(hN:X.N.Nodup)(he:CE X xw C e i)(hi:X.N[n]?=aa x)(hx:L2.Loc X.env.scope x)(hf:X.fn x=aj\/X.env.scope.names.lookup x=aa .local) :
  CS X xw fr C ns (.AugAssign (.Name x p) op e pos) (.aug n o i):=.mk <| by
 obtain⟨t,ht,hq⟩:=ho.h;refine PS.imp (Zdf hN hi hx he.h ht hf) λD Z H #[O,H0,W,l,os,S,st,en,h]=>?_
 rw[Pv.rv]at h;obtain⟨c,h⟩:=h.guardN;obtain⟨d,hd,h1⟩:=Zt.ob h;obtain⟨v,hv,rv⟩:=en.all.val n d (by cases q:l[n]?<;>rw[q]at hd<;>cases hd;rfl)
 refine#[v,hv,O,l,S,st,en.all,Zt.bind en h1 λy S1 H1 u f1 st1 r1 h2=>?_]
 cases d with
 |int m=>cases y with
  |int m'=>
   rw[rv.int',r1.int'];have h2:Zt fr X.K xw O H0 D ((Pv.UO o m m' S1).bind λz S=>.ok (.nx (l.set n<|aa z) os) S):=h2
   refine hq xw O S1 H1 m m' _ st1 (show End X.K xw Rep O H1 _ (Pv.UO o m m' S1)from ?_)
   have en1:=en.mono f1;cases q:Pv.UO o m m' S1 with
   |no=>rw[q]at h2;exact h2
   |ex c S2=>rw[q]at h2;exact λρ1 H2 g s2=>by cases g.eq;exact h2 H2 (en1.fut.trans g) s2
   |ok z S2=>
    rw[q]at h2;obtain⟨y,rfl⟩:=qk q;exact λρ1 H2 w g s2 r2=>by
     cases g.eq;cases r2.int';exact h2 H2 _ W s2<|(en1.mono g).set (o:=aa<|.int y) (by simpa using c) λ_ z=>by cases z;exact ZQ _
  |_=>exact False.elim h2
 |_=>exact False.elim h2
def uB{body:List fG}(hp:l8 (aS X.prog X.w) X.A X.env X.xe)(hc:CT X xw C c k)(hb:CSs X xw fr C ns body ms):CS X xw fr C ns (.While c body [] pos) (.whl k ms):=.mk <| PS.imp (v6 hp hc.h hb.h)<|by
 rintro D Z H ⟨O,H0,W,l,os,S,st,en,h⟩;refine#[λm σ' H'=>∃W' l' os' S',St3 X.K O S' H'/\Eu O H0 W' l' os' σ' H'/\Zt fr X.K xw O H0 D (Pv.YW (Pv.Y5 C k) (Pv.rvs C ns ms) m l' os' S'),#[Ev.GR,W,l,os,S,st,en,h],?_]
 rintro m σ' H' ⟨W',l',os',S',st',en',e'⟩
 cases m with
 |zero=>exact False.elim e'
 |succ m=>
  rw[Pv.YW]at e';refine#[O,l',S',st',en'.all,Zt.bind en' e' λb S1 H1 b' f1 st1 r1 h1=>?_]
  have eb:b=b':=r1;subst eb;cases b with
  |false=>
   rw[T8 aG]at h1 ⊢;exact h1 H1 σ' W' st1<|en'.mono f1
  |true=>
   rw[T9 rfl]at h1 ⊢;refine#[λσ2 H2=>∃W2 l2 os2 S2,St3 X.K O S2 H2/\Eu O H0 W2 l2 os2 σ2 H2/\Zt fr X.K xw O H0 D (Pv.YW (Pv.Y5 C k) (Pv.rvs C ns ms) m l2 os2 S2),λσ2 H2 w=>#[m,gR m,w],O,H0,W',l',os',S1,st1,en'.mono f1,?_]
   cases q:Pv.rvs C ns ms l' os' S1 with
   |no=>rw[q]at h1;exact h1
   |ex c S2=>rw[q]at h1;exact h1
   |ok fl S2=>
    rw[q]at h1;cases fl with|nx l3 os3=>exact λH4 σ4 W4 st4 lr4=>#[W4,l3,os3,S2,st4,lr4,h1]|cnt l3 os3=>exact λH4 σ4 W4 st4 lr4=>#[W4,l3,os3,S2,st4,lr4,h1]|brk l3 os3=>exact h1|ret d=>exact h1
end
structure WRel(K:aq)(O:Mx)(H:Hp)(w:List D)(J:It):Prop where
 go:∀(i:Nat) ρ' S' H',Lat O H ρ' H'->St3 K ρ' S' H'->i<w.length->J.go i H'/\∀x H'',J.yld i H' x H''->Fut ρ' H' ρ' H''/\St3 K ρ' S' H''/\∀d,w[i]?=aa d->Rep ρ' H'' d x
 stop:∀ρ' S' H',Lat O H ρ' H'->St3 K ρ' S' H'->J.stop w.length H'
section
variable(X:Cx)(xw:Nat->Hp->Prop)
def tW3(f:Lc->Zv->R (List D)):TI:=λZ H Q=>∃O l S,St3 X.K O S H/\LocR O H l Z/\End X.K xw (WRel X.K) O H Q (f l S)
structure CW(C:Calls)(tg it:Expr)(w:Ev.W):Prop where
 h:PI X tg it (tW3 X xw<|Pv.pvw C w)
end
def PI.imp(h:PI X tg it t)(k:∀Z H Q,t' Z H Q->t Z H Q):PI X tg it t':=λpq s Z H R I q=>h pq s Z H R I<|k Z H R q
section
variable{X:Cx}{xw:Nat->Hp->Prop}{C:Calls}{e a b c tg it:Expr}{i j k:E}{pos p p' p2:gW}
def Zf3(K:aq)(tl:TE):TI:=λZ H R=>tl Z H λx H1=>∃a,x=.ref a/\(((∃xs,SqL K H1 a xs)/\R (Itl K a) H1)\/((∃xs,SqT K H1 a xs)/\R (Itt K a) H1))
def jv(hl:PE X l tl):PI X tg l (Zf3 X.K tl):=by
 intro pq s Z H R I h;refine thn (hl pq s Z H _ I h) λv s1 #[x,H1,I1,r1,a,e,q]=>?_
 subst e;cases r1;rcases q with⟨⟨xs,hq⟩,q⟩|⟨⟨xs,hq⟩,q⟩
 .obtain⟨its,rv,p,hz⟩:=I1.list hq
  refine eL p.isList ?_;refine#[s1.heap.objs.size,[s1.heap.objs.size],_,_,H1,rfl,I1.kept (t':=s1.toks) λb o e=>ao _ e,wL a _,#[_,aD _ rfl,rfl,rfl],λb hb=>?_,q]
  have e:b=s1.heap.objs.size:=by simpa using hb
  subst e;exact I1.fpOk (aH _)<|I1.hok.fresh<|aH _
 .obtain⟨its,rv,p,hz⟩:=I1.tuple hq
  refine gg (p) ?_
  refine#[s1.heap.objs.size,[s1.heap.objs.size],_,_,H1,rfl,I1.kept (t':=s1.toks) λb o e=>ao _ e,yp a _,#[_,aD _ rfl,rfl,rfl],λb hb=>?_,q]
  have e:b=s1.heap.objs.size:=by simpa using hb
  subst e;exact I1.fpOk (aH _)<|I1.hok.fresh<|aH _
def XY{K:aq}{O:Mx}{H:Hp}{ds:List D}{xs:List V}{J:It}(r:Rq O H ds xs)(hg:∀ρ' H',Lat O H ρ' H'->(∀i x,xs[i]?=aa x->J.go i H'/\∀y H'',J.yld i H' y H''->H''=H'/\y=x)/\∀n,n=xs.length->J.stop n H'):WRel K O H ds J where
 go:=λi ρ' S' H' f st hi=>by
  obtain⟨v,g,r'⟩:=(r.lat f).get<|af hi;obtain⟨a,b⟩:=(hg ρ' H' f).1 i v g;refine#[a,λx H'' y=>?_]
  obtain⟨rfl,rfl⟩:=b x H'' y;exact#[Fut.refl _ _,st,λd hd=>by rw[af hi]at hd;cases hd;exact r']
 stop:=λρ' S' H' f st=>(hg ρ' H' f).2 _ r.length.symm
def uE{K K':aq}{O:Mx}{H:Hp}{ds:List D}{a:aJ}{xs:List V}(hp:H a=aa (.tup xs))(r:Rq O H ds xs):WRel K O H ds (Itt K' a):=XY r λρ' H' f=>by
 have h:=SqT.of (K:=K')<|f.keep a _ hp λ_ z=>by cases z
 exact#[λi x g=>#[#[xs,x,h,g],λy H'' z=>#[z.1,by have:=z.2 xs h;rw[g]at this;exact(al this).symm]],λn e=>#[xs,h,by omega]]
def JP{K K':aq}{O:Mx}{H:Hp}{ds:List D}{a:aJ}{xs:List V}(hp:∀ρ' H',Lat O H ρ' H'->SqL K' H' a xs)(r:Rq O H ds xs):WRel K O H ds (Itl K' a):=XY r λρ' H' f=>by
 have h:=hp ρ' H' f;exact#[λi x g=>#[#[xs,x,h,g],λy H'' z=>#[z.1,by have:=z.2 xs h;rw[g]at this;exact(al this).symm]],λn e=>#[xs,h,by omega]]
def Qc(lo:Int)(n:Nat):(Pv.ZZ lo n).length=n:=by unfold Pv.ZZ;rw[aw,br]
theorem QS(lo:Int):∀(l:List Nat),Rq O H (l.map λ(k:Nat)=>Pv.V.int<|lo+(k:Int)) (l.map λ(k:Nat)=>V.int<|lo+(k:Int))
 |[]=>Rq.nil
 |_::l=>Rq.cons (ZQ _)<|QS lo l
def Gp{K:aq}{O:Mx}{H:Hp}{lo:Int}{n:Nat}:WRel K O H (Pv.ZZ lo n) (Itr lo n):=XY (QS lo<|aL n) λρ' H' f=>by
 refine#[λi x g=>?_,λm e=>?_]
 .have hi:i<n:=by have:=(aX.mp g).1;simpa using this
  rw[aM,cK hi]at g;exact#[hi,λy H'' z=>#[z.1,z.2.trans<|al g]]
 .rw[aw,br]at e;show n<=m;omega
def Zfb(he:CE X xw C e i):CW X xw C tg e (.of i):=.mk <| PI.imp (jv he.h)<|by
 rintro Z H Q ⟨O,l,S,st,lr,h⟩;rw[Pv.pvw]at h;refine#[O,l,S,st,lr,h.bind λx S1 ρ1 H1 v f1 st1 r1 h1=>?_]
 obtain⟨ds,hd,h1⟩:=End.po h1;have q:∀{J},WRel X.K ρ1 H1 ds J->Q J H1:=λw=>End.ok h1 st1 w
 cases x with
 |tup ds=>cases hd;obtain⟨a,xs,rfl,hp,r⟩:=r1.tup';exact#[a,rfl,.inr #[#[xs,SqT.of hp],q<|uE hp r]]
 |lst ds=>cases hd;obtain⟨a,xs,rfl,hp,hx,r⟩:=r1.lst';exact#[a,rfl,.inl #[#[xs,SqL.of hp],q<|JP (λρ' H' f=>SqL.of<|f.keep a _ hp λ_ _=>hx) r]]
 |scr ns=>
  cases hd;obtain⟨a,rfl,hp⟩:=r1.scr';rw[st1.hk]at hp;refine#[a,rfl,.inl #[#[_,hp.sq],q<|JP (λρ' H' f=>?_)<|Rq.ints ns]]
  rcases hp with⟨o,hp⟩|hp
  .exact .inl<|.inr #[o,f.keep a _ hp λ_ z=>by cases z]
  .exact .inr hp
 |_=>exact Ev.nos hd
def Zcz{B β:Type}{rep:Mx->Hp->B->β->Prop}{O:Mx}{l:Lc}{S:Zv}{Z:L2.St}{H:Hp}{Q:β->Hp->Prop}{Q1:List V->Hp->Prop}{g:D->Zv->R B}(st:St3 X.K O S H)(lr:LocR O H l Z)(h:End X.K xw rep O H Q ((Pv.pv C i l S).bind g))
  (k:∀x S1 ρ1 H1 v,St3 X.K ρ1 S1 H1->Rep ρ1 H1 x v->End X.K xw rep ρ1 H1 Q (g x S1)->Q1 [v] H1):tA X xw (Pv.pvs C [i]) Z H Q1:=by
 refine#[O,l,S,st,lr,?_];show End X.K xw Rq O H _ ((Pv.pv C i l S).bind λx S=>.ok [x] S)
 cases q:Pv.pv C i l S with
 |no=>rw[q]at h;exact h
 |ex c S1=>rw[q]at h;exact h
 |ok x S1=>
  rw[q]at h;intro ρ1 H1 vs f1 st1 r1;obtain⟨v,rfl,r⟩:=ur r1;exact k x S1 ρ1 H1 v st1 r<|End.mono f1 h
def Zcx{B β:Type}{rep:Mx->Hp->B->β->Prop}{O:Mx}{l:Lc}{S:Zv}{Z:L2.St}{H:Hp}{Q:β->Hp->Prop}{Q1:List V->Hp->Prop}{g:D->D->Zv->R B}(st:St3 X.K O S H)(lr:LocR O H l Z)(h:End X.K xw rep O H Q ((Pv.pv C i l S).bind λx S=>(Pv.pv C j l S).bind λy S=>g x y S))
  (k:∀x y S1 ρ1 H1 v u,St3 X.K ρ1 S1 H1->Rep ρ1 H1 x v->Rep ρ1 H1 y u->End X.K xw rep ρ1 H1 Q (g x y S1)->Q1 [v,u] H1):tA X xw (Pv.pvs C [i,j]) Z H Q1:=by
 refine#[O,l,S,st,lr,?_];show End X.K xw Rq O H _ ((Pv.pv C i l S).bind λx S=>((Pv.pv C j l S).bind λy S=>.ok [y] S).bind λxs S=>.ok (x::xs) S)
 cases q:Pv.pv C i l S with
 |no=>rw[q]at h;exact h
 |ex c S1=>rw[q]at h;exact h
 |ok x S1=>
  rw[q]at h;have h:End X.K xw rep O H Q ((Pv.pv C j l S1).bind λy S=>g x y S):=h
  show End X.K xw Rq O H _ (((Pv.pv C j l S1).bind λy S=>.ok [y] S).bind λxs S=>.ok (x::xs) S)
  cases q2:Pv.pv C j l S1 with
  |no=>rw[q2]at h;exact h
  |ex c S2=>rw[q2]at h;exact h
  |ok y S2=>
   rw[q2]at h;intro ρ1 H1 vs f1 st1 r1;obtain⟨v,u,rfl,rv,ru⟩:=GO r1;exact k x y S2 ρ1 H1 v u st1 rv ru<|End.mono f1 h
def Y6(h:Ev.Y7 n=aj):-(2^62)<=n/\n<2^62:=T6 h
def Zbn(hm:X.mg "range" = ag)(ha:CA X xw C [a] [i])(hg:Gl X "range")(hs:aE [a] X.env=[(ak,cD a X.env)]):CW X xw C tg (.Call (.Name "range" p) [a] [] pos) (.rng1 i):=.mk <|
 PI.imp (vm hg hm ha.h hs) λZ H Q #[O,l,S,st,lr,h]=>Zcz st lr h λx S1 ρ1 H1 v st1 r h1=>by
  cases x with
  |int n=>
   obtain⟨hs,h2⟩:=End.guard h1;exact#[n,by rw[r.int'],(Y6 hs).1,(Y6 hs).2,End.ok (rep:=WRel X.K) h2 st1 Gp]
  |_=>exact False.elim h1
def ZbR(hm:X.mg "range" = ag)(ha:CA X xw C [a,b] [i,j])(hg:Gl X "range")(hs:aE [a,b] X.env=[(ak,cD a X.env),(ak,cD b X.env)])(hs2:aE [b] X.env=[(ak,cD b X.env)]) :
  CW X xw C tg (.Call (.Name "range" p) [a,b] [] pos) (.rng2 i j):=.mk <|
 PI.imp (vq hg hm ha.h hs hs2) λZ H Q #[O,l,S,st,lr,h]=>Zcx st lr h λx y S1 ρ1 H1 v u st1 rv ru h1=>by
  cases x with
  |int n=>cases y with
   |int m=>
    obtain⟨hs,h3⟩:=End.guard h1;obtain⟨s1,s2⟩:=(aF _ _).mp hs;exact#[n,m,by rw[rv.int',ru.int'],#[(Y6 s1).1,(Y6 s1).2,(Y6 s2).1,(Y6 s2).2],End.ok (rep:=WRel X.K) h3 st1 Gp]
   |_=>exact False.elim h1
  |_=>exact False.elim h1
def yR{D:Ends}{Z:L2.St}{O:Mx}{H0 H1:Hp}{W:Own}{l:Lc}{os:List Nat}{S1:Zv}{J:It}{wk:List Pv.V}{fr:Bool}{ns:List Nat}{ms:List Sm}{t:List Nat}(st1:St3 X.K O S1 H1)(en:Eu O H0 W l os Z H1)(r1:WRel X.K (O.ex W) H1 wk J)
  (h1:Zt fr X.K xw O H0 D (Pv.Y2 (λx O os s=>if(t.any<|kz os)=aj then(.no:Pv.PR Pv.FlV)else(Pv.po (Pv.Zk t x O) s).bind λO s=>Pv.rvs C ns ms O os s) wk l os S1)):∃W:Nat->Nat->L2.St->Hp->Prop,(∃m,W 0 m Z H1)/\∀i m Z H,W i m Z H->
   (J.stop i H/\D.nx Z H)\/(J.go i H/\∃N:L2.St->Hp->Prop,(∀σ' H',N σ' H'->∃m',m'<m/\W (i+1) m' σ' H')/\∀x H',J.yld i H x H'->tGU X.K t x Z H' λσ2 H2=>tS3 X xw fr (Pv.rvs C ns ms) {D with nx:=N,ct:=N,bk:=D.nx} σ2 H2):=by
 obtain⟨bs,en1⟩:=en.off st1.xd;have h1:=h1.rebase bs en.xd;generalize hB:(λx O os s=>if(t.any<|kz os)=aj then(.no:Pv.PR Pv.FlV)else(Pv.po (Pv.Zk t x O) s).bind λO s=>Pv.rvs C ns ms O os s)=B at h1
 let I:Nat->L2.St->Hp->Prop:=λn σ' H'=>∃W' l' os' S',St3 X.K O S' H'/\Eu O (UP H1 W) W' l' os' σ' H'/\Zt fr X.K xw O (UP H1 W) D (Pv.Y2 B (wk.drop n) l' os' S')
 refine#[λn m σ' H'=>m=wk.length-n/\n<=wk.length/\I n σ' H',#[wk.length,rfl,cJ _,W,l,os,S1,st1,en1,h1],?_]
 rintro n m σ' H' ⟨rfl,hn,W',l',os',S',st',en',e'⟩
 have lat:=en.walk en';by_cases hlt:n<wk.length
 .right
  rw[bE hlt,Pv.Y2]at e';obtain⟨go,yl⟩:=r1.go n _ S' H' lat (en'.st st') hlt;refine#[go,I<|n+1,λσ2 H2 q=>#[wk.length-(n+1),by omega,rfl,hlt,q],λx H3 y=>?_]
  obtain⟨f3,st3,rp⟩:=yl x H3 y;have rx:=rp _<|af hlt;have f3:Fut O H' O H3:=#[rfl,f3.keep];have hBn:B wk[n] l' os' S'=if(t.any<|kz os')=aj then(.no:Pv.PR Pv.FlV)else(Pv.po (Pv.Zk t wk[n] l') S').bind λO s=>Pv.rvs C ns ms O os' s:=by rw[<-hB]
  rw[hBn]at e';by_cases c:(t.any<|kz os')=aj
  .rw[T9 c]at e';exact e'.elim
  rw[T8 c]at e';cases ha:Pv.Zk t wk[n] l' with
  |none=>rw[ha]at e';exact e'.elim
  |some l2=>
   rw[ha]at e';refine(en'.mono f3).assign (by simpa using c) rx ha λσ2 e2=>#[O,_,W',l2,os',S',st3.unex,e2,?_]
   have e':Zt fr X.K xw O (UP H1 W) D ((Pv.rvs C ns ms l2 os' S').bind _):=e';cases q:Pv.rvs C ns ms l2 os' S' with
   |no=>rw[q]at e';exact e'
   |ex c S2=>rw[q]at e';exact e'
   |ok fl S2=>
    rw[q]at e';cases fl with|nx l3 os3=>exact λH4 σ4 W4 st4 lr4=>#[W4,l3,os3,S2,st4,lr4,e']|cnt l3 os3=>exact λH4 σ4 W4 st4 lr4=>#[W4,l3,os3,S2,st4,lr4,e']|brk l3 os3=>exact e'|ret d=>exact e'
 .left
  have en2:n=wk.length:=by omega
  subst en2;rw[d5]at e';exact#[r1.stop _ S' H' lat<|en'.st st',e' H' σ' W' st' en']
def ZcG{body:List fG}{fr:Bool}{ns:List Nat}{ms:List Sm}{w:Ev.W}{t:List Nat}(hp:l8 (aS X.prog X.w) X.A X.env X.xe)(hc:X.calm=aj)(hw:CW X xw C tg it w)(hg:CG X tg t)(hb:CSs X xw fr C ns body ms)
  (hs:∀x,dr it X.env x=dg x):CS X xw fr C ns (.For tg it body [] pos) (.forr t w ms):=.mk <| PS.imp (ji hp hc hw.h hg.h hb.h hs)<|by
 rintro D Z H ⟨O,H0,W,l,os,S,st,en,h⟩;rw[Pv.rv]at h;refine#[O.ex W,Pv.hide os l,S,en.st st,en.hid,Zt.bindW en h λwk S1 H1 J f1 st1 r1 h1=>yR st1 (en.mono f1) r1 h1]
def Za5{body:List fG}{fr:Bool}{ns:List Nat}{ms:List Sm}{t:List Nat}(hp:l8 (aS X.prog X.w) X.A X.env X.xe)(hc:X.calm=aj)(he:CF X xw C it i)(hg:CG X tg t)(hb:CSs X xw fr C ns body ms)
  (hs:∀x,dr it X.env x=dg x):CS X xw fr C ns (.For tg it body [] pos) (.forF t i ms):=.mk <| PS.imp (ji hp hc (jv he.h) hg.h hb.h hs)<|by
 rintro D Z H ⟨O,H0,W,l,os,S,st,en,h⟩;rw[Pv.rv]at h;refine Zt.evA aj (λ_=>rfl) st en h λd S1 H1 v f1 st1 r1 h1=>?_
 cases d with|lst ds=>obtain⟨a,xs,rfl,hp,hx,r⟩:=r1.1.lst';exact#[a,rfl,.inl #[#[xs,SqL.of hp],yR st1 (en.mono f1) (JP (λρ' H' f=>SqL.of<|f.keep a _ hp λ_ _=>hx) r) h1]]|_=>exact h1.elim
end
end Sd
namespace Sd
open PySem PySem.Spec PyProof.Rows L2
noncomputable def wx(env:Env):List (bx×eK)->List (bx×aJ)->List (bx×aJ)
 |[],acc=>acc
 |x::r,acc=>wx env r (if(x.2 == bJ)=aj then(x.1,(env.cells.lookup x.1).getD 0)::acc else acc)
theorem Uu{env:Env}{f:bx×eK->List (bx×aJ)->nH (ForInStep<|List<|bx×aJ)}:∀(names:List (bx×eK))(acc:List (bx×aJ)),
  (∀x∈names,∀c,f x c=dg (.yield (if(x.2 == bJ)=aj then(x.1,(env.cells.lookup x.1).getD 0)::c else c)))->iQ names acc f=dg (wx env names acc)
 |[],acc,_=>rfl
 |x::r,acc,h=>by
  rw[fk,h x am,pure_bind];exact Uu r _ λy hy=>h y<|ai _ hy
theorem GH :∀(names:List (bx×eK))(acc:List (bx×aJ)),(wx env names acc).lookup x=aa c->acc.lookup x=aa c\/(∃y∈names,y.1=x/\y.2=.free/\c=(env.cells.lookup x).getD 0)
 |[],acc,h=>.inl h
 |y::r,acc,h=>by
  rcases GH r _ h with h|⟨z,hz,e⟩
  .by_cases hf:(y.2 == bJ)=aj
   .rw[T9 hf,bL]at h
    cases q:(x == y.1)with
    |true=>
     rw[q]at h;have e:=eS q;exact .inr #[y,am,e.symm,eS hf,by rw[e];exact(al h).symm]
    |false=>rw[q]at h;exact .inl h
   .rw[T8 hf]at h;exact .inl h
  .exact .inr #[z,ai _ hz,e]
theorem zG :∀(names:List (bx×eK))(acc:List (bx×aJ)),(acc.lookup x).isSome=aj->((wx env names acc).lookup x).isSome=aj
 |[],acc,h=>h
 |y::r,acc,h=>by
  refine zG r _ ?_;split
  .rw[bL]
   cases(x == y.1)with|true=>rfl|false=>exact h
  .exact h
theorem J9 :∀(names:List (bx×eK))(acc:List (bx×aJ)),(x,bJ)∈names->((wx env names acc).lookup x).isSome=aj
 |[],acc,h=>by cases h
 |y::r,acc,h=>by
  rcases aB.mp h with h|h
  .subst h
   refine zG r _ ?_;rw[T9 (by rfl),bL,beq_self_eq_true]
   rfl
  .exact J9 r _ h
def zN{scope:eX}{env:Env}(h:∀y∈scope.names,y.2=.free->∃c,env.cells.lookup y.1=aa c) :
  ∃cl,closureFor scope env=dg cl/\(∀x c,cl.lookup x=aa c->env.cells.lookup x=aa c)/\∀x,(x,bJ)∈scope.names->∃c,cl.lookup x=aa c:=by
 refine#[wx env scope.names [],?_,λx c e=>?_,λx hx=>bO.mp<|J9 _ _ hx]
 .simp only[closureFor]
  rw[Uu (env:=env) scope.names [] (λx hx c=>by
   obtain⟨n,kind⟩:=x;by_cases hk:(kind == bJ)=aj
   .obtain⟨a,ha⟩:=h (n,kind) hx (eS hk)
    have ha':=ha;simp only[hk,if_true,cellOf,ha',pure_bind,nS]
   .simp only[hk,if_false]
    rfl),pure_bind]
 .rcases GH _ _ e with e|⟨y,hy,e1,e2,e3⟩
  .cases e
  .obtain⟨a,ha⟩:=h y hy e2
   rw[e1]at ha;rw[e3,ha];rfl
theorem Vk{x:bx}{c:aJ}{lo:Nat}:∀(names:List (bx×eK))(h:cc)(acc:List (bx×aJ)),lo<=h.objs.size->(d3 h.objs.size names acc).lookup x=aa c->
  ((x,cF)∉names/\acc.lookup x=aa c)\/((x,cF)∈names/\lo<=c/\(nT h names).IsCell c ag)
 |[],h,acc,_,e=>.inl #[by simp,e]
 |(name,kind)::r,h,acc,hlo,e=>by
  unfold d3 at e;unfold nT;split at e
  .rename_i hk
   rw[T9 hk];have hk:=eS hk;subst hk;rw[<-cH h {cls:=.type "cell",data:=.cell ag}]at e;rcases Vk r (h.push {cls:=.type "cell",data:=.cell ag}) ((name,h.objs.size)::acc) (cn hlo<|by rw[cH];exact km _) e with⟨e1,e2⟩|⟨e1,e2⟩
   .rw[bL]at e2
    cases hb:x == name with
    |true=>
     rw[hb]at e2;cases e2;have:=eS hb;subst this;exact .inr #[am,hlo,_,lw _ _ _ _<|aD _ rfl,rfl]
    |false=>
     rw[hb]at e2;refine .inl #[λhm=>?_,e2]
     rcases aB.mp hm with q|q
     .cases q
      rw[beq_self_eq_true]at hb;cases hb
     .exact e1 q
   .exact .inr #[ai _ e1,e2]
  .rename_i hk
   rw[T8 hk];rcases Vk r _ _ hlo e with⟨e1,e2⟩|⟨e1,e2⟩
   .refine .inl #[λhm=>?_,e2]
    rcases aB.mp hm with q|q
    .cases q
     exact hk rfl
    .exact e1 q
   .exact .inr #[ai _ e1,e2]
theorem W0:∀(names:List (bx×eK))(n:Nat)(acc:List (bx×aJ)),(∀x c,acc.lookup x=aa c->c<n)->(∀x y c,acc.lookup x=aa c->acc.lookup y=aa c->x=y)->
  ∀x y c,(d3 n names acc).lookup x=aa c->(d3 n names acc).lookup y=aa c->x=y
 |[],n,acc,_,h=>h
 |(name,kind)::r,n,acc,hl,h=>by
  unfold d3;split
  .refine W0 r (n+1) _ (λx c e=>?_) λx y c e1 e2=>?_
   .rw[bL]at e
    split at e
    .cases e;exact gR _
    .exact cR<|hl x c e
   .rw[bL]at e1 e2
    cases p:x == name<;>cases q:y == name<;>rw[p]at e1<;>rw[q]at e2
    .exact h x y c e1 e2
    .cases e2;exact T7 (hl x _ e1)<|bw _
    .cases e1;exact T7 (hl y _ e2)<|bw _
    .rw[eS p,eS q]
  .exact W0 r n acc hl h
theorem Vi{x:bx}:∀(names:List (bx×eK))(n:Nat)(acc:List (bx×aJ)),(∃c,acc.lookup x=aa c)\/(x,cF)∈names->∃c,(d3 n names acc).lookup x=aa c
 |[],n,acc,h=>h.elim (λh=>h) λh=>by cases h
 |(name,kind)::r,n,acc,h=>by
  unfold d3;split
  .refine Vi r _ _ ?_
   cases hb:x == name with
   |true=>exact .inl #[n,by rw[bL,hb]]
   |false=>
    rcases h with⟨c,e⟩|h
    .exact .inl #[c,by rw[bL,hb];exact e]
    .rcases aB.mp h with q|q
     .cases q
      rw[beq_self_eq_true]at hb;cases hb
     .exact .inr q
  .rename_i hk
   refine Vi r _ _<|h.imp (λh=>h) λh=>?_
   rcases aB.mp h with q|q
   .cases q
    exact T7 rfl hk
   .exact q
def z5{M:Model}{A:cL}{E:ap->ax->Prop}{s:ax}{scope:eX}{g:aJ}{cl:List (bx×aJ)}{q:bx}{env:Env}{Q:Env->ax->Prop}
  (h:Q (newEnv scope s.heap.objs.size g (d3 (s.heap.objs.size+1) scope.names cl) q ag .none (aa env) mD) {s with heap:=nT (s.heap.push {cls:=.type "dict",data:=.dict #[]}) scope.names}) :
  aV M A (newFunctionEnv scope g cl [] q ag .none<|aa env) Q E s:=by
 simp only[newFunctionEnv,mL,if_true];refine ab<|oh ?_;refine ab<|wpAny_layCells _ (λname kind cells=>by cases hkc:kind == cF<;>simp[hkc]) _ _ _ _ ?_
 rw[show({s with heap:=s.heap.push {cls:=.type "dict",data:=.dict #[]}}:ax).heap.objs.size=s.heap.objs.size+1 from cH ..]
 exact au h
noncomputable def cxC(X:Cx)(N:List bx)(scope:eX)(cl:List (bx×aJ))(s:ax)(H:Hp)(fp:List aJ):Cx:=
 {X with N:=N,s₀:=s,H₀:=H,env:=compEnvC scope cl s.heap.objs.size X.env,outer:=X.stack,ex:=fp,fn:=λx=>scope.names.any λy=>y.2 == .cell&&y.1 == x,pn:=[],xe:=λ_ _=>False}
def PTs(X:Cx)(ifs:List Expr)(t:TT):Prop:=
 ∀(pq:List (aJ×fA))(s:ax)(Z:L2.St)(H:Hp)(Q:Bool->Hp->Prop),Inv X pq Z H s->t Z H Q->
  aV (aS X.prog X.w) X.A (iQ ifs aj λc r=>if r=aj then do let ok <-isTrue c X.env (cD c X.env);dg (oy ok)else dg (oy r)) (TP X pq Z Q) X.xe s
def Zbg :PTs X [] (λZ H Q=>Q aj H):=λpq s Z H Q I h=>wpAny_tests_nil #[H,I,h]
def Zal(h:PT X c t):PTs X [c] t:=λpq s Z H Q I hq=>wpAny_tests_one<|h pq s Z H Q I hq
structure CompScope(sc:eX)(N0:List bx)(scope:eX)(N:List bx)(cap:List Nat)(nl:Nat):Prop where
 kind:scope.kind=.function
 cell:∀y∈scope.names,y.2=.cell->(y.1,bJ)∉scope.names
 names:∀y∈scope.names,y.2=.local->scope.names.lookup y.1=aa .local
 free:∀y∈scope.names,y.2=.free->sc.names.lookup y.1=aa .cell\/sc.names.lookup y.1=aa .free
 apart:∀y∈scope.names,y.2=.free->scope.names.lookup y.1≠aa .local
 len:N.length=nl+cap.length
 cap:∀p∈cap.zipIdx,N[nl+p.2]?=N0[p.1]?/\(N0[p.1]?).map (λx=>ae<|(x,bJ)∈scope.names)=aa aj
def CompScope.capt{sc:eX}{N0:List bx}{scope:eX}{N:List bx}{cap:List Nat}{nl:Nat}(h:CompScope sc N0 scope N cap nl)(i j:Nat)(e:cap[i]?=aa j):∃x,N[nl+i]?=aa x/\N0[j]?=aa x/\(x,bJ)∈scope.names:=by
 have hm:(j,i)∈cap.zipIdx:=by
  rw[List.mem_zipIdx_iff_getElem?];exact e
 obtain⟨h1,h2⟩:=h.cap (j,i) hm;cases q:N0[j]? with
 |none=>rw[q]at h2;cases h2
 |some x=>
  rw[q]at h1 h2
  exact#[x,h1,rfl,T6<|al h2]
noncomputable def YK(cap:List Nat)(nl:Nat)(Z:L2.St):L2.St:=aA nl ag++cap.map λi=>(Z[i]?).join
section
variable{X:Cx}{pq:List (aJ×fA)}{Z:L2.St}{H:Hp}{s:ax}
theorem WW{env:Env}{x:bx}:∀{names:List (bx×eK)},(names.map λ(n,k)=>if(k == bJ&&env.scope.kind == .function&&env.kindOf n == aa .cell)then(n,cF)else(n,k)).lookup x=aa .cell\/
  (names.map λ(n,k)=>if(k == bJ&&env.scope.kind == .function&&env.kindOf n == aa .cell)then(n,cF)else(n,k)).lookup x=aa .free->(x,bJ)∈names\/(x,cF)∈names
 |[],h=>by rcases h with h|h<;>cases h
 |(n,k)::r,h=>by
  have ih:=@WW env x r;rw[aW]at h;by_cases e:x=n
  .subst e
   by_cases c:(k == bJ&&env.scope.kind == .function&&env.kindOf x == aa .cell)=aj
   .have:=(aF _ _).mp c
    rw[eS ((aF _ _).mp this.1).1];exact .inl am
   .simp only[T8 c,bL,beq_self_eq_true,nr]at h
    rcases h with h|h
    .rw[h];exact .inr am
    .rw[h];exact .inl am
  .have hb:(x == n)=ak:=beq_eq_false_iff_ne.mpr e
   refine(ih ?_).imp (ai _)<|ai _;by_cases c:(k == bJ&&env.scope.kind == .function&&env.kindOf n == aa .cell)=aj
   .simpa only[T9 c,bL,hb]using h
   .simpa only[T8 c,bL,hb]using h
theorem vQ{N:List bx}{scope:eX}{cl:List (bx×aJ)}{fp:List aJ}{cap:List Nat}{nl:Nat}{h1:cc}{tk:Nat}(I:Inv X pq Z H s)(CS:CompScope X.env.scope X.N scope N cap nl)(hN:X.N.Nodup)
  (c1:∀x c,cl.lookup x=aa c->((x,cF)∉scope.names/\X.env.cells.lookup x=aa c)\/((x,cF)∈scope.names/\s.heap.objs.size<=c/\h1.IsCell c ag))(c2:∀x,(x,bJ)∈scope.names\/(x,cF)∈scope.names->∃c,cl.lookup x=aa c)
  (c3:∀x y c,cl.lookup x=aa c->cl.lookup y=aa c->x=y)(hf:∀b∈fp,Vd X pq H b)(hb:∀b∈fp,∃o,s.heap.get? b=aa o)(hns:∃m,h1.Ns s.heap.objs.size m)(hk:∀b o,s.heap.get? b=aa o->h1.get? b=aa o) :
  Inv (cxC X N scope cl s H fp) [] (YK cap nl Z) H {s with heap:=h1,toks:=tk}:=by
 have bne:∀b∈fp,b≠s.heap.objs.size:=λb hb' e=>by
  obtain⟨o,ho⟩:=hb b hb';exact T7 (aC ho) (by rw[e];exact bw _)
 refine#[#[I.ok.mod,CS.kind,I.ok.glob,I.ok.blt,aH _,c3,λx hx=>c2 x<|WW (env:=X.env) hx,λx c h e=>?_,I.ok.hd,I.ok.frames,.inl rfl,
  λb hb'=>#[bne b hb',λx c e=>(c1 x c e).elim (λq=>(hf b hb').2.2.2.2.1 x c q.2) λq z=>?_],I.bs,cn I.ok.bsz I.sz,λb o e hb'=>?_,λb hb' hm=>?_,I.stack,I.stkFree],
  rfl,I.bare,Un.kept hk,?_,λx c e=>?_,I.hok.fresh<|aH _,λx c e=>(c1 x c e).elim (λq=>I.freeC x c q.2) λq=>I.hok.fresh q.2.1,λp hp=>T7 hp (by simp[cxC]),I.hok.kept hk,?_]
 .rcases c1 x c e with q|q
  .obtain⟨y,hy,e⟩:=fM.mp h
   obtain⟨e1,e2⟩:=(aF _ _).mp e;obtain⟨y,k⟩:=y;have a1:k=.cell:=eS e1;have a2:y=x:=eS e2;subst a1 a2;exact T7 hy q.1
  .exact q.2.1
 .obtain⟨o,ho⟩:=hb b hb'
  have:=aC ho;rw[<-z]at this;exact T7 q.2.1<|Nat.not_le.mpr this
 .rcases(hf b hb').2.2.2.1 with z|z
  .exact I.ok.noex b o e z
  .exact T7 (aC e)<|Nat.not_lt.mpr<|cn I.ok.bsz z
 .rcases aB.mp (I.stkSub b hm)with e|e
  .exact(hf b hb').2.1 e
  .exact(hf b hb').2.2.1 e
 .obtain⟨m1,hm1⟩:=hns
  refine#[m1,hm1,λi x v e1 e2 e3=>?_]
  obtain⟨m,hm,hl⟩:=I.loc;have hi:nl<=i:=by
   by_cases hi:nl<=i
   .exact hi
   .have z:(YK cap nl Z)[i]?=aa ag:=by
     unfold YK;rw[bT (by simp;lia),cT,T9 (by lia)]
    rw[z]at e2;cases e2
  have e2':(cap.map λi=>(Z[i]?).join)[i-nl]?=aa (aa v):=by
   have:(YK cap nl Z)[i]?=aa (aa v):=e2;unfold YK at this
   rwa [bB (by simp;exact hi),b8]at this
  rw[aM]at e2';cases hj:cap[i-nl]? with
  |none=>rw[hj]at e2';cases e2'
  |some j=>
   rw[hj]at e2';have hv:Z[j]?=aa (aa v):=by
    have:(Z[j]?).join=aa v:=al e2';cases q:Z[j]? with
    |none=>rw[q]at this;cases this
    |some o=>rw[q]at this;cases o with|none=>cases this|some w=>cases this;rfl
   obtain⟨x',n1,n2,fr⟩:=CS.capt _ _ hj;have ex:x'=x:=by
    have:N[nl+(i-nl)]?=aa x:=by rw[show nl+(i-nl)=i by lia];exact e1
    rw[n1]at this;exact al this
   subst ex;have kd:=CS.free _ fr rfl;have vis:Vis X.env.scope x':=by
    rcases kd with z|z
    .exact .inr<|.inl z
    .exact .inr<|.inr z
   obtain⟨u,r,lk⟩:=hl j x' v n2 hv vis;refine#[u,r,?_];rcases lk with⟨k,_⟩|⟨k,c,ec,hc⟩
   .have k':X.env.scope.names.lookup x'=aa .local:=k
    rcases kd with z|z<;>(rw[z]at k';cases k')
   .obtain⟨c',ec'⟩:=c2 x' (.inl fr)
    have ecc:c'=c:=by
     have:=(c1 x' c' ec').elim (λq=>q.2) λq=>T7 fr<|CS.cell _ q.1 rfl
     rw[ec]at this;exact(al this).symm
    subst ecc;have vis2:Vis (relabel scope X.env) x':=e3;refine .inr #[?_,c',ec',?_]
    .rcases vis2 with z|z|z
     .have z':(scope.names.map λ(n,k)=>if(k == bJ&&X.env.scope.kind == .function&&X.env.kindOf n == aa .cell)then(n,cF)else(n,k)).lookup x'=aa .local:=z
      exfalso
      have:∀(names:List (bx×eK)),(∀y∈names,y.2=eK.local->y.1≠x')->(names.map λ(n,k)=>if(k == bJ&&X.env.scope.kind == .function&&X.env.kindOf n == aa .cell)then(n,cF)else(n,k)).lookup x'≠aa .local:=by
       intro names
       induction names with
       |nil=>intro _ h;cases h
       |cons y r ih=>
        obtain⟨n,k⟩:=y;intro hy h;rw[aW]at h;by_cases e:x'=n
        .subst e
         by_cases c:(k == bJ&&X.env.scope.kind == .function&&X.env.kindOf x' == aa .cell)=aj
         .simp only[T9 c,bL,beq_self_eq_true]at h;cases h
         .simp only[T8 c,bL,beq_self_eq_true]at h
          exact hy (x',k) am (al h) rfl
        .have hb:(x' == n)=ak:=beq_eq_false_iff_ne.mpr e
         refine ih (λy hy'=>hy y<|ai _ hy') ?_
         by_cases c:(k == bJ&&X.env.scope.kind == .function&&X.env.kindOf n == aa .cell)=aj
         .simp only[T9 c,bL,hb]at h;exact h
         .simp only[T8 c,bL,hb]at h;exact h
      refine this scope.names (λy hy hl e=>?_) z'
      have l1:=CS.names y hy hl;rw[e]at l1;exact CS.apart (x',.free) fr rfl l1
     .exact .inl z
     .exact .inr z
    .obtain⟨o,ho,hd⟩:=hc
     exact#[o,hk c' o ho,hd]
 .rcases c1 x c e with q|q
  .obtain⟨v,o,ho,hd⟩:=I.cell x c q.2
   exact#[v,o,hk c o ho,hd]
  .exact#[ag,q.2.2]
 .unfold YK
  show _=N.length;rw[bc,b8,aw,CS.len]
end
abbrev TEm:=L2.St->Hp->(L2.St->Hp->Prop)->Prop
def uc(X:Cx)(act:nH Fin->nH Fin)(te:TEm):Prop:=
 ∀(pq:List (aJ×fA))(s:ax)(Z:L2.St)(H:Hp)(Q:L2.St->Hp->Prop)(k:nH Fin)(QF:Fin->ax->Prop)(EE:ap->ax->Prop),Inv X pq Z H s->te Z H Q->(∀s' σ' H',Inv X pq σ' H' s'->Q σ' H'->aV (aS X.prog X.w) X.A k QF EE s')->
  aV (aS X.prog X.w) X.A (act k) QF EE s
noncomputable def Gw(ipos:gW)(tg:Expr)(ifs:List Expr)(act:nH Fin->nH Fin)(it:ap)(env:Env)(c:Code):nH Fin:=do
 oG ipos
 match <-ku it with
 |none=>dg<|.done .next
 |some v=>
  lq tg it v
  assign tg env v
  let mut ok:=aj
  for c in ifs do
   if ok then ok <-isTrue c env (cD c env)
  if ok then act (pA c)else pA c
def vH(J:It)(g:TG)(tt:TT)(te:TEm)(W:Nat->Nat->L2.St->Hp->Prop)(Q:L2.St->Hp->Prop):Prop:=∀i m σ' H',W i m σ' H'->
  (J.stop i H'/\Q σ' H')\/(J.go i H'/\∀x H'',J.yld i H' x H''->g x σ' H'' λσ2 H2=>tt σ2 H2 λok H3=>if ok=aj then te σ2 H3 λσ3 H4=>∃m',m'<m/\W (i+1) m' σ3 H4 else ∃m',m'<m/\W (i+1) m' σ2 H3)
def wD{tn:Nat->cc->Prop}{Rr:pG->ax->Prop}{Q:L2.St->Hp->Prop}{W:Nat->Nat->L2.St->Hp->Prop}
  (hc:Y.calm=aj)(hx:∀a b,Y.xe a b->False)(hT:compTurn e depth (.ref it) acc Y.env=Gw ipos tg ifs act (.ref it) Y.env (.compLoop e depth (.ref it) acc Y.env))(hquiet:(pj e depth (.ref it) acc Y.env).isFrame=ak)
  (hq:(pj e depth (.ref it) acc Y.env).quiet=aj)(T:Turn Y.prog Y.w Y.K tg J fp it tn)(hg:PG Y tg g)(ht:PTs Y ifs tt)(he:uc Y act te)(stat:∀{H':Hp},(∀b∈fp,H' b=ag)->∀b∈fp,Vd Y pq H' b)
  (turn:vH J g tt te W Q)(fin:∀Z H s,Inv Y pq Z H s->Q Z H->Rr (.ok .next) s)
  (I0:Inv Y pq Z H s)(st0:tn 0 s.heap)(fr0:∀b∈fp,H b=ag)(w0:W 0 m Z H)(hden:(aS Y.prog Y.w).den (.compLoop e depth (.ref it) acc Y.env)=(compTurn e depth (.ref it) acc Y.env).onRaise (λx=>do noteFrame x Y.env;theTreesLotGoes x))
  (hund:Y.A.under (.compLoop e depth (.ref it) acc Y.env)=Y.A):iA (aS Y.prog Y.w) Y.A (.compLoop e depth (.ref it) acc Y.env) Rr s:=by
 refine codeAny_loop hq (λn s'=>∃i σ' H',Inv Y pq σ' H' s'/\tn i s'.heap/\(∀b∈fp,H' b=ag)/\W i n σ' H') (λn s5 hI=>?_) m #[0,Z,H,I0,st0,fr0,w0]
 rw[hund,hden,hT];refine wpAny_noted ?_;obtain⟨i,σ5,H5,I5,st5,fr5,w5⟩:=hI;refine ab<|fV<|ab ?_;rcases turn i n σ5 H5 w5 with⟨stop,qn⟩|⟨go,step⟩
 .refine dD (T.done Y rfl rfl rfl hc i pq s5 σ5 H5 (λ_ _=>False) I5 (stat fr5) st5 stop) (λr s6 #[hr,I6]=>?_) λ_ _ h'=>h'.elim
  subst hr;exact au<|fin σ5 H5 s6 I6 qn
 .refine dD (T.item Y rfl rfl rfl hc i pq s5 σ5 H5 (λ_ _=>False) I5 (stat fr5) st5 go) (λr s6 #[u,hr,h6]=>?_) λ_ _ h'=>h'.elim
  subst hr;refine ab<|dD h6 (λ_ s7 #[x,H7,I7,r7,y7,st7,fr7]=>?_) λ_ _ h'=>h'.elim
  have I7':=I7.pinned (stat fr7)<|T.obj _ _ st7;have back:∀{σ8:L2.St}{H8:Hp}{s8:ax}{m':Nat},Inv Y (pq++Ux fp s7.heap) σ8 H8 s8->m'<n->W (i+1) m' σ8 H8->∃m,m<n/\∃i σ' H',Inv Y pq σ' H' s8/\tn i s8.heap/\(∀b∈fp,H' b=ag)/\W i m σ' H':=λ{σ8 H8 s8 m'} I8 hm w8=>by
   refine#[m',hm,i+1,σ8,H8,I8.unpinned,T.keep _ _ _ st7 λb hb' o e=>(I8.pin (b,o)<|bG _<|bG _<|Xi hb' e).1,λb hb'=>?_,w8]
   obtain⟨o,e,d⟩:=T.obj _ _ st7 b hb';exact(I8.pin (b,o)<|bG _<|bG _<|Xi hb' e).2.1
  refine ab<|dD (hg _ s7 σ5 H7 x u _ I7' r7<|step x H7 y7) (λ_ s8 #[σ8,H8,I8,q8]=>?_) λ_ _ h'=>(hx _ _ h').elim
  refine ab<|dD (ht _ s8 σ8 H8 _ I8 q8) (λok s9 #[H9,I9,q9]=>?_) λ_ _ h'=>(hx _ _ h').elim
  cases ok with
  |false=>
   rw[T8 aG]at q9;obtain⟨m',hm,w9⟩:=q9;exact au #[rfl,back I9 hm w9]
  |true=>
   rw[T9 rfl]at q9;exact he _ s9 σ8 H9 _ _ _ _ I9 q9<|by rintro s10 σ10 H10 I10 ⟨m',hm,w10⟩;exact au #[rfl,back I10 hm w10]
def GL{Y:Cx}{elt:Expr}{te:TE}{D:aJ}(hx:∀a b,Y.xe a b->False)(he:PE Y elt te):uc Y (λk=>(do let _ <-call (.builtin "list.append") [.ref D,<-cD elt Y.env]:nH Unit) >>= λ_=>k) (λZ H Q=>te Z H λy H4=>∃ys,H4 D=aa (.lst ys)/\ys.length<aZ/\Q Z (upd H4 D<|.lst<|ys++[y])):=by
 intro pq s Z H Q k QF EE I h hk;refine ab ?_;refine ab<|dD (he pq s Z H _ I h) (λxv s10 #[y,H10,I10,r10,ys,hDy,hz,q]=>?_) λ_ _ h'=>(hx _ _ h').elim
 refine ab<|dD (QW pq s10 Z H10 (.ref D) [y] (.ref D) [xv] (λv H'=>v=.non/\H'=upd H10 D (.lst<|ys++[y])) I10 rfl (.cons r10 .nil) #[D,ys,y,rfl,rfl,hDy,hz,rfl,rfl]) (λ_ s11 #[v11,H11,I11,_,_,eH]=>?_) λ_ _ h'=>(hx _ _ h').elim
 subst eH;exact au<|hk _ _ _ I11 q
def ZcP(wi:TI)(g:TG)(tt:TT)(te:aJ->TEm)(cap:List Nat)(nl:Nat):TE:=λZ H Q=>wi Z H λJ H1=>∀D,H1 D=ag->∃W:Nat->Nat->L2.St->Hp->Prop,(∃m,W 0 m (YK cap nl Z)<|upd H1 D<|.lst [])/\vH J g tt (te D) W λ_ H'=>Q (.ref D) H'
def qT(wi:TI)(g:TG)(tt:TT)(te:TE)(cap:List Nat)(nl:Nat):TE:=λZ H Q=>wi Z H λJ H1=>∀D,H1 D=ag->∃W:Nat->Nat->L2.St->Hp->Prop,(∃m,W 0 m (YK cap nl Z)<|upd H1 D<|.lst [])/\∀i m σ' H',W i m σ' H'->
  (J.stop i H'/\Q (.ref D) H')\/(J.go i H'/\∀x H'',J.yld i H' x H''->g x σ' H'' λσ2 H2=>tt σ2 H2 λok H3=>if ok=aj then te σ2 H3 λy H4=>∃ys,H4 D=aa (.lst ys)/\ys.length<aZ/\∃m',m'<m/\W (i+1) m' σ2 (upd H4 D<|.lst<|ys++[y])else ∃m',m'<m/\W (i+1) m' σ2 H3)
structure Gone(X:Cx)(pq:List (aJ×fA))(H:Hp)(s:ax)(C:aJ):Prop where
 free:H C=ag
 ns:∃m,s.heap.Ns C m
 loc:C≠X.env.locals
 big:X.s₀.heap.objs.size<=C
 cel:∀x c,X.env.cells.lookup x=aa c->c≠C
 pin:∀p∈X.pn++pq,p.1≠C
def QI{tg iter elt:Expr}{ifs:List Expr}{scope:eX}{pos fpos:gW}{N:List bx}{cap:List Nat}{nl:Nat}{wi:TI}{g:TG}{tt:TT}{te:aJ->TEm}{act:ap->Env->nH Fin->nH Fin}{rest:List Comprehension}{pq:List (aJ×fA)}{s:ax}{Z:L2.St}{H:Hp}{Q:VK}{use:Option (ap->nH Unit)}{QQ:ap->ax->Prop}(hc:X.calm=aj)(hN:X.N.Nodup)(CS:CompScope X.env.scope X.N scope N cap nl)(hi:PI X tg iter wi)
  (hT:∀it acc env,compTurn (.ListComp elt (#[tg,iter,ifs,0]::rest) scope pos) 0 it acc env=Gw iter.pos tg ifs (act acc env) it env (.compLoop (.ListComp elt (#[tg,iter,ifs,0]::rest) scope pos) 0 it acc env))
  (hb:∀cl s H fp,PG (cxC X N scope cl s H fp) tg g/\PTs (cxC X N scope cl s H fp) ifs tt/\∀D,uc (cxC X N scope cl s H fp) (act (.ref D) (cxC X N scope cl s H fp).env)<|te D)
  (hs:∀x,dr iter X.env x=dg x)(I:Inv X pq Z H s)(h:ZcP wi g tt te cap nl Z H Q)
  (fin:∀D C H5 s6,Inv X pq Z H5 s6->Gone X pq H5 s6 C->Q (.ref D) H5->compPost (aS X.prog X.w) X.A X.xe use QQ (.ref D) C (.ok .next) s6) :
  aV (aS X.prog X.w) X.A (comprehension (.ListComp elt (#[tg,iter,ifs,0]::rest) scope pos) scope X.env fpos (newList []) ak (cD iter X.env) use) QQ X.xe s:=by
 obtain⟨cl,hcl,c1,c2⟩:=zN (scope:=scope) (env:=X.env) λy hy hf=>I.ok.has y.1<|CS.free y hy hf
 refine wpAny_comprehension_free (use:=use) rfl hs hcl CS.kind CS.names ?_;refine thn (hi pq s Z H _ I h) λv s1 h1=>thn h1 λitv s2 h2=>?_
 obtain⟨it,fp,tn,J,H2,rfl,I2,T,st2,f2,q2⟩:=h2;obtain⟨W,⟨m0,w0⟩,turn⟩:=q2 s2.heap.objs.size<|I2.hok.fresh<|aH _;refine bD<|z5 ?_
 dsimp only
 have I3:Inv X pq Z (upd H2 s2.heap.objs.size<|.lst []) {s2 with heap:=s2.heap.push {cls:=.type "list",dict:=ag,data:=.seq ([]:List ap).toArray},toks:=s2.toks}:=
  I2.laid (λb u e=>ao _ e) (aH _) #[cJ _,[],0,.nil,aD _ rfl]
 generalize hD:s2.heap.objs.size=D at I3 w0 turn ⊢;generalize hs3:({s2 with heap:=s2.heap.push {cls:=.type "list",dict:=ag,data:=.seq ([]:List ap).toArray},toks:=s2.toks}:ax)=s3 at I3
 have hh3:s2.heap.push {cls:=.type "list",dict:=ag,data:=.seq ([]:List ap).toArray}=s3.heap:=by rw[<-hs3]
 rw[hh3];have old:∀b o,s2.heap.get? b=aa o->s3.heap.get? b=aa o:=λb o e=>by rw[<-hh3];exact ao _ e
 have neD:∀b∈fp,b≠D:=λb hb' e=>by
  obtain⟨o,ho,_⟩:=T.obj _ _ st2 b hb';exact T7 (aC ho) (by rw[e,<-hD];exact bw _)
 have f3:∀b∈fp,Vd X pq (upd H2 D<|.lst []) b:=λb hb'=>#[by rw[Zp<|neD b hb'];exact(f2 b hb').1,(f2 b hb').2]
 generalize hh4:nT (s3.heap.push {cls:=.type "dict",data:=.dict #[]}) scope.names=h₁;have keep4:∀b o,s3.heap.get? b=aa o->h₁.get? b=aa o:=λb o e=>by rw[<-hh4];exact lw _ _ b o<|ao _ e
 have hns₁:∃m,h₁.Ns s3.heap.objs.size m:=#[_,by rw[<-hh4];exact(cc.Ns.new s3.heap<|.type "dict").keeps<|lw _ _]
 have lt3:∀x c,cl.lookup x=aa c->c<s3.heap.objs.size+1:=λx c e=>by
  obtain⟨v,q⟩:=I3.cell x c<|c1 x c e;exact cR q.lt
 have c3:=W0 scope.names _ cl lt3 λx y c h1 h2=>I.ok.inj x y c (c1 x c h1)<|c1 y c h2
 have c2':∀x,(x,bJ)∈scope.names\/(x,cF)∈scope.names->∃c,(d3 (s3.heap.objs.size+1) scope.names cl).lookup x=aa c:=λx hx=>Vi _ _ _<|hx.imp (c2 x) λh=>h
 have c1':∀x c,(d3 (s3.heap.objs.size+1) scope.names cl).lookup x=aa c->((x,cF)∉scope.names/\X.env.cells.lookup x=aa c)\/((x,cF)∈scope.names/\s3.heap.objs.size<=c/\h₁.IsCell c ag):=λx c e=>by
  rw[<-cH s3.heap {cls:=.type "dict",data:=.dict #[]}]at e;refine(Vk (lo:=s3.heap.objs.size) _ _ _ (by rw[cH];exact km _) e).imp (λq=>#[q.1,c1 x c q.2]) λq=>?_
  rw[hh4]at q;exact q
 generalize d3 (s3.heap.objs.size+1) scope.names cl=cl at c1' c2' c3;have I4:=vQ (tk:=s2.toks) I3 CS hN c1' c2' c3 f3 (λb hb'=>let #[o,ho,_]:=T.obj _ _ st2 b hb';#[o,old b o ho]) hns₁ keep4
 have e4:({s3 with heap:=h₁,toks:=s2.toks}:ax)={s2 with heap:=h₁,toks:=s2.toks}:=by rw[<-hs3]
 rw[e4]at I4;obtain⟨hg,ht,he⟩:=hb cl s3 (upd H2 D<|.lst []) fp;generalize hY:cxC X N scope cl s3 (upd H2 D<|.lst []) fp=Y at I4 hg ht he;have yP:Y.prog=X.prog:=by rw[<-hY];rfl
 have stat:∀{H':Hp},(∀b∈fp,H' b=ag)->∀b∈fp,Vd Y [] H' b:=λhn b hb'=>by
  subst hY;refine#[hn b hb',λe=>?_,λhm=>?_,.inl hb',λx c e=>(c1' x c e).elim (λq=>(f3 b hb').2.2.2.2.1 x c q.2) λq z=>?_,λp hp=>T7 hp (by simp[cxC])]
  .obtain⟨o,ho,_⟩:=T.obj _ _ st2 b hb'
   have:=aC<|old b o ho;rw[e]at this;exact T7 this<|bw _
  .rcases aB.mp (I3.stkSub b hm)with e|e
   .exact(f3 b hb').2.1 e
   .exact(f3 b hb').2.2.1 e
  .obtain⟨o,ho,_⟩:=T.obj _ _ st2 b hb'
   have:=aC<|old b o ho;rw[<-z]at this;exact T7 q.2.1<|Nat.not_le.mpr this
 subst hY
 let Y:=cxC X N scope cl s3 (upd H2 D<|.lst []) fp
 have st4:tn 0 h₁:=T.keep _ _ _ st2 λb hb' o e=>keep4 b o<|old b o e
 have fr4:∀b∈fp,upd H2 D (HO.lst []) b=ag:=λb hb'=>(f3 b hb').1
 have loop:iA (aS X.prog X.w) X.A (.compLoop (.ListComp elt (#[tg,iter,ifs,0]::rest) scope pos) 0 (.ref it) (.ref D)<|compEnvC scope cl s3.heap.objs.size X.env)
   (compPost (aS X.prog X.w) X.A X.xe use QQ (.ref D) s3.heap.objs.size) {s2 with heap:=h₁,toks:=s2.toks}:=by
  refine wD (Y:=cxC X N scope cl s3 (upd H2 D<|.lst []) fp) (pq:=[]) (W:=W) (Q:=λ_ H'=>Q (.ref D) H') hc (λ_ _ z=>z) (hT _ _ _) rfl rfl T hg ht (he D) stat turn (λσ5 H5 s6 I6 qn=>?_) I4 st4 fr4 w0 rfl rfl
  obtain⟨m6,hn6,_⟩:=I6.loc;have u:=I6.base;have IX:Inv X pq Z H5 s6:=Inv.call' (s':=s6) (ch:=fp) I3 I6.os #[u.keep,u.slot,u.free,u.there,u.tups,u.frzs,u.tbls] I6.hok I6.bare λb hb'=>#[(f3 b hb').2.2.2.1,(f3 b hb').2.1,(f3 b hb').2.2.2.2.1,λp hp e=>(f3 b hb').2.2.2.2.2 p hp e]
  refine fin D s3.heap.objs.size H5 s6 IX #[I6.free,#[m6,hn6],Ne.symm<|a9 I3.lt,I3.sz,λx c e z=>?_,λp hp z=>?_] qn
  .obtain⟨v,q⟩:=I3.cell x c e
   exact T7 q.lt (by rw[z];exact bw _)
  .exact T7 (aC (I3.pin p hp).1) (by rw[z];exact bw _)
 subst hs3;exact codeAny_compStart_list loop<|T.self _ 0 _ _ _ st4 loop
def Gone.inv(G:Gone X pq H s C)(I:Inv X pq Z H s)(hsb:dU C s.heap h'):Inv X pq Z H {s with heap:=h' }:=
 I.turned (t':=s.toks) (λb o hb e=>(hsb.2 b hb).trans e) G.free G.loc (.inr G.big) G.cel G.pin
def Zf4(te:TE)(D:aJ):TEm:=λZ H Q=>te Z H λy H4=>∃ys,H4 D=aa (.lst ys)/\ys.length<aZ/\Q Z (upd H4 D<|.lst<|ys++[y])
def ZbN(hc:X.calm=aj)(hN:X.N.Nodup)(CS:CompScope X.env.scope X.N scope N cap nl)(hi:PI X tg iter wi)
  (hb:∀cl s H fp,PG (cxC X N scope cl s H fp) tg g/\PTs (cxC X N scope cl s H fp) ifs tt/\PE (cxC X N scope cl s H fp) elt te)
  (hs:∀x,dr iter X.env x=dg x:=by intro _;rfl):PE X (.ListComp elt [#[tg,iter,ifs,0]] scope pos) (qT wi g tt te cap nl):=by
 intro pq s Z H Q I h;rw[eval_ListComp];refine QI (act:=λacc env k=>(do let _ <-call (.builtin "list.append") [acc,<-cD elt env]:nH Unit) >>= λ_=>k) hc hN CS hi (λ_ _ _=>rfl) (λcl s H fp=>#[(hb cl s H fp).1,(hb cl s H fp).2.1,λD=>GL (λ_ _ z=>z) (hb cl s H fp).2.2]) hs I h λD C H5 s6 I6 G q=>?_
 obtain⟨m6,hn6⟩:=G.ns;exact#[m6,hn6,λh' hsb=>#[.ref D,H5,G.inv I6 hsb,rfl,q]]
def v5(hc:X.calm=aj)(hN:X.N.Nodup)(CS:CompScope X.env.scope X.N scope N cap nl)(hi:PI X tg iter wi)
  (hb:∀cl s H fp,PG (cxC X N scope cl s H fp) tg g/\PTs (cxC X N scope cl s H fp) ifs tt/\PE (cxC X N scope cl s H fp) elt te)
  (hsw:kJ (.ListComp elt [#[tg,iter,ifs,0]] scope pos) (aa<|.Name y py) spos.line X.env=dg aj)
  (hy:X.N[i]?=aa y)(hx:L2.Loc X.env.scope y)(hf:X.fn y=aj\/X.env.scope.names.lookup y=aa .local)
  (hs:∀x,dr iter X.env x=dg x:=by intro _;rfl):PS X (.Assign [.Name y py] (.ListComp elt [#[tg,iter,ifs,0]] scope pos) spos) (λD Z H=>qT wi g tt te cap nl Z H λv H1=>D.nx (Z.set i<|aa v) H1):=by
 intro pq s Z H D I h;rw[exec_Assign_Name_used _ _ _ _ hsw];refine ab<|fV<|ab ?_;refine ab<|dD (QI (Q:=λv H1=>D.nx (Z.set i<|aa v) H1) (act:=λacc env k=>(do let _ <-call (.builtin "list.append") [acc,<-cD elt env]:nH Unit) >>= λ_=>k) hc hN CS hi (λ_ _ _=>rfl) (λcl s H fp=>#[(hb cl s H fp).1,(hb cl s H fp).2.1,λD=>GL (λ_ _ z=>z) (hb cl s H fp).2.2]) hs I h λA C H5 s6 I6 G q=>?_) (λ_ s' hq=>au<|au hq) λ_ _ e=>e
 refine mT<|Qs (v:=V.ref A) I6 hN hy hx rfl (λs7 I7 #[a,hsb,ha]=>?_) hf
 have hCa:C≠a:=by
  rcases ha with e|e
  .rw[e];exact G.loc
  .exact Ne.symm<|G.cel y a e
 obtain⟨m6,hn6⟩:=G.ns;have G7:Gone X pq H5 s7 C:=#[G.free,#[m6,hn6.sameBut hsb hCa],G.loc,G.big,G.cel,G.pin];exact#[m6,hn6.sameBut hsb hCa,λh' hs'=>#[Z.set i<|aa<|.ref A,H5,G7.inv I7 hs',q]]
open Ev (E Sm Fn Bop Cop Ty Bf Mf)
section
variable{X:Cx}{xw:Nat->Hp->Prop}{C:Calls}{e a b c tg it:Expr}{i j k:E}{pos p p' p2:gW}
structure CTs(X:Cx)(xw:Nat->Hp->Prop)(C:Calls)(ifs:List Expr)(is:List E):Prop where
 h:PTs X ifs (tB3 X xw<|Pv.pvt C is)
def PTs.imp{X:Cx}{e:List Expr}{t t':TT}(h:PTs X e t)(k:∀Z H Q,t' Z H Q->t Z H Q):PTs X e t':=λpq s Z H Q I q=>h pq s Z H Q I<|k Z H Q q
def j6:CTs X xw C [] []:=.mk <| PTs.imp Zbg<|by rintro Z H Q ⟨O,l,S,st,lr,h⟩;exact End.ok (h) st rfl
def Zak(Z:Lc)(S:Zv):Pv.pvt C [i] Z S=Pv.Y5 C i Z S:=by
 show((Pv.pv C i Z S).bind λx S=>(Pv.po (Pv.Zq x) S).bind λb S=>if b then Pv.pvt C [] Z S else .ok ak S)=(Pv.pv C i Z S).bind λx S=>Pv.po (Pv.Zq x) S
 congr 1
 funext x S
 cases Pv.Zq x with|none=>rfl|some b=>cases b<;>rfl
def ZaU(h:CT X xw C c i):CTs X xw C [c] [i]:=.mk <| PTs.imp (Zal h.h)<|by rintro Z H Q ⟨O,l,S,st,lr,h⟩;exact #[O,l,S,st,lr,by rw[<-Zak];exact h]
def LocR.caught(lr:LocR O H l Z)(cap:List Nat)(nl:Nat):LocR O H (Pv.Z5 cap nl l) (YK cap nl Z):=by
 refine#[by unfold Pv.Z5 YK;simp,λn d e=>?_]
 unfold Pv.Z5 at e;by_cases hn:n<nl
 .rw[bT (by simp;exact hn),cT,T9 hn]at e
  cases e
 .rw[bB (by simp;omega),b8,aM]at e
  unfold YK;rw[bB (by simp;omega),b8,aM]
  cases q:cap[n-nl]? with
  |none=>rw[q]at e;cases e
  |some m=>
   rw[q]at e;have e':(l[m]?).join=aa d:=al e;have:l[m]?=aa (aa d):=by
    cases z:l[m]? with
    |none=>rw[z]at e';cases e'
    |some o=>rw[z]at e';cases o with|none=>cases e'|some w=>cases e';rfl
   obtain⟨v,hv,r⟩:=lr.val m d this;exact#[v,by show aa ((Z[m]?).join)=_;rw[hv];rfl,r]
noncomputable def Mx.at(O:Mx)(A:aJ):Mx:=#[O.K,O.n0,λa=>O.X a\/a=A,λa h=>.inl<|O.xz a h]
def Xu(O:Mx)(A:aJ)(H H':Hp):Prop:=∀a o,a≠A->H a=aa o->H' a=aa o\/(O.n0=aa a/\∃xs,o=.lst xs)\/((∃ps,o=.tbl ps)/\∃ps,H' a=aa (.tbl ps))
def Xu.trans(f:Xu O A H H1)(g:Xu O A H1 H2):Xu O A H H2:=λa o n h=>(f a o n h).elim (g a o n) λz=>z.elim (λz=>.inr<|.inl z)<|by
 rintro ⟨e,ps,h⟩;rcases g a _ n h with q|⟨_,xs,q⟩|⟨_,q⟩
 .exact .inr<|.inr #[e,ps,q]
 .cases q
 .exact .inr<|.inr #[e,q]
def Xu.of(f:Fut (O.at A) H ρ' H1):Xu O A H H1:=λa o _ h=>f.keep a o h
structure CI(K:aq)(O:Mx)(A:aJ)(acc:List D)(l:Lc)(Z:L2.St)(H:Hp)(S:Zv):Prop where
 st:St3 K (O.at A) S H
 lr:LocR (O.at A) H l Z
 ac:∃us,H A=aa (.lst us)/\Rq (O.at A) H acc us
section
variable{K:aq}{O:Mx}{A:aJ}{acc:List D}{l l':Lc}{Z:L2.St}{H H':Hp}{S S':Zv}
def Xu.lat(f:Xu O A H H')(ha:H A=aa (.lst us)):Lat (O.at A) H (O.at A) H':=#[rfl,rfl,λa o h x n _=>by
 by_cases c:a=A
 .subst c;rw[ha]at h;cases h;exact T7 (.inr rfl)<|x us rfl
 .rcases f a o c h with z|⟨z,xs,e⟩|⟨⟨ps,e⟩,_⟩
  .exact z
  .exact T7 (.inl<|O.xz a z)<|x xs e
  .exact T7 e<|n ps,λ_ _ x=>x]
theorem CI.mono(h:CI K O A acc l Z H S)(na:O.n0≠aa A)(f:Fut (O.at A) H ρ' H')(st:St3 K (O.at A) S' H'):CI K O A acc l Z H' S':=by
 obtain⟨us,e,r⟩:=h.ac;cases f.eq;exact#[st,h.lr.mono f,us,(f.keep A _ e).elim id λz=>z.elim (λz=>T7 z.1 na)<|by rintro ⟨⟨_,z⟩,_⟩;exact (by cases z),r.mono f]
def Zdc{Q:L2.St->Hp->Prop}(lr:LocR O H l Z)(r:Rep O H d v)(e:Pv.Zk t d l=aa l')(q:∀σ',LocR O H l' σ'->Q σ' H):tGU K t v Z H Q:=by
 have fill:∀{t:List Nat}{vs:List D}{us:List V}{l l':Lc}{Z:L2.St},LocR O H l Z->Rq O H vs us->Pv.YM t vs l=aa l'->us.length=t.length/\LocR O H l' (V7 t us Z):=λ{t}=>by
  induction t with
  |nil=>intro vs us l l' Z h r e;cases vs with|nil=>rw[r];cases e;exact#[rfl,h]|cons _ _=>cases e
  |cons i t ih=>intro vs us l l' Z h r e;cases vs with
   |nil=>cases e
   |cons v vs=>
    obtain⟨d,ds,rfl,a,b⟩:=r;obtain⟨z,q⟩:=ih (h.set i a) b e;exact#[by rw[aP,aP,z],q]
 have gen:∀t:List Nat,(match Pv.qv d with
   |some xs=>Pv.YM t xs l
   |none=>ag)=aa l'->∃a xs,v=.ref a/\(SqT K H a xs\/H a=aa (.lst xs))/\xs.length=t.length/\Q (V7 t xs Z) H:=by
  intro t e;cases d with|tup vs=>obtain⟨p,ds,rfl,hp,rs⟩:=r.tup';obtain⟨z,y⟩:=fill lr rs e;exact#[p,ds,rfl,.inl<|SqT.of hp,z,q _ y]|lst vs=>obtain⟨p,ds,rfl,hp,_,rs⟩:=r.lst';obtain⟨z,y⟩:=fill lr rs e;exact#[p,ds,rfl,.inr hp,z,q _ y]|_=>cases e
 match t,e with
 |[i],e=>cases e;exact q _<|lr.set i r
 |[],e=>exact gen [] e
 |i::j::t,e=>exact gen (i::j::t) e
theorem U7:∀{t:List Nat}{vs:List D}{l l':Lc},Pv.YM t vs l=aa l'->l'.length=l.length/\∀j,j∉t->l'[j]?=l[j]?
 |[],[],l,l',h=>by cases h;exact#[rfl,λ_ _=>rfl]
 |[],_::_,_,_,h=>by cases h
 |_::_,[],_,_,h=>by cases h
 |i::t,v::vs,l,l',h=>by
  obtain⟨a,b⟩:=U7 (t:=t) h;exact#[by rw[a,bZ],λj hj=>by rw[b j λz=>hj<|ai _ z,bp λz=>hj (by rw[z];exact am ..)]]
def GA(e:Pv.Zk t v l=aa l'):l'.length=l.length/\∀j,j∉t->l'[j]?=l[j]?:=by
 have gen:∀t:List Nat,(match Pv.qv v with
   |some xs=>Pv.YM t xs l
   |none=>ag)=aa l'->l'.length=l.length/\∀j,j∉t->l'[j]?=l[j]?:=λt e=>by
  cases q:Pv.qv v with|none=>rw[q]at e;cases e|some xs=>rw[q]at e;exact U7 e
 match t,e with
 |[i],e=>cases e;exact#[bZ ..,λj hj=>bp λz=>hj (by rw[z];exact am ..)]
 |[],e=>exact gen [] e
 |i::j::t,e=>exact gen (i::j::t) e
def LocR.back(e:Pv.Zk t v l=aa l')(hn:∀i∈t,∀d,l[i]?≠aa (aa d))(lr:LocR O H l' Z):LocR O H l Z:=by
 obtain⟨a,b⟩:=GA e;exact#[by rw[<-a];exact lr.len,λi d q=>lr.val i d (by rw[b i λz=>hn i z d q];exact q)]
end
noncomputable def Zcs(C:Calls)(t:List Nat)(is:List E)(G:Lc->Zv->R (List D))(l:Lc)(x:D)(S:Zv):R (List D):=(Pv.po (Pv.Zk t x l) S).bind λl S=>(Pv.pvt C is l S).bind λb S=>if b then G l S else .ok [] S
def Ji{B β:Type}{r:R B}{f:B->Zv->R β}{b:β}{S:Zv}(h:r.bind f=.ok b S):∃a S1,r=.ok a S1/\f a S1=.ok b S:=by
 cases r with|ok a S1=>exact#[a,S1,rfl,h]|ex _ _=>cases h|no=>cases h
def wG(h:Pv.mapP f (x::w) S=.ok rs S2):∃y S1 zs,f x S=.ok y S1/\Pv.mapP f w S1=.ok zs S2/\rs=y++zs:=by
 rw[Pv.mapP]at h;split at h
 .split at h
  .cases h;exact#[_,_,_,‹_›,‹_›,rfl]
  .cases h
 .cases h
def Zfd(K:aq)(O:Mx)(A:aJ)(P:Lc->Prop)(te:TEm)(G:Lc->Zv->R (List D)):Prop:=∀acc l Z H S ys S2 QQ,P l->CI K O A acc l Z H S->G l S=.ok ys S2->(acc++ys).length<=Ev.lim->(∀σ3 H3,Xu O A H H3->CI K O A (acc++ys) l σ3 H3 S2->QQ σ3 H3)->te Z H QQ
def jO{O ρw:Mx}{A:aJ}{Hw:Hp}{w:List D}{J:It}(r:WRel X.K ρw Hw w J)(na:O.n0≠aa A){t:List Nat}{is:List E}{te:TEm}{G:Lc->Zv->R (List D)}{P:Lc->Prop}(em:Zfd X.K O A P te G){l:Lc}(hn:∀i∈t,∀d,l[i]?≠aa (aa d))(hP:∀x l2,Pv.Zk t x l=aa l2->P l2){acc ys:List D}{Z:L2.St}{H:Hp}{S S2:Zv}{QQ:L2.St->Hp->Prop}
  (hl:∀H',Xu O A H H'->Lat ρw Hw (O.at A) H')(c:CI X.K O A acc l Z H S)(h:Pv.mapP (Zcs C t is G l) w S=.ok ys S2)(hz:(acc++ys).length<=Ev.lim)(k:∀σ3 H3,Xu O A H H3->CI X.K O A (acc++ys) l σ3 H3 S2->QQ σ3 H3) :
  ∃W:Nat->Nat->L2.St->Hp->Prop,(∃m,W 0 m Z H)/\vH J (tGU X.K t) (tB3 X nx<|Pv.pvt C is) te W QQ:=by
 refine#[λn m σ' H'=>m=w.length-n/\n<=w.length/\Xu O A H H'/\∃ac rs S',ac++rs=acc++ys/\Pv.mapP (Zcs C t is G l) (w.drop n) S'=.ok rs S2/\CI X.K O A ac l σ' H' S',#[w.length,rfl,cJ _,λ_ _ _ h=>.inl h,acc,ys,S,rfl,h,c],?_]
 rintro n m σ' H' ⟨rfl,hn',ff,ac,rs,S',ea,e',c'⟩
 have lat:=hl H' ff;by_cases hlt:n<w.length
 .right
  rw[bE hlt]at e';obtain⟨y1,S1,r1,q1,q2,rfl⟩:=wG e';obtain⟨go,yl⟩:=r.go n _ S' H' lat c'.st hlt;refine#[go,λx H3 y=>?_]
  obtain⟨f3,st3,rp⟩:=yl x H3 y;have rx:=rp _<|af hlt;obtain⟨l2,Sa,ha,q1⟩:=Ji q1;obtain⟨b,Sb,hb,q1⟩:=Ji q1;have hal:Pv.Zk t w[n] l=aa l2/\Sa=S':=by
   cases z:Pv.Zk t w[n] l<;>rw[z]at ha<;>cases ha;exact#[rfl,rfl]
  obtain⟨hal,rfl⟩:=hal;have ff3:=ff.trans<|Xu.of f3;have c3:=c'.mono na f3 st3;refine Zdc c3.lr rx hal λσ2 lr2=>#[O.at A,l2,Sa,st3,lr2,?_]
  rw[hb];intro ρ4 H4 b' f4 st4 eb;have eb:=eb;subst eb;cases f4.eq;have ff4:=ff3.trans<|Xu.of f4;have c4:=c3.mono na f4 st4;cases b with
  |false=>
   rw[T8 aG]at q1 ⊢;cases q1;exact#[w.length-(n+1),by omega,rfl,hlt,ff4,ac,r1,_,ea,q2,c4.st,(lr2.mono f4).back hal hn,c4.ac]
  |true=>
   rw[T9 rfl]at q1 ⊢;refine em ac l2 σ2 H4 Sb y1 S1 _ (hP _ _ hal) #[c4.st,lr2.mono f4,c4.ac] q1 ?_ λσ3 H5 f5 c5=>#[w.length-(n+1),by omega,rfl,hlt,ff4.trans f5,ac++y1,r1,S1,by rw[bq];exact ea,q2,c5.st,c5.lr.back hal hn,c5.ac]
   rw[<-ea]at hz;simp only[bc]at hz ⊢;omega
 .left
  have en:n=w.length:=by omega
  subst en;rw[d5]at e';cases e';rw[bS]at ea;subst ea;exact#[r.stop _ _ H' lat c'.st,k σ' H' ff c']
def Zdi{O:Mx}{A:aJ}(na:O.n0≠aa A)(ie:E):Zfd X.K O A (λ_=>True) (Zf4 (tE X nx<|Pv.pv C ie) A) (λl S=>(Pv.pv C ie l S).bind λy S=>.ok [y] S):=λacc l Z H S ys S2 QQ _ c h hz k=>by
 obtain⟨y,S1,hy,h⟩:=Ji h;cases h;refine#[O.at A,l,S,c.st,c.lr,?_];rw[hy];intro ρ4 H4 v f4 st4 r4;cases f4.eq;have c4:=c.mono na f4 st4;obtain⟨us,e,r⟩:=c4.ac;rw[bc]at hz;have hz:acc.length+1<=Ev.lim:=hz;have fa:Xu O A H4 (upd H4 A<|.lst<|us++[v]):=λa o n h=>.inl (by rw[Zp n];exact h)
 have lt:=fa.lat e;refine#[us,e,by rw[r.length,<-XB];omega,k Z _ ((Xu.of f4).trans fa) #[#[st4.hk,λb x=>?_,λb x=>?_,st4.tb.upd (λo u z=>by rw[e]at z;cases z) λ_ z=>by cases z],#[c4.lr.len,λi d q=>let #[u,a,b]:=c4.lr.val i d q;#[u,a,b.lat lt]],_,Zy,(r.lat lt).append<|Rq.cons (r4.lat lt) Rq.nil]]
 .by_cases z:b=A
  .rw[z,Zy];intro q;cases q
  .rw[Zp z];exact st4.xd b x
 .rw[Zp λz=>na (by rw[<-z];exact x)];exact st4.dw b x
def ZaJ(st:St3 X.K O S H)(lr:LocR O H l Z)(hA:H A=ag):O.n0≠aa A/\CI X.K O A [] l Z (upd H A<|.lst []) S/\∀H',Xu O A (upd H A<|.lst []) H'->Fut O H O H'/\Lat O H (O.at A) H':=by
 have ne:∀a,H a≠ag->a≠A:=λa h z=>h<|z▸hA
 have f:∀H',Xu O A (upd H A<|.lst []) H'->Fut O H O H'/\Lat O H (O.at A) H':=λH' g=>by
  have f:Fut O H O H':=#[rfl,λa o h=>g a o (ne a<|by rw[h];intro z;cases z) (by rw[Zp<|ne a (by rw[h];intro z;cases z)];exact h)]
  exact#[f,rfl,rfl,f.lat.keep',λa h x=>x.elim id λz=>T7 z<|ne a h]
 have s:=st.fresh (o:=.lst []) hA;obtain⟨f1,lt⟩:=f _ λ_ _ _ h=>.inl h
 refine#[λz=>st.xd A (O.xz A z) hA,#[#[s.hk,λb x=>x.elim (s.xd b) λz=>(by rw[z,Zy];intro q;cases q),s.dw,s.tb],#[lr.len,λi d q=>let #[u,a,b]:=lr.val i d q;#[u,a,b.lat lt]],[],Zy,Rq.nil],f]
def wu{l:Lc}{cap:List Nat}{nl i:Nat}(h:i<nl)(v:D):(Pv.Z5 cap nl l)[i]?≠aa (aa v):=by
 unfold Pv.Z5;rw[bT (by simpa using h),cT,T9 h]
 intro z;cases z
def vU(f0:Fut O H0 O H)(hA:H A=ag)(st:St3 X.K O S H)(f:Fut O H O H')(c:CI X.K O A ys l Z H' S')(h:End X.K nx (Wu aj H0) O H Q (.ok (.lst ys) S')):Q (.ref A) H':=by
 obtain⟨us,e,r⟩:=c.ac;have lt:Lat (O.at A) H' O H':=#[rfl,rfl,λ_ _ h _ _ _=>h,λ_ _ x=>.inl x]
 refine h O H' _ f #[c.st.hk,λb x=>c.st.xd b<|.inl x,c.st.dw,c.st.tb] #[X4 e (st.nx hA)<|r.lat lt,λ_ _ _=>#[A,rfl,f0.new hA st.xd]]
def uH{K:aq}{rep:Mx->Hp->D->V->Prop}{O:Mx}{H:Hp}{Q:VK}{r:R (List D)}(h:End K xw rep O H Q (r.bind λys s=>if ys.length<=Ev.lim then Pv.PR.ok (.lst ys) s else .no).nox):∃ys S,r=.ok ys S/\ys.length<=Ev.lim/\End K nx rep O H Q (.ok (.lst ys) S):=by
 cases r with
 |no=>exact h.elim
 |ex c S=>exact h.elim
 |ok ys S=>
  have h:=End.nox h
  obtain⟨hl,h⟩:=End.guard h;exact#[ys,S,rfl,hl,h]
def G5{is:List E}{ie:E}{cap:List Nat}{nl:Nat}{w:Ev.W}{t:List Nat}{Z:L2.St}{H:Hp}{Q:VK}(hyp:tF X xw (Pv.pv C<|.comp1 cap nl t w is ie) Z H Q):qT (tW3 X xw<|Pv.pvw C w) (tGU X.K t) (tB3 X nx<|Pv.pvt C is) (tE X nx<|Pv.pv C ie) cap nl Z H Q:=by
 obtain⟨O,l,S,st,lr,h⟩:=hyp;rw[Pv.pv]at h;obtain⟨ho,h⟩:=End.guard h;refine#[O,l,S,st,lr,h.bind λwk S1 ρ1 H1 J f1 st1 r1 h1=>λA hA=>?_]
 cases f1.eq;obtain⟨ys,S2,hm,hl,h1⟩:=uH h1;obtain⟨na,ci,ft⟩:=ZaJ st1 ((lr.mono f1).caught cap nl) hA;exact jO r1 na (Zdi na ie) (λi hi d=>wu (T6<|aY.mp ho i hi) d) (λ_ _ _=>c8) (λH' f=>(ft H' f).2) ci hm hl λσ3 H3 f3 c3=>vU f1 hA st1 (ft H3 f3).1 c3 h1
def uw{elt:Expr}{ifs:List Expr}{is:List E}{ie:E}{scope:eX}{N:List bx}{cap:List Nat}{nl:Nat}{w:Ev.W}{t:List Nat}(hc:X.calm=aj)(hN:X.N.Nodup)(CSc:CompScope X.env.scope X.N scope N cap nl)(hi:CW X xw C tg it w)
  (hb:∀cl s H fp,CG (cxC X N scope cl s H fp) tg t/\CTs (cxC X N scope cl s H fp) nx C ifs is/\CE (cxC X N scope cl s H fp) nx C elt ie)
  (hs:∀x,dr it X.env x=dg x):CF X xw C (.ListComp elt [#[tg,it,ifs,0]] scope pos) (.comp1 cap nl t w is ie):=.mk <|
 PE.imp (ZbN (g:=tGU X.K t) (tt:=tB3 X nx<|Pv.pvt C is) (te:=tE X nx<|Pv.pv C ie) hc hN CSc hi.h (λcl s H fp=>have#[a,b,c]:=hb cl s H fp;#[a.h,b.h,c.h]) hs) λZ H Q hyp=>G5 hyp
def jP{fr:Bool}{ns:List Nat}{elt:Expr}{ifs:List Expr}{is:List E}{ie:E}{scope:eX}{N:List bx}{cap:List Nat}{nl:Nat}{w:Ev.W}{t:List Nat}{n:Nat}{y:bx}{spos py:gW}(hc:X.calm=aj)(hN:X.N.Nodup)(CSc:CompScope X.env.scope X.N scope N cap nl)(hi:CW X xw C tg it w)
  (hb:∀cl s H fp,CG (cxC X N scope cl s H fp) tg t/\CTs (cxC X N scope cl s H fp) nx C ifs is/\CE (cxC X N scope cl s H fp) nx C elt ie)
  (hsw:kJ (.ListComp elt [#[tg,it,ifs,0]] scope pos) (aa<|.Name y py) spos.line X.env=dg aj)
  (hy:X.N[n]?=aa y)(hx:L2.Loc X.env.scope y)(hf:X.fn y=aj\/X.env.scope.names.lookup y=aa .local)
  (hs:∀x,dr it X.env x=dg x):CS X xw fr C ns (.Assign [.Name y py] (.ListComp elt [#[tg,it,ifs,0]] scope pos) spos) (.asg [n]<|.comp1 cap nl t w is ie):=.mk <|
 PS.imp (v5 (g:=tGU X.K t) (tt:=tB3 X nx<|Pv.pvt C is) (te:=tE X nx<|Pv.pv C ie) hc hN CSc hi.h (λcl s H fp=>have#[a,b,c]:=hb cl s H fp;#[a.h,b.h,c.h]) hsw hy hx hf hs)<|by rintro D Z H ⟨O,H0,W,l,os,S,st,en,h⟩;exact G5<|ZeD st en h
end
theorem LocR.start(r:Rq O H ds vs)(N:List bx)(n:Nat)(hn:n=N.length):LocR O H (Pv.ZS n ds) (L2.start N vs):=by
 subst hn;have hl:=r.length;refine#[by unfold Pv.ZS L2.start;simp[hl],λi d e=>?_]
 unfold Pv.ZS at e;by_cases hi:i<ds.length
 .rw[bT (by simpa using hi),aM]at e
  cases q:ds[i]? with
  |none=>rw[q]at e;cases e
  |some d'=>
   rw[q]at e;cases e;obtain⟨v,hv,r'⟩:=r.get q;refine#[v,?_,r'];unfold L2.start;rw[bT (by simp;lia),aM,hv]
   rfl
 .rw[bB (by simp;lia),cT]at e
  split at e<;>cases e
theorem Eu.start{K:aq}{O:Mx}{H:Hp}{S:Zv}{ds:List D}{vs:List V}(st:St3 K O S H)(r:Rq O H ds vs)(N:List bx)(n:Nat)(hn:n=N.length):Eu O H (λ_=>ag) (Pv.ZS n ds) [] (L2.start N vs) H:=by
 have lr:=LocR.start r N n hn;refine#[Fut.refl _ _,st.xd,lr.len,λ_=>rfl,λ_ _ _ h=>?_,λ_ _ h=>?_,λ_ _ h=>?_,λi d e _=>?_]
 .cases h
 .cases h
 .cases h
 .obtain⟨v,a,b⟩:=lr.val i d e
  exact#[v,a,Rep.lat (O:=O) (ρ':=O.ex λ_=>ag) #[rfl,rfl,λ_ _ h _ _ _=>h,λ_ _ x=>Or.elim x id λ#[_,z]=>by cases z] b]
section
variable{P:bC}{w:bU}{K:aq}{mg:bx->Option ap}{base:cc}
noncomputable def J5(C:Calls)(fn:Fn)(ds:List D)(S:Zv):R D:=if ds.length=fn.ps then(Pv.rvs C (Pv.muts fn.body) fn.body (Pv.ZS fn.ns ds) [] S).bind λf S=>match f with
  |.ret x=>.ok x S
  |.nx _ _=>.ok .non S
  |_=>.no
 else .no
def jM{C:Calls}{fn:Fn}{fr:Bool}{xw:Nat->Hp->Prop}{O:Mx}{H:Hp}{ds:List D}{S:Zv}{Q:VK}{E:L2.Ends}(hE:∀v H',Q v H'->E.rt v H')(hN:∀Z H',Q .non H'->E.nx Z H')(h:End K xw (Wu fr H) O H Q (J5 C fn ds S)):Zt fr K xw O H E (Pv.rvs C (Pv.muts fn.body) fn.body (Pv.ZS fn.ns ds) [] S):=by
 obtain⟨_,h⟩:=End.guard h;cases q:Pv.rvs C (Pv.muts fn.body) fn.body (Pv.ZS fn.ns ds) [] S with
 |no=>rw[q]at h;exact h
 |ex c S2=>rw[q]at h;exact λH' f st=>h O H' f st
 |ok fl S2=>
  rw[q]at h;cases fl with|ret x=>exact λH' v f st r=>hE v H'<|h O H' v f st r|nx l os=>exact λH' σ' W' st en=>hN σ' H'<|h O H' .non en.fut st #[xN,λ_ _ z=>by cases z]|brk l os=>exact False.elim h|cnt l os=>exact False.elim h
def jh{C C':Calls}{n:Nat}{fn:Fn}{fr:Bool}{x qual:bx}{st:fG}{f:aJ}{fd:c6}{N ps:List bx}{k:Nat}(hF:∀O S H ds vs,St3 K O S H->Rq O H ds vs->C' n ds S=.no\/C' n ds S=J5 C fn ds S)(hns:fn.ns=N.length)(hps:fn.ps=ps.length)(Fu:Fun K x qual st f fd)(S:FnScope N ps (ZD st))
  (hb:∀(cdv:ap)(A:cL)(outer:List Env)(s:ax)(H:Hp)(E:XK),Room k (A.deeper<|iJ qual (ZD st) s.heap.objs.size f cdv)->
   CSs (zC CX0 P w K mg base N qual (ZD st) f cdv A outer s H E).nox (λ_ _=>False) fr C (Pv.muts fn.body) (Yi st) fn.body) :
  FnOk P w K mg base CX0 (k+1) f fd ps (spF K C' fr n):=by
 have eq:∀{O S H ds vs Q},St3 K O S H->Rq O H ds vs->End K (λ_ _=>False) (Wu fr H) O H Q (C' n ds S)->End K (λ_ _=>False) (Wu fr H) O H Q (J5 C fn ds S):=λ{O S H ds vs Q} st r h=>by
  rcases hF O S H ds vs st r with e|e
  .rw[e]at h;exact h.elim
  .rw[e]at h;exact h
 refine Fu.ok S (λvs H Q E #[O,ds,S,st,r,h]=>?_) λcdv A outer s H vs Q E hr #[O,ds,S',st,r,h]=>#[_,(hb cdv A outer s H E hr).h,O,H,λ_=>ag,Pv.ZS fn.ns ds,[],S',st,Eu.start st r N fn.ns hns,jM (λ_ _ q=>q) (λ_ _ q=>q)<|eq st r h]
 have h:=eq st r h;unfold J5 at h;obtain⟨hl,_⟩:=End.guard h;rw[r.length,hl,hps]
def xU{F:List Fn}{tk n k:Nat}{fr:Bool}{f:aJ}{fd:c6}{ps:List bx}:FnOk P w K mg base CX0 k f fd ps (spF K (Pv.Zo F tk 0) fr n):=
 #[λvs H Q E #[O,ds,S,st,r,h]=>False.elim h,by rintro A outer s H args us vs Q E hr e0 hb r ⟨O,ds,S,st,r',h⟩;exact False.elim h]
end
def G8{a b c}:aE (.Constant a b c::es) env=(ak,cD (.Constant a b c) env)::aE es env:=rfl
def xV{a b}:aE (.Name a b::es) env=(ak,cD (.Name a b) env)::aE es env:=rfl
def u6{a b c}:aE (.Tuple a b c::es) env=(ak,cD (.Tuple a b c) env)::aE es env:=rfl
def u5{a b c d}:aE (.BinOp a b c d::es) env=(ak,cD (.BinOp a b c d) env)::aE es env:=rfl
def Zcw{a b c}:aE (.UnaryOp a b c::es) env=(ak,cD (.UnaryOp a b c) env)::aE es env:=rfl
def vV{a b c d}:aE (.Compare a b c d::es) env=(ak,cD (.Compare a b c d) env)::aE es env:=rfl
def v8{a b c}:aE (.Subscript a b c::es) env=(ak,cD (.Subscript a b c) env)::aE es env:=rfl
def yV{a b c d}:aE (.Call a b c d::es) env=(ak,cD (.Call a b c d) env)::aE es env:=rfl
def xO{a b c d}:aE (.ListComp a b c d::es) env=(ak,cD (.ListComp a b c d) env)::aE es env:=rfl
def Y0:List fL->List (Int×Int)->Prop
 |[],[]=>True
 |e::r,(k,j)::q=>(∃t,e.key=.int k t)/\e.hash=pE k/\(∃u,e.val=.int j u)/\Y0 r q
 |_,_=>False
theorem Y0.mem :∀{es:List fL}{tab:List (Int×Int)},Y0 es tab->∀e∈es,∃k,(fb P w).is k e.key=aj/\e.hash=(fb P w).hash k
 |[],_,_,e,h=>by cases h
 |e::r,[],h,_,_=>h.elim
 |e::r,(k,j)::q,h,x,hx=>by
  obtain⟨⟨t,h1⟩,h2,_,h4⟩:=h;rcases aB.mp hx with rfl|hx
  .exact#[k,by rw[h1];exact gS P w k t,h2]
  .exact Y0.mem h4 x hx
theorem Y0.find(k:Int):∀{es:List fL}{tab:List (Int×Int)},Y0 es tab->(tab.lookup k=ag->(es.find? λe=>(fb P w).is k e.key)=ag)/\∀j,tab.lookup k=aa j->∃e t,(es.find? λe=>(fb P w).is k e.key)=aa e/\e.val=.int j t
 |[],[],_=>#[λ_=>rfl,λj h=>by cases h]
 |[],_::_,h=>h.elim
 |e::r,[],h=>h.elim
 |e::r,(k',j')::q,h=>by
  obtain⟨⟨t,h1⟩,h2,⟨u,h3⟩,h4⟩:=h;obtain⟨i1,i2⟩:=Y0.find k h4;rw[bL,eG];have hd:(fb P w).is k e.key=ae (k=k'):=KeyKind.is_eq_decide (by rw[h1];exact gS P w k' t) k
  rw[hd];by_cases z:k=k'
  .subst z
   rw[beq_self_eq_true,T5 rfl];exact#[λz=>(by cases z),λj z=>(by cases z;exact#[e,u,rfl,h3])]
  .rw[beq_eq_false_iff_ne.mpr z,T4 z]
   exact#[i1,i2]
def ZbW{P:bC}{w:bU}{K:aq}{a:aJ}{es:Array fL}{n:Nat}{tab:List (Int×Int)}(hl:K.lookup a=aa #[.type "dict",ag,.dict es n,#[]])(ht:Y0 es.toList tab)(ha:(a == c7)=ak):ZeY P w K a tab:=by
 refine#[ha,λk=>findBy (fb P w).is es k,λh X=>#[_,es,n,X _ _ hl,#[rfl,rfl,rfl],rfl,λe he=>ht.mem e<|lL.mpr he,λ_=>rfl],λk=>?_]
 obtain⟨l⟩:=es;obtain⟨i1,i2⟩:=Y0.find k ht;refine#[λz=>?_,λj z=>?_]
 .show((l.toArray.find? λe=>(fb P w).is k e.key).map (·.val))=ag
  rw[mM,i1 z];rfl
 .obtain⟨e,t,q1,q2⟩:=i2 j z
  refine#[t,?_];show((l.toArray.find? λe=>(fb P w).is k e.key).map (·.val))=_
  rw[mM,q1];exact congrArg aa q2
def hu7(hr:Room k A):A.units+7<du:=mN (by lia) hr.un
def u3{K:aq}{C:Calls}{n:Nat}{H:Hp}{a:aJ}{ns:List Int}(hO:Only H)(hS:SqL K H a (ns.map V.int))(h:∀s,∃S',C n [.scr ns] s=.ok (.bl aj) S'):spF K C ak n [.ref a] H (λv _=>v=.bl aj) λ_ _ _=>False:=by
 obtain⟨S',e⟩:=h (0,ak);have sc:Scr K H a ns:=by
  rcases hS with(hS|hS)|hS
  .rcases hO a with z|⟨o,xs,z⟩
   .rw[z]at hS;cases hS
   .rw[z]at hS;cases hS
  .exact .inl hS
  .exact .inr hS
 refine#[#[K,ag,λ_=>False,λ_ h=>by cases h],[.scr ns],(0,ak),#[rfl,λ_ h=>h.elim,λ_ h=>(by cases h),λP ps e=>by rcases hO P with z|⟨_,_,z⟩<;>(rw[z]at e;cases e)],Rq.cons (by unfold Rep;exact#[a,rfl,sc]) Rq.nil,?_]
 rw[e];exact λρ' H' v _ _ r=>r.1.bl'
end Sd
namespace Sd
open PySem PySem.Spec PyProof.Rows L2
def Src(b:Bool)(h:cc)(it l:aJ)(k:Nat):Prop:=match b with
 |true=>h.IsListIter it l k
 |false=>h.IsTupleIter it l k
def Yz(b:Bool)(h:cc)(l:aJ)(xs:Array ap):Prop:=match b with
 |true=>h.IsList l xs
 |false=>h.IsTuple l xs
def Src.ext(x:Src b h it l k)(e:gu c h h')(n:it≠c):Src b h' it l k:=by
 cases b
 .exact cc.IsTupleIter.extBut x e n
 .exact cc.IsListIter.extBut x e n
def Src.keep(x:Src b h it l k)(e:∀o,h.get? it=aa o->h'.get? it=aa o):Src b h' it l k:=by
 cases b
 .obtain⟨o,ho,r⟩:=x;exact#[o,e o ho,r]
 .obtain⟨o,ho,r⟩:=x;exact#[o,e o ho,r]
def Src.obj(x:Src b h it l k):∃o,h.get? it=aa o/\∀v,o.data≠.cell v:=by
 cases b
 .obtain⟨o,ho,_,d⟩:=x;exact#[o,ho,λv z=>by rw[d]at z;cases z]
 .obtain⟨o,ho,_,d⟩:=x;exact#[o,ho,λv z=>by rw[d]at z;cases z]
def Yz.keep(x:Yz b h l xs)(e:∀o,h.get? l=aa o->h'.get? l=aa o):Yz b h' l xs:=by
 cases b
 .obtain⟨o,ho,r⟩:=x;exact#[o,e o ho,r]
 .obtain⟨o,ho,r⟩:=x;exact#[o,e o ho,r]
def uJ{Q:ap->ax->Prop}(hit:s.heap.IsTupleIter it t i)(ht:s.heap.IsTuple t items)(hx:items[i]?=aa x)
  (hQ:∀h',h'.IsTupleIter it t (i+1)->dU it s.heap h'->Q x {s with heap:=h' }):aV (aS prog w) A (eE<|.ref it) Q E s:=by
 obtain⟨o,ho,hc,hd⟩:=id hit;obtain⟨ol,hol,_,nl,hdl⟩:=ht;refine ab<|cC hit.typeIs eg<|cg eg hit.typeIs iD ?_<|im _;show aV _ _ (field (.ref it) 0 >>= _) _ _ s;refine ab<|da ho hd rfl ?_;show aV _ _ (if(bV t == bh)=aj then _ else _) _ _ s
 rw[T8 (by exact aG)];refine ab<|da ho hd rfl ?_
 refine ab<|ei hol hdl ?_;simp only[dv,hx];refine ab<|eT ho hd (by simp)<|au #[x,rfl,au<|hQ _ #[_,de _ ho<|eA<|cU hd _,(fC ..).trans hc,?_]<|cx ..]
 rw[cU hd];simp[fw]
def JB{Q:ap->ax->Prop}(hh:A.handled=ag)(hit:s.heap.IsTupleIter it t i)(ht:s.heap.IsTuple t items)(hx:items[i]?=ag)
  (hE:∀h' e,gu it s.heap h'->(∃o,h'.get? e=aa o/\o.cls=.type "StopIteration")->E (.ref e) {s with heap:=h' }):aV (aS prog w) A (eE<|.ref it) Q E s:=by
 obtain⟨o,ho,hc,hd⟩:=id hit;obtain⟨ol,hol,_,nl,hdl⟩:=ht;refine ab<|cC hit.typeIs eg<|cg eg hit.typeIs iD ?_<|im _;show aV _ _ (field (.ref it) 0 >>= _) _ _ s;refine ab<|da ho hd rfl ?_;show aV _ _ (if(bV t == bh)=aj then _ else _) _ _ s
 rw[T8 (by exact aG)];refine ab<|da ho hd rfl ?_
 refine ab<|ei hol hdl ?_;simp only[dv,hx];refine ab<|d7<|ab<|eT ho hd (by simp) ?_;show aV _ _ (oV (.type "StopIteration") [] >>= _) _ _ _
 refine ab ?_;simp only[oV,oW];refine ab<|bD ?_ (by size_fits)
 refine ab (eY (by first|rfl|(simp only[gF];rfl))<|bD ?_ (by size_fits))
 simp only[raiseNew];refine ab<|mv ?_;first|rw[hh]|rw[hh]
 exact ab<|au<|oj<|hE _ _ (((cx ..).extBut.push _).push _) #[_,aD _ rfl,rfl]
def WY{Q:ap->ax->Prop}(hit:Src b s.heap it l k)(hl:Yz b s.heap l xs)(hx:xs[k]?=aa x)
  (hQ:∀h',Src b h' it l (k+1)->dU it s.heap h'->Q x {s with heap:=h' }):aV (aS prog w) A (eE<|.ref it) Q E s:=by
 cases b
 .exact uJ hit hl hx hQ
 .exact wpAny_nextOf_list_item hit hl hx hQ
def Jh{Q:ap->ax->Prop}(hh:A.handled=ag)(hit:Src b s.heap it l k)(hl:Yz b s.heap l xs)(hx:xs[k]?=ag)
  (hE:∀h' e,gu it s.heap h'->(∃o,h'.get? e=aa o/\o.cls=.type "StopIteration")->E (.ref e) {s with heap:=h' }):aV (aS prog w) A (eE<|.ref it) Q E s:=by
 cases b
 .exact JB hh hit hl hx hE
 .exact wpAny_nextOf_list_end hh hit hl hx hE
noncomputable def Ys(b:Bool)(l:aJ):fA:={cls:=.type (if b then "list_iterator" else "tuple_iterator"),data:=.fields [.ref l,.int 0 0].toArray}
def Ug{Q:ap->ax->Prop}(hl:Yz b s.heap l xs)(h:Q (.ref s.heap.objs.size) {s with heap:=s.heap.push (Ys b l)}):aV (aS prog w) A (mE<|.ref l) Q E s:=by
 cases b
 .exact gg hl h
 .exact eL hl h
structure ZipSt(b1 b2:Bool)(z TI TO i1 i2 l1 l2:aJ)(k:Nat)(f0:ap)(h:cc):Prop where
 zp:om h z TI TO f0
 ti:k8 h TI (.ref i1) (.ref i2)
 to:∃a b,k8 h TO a b
 s1:Src b1 h i1 l1 k
 s2:Src b2 h i2 l2 k
def qI{b1 b2:Bool}{z TI TO i1 i2 l1 l2:aJ}{k:Nat}{xs ys:Array ap}{x y:ap}{Q:ap->ax->Prop}(D:lQ z TI TO i1 i2 l1 l2)(Z:ZipSt b1 b2 z TI TO i1 i2 l1 l2 k .none s.heap)(hl1:Yz b1 s.heap l1 xs)(hl2:Yz b2 s.heap l2 ys)(hx:xs[k]?=aa x)(hy:ys[k]?=aa y)
  (hQ:∀h',ZipSt b1 b2 z TI TO i1 i2 l1 l2 (k+1) (fw s.heap.objs.size) h'->k8 h' s.heap.objs.size x y->(∀c o,c∉[z,TO,i1,i2]->s.heap.get? c=aa o->h'.get? c=aa o)->Q (.ref s.heap.objs.size) {s with heap:=h' }) :
  aV (aS prog w) A (db.«zip.__next__» #[[.ref z],[]]) (λfin s'=>∃v,fin=.done (.ret v)/\Q v s') E s:=by
 obtain⟨hz,hTI,⟨a,b,hTO⟩,h1,h2⟩:=Z;show aV _ _ (field (.ref z) 2 >>= _) _ _ _;refine ab<|da hz rfl (x:=.bool ak) rfl ?_;refine ab<|da hz rfl (x:=.ref TI) rfl<|ab<|ei hTI rfl ?_;refine ab ?_;refine ab<|da hz rfl (x:=.none) rfl<|au ?_;simp only[if_true];refine ab<|d7<|ab<|da hz rfl (x:=.ref TO) rfl<|ab<|ej hz (by simp) λh₁ hz₁ hs₁=>?_
 replace hz₁:om h₁ z TI TO .ellipsis:=by exact hz₁
 refine ab ?_;simp only[kN,oz,fk,lR];refine ab<|ab<|kA ?_;refine ab<|WY (h1.ext hs₁.extBut D.i1z) (hl1.keep λo e=>hs₁.extBut _ o D.l1z e) hx λh₂ h1₂ hs₂=>au ?_
 have hTO₂:k8 h₂ TO a b:=by exact hs₂.extBut _ _ D.TOi1<|hs₁.extBut _ _ D.TOz hTO
 refine ab<|ei hTO₂ rfl<|ab<|g9 hTO₂ λh₃ hTO₃ hs₃=>?_
 replace hTO₃:k8 h₃ TO x b:=by exact hTO₃
 refine ab<|on<|au<|ab<|ab<|kA ?_;have to3:∀c o,c≠z->c≠TO->c≠i1->s.heap.get? c=aa o->h₃.get? c=aa o:=λc o c1 c2 c3 e=>hs₃.extBut _ _ c2<|hs₂.extBut _ _ c3<|hs₁.extBut _ _ c1 e
 refine ab<|WY (h2.keep λo e=>to3 _ o D.i2z D.TOi2.symm D.i12.symm e) (hl2.keep λo e=>to3 _ o D.l2z D.l2TO D.l2i1 e) hy λh₄ h2₄ hs₄=>au ?_
 have hTO₄:k8 h₄ TO x b:=by exact hs₄.extBut _ _ D.TOi2 hTO₃
 refine ab<|ei hTO₄ rfl<|ab<|g9 hTO₄ λh₅ hTO₅ hs₅=>?_
 replace hTO₅:k8 h₅ TO x y:=by exact hTO₅
 refine ab<|on<|au<|au<|ab<|ei hTO₅ rfl<|ab<|wpAny_newTuple ?_;have hsz:h₅.objs.size=s.heap.objs.size:=by rw[hs₅.1,hs₄.1,hs₃.1,hs₂.1,hs₁.1]
 have to5:=λc o c1 c2 c3 c4 e=>hs₅.extBut _ _ c2<|hs₄.extBut _ _ c4<|to3 c o c1 c2 c3 e
 have hz₅:om h₅ z TI TO .ellipsis:=by exact hs₅.extBut _ _ D.TOz.symm<|hs₄.extBut _ _ D.i2z.symm<|hs₃.extBut _ _ D.TOz.symm<|hs₂.extBut _ _ D.i1z.symm hz₁
 have h1₅:Src b1 h₅ i1 l1 (k+1):=((h1₂.ext hs₃.extBut D.TOi1.symm).ext hs₄.extBut D.i12).ext hs₅.extBut D.TOi1.symm;have h2₅:Src b2 h₅ i2 l2 (k+1):=h2₄.ext hs₅.extBut D.TOi2.symm;have zl:z<h₅.objs.size:=aC hz₅;refine ab ?_;have hz₆:om (h₅.push {cls:=.type "tuple",data:=.seq [x,y].toArray}) z TI TO .ellipsis:=by exact ao _ hz₅
 refine ab<|ej hz₆ (by simp) λh₇ hz₇ hs₇=>?_
 replace hz₇:om h₇ z TI TO (fw h₅.objs.size):=by exact hz₇
 refine ej hz₇ (by simp) λh₈ hz₈ hs₈=>au #[_,rfl,?_]
 replace hz₈:om h₈ z TI TO (fw h₅.objs.size):=by exact hz₈
 have up:∀c o,c≠z->h₅.get? c=aa o->h₈.get? c=aa o:=λc o c1 e=>by exact hs₈.extBut _ _ c1<|hs₇.extBut _ _ c1<|ao _ e
 have hT₈:k8 h₈ h₅.objs.size x y:=by exact hs₈.extBut _ _ (eI zl)<|hs₇.extBut _ _ (eI zl)<|aD _ rfl
 show Q (.ref h₅.objs.size) _;rw[hsz]at hz₈ hT₈ ⊢;refine hQ h₈ #[hz₈,up _ _ D.TIz<|to5 _ _ D.TIz D.TITO D.TIi1 D.TIi2 hTI,#[x,y,up _ _ D.TOz hTO₅],h1₅.keep λo e=>up _ o D.i1z e,h2₅.keep λo e=>up _ o D.i2z e] hT₈ λc o hc e=>?_
 simp only[aB,ck,or_false,not_or]at hc;exact up c o hc.1<|to5 c o hc.1 hc.2.1 hc.2.2.1 hc.2.2.2 e
def UL{b1 b2:Bool}{z TI TO i1 i2 l1 l2:aJ}{k:Nat}{xs ys:Array ap}{Q:Fin->ax->Prop}(hh:A.handled=ag)(D:lQ z TI TO i1 i2 l1 l2)(Z:ZipSt b1 b2 z TI TO i1 i2 l1 l2 k .none s.heap)(hl1:Yz b1 s.heap l1 xs)(hl2:Yz b2 s.heap l2 ys)(hend:xs[k]?=ag\/ys[k]?=ag)
  (hE:∀h' e,(∀c o,c∉[z,TO,i1,i2]->s.heap.get? c=aa o->h'.get? c=aa o)->(∃o,h'.get? e=aa o/\o.cls=.type "StopIteration")->E (.ref e) {s with heap:=h' }) :
  aV (aS prog w) A (db.«zip.__next__» #[[.ref z],[]]) Q E s:=by
 obtain⟨hz,hTI,⟨a,b,hTO⟩,h1,h2⟩:=Z;have hk:∀{c:aJ},c∉[z,TO,i1,i2]->c≠z/\c≠TO/\c≠i1/\c≠i2:=λhc=>by
  simp only[aB,ck,or_false,not_or]at hc;exact hc
 show aV _ _ (field (.ref z) 2 >>= _) _ _ _;refine ab<|da hz rfl rfl ?_;refine ab<|da hz rfl (x:=.ref TI) rfl<|ab<|ei hTI rfl ?_;refine ab ?_;refine ab<|da hz rfl (x:=.none) rfl<|au ?_;simp only[if_true];refine ab<|d7<|ab<|da hz rfl (x:=.ref TO) rfl<|ab<|ej hz (by simp) λh₁ hz₁ hs₁=>?_
 replace hz₁:om h₁ z TI TO .ellipsis:=by exact hz₁
 refine ab ?_;simp only[kN,oz,fk,lR];refine ab<|ab<|kA ?_;have l1₁:=hl1.keep λo e=>hs₁.extBut _ o D.l1z e
 cases hx:xs[k]? with
 |none=>
  refine ab<|Jh hh (h1.ext hs₁.extBut D.i1z) l1₁ hx λh₂ e hs₂ he=>?_
  obtain⟨oe,hoe,hce⟩:=he;have hz₂:om h₂ z TI TO .ellipsis:=by exact hs₂ _ _ D.i1z.symm hz₁
  have hez:e≠z:=λx=>by subst x;rw[hz₂]at hoe;cases hoe;simp at hce
  exact ej hz₂ (by simp) λh₃ _ hs₃=>hE h₃ e (λc o hc x=>hs₃.extBut _ _ (hk hc).1<|hs₂ _ _ (hk hc).2.2.1<|hs₁.extBut _ _ (hk hc).1 x) #[oe,hs₃.extBut _ _ hez hoe,hce]
 |some x=>
  have hy:ys[k]?=ag:=by rcases hend with q|q;rw[hx]at q;cases q;exact q
  refine ab<|WY (h1.ext hs₁.extBut D.i1z) l1₁ hx λh₂ h1₂ hs₂=>au ?_
  have hTO₂:k8 h₂ TO a b:=by exact hs₂.extBut _ _ D.TOi1<|hs₁.extBut _ _ D.TOz hTO
  refine ab<|ei hTO₂ rfl<|ab<|g9 hTO₂ λh₃ hTO₃ hs₃=>?_
  refine ab<|on<|au<|ab<|ab<|kA ?_;have to3:∀c o,c≠z->c≠TO->c≠i1->s.heap.get? c=aa o->h₃.get? c=aa o:=λc o c1 c2 c3 e=>hs₃.extBut _ _ c2<|hs₂.extBut _ _ c3<|hs₁.extBut _ _ c1 e
  refine ab<|Jh hh (h2.keep λo e=>to3 _ o D.i2z D.TOi2.symm D.i12.symm e) (hl2.keep λo e=>to3 _ o D.l2z D.l2TO D.l2i1 e) hy λh₄ e hs₄ he=>?_
  obtain⟨oe,hoe,hce⟩:=he;have hz₄:om h₄ z TI TO .ellipsis:=by exact hs₄ _ _ D.i2z.symm<|hs₃.extBut _ _ D.TOz.symm<|hs₂.extBut _ _ D.i1z.symm hz₁
  have hez:e≠z:=λx=>by subst x;rw[hz₄]at hoe;cases hoe;simp at hce
  exact ej hz₄ (by simp) λh₅ _ hs₅=>hE h₅ e (λc o hc x=>hs₅.extBut _ _ (hk hc).1<|hs₄ _ _ (hk hc).2.2.2<|to3 c o (hk hc).1 (hk hc).2.1 (hk hc).2.2.1 x) #[oe,hs₅.extBut _ _ hez hoe,hce]
def z8{b1 b2:Bool}{z TI TO i1 i2 l1 l2:aJ}{k:Nat}{xs ys:Array ap}{x y:ap}{Q:Option ap->ax->Prop}(D:lQ z TI TO i1 i2 l1 l2)(Z:ZipSt b1 b2 z TI TO i1 i2 l1 l2 k .none s.heap)(hl1:Yz b1 s.heap l1 xs)(hl2:Yz b2 s.heap l2 ys)(hx:xs[k]?=aa x)(hy:ys[k]?=aa y)
  (hQ:∀h',ZipSt b1 b2 z TI TO i1 i2 l1 l2 (k+1) (fw s.heap.objs.size) h'->k8 h' s.heap.objs.size x y->(∀c o,c∉[z,TO,i1,i2]->s.heap.get? c=aa o->h'.get? c=aa o)->Q (aa<|.ref s.heap.objs.size) {s with heap:=h' }) :
  aV (aS prog w) A (ku<|.ref z) Q E s:=by
 have hT:s.TypeIs (.ref z) "zip":=#[_,Z.zp,rfl];exact ab<|fZ<|cC hT ip<|cg ip hT nU (qI D Z hl1 hl2 hx hy λh' a1 a2 a3=>au<|hQ h' a1 a2 a3)<|nt _
def UE{b1 b2:Bool}{z TI TO i1 i2 l1 l2:aJ}{k:Nat}{xs ys:Array ap}{Q:Option ap->ax->Prop}(hh:A.handled=ag)(D:lQ z TI TO i1 i2 l1 l2)(Z:ZipSt b1 b2 z TI TO i1 i2 l1 l2 k .none s.heap)(hl1:Yz b1 s.heap l1 xs)(hl2:Yz b2 s.heap l2 ys)(hend:xs[k]?=ag\/ys[k]?=ag)
  (hQ:∀h',(∀c o,c∉[z,TO,i1,i2]->s.heap.get? c=aa o->h'.get? c=aa o)->Q ag {s with heap:=h' }):aV (aS prog w) A (ku<|.ref z) Q E s:=by
 have hT:s.TypeIs (.ref z) "zip":=#[_,Z.zp,rfl];refine ab<|fZ<|cC hT ip<|cg ip hT nU (UL hh D Z hl1 hl2 hend λh' e hk he=>?_)<|nt _
 obtain⟨o,ho,hc⟩:=he;exact ab<|d6 #[o,ho,hc] lT<|au<|hQ _ hk
noncomputable def zH1(h:cc)(b1:Bool)(l1:aJ):cc:=h.push<|Ys b1 l1
noncomputable def zH2(h:cc)(b1 b2:Bool)(l1 l2:aJ):cc:=(zH1 h b1 l1).push<|Ys b2 l2
noncomputable def zH3(h:cc)(b1 b2:Bool)(l1 l2:aJ):cc:=(zH2 h b1 b2 l1 l2).push {cls:=.type "tuple",data:=.seq [.ref h.objs.size,.ref (zH1 h b1 l1).objs.size].toArray}
noncomputable def zH4(h:cc)(b1 b2:Bool)(l1 l2:aJ):cc:=(zH3 h b1 b2 l1 l2).push {cls:=.type "tuple",data:=.seq [.none,.none].toArray}
noncomputable def zH5(h:cc)(b1 b2:Bool)(l1 l2:aJ):cc:=(zH4 h b1 b2 l1 l2).push {cls:=.type "zip",data:=.fields [.none,.bool ak,.bool ak,.ref (zH2 h b1 b2 l1 l2).objs.size,.ref (zH3 h b1 b2 l1 l2).objs.size].toArray}
def Zbf(b1 b2:Bool)(l1 l2:aJ)(xs ys:Array ap) :
  oS (db.«zip.__new__» #[[.type "zip",.ref l1,.ref l2],[]]) (λ_ R s=>Yz b1 s.heap l1 xs/\Yz b2 s.heap l2 ys/\R (.ok<|.ret<|.ref (zH4 s.heap b1 b2 l1 l2).objs.size) {s with heap:=zH5 s.heap b1 b2 l1 l2}):=
 .of_wp λprog w A R s h=>by
  obtain⟨hp,g,d,tk,os⟩:=s;obtain⟨hl1,hl2,h⟩:=h;have hsub:=sub_zip;have hL1:=hl1;have hL2:Yz b2 (ax.heap #[hp.push<|Ys b1 l1,g,d,tk,os]) l2 ys:=hl2.keep λo e=>ao _ e
  wp_walk using Ug hL1,Ug hL2
  exact#[_,rfl,h]
def qO{Q:ap->ax->Prop}(hl1:Yz b1 s.heap l1 xs)(hl2:Yz b2 s.heap l2 ys)
  (h:∀h' n,n=s.heap.objs.size->ZipSt b1 b2 (n+4) (n+2) (n+3) n (n+1) l1 l2 0 .none h'->(∀c o,s.heap.get? c=aa o->h'.get? c=aa o)->Q (.ref<|n+4) {s with heap:=h' }) :
  aV (aS prog w) A (call (.type "zip") [.ref l1,.ref l2]) Q E s:=by
 refine callType_new F.called_zip (by decide) (F.typeCall_zip_2 _ _) (F.newCall_zip_2 _ _) (λobj=>F.args_object_init_3 obj _ _) F.entry_zip_new (Zbf b1 b2 l1 l2 xs ys) #[hl1,hl2,?_]
 have z1:(zH1 s.heap b1 l1).objs.size=s.heap.objs.size+1:=cH ..;have z2:(zH2 s.heap b1 b2 l1 l2).objs.size=s.heap.objs.size+2:=by unfold zH2;rw[cH,z1]
 have z3:(zH3 s.heap b1 b2 l1 l2).objs.size=s.heap.objs.size+3:=by unfold zH3;rw[cH,z2]
 have z4:(zH4 s.heap b1 b2 l1 l2).objs.size=s.heap.objs.size+4:=by unfold zH4;rw[cH,z3]
 have g5:(zH5 s.heap b1 b2 l1 l2).get? (zH4 s.heap b1 b2 l1 l2).objs.size=aa {cls:=.type "zip",data:=.fields [.none,.bool ak,.bool ak,.ref (zH2 s.heap b1 b2 l1 l2).objs.size,.ref (zH3 s.heap b1 b2 l1 l2).objs.size].toArray}:=aD _ rfl;have k4:∀c o,(zH4 s.heap b1 b2 l1 l2).get? c=aa o->(zH5 s.heap b1 b2 l1 l2).get? c=aa o:=λc o e=>ao _ e
 have k3:=λc o e=>k4 c o<|ao _ e
 have k2:=λc o e=>k3 c o<|ao _ e
 have k1:=λc o e=>k2 c o<|ao _ e
 have g4:=k4 _ _<|aD (zH3 s.heap b1 b2 l1 l2) rfl;have g3:=k3 _ _<|aD (zH2 s.heap b1 b2 l1 l2) rfl;have g2:=k2 _ _<|aD (zH1 s.heap b1 l1) rfl;have g1:=k1 _ _<|aD s.heap rfl;rw[z2,z3,z4]at g5;rw[z1,z2]at g3;rw[z3]at g4;rw[z1]at g2;rw[z4];have src:∀b l it,(zH5 s.heap b1 b2 l1 l2).get? it=aa (Ys b l)->Src b (zH5 s.heap b1 b2 l1 l2) it l 0:=λb l it e=>by
  cases b
  .exact#[_,e,rfl,rfl]
  .exact#[_,e,rfl,rfl]
 exact#[#[_,g5,rfl],h _ _ rfl #[g5,g3,#[_,_,g4],src b1 l1 _ g1,src b2 l2 _ g2] λc o e=>k1 c o<|ao _ e]
open Ev (E Sm Fn Bop Cop Ty Bf Mf)
def X1{X:Cx}{pq:List (aJ×fA)}{Z:L2.St}{H:Hp}{s:ax}{h':cc}{t':Nat}{ch:List aJ}(I:Inv X pq Z H s)(k:∀b o,b∉ch->s.heap.get? b=aa o->h'.get? b=aa o)(hf:∀b∈ch,Vd X pq H b):Inv X pq Z H {s with heap:=h',toks:=t' }:=by
 have nit:∀b u,H b=aa u->b∉ch:=λb u e z=>by have:=(hf b z).1;rw[e]at this;cases this
 refine I.step (g':=s.gens) (d':=s.drawn) (λb hb=>?_) (λb o _ _ hc e _=>k b o hc e) (λb o _ _ hc e _=>#[o.slots,k b o hc e]) (λ_ _ _ _ n=>n) (λb o hc e=>#[o,k b o hc e]) (λ_ _ e=>e) (λ_ _ _ e=>e) (λb ps e=>#[#[],by rw[e];simp]) (λm hm=>?_) (λb u e=>?_) I.bare
 .exact#[(hf b hb).2.2.2.1,(hf b hb).2.1,(hf b hb).2.2.2.2.1,(hf b hb).2.2.2.2.2]
 .obtain⟨o,es,ep,ho,r⟩:=hm
  exact#[o,es,ep,k _ o (λz=>(hf _ z).2.1 rfl) ho,r]
 .refine(I.hok b u e).stay (λc v hc q=>k c v ?_ q) (λ_ q=>q) λ_ _ q=>q
  rcases hc with z|z
  .rw[z];exact nit b u e
  .exact nit c _ z
def Qr{h:cc}{o o':fA}{b:aJ}(e:(h.push o').get? b=aa o)(n:b≠h.objs.size):h.get? b=aa o:=by
 unfold cc.get? cc.push at *;simp only[Array.getElem?_push]at e;rw[T8 n]at e;exact e
def Xz{a b:Nat}(h:a<b\/b<a):(a:aJ)≠b:=λe=>by
 have e':=e;omega
def Sq(b:Bool)(K:aq)(H:Hp)(l:aJ)(xs:List V):Prop:=match b with
 |true=>SqL K H l xs
 |false=>SqT K H l xs
def YY(I:Inv X pq Z H s)(h:Sq b X.K H l xs):∃its:List ap,Vals xs its/\Yz b s.heap l its.toArray:=by
 cases b
 .obtain⟨its,r,p,_⟩:=I.tuple h;exact#[its,r,p]
 .obtain⟨its,r,p,_⟩:=I.list h;exact#[its,r,p.isList]
def yi(I:Inv X pq Z H s)(h:Sq b X.K H l xs)(h':Sq b X.K H l ys):xs=ys:=by
 cases b
 .exact I.tuple_inj h h'
 .exact I.list_inj h h'
def VX(x:Yz b h l xs):l<h.objs.size:=by
 cases b
 .obtain⟨o,ho,_⟩:=x;exact aC ho
 .obtain⟨o,ho,_⟩:=x;exact aC ho
noncomputable def Itz(K:aq)(b1 b2:Bool)(l1 l2:aJ):It:=
 #[λi H=>∃xs ys x y,Sq b1 K H l1 xs/\Sq b2 K H l2 ys/\xs[i]?=aa x/\ys[i]?=aa y,
  λi H v H'=>∃T x y,(∀xs,Sq b1 K H l1 xs->xs[i]?=aa x)/\(∀ys,Sq b2 K H l2 ys->ys[i]?=aa y)/\H T=ag/\H'=upd H T (.tup [x,y])/\v=.ref T,
  λi H=>∃xs ys,Sq b1 K H l1 xs/\Sq b2 K H l2 ys/\(xs.length<=i\/ys.length<=i)]
def ua{P:bC}{w:bU}{K:aq}{elts:List Expr}{kk:Nat}{tp:gW}{b1 b2:Bool}{z TI TO i1 i2 l1 l2:aJ}(D:lQ z TI TO i1 i2 l1 l2) :
  Turn P w K (.Tuple elts kk tp) (Itz K b1 b2 l1 l2) [z,TI,TO,i1,i2] z (λi h=>ZipSt b1 b2 z TI TO i1 i2 l1 l2 i .none h) where
 mem:=by simp
 obj:=λi h st b hb=>by
  simp only[aB,ck,or_false]at hb;obtain⟨a,c,hTO⟩:=st.to;rcases hb with e|e|e|e|e<;>subst e
  .exact#[_,st.zp,λv q=>by cases q]
  .exact#[_,st.ti,λv q=>by cases q]
  .exact#[_,hTO,λv q=>by cases q]
  .exact st.s1.obj
  .exact st.s2.obj
 keep:=λi h h' st k=>by
  obtain⟨a,c,hTO⟩:=st.to;exact#[k z (by simp) _ st.zp,k TI (by simp) _ st.ti,#[a,c,k TO (by simp) _ hTO],st.s1.keep λo e=>k i1 (by simp) o e,st.s2.keep λo e=>k i2 (by simp) o e]
 item:=by
  intro X hP hw hK hc i pq s Z H E I hf st hg;subst hP hw hK;obtain⟨xs,ys,x,y,hq1,hq2,hx,hy⟩:=hg;obtain⟨its,rv,o1⟩:=YY I hq1;obtain⟨its2,rv2,o2⟩:=YY I hq2;obtain⟨u,hu,ru⟩:=rv.get hx;obtain⟨u2,hu2,ru2⟩:=rv2.get hy;refine z8 D st o1 o2 (x:=u) (y:=u2) (by simpa using hu) (by simpa using hu2) λh' Z' hT hk=>?_
  have hfree:=I.hok.fresh<|aH _;have ltz:∀b∈[z,TI,TO,i1,i2],b≠s.heap.objs.size:=λb hb e=>by
   simp only[aB,ck,or_false]at hb;obtain⟨a,c,hTO⟩:=st.to;rcases hb with q|q|q|q|q<;>subst q
   .exact T7 (aC st.zp) (by rw[e];exact bw _)
   .exact T7 (aC st.ti) (by rw[e];exact bw _)
   .exact T7 (aC hTO) (by rw[e];exact bw _)
   .obtain⟨o,ho,_⟩:=st.s1.obj;exact T7 (aC ho) (by rw[e];exact bw _)
   .obtain⟨o,ho,_⟩:=st.s2.obj;exact T7 (aC ho) (by rw[e];exact bw _)
  have IA:Inv X pq Z (upd H s.heap.objs.size<|.tup [x,y]) {s with heap:=s.heap.push {cls:=.type "tuple",data:=.seq [u,u2].toArray},toks:=s.toks}:=
   I.laid (λb o e=>ao _ e) (aH _) #[by show 2<=aZ;decide,[u,u2],.cons ru<|.cons ru2 .nil,iF _ _]
  have hf2:∀b∈[z,TI,TO,i1,i2],Vd X pq (upd H s.heap.objs.size<|.tup [x,y]) b:=λb hb=>#[by rw[Zp<|ltz b hb];exact(hf b hb).1,(hf b hb).2]
  have IB:Inv X pq Z (upd H s.heap.objs.size<|.tup [x,y]) {s with heap:=h',toks:=s.toks}:=by
   refine X1 (s:={s with heap:=s.heap.push {cls:=.type "tuple",data:=.seq [u,u2].toArray},toks:=s.toks}) (ch:=[z,TO,i1,i2]) IA (λb o hb e=>?_) λb hb=>hf2 b (by simp only[aB,ck,or_false]at hb ⊢;rcases hb with q|q|q|q<;>simp[q])
   by_cases hbs:b=s.heap.objs.size
   .subst hbs
    have e':=e;rw[aD _ rfl]at e';cases e';exact hT
   .refine hk b o hb ?_
    have e':=e;have hlt:=aC e';rw[cH]at hlt;exact Qr e' hbs
  refine#[.ref s.heap.objs.size,rfl,wpAny_letOwnedTupleGo_zip Z'.zp λh2 hz2 hs2=>?_]
  have IC:Inv X pq Z (upd H s.heap.objs.size<|.tup [x,y]) {s with heap:=h2,toks:=s.toks}:=X1 (s:={s with heap:=h',toks:=s.toks}) (ch:=[z]) IB (λb o hb e=>(hs2.2 b<|by simpa using hb).trans e) λb hb=>hf2 b (by simp only[bg]at hb;simp[hb])
  obtain⟨a,c,hTO⟩:=Z'.to;refine#[.ref s.heap.objs.size,_,IC,rfl,#[_,x,y,λzs hz=>by rw[yi I hz hq1];exact hx,λzs hz=>by rw[yi I hz hq2];exact hy,hfree,rfl,rfl],?_,λb hb=>(hf2 b hb).1]
  exact#[hz2,hs2.extBut _ _ D.TIz Z'.ti,#[a,c,hs2.extBut _ _ D.TOz hTO],Z'.s1.ext hs2.extBut D.i1z,Z'.s2.ext hs2.extBut D.i2z]
 done:=by
  intro X hP hw hK hc i pq s Z H E I hf st hg;subst hP hw hK;obtain⟨xs,ys,hq1,hq2,hend⟩:=hg;obtain⟨its,rv,o1⟩:=YY I hq1;obtain⟨its2,rv2,o2⟩:=YY I hq2;have e1:=rv.length;have e2:=rv2.length;refine UE (I.ok.hd hc) D st o1 o2 (by rcases hend with q|q;exact .inl (by simp;omega);exact .inr<|by simp;omega) λh' hk=>#[rfl,X1 (t':=s.toks) (ch:=[z,TO,i1,i2]) I (λb o hb e=>hk b o hb e) λb hb=>hf b (by simp only[aB,ck,or_false]at hb ⊢;rcases hb with q|q|q|q<;>simp[q])]
 self:=λ_ _ _ _ _ st h=>wpAny_pyIter_zip st.zp h
def ZfA(K:aq)(ta:TA):TI:=λZ H R=>ta Z H λvs H1=>∃b1 b2 l1 l2,vs=[.ref l1,.ref l2]/\(∃xs,Sq b1 K H1 l1 xs)/\(∃ys,Sq b2 K H1 l2 ys)/\R (Itz K b1 b2 l1 l2) H1
def ZdL{a b:Expr}{ta:TA}{p pos:gW}(hg:Gl X "zip")(hm:X.mg "zip" = ag)(ha:PA X [a,b] ta)(hs:aE [a,b] X.env=[(ak,cD a X.env),(ak,cD b X.env)]:=by rfl)(hs2:aE [b] X.env=[(ak,cD b X.env)]:=by rfl) :
  PI X (.Tuple elts kk tp) (.Call (.Name "zip" p) [a,b] [] pos) (ZfA X.K ta):=by
 intro pq s Z H R I h;refine Call_<|YX I hg hm (by rfl)<|cQ (thn (ha pos pq s Z H _ I h) λus s1 #[vs,H1,I1,r1,q1]=>?_) (by rw[hs,hs2]) (by rw[hs2];rfl)
 obtain⟨b1,b2,l1,l2,e,⟨xs,hq1⟩,⟨ys,hq2⟩,q⟩:=q1;subst e;cases r1 with
 |cons r rr=>
  cases rr with
  |cons r' rr=>
   cases rr;cases r;cases r';obtain⟨its,rv,o1⟩:=YY I1 hq1;obtain⟨its2,rv2,o2⟩:=YY I1 hq2;have lt1:=VX o1;have lt2:=VX o2;refine qO o1 o2 λh' n hn Y hk=>?_
   have I2:=I1.kept (t':=s1.toks) hk
   have q1:(l1:Nat)<n:=by rw[hn];exact lt1
   have q2:(l2:Nat)<n:=by rw[hn];exact lt2
   have D:lQ (n+4) (n+2) (n+3) n (n+1) l1 l2:=by constructor<;>first|exact Xz (by omega)|exact Xz<|.inl<|bu q1<|eU n _|exact Xz<|.inl<|bu q2<|eU n _|exact Xz<|.inl q1|exact Xz<|.inl q2
   refine wpAny_pyIter_zip Y.zp #[n+4,[n+4,n+2,n+3,n,n+1],_,_,H1,rfl,I2,ua D,Y,λb hb=>?_,q]
   have hbn:s1.heap.objs.size<=b:=by
    rw[<-hn];simp only[aB,ck,or_false]at hb;rcases hb with e|e|e|e|e<;>rw[e]
    .exact eU n 4
    .exact eU n 2
    .exact eU n 3
    .exact aH n
    .exact eU n 1
   exact I1.fpOk hbn<|I1.hok.fresh hbn
def Side(K:aq)(O:Mx)(H:Hp)(wk:List D)(b:Bool)(l:aJ):Prop:=∀ρ' H',Lat O H ρ' H'->∃vs,Sq b K H' l vs/\Rq ρ' H' wk vs
def JJ{K:aq}{O:Mx}{H:Hp}{x:D}{v:V}{wk:List D}(hk:O.K=K)(r:Rep O H x v)(h:Pv.Yu x=aa wk):∃b l,v=.ref l/\(∃xs,Sq b K H l xs)/\Side K O H wk b l:=by
 cases x with
 |tup ds=>
  obtain⟨a,xs,rfl,hp,rs⟩:=r.tup';cases h;exact#[ak,a,rfl,#[xs,SqT.of hp],λρ' H' f=>#[xs,SqT.of (f.keep a _ hp λ_ z=>by cases z),rs.lat f]]
 |lst ds=>
  obtain⟨a,xs,rfl,hp,hx,rs⟩:=r.lst';cases h;exact#[aj,a,rfl,#[xs,SqL.of hp],λρ' H' f=>#[xs,SqL.of<|f.keep a _ hp λ_ _=>hx,rs.lat f]]
 |scr ns=>
  obtain⟨a,rfl,hp⟩:=r.scr';cases h;rw[hk]at hp;refine#[aj,a,rfl,#[_,hp.sq],λρ' H' f=>#[_,?_,Rq.ints ns]]
  rcases hp with⟨o,hp⟩|hp
  .exact .inl<|.inr #[o,f.keep a _ hp λ_ z=>by cases z]
  .exact .inr hp
 |_=>exact Ev.nos h
def uO{K:aq}{O:Mx}{H:Hp}{v w:List D}{b1 b2:Bool}{l1 l2:aJ}(h1:Side K O H v b1 l1)(h2:Side K O H w b2 l2):WRel K O H ((v.zip w).map λp=>.tup [p.1,p.2]) (Itz K b1 b2 l1 l2) where
 go:=λi ρ' S' H' f st hi=>by
  obtain⟨xs,q1,r1⟩:=h1 ρ' H' f;obtain⟨ys,q2,r2⟩:=h2 ρ' H' f;have hi':i<pc v.length w.length:=by simpa using hi
  obtain⟨x,g1,rx⟩:=r1.get (af (show i<v.length by omega))
  obtain⟨y,g2,ry⟩:=r2.get (af (show i<w.length by omega))
  refine#[#[xs,ys,x,y,q1,q2,g1,g2],λu H'' #[T,x',y',e1,e2,hT,eH,eu]=>?_]
  subst eH eu;have ex:=(e1 xs q1).symm.trans g1;have ey:=(e2 ys q2).symm.trans g2;cases ex;cases ey;refine#[ZH hT,st.fresh hT,λd hd=>?_]
  have hz:(v.zip w)[i]?=aa (v[i],w[i]):=kc.mpr #[af (by omega),af (by omega)]
  rw[aM,hz]at hd;cases hd;exact YR Zy<|Rq.cons (rx.mono<|ZH hT)<|Rq.cons (ry.mono<|ZH hT) Rq.nil
 stop:=λρ' S' H' f st=>by
  obtain⟨xs,q1,r1⟩:=h1 ρ' H' f;obtain⟨ys,q2,r2⟩:=h2 ρ' H' f;refine#[xs,ys,q1,q2,?_];show xs.length<=((v.zip w).map λp=>Pv.V.tup [p.1,p.2]).length\/_
  rw[r1.length,r2.length,aw,fm];omega
section
variable{X:Cx}{xw:Nat->Hp->Prop}{C:Calls}{a b:Expr}{i j:E}{pos p tp:gW}{elts:List Expr}{kk:Nat}
def Zel(hm:X.mg "zip" = ag)(ha:CA X xw C [a,b] [i,j])(hg:Gl X "zip")(hs:aE [a,b] X.env=[(ak,cD a X.env),(ak,cD b X.env)])(hs2:aE [b] X.env=[(ak,cD b X.env)]) :
  CW X xw C (.Tuple elts kk tp) (.Call (.Name "zip" p) [a,b] [] pos) (.zip i j):=.mk <|
 PI.imp (ZdL hg hm ha.h hs hs2) λZ H Q #[O,l,S,st,lr,h]=>Zcx st lr h λx y S1 ρ1 H1 v u st1 rv ru h1=>by
  cases e1:Pv.Yu x with
  |none=>rw[e1]at h1;exact False.elim h1
  |some v1=>
   cases e2:Pv.Yu y with
   |none=>rw[e1,e2]at h1;exact False.elim h1
   |some v2=>
    rw[e1,e2]at h1;obtain⟨b1,l1,rfl,s1,d1⟩:=JJ st1.hk rv e1;obtain⟨b2,l2,rfl,s2,d2⟩:=JJ st1.hk ru e2;exact#[b1,b2,l1,l2,rfl,s1,s2,End.ok (rep:=WRel X.K) h1 st1<|uO d1 d2]
end
def UU(hh:A.handled=ag)(b:Bool)(it l:aJ)(hne:l≠it)(xs:Array ap) :
  Draws prog w A it [it,l] xs.size (λi v=>xs[i]?=aa v) (λi h=>Src b h it l i/\Yz b h l xs) where
 live:=λ_ _ st=>let #[o,ho,_]:=st.1.obj;#[o,ho]
 frame:=λ_ _ _ st hk=>#[st.1.keep λo e=>hk it (by simp) o e,st.2.keep λo e=>hk l (by simp) o e]
 item:=λi s Q E hi st hQ=>WY st.1 st.2 (a8 hi) λh' hit' hs'=>hQ _ h' s.toks (a8 hi) #[hit',st.2.keep λo e=>hs'.extBut _ o hne e] hs'
 done:=λs Q E st hE=>Jh hh st.1 st.2 (fe<|aH _) hE
noncomputable def Ite(K:aq)(b:Bool)(l:aJ):It:=
 #[λi H=>∃xs x,Sq b K H l xs/\xs[i]?=aa x,
  λi H v H'=>∃T x,(∀xs,Sq b K H l xs->xs[i]?=aa x)/\H T=ag/\H'=upd H T (.tup [.int i,x])/\v=.ref T,
  λi H=>∃xs,Sq b K H l xs/\xs.length=i]
def wY{P:bC}{w:bU}{K:aq}{elts:List Expr}{kk:Nat}{tp:gW}{b:Bool}{e it l:aJ}(hei:e≠it)(hle:l≠e)(hli:l≠it) :
  Turn P w K (.Tuple elts kk tp) (Ite K b l) [e,it] e (λi h=>(∃old,IsEnum h e it i old)/\Src b h it l i) where
 mem:=by simp
 obj:=λi h st c hc=>by
  simp only[aB,ck,or_false]at hc;obtain⟨⟨old,he⟩,hs⟩:=st;rcases hc with q|q<;>subst q
  .exact#[_,he,λv q=>by cases q]
  .exact hs.obj
 keep:=λi h h' st k=>by
  obtain⟨⟨old,he⟩,hs⟩:=st;exact#[#[old,k e (by simp) _ he],hs.keep λo q=>k it (by simp) o q]
 item:=by
  intro X hP hw hK hc i pq s Z H E I hf st hg;subst hP hw hK;obtain⟨xs,x,hq,hx⟩:=hg;obtain⟨its,rv,o1⟩:=YY I hq;obtain⟨⟨old,he⟩,hs⟩:=st;obtain⟨u,hu,ru⟩:=rv.get hx;have hlt:i<its.toArray.size:=by
   have:=(aX.mp hu).1
   simpa using this
  have hh:X.A.in1.handled=ag:=I.ok.hd hc;refine wpAny_pyNext_enum_itemD (UU hh b it l hli its.toArray) he #[hs,o1] hlt hei (by simp only[aB,ck,or_false,not_or];exact#[hei,Ne.symm hle]) λx' h' tk hP ho hst hT hsz hk=>?_
  have ex:x'=u:=by
   have:its.toArray[i]?=aa u:=by simpa using hu
   rw[this]at hP;exact(al hP).symm
  subst ex;have hfree:=I.hok.fresh<|aH _;have ltz:∀c∈[e,it],c≠s.heap.objs.size:=λc hc q=>by
   simp only[aB,ck,or_false]at hc;rcases hc with z|z<;>subst z
   .exact T7 (aC he) (by rw[q];exact bw _)
   .obtain⟨o,ho,_⟩:=hs.obj;exact T7 (aC ho) (by rw[q];exact bw _)
  have IA:Inv X pq Z (upd H s.heap.objs.size<|.tup [.int i,x]) {s with heap:=s.heap.push {cls:=.type "tuple",data:=.seq [.int i tk,x'].toArray},toks:=tk+1}:=
   I.laid (λc o q=>ao _ q) (aH _) #[by show 2<=aZ;decide,[.int i tk,x'],.cons #[tk,rfl]<|.cons ru .nil,iF _ _]
  have hf2:∀c∈[e,it],Vd X pq (upd H s.heap.objs.size<|.tup [.int i,x]) c:=λc hc=>#[by rw[Zp<|ltz c hc];exact(hf c hc).1,(hf c hc).2]
  have IB:Inv X pq Z (upd H s.heap.objs.size<|.tup [.int i,x]) {s with heap:=h',toks:=tk+1}:=by
   refine X1 (s:={s with heap:=s.heap.push {cls:=.type "tuple",data:=.seq [.int i tk,x'].toArray},toks:=tk+1}) (ch:=[e,it]) IA (λc o hc q=>?_) hf2
   by_cases hcs:c=s.heap.objs.size
   .subst hcs
    have q':=q;rw[aD _ rfl]at q';cases q';exact hT
   .simp only[aB,ck,or_false,not_or]at hc
    exact hk c o hc.1 hc.2<|Qr q hcs
  refine#[.ref s.heap.objs.size,rfl,wpAny_letOwnedTupleGo_enum ho λh2 he2 hs2=>?_]
  have IC:Inv X pq Z (upd H s.heap.objs.size<|.tup [.int i,x]) {s with heap:=h2,toks:=tk+1}:=X1 (s:={s with heap:=h',toks:=tk+1}) (ch:=[e]) IB (λc o hc q=>(hs2.2 c<|by simpa using hc).trans q) λc hc=>hf2 c (by simp only[bg]at hc;simp[hc])
  refine#[.ref s.heap.objs.size,_,IC,rfl,#[_,x,λzs hz=>by rw[yi I hz hq];exact hx,hfree,rfl,rfl],#[#[x',by simpa using he2],hst.1.ext hs2.extBut<|Ne.symm hei],λc hc=>(hf2 c hc).1]
 done:=by
  intro X hP hw hK hc i pq s Z H E I hf st hg;subst hP hw hK;obtain⟨xs,hq,hend⟩:=hg;obtain⟨its,rv,o1⟩:=YY I hq;obtain⟨⟨old,he⟩,hs⟩:=st;have e1:=rv.length;have hh:X.A.in1.handled=ag:=I.ok.hd hc;have en:i=its.toArray.size:=by simp;lia
  subst en;exact wpAny_pyNext_enum_endD (UU hh b it l hli its.toArray) he #[hs,o1] λh' hx=>#[rfl,X1 (t':=s.toks) (ch:=[e,it]) I (λc o hc q=>hx c o (λz=>hc<|by simp[z]) q) hf]
 self:=λ_ _ _ _ _ st h=>by
  obtain⟨⟨old,he⟩,_⟩:=st;exact nu he h
section
variable{prog:bC}{w:bU}{A:cL}{E:ap->ax->Prop}{s:ax}
def uC(l:aJ)(items:Array ap)(n:Nat)(dct:Option aJ)(sl:Array (Option ap)) :
  oS (db.«enumerate.__new__» #[[.type "enumerate",.ref l],[]]) (λ_ R s=>s.heap.get? l=aa {cls:=.type "tuple",dict:=dct,data:=.seq items n,slots:=sl}/\
   R (.ok<|.ret<|.ref (s.heap.push<|Ys ak l).objs.size) {s with heap:=(s.heap.push<|Ys ak l).push {cls:=.type "enumerate",data:=.fields [.none,.bool ak,.ref s.heap.objs.size,fw 0,.none,.none].toArray}}):=
 .of_wp λprog w A R s h=>by
  obtain⟨hp,g,d,tk,os⟩:=s;obtain⟨hl,h⟩:=h;have hsub:=sub_enumerate;have hL:cc.IsTuple (ax.heap #[hp,g,d,tk,os]) l items:=#[_,hl,rfl,n,rfl]
  wp_walk using f6 hl;refine wpAny_stack_any λst=>au ?_;split
  .rename_i c _ _ _ _ _;cases(c == mC "enumerate")<;>(wp_walk using f6 hl,gg hL;exact#[_,rfl,h])
  .wp_walk using f6 hl,gg hL;exact#[_,rfl,h]
def wM{Q:ap->ax->Prop}(hL:Yz b s.heap l xs)
  (h:∀h' n,n=s.heap.objs.size->IsEnum h' (n+1) n 0 .none->Src b h' n l 0->(∀c o,s.heap.get? c=aa o->h'.get? c=aa o)->Q (.ref<|n+1) {s with heap:=h' }):aV (aS prog w) A (call (.type "enumerate") [.ref l]) Q E s:=by
 cases b with
 |true=>exact call_enumerate_list hL λh' a1 a2 _ a4=>h h' _ rfl a1 a2 a4
 |false=>
  obtain⟨⟨c,dct,dt,sl⟩,hl,hc,n,hd⟩:=hL;simp only at hc hd;subst hc hd;refine callType_new F.called_enumerate (by decide) (F.typeCall_enumerate_1 _) (F.newCall_enumerate_1 _) (λobj=>F.args_object_init_2 obj _) F.entry_enumerate_new (uC l xs n dct sl) #[hl,?_]
  have hz:(s.heap.push<|Ys ak l).objs.size=s.heap.objs.size+1:=cH ..;have g2:=aD (s.heap.push<|Ys ak l) (o:={cls:=.type "enumerate",data:=.fields [.none,.bool ak,.ref s.heap.objs.size,fw 0,.none,.none].toArray}) rfl;have g1:((s.heap.push<|Ys ak l).push {cls:=.type "enumerate",data:=.fields [.none,.bool ak,.ref s.heap.objs.size,fw 0,.none,.none].toArray}).get? s.heap.objs.size=aa (Ys ak l):=ao _<|aD _ rfl;rw[hz]at g2 ⊢;exact#[#[_,g2,rfl],h _ _ rfl g2 #[_,g1,rfl,rfl] λc o q=>ao _<|ao _ q]
end
def Zey(K:aq)(ta:TA):TI:=λZ H R=>ta Z H λvs H1=>∃b l,vs=[.ref l]/\(∃xs,Sq b K H1 l xs)/\R (Ite K b l) H1
def Zag{a:Expr}{ta:TA}{p pos:gW}(hg:Gl X "enumerate")(hm:X.mg "enumerate" = ag)(ha:PA X [a] ta)(hs:aE [a] X.env=[(ak,cD a X.env)]:=by rfl):PI X (.Tuple elts kk tp) (.Call (.Name "enumerate" p) [a] [] pos) (Zey X.K ta):=by
 intro pq s Z H R I h;refine Call_<|YX I hg hm (by rfl)<|cQ (thn (ha pos pq s Z H _ I h) λus s1 #[vs,H1,I1,r1,q1]=>?_) hs rfl
 obtain⟨b,l,e,⟨xs,hq⟩,q⟩:=q1;subst e;cases r1 with
 |cons r rr=>
  cases rr;cases r;obtain⟨its,rv,o1⟩:=YY I1 hq;have lt1:=VX o1;refine wM o1 λh' n hn he hs' hk=>?_
  have I2:=I1.kept (t':=s1.toks) hk
  have q1:(l:Nat)<n:=by rw[hn];exact lt1
  refine nu he #[n+1,[n+1,n],_,_,H1,rfl,I2,wY (Xz<|.inr<|gR n) (Xz<|.inl<|cR q1)<|Xz<|.inl q1,#[#[_,he],hs'],λc hc=>?_,q]
  have hbn:s1.heap.objs.size<=c:=by
   rw[<-hn];simp only[aB,ck,or_false]at hc;rcases hc with e|e<;>rw[e]
   .exact km n
   .exact aH n
  exact I1.fpOk hbn<|I1.hok.fresh hbn
def uy{lo:Int}{n i:Nat}(h:i<n):(Pv.ZZ lo n)[i]?=aa (.int<|lo+i):=by
 unfold Pv.ZZ;rw[aM,cK h];rfl
def wT{K:aq}{O:Mx}{H:Hp}{w:List D}{b:Bool}{l:aJ}(h1:Side K O H w b l):WRel K O H (((Pv.ZZ 0 w.length).zip w).map λp=>.tup [p.1,p.2]) (Ite K b l) where
 go:=λi ρ' S' H' f st hi=>by
  obtain⟨xs,q1,r1⟩:=h1 ρ' H' f;have hi':i<w.length:=by
   rw[aw,fm,Qc]at hi;lia
  obtain⟨x,g1,rx⟩:=r1.get<|af hi';refine#[#[xs,x,q1,g1],λu H'' #[T,x',e1,hT,eH,eu]=>?_]
  subst eH eu;have ex:=(e1 xs q1).symm.trans g1;cases ex;refine#[ZH hT,st.fresh hT,λd hd=>?_]
  have hz:((Pv.ZZ 0 w.length).zip w)[i]?=aa (.int<|0+i,w[i]):=kc.mpr #[uy hi',af hi'];rw[aM,hz]at hd;cases hd;refine YR Zy<|Rq.cons ?_<|Rq.cons (rx.mono<|ZH hT) Rq.nil;rw[show((0:Int)+i)=i by lia]
  exact ZQ _
 stop:=λρ' S' H' f st=>by
  obtain⟨xs,q1,r1⟩:=h1 ρ' H' f;refine#[xs,q1,?_];show xs.length=(((Pv.ZZ 0 w.length).zip w).map λp=>Pv.V.tup [p.1,p.2]).length
  rw[aw,fm,Qc,r1.length];lia
section
variable{X:Cx}{xw:Nat->Hp->Prop}{C:Calls}{a b:Expr}{i j:E}{pos p tp:gW}{elts:List Expr}{kk:Nat}
def Zaz(hm:X.mg "enumerate" = ag)(ha:CA X xw C [a] [i])(hg:Gl X "enumerate")(hs:aE [a] X.env=[(ak,cD a X.env)]) :
  CW X xw C (.Tuple elts kk tp) (.Call (.Name "enumerate" p) [a] [] pos) (.enum i):=.mk <|
 PI.imp (Zag hg hm ha.h hs) λZ H Q #[O,l,S,st,lr,h]=>Zcz st lr h λx S1 ρ1 H1 v st1 r h1=>by
  cases e1:Pv.Yu x with
  |none=>rw[e1]at h1;exact False.elim h1
  |some wk=>
   rw[e1]at h1;obtain⟨b1,l1,rfl,s1,d1⟩:=JJ st1.hk r e1;exact#[b1,l1,rfl,s1,End.ok (rep:=WRel X.K) h1 st1<|wT d1]
end
def QK(hh:A.handled=ag)(b:Bool)(it l:aJ)(hne:l≠it)(xs:Array ap) :
  Walks prog w A it [it,l] [it] xs.size (λi v=>xs[i]?=aa v) (λi h=>Src b h it l i/\Yz b h l xs):=by
 cases b
 .exact Walks.tuple hh it l hne xs
 .exact oT hh it l hne xs
def xp{b:Bool}{h:cc}{l:aJ}:Src b (h.push<|Ys b l) h.objs.size l 0:=by
 cases b
 .exact#[_,aD _ rfl,rfl,rfl]
 .exact#[_,aD _ rfl,rfl,rfl]
def ZeO{K:aq}{H:Hp}{p:aJ}{xs:List V}(h:SqL K H p xs\/SqT K H p xs):∃b,Sq b K H p xs:=by
 rcases h with h|h
 .exact#[aj,h]
 .exact#[ak,h]
def vE(hc:X.calm=aj):ZI X (.builtin "any") (λvs H Q=>∃O ds x v bs,O.K=X.K/\vs=[v]/\Rep O H x v/\Pv.Yu x=aa ds/\Pv.ZW ds=aa bs/\Q (.bl<|bs.any id) H):=by
 intro pq s Z H vs us Q I r h;obtain⟨O,ds,x,v,bs,hk,rfl,r1,hl,hb,q⟩:=h;obtain⟨l,xs,rfl,hsq,rx⟩:=r1.seq hl;rw[hk]at hsq;obtain⟨kb,hq⟩:=ZeO hsq;obtain⟨u,rfl,ru⟩:=XJ r;cases ru;obtain⟨its,rv,o1⟩:=YY I hq;obtain⟨lb,tb⟩:=Wr hb;have hlt:=VX o1;have hlen:its.toArray.size=bs.length:=by rw[ay,<-rv.length,rx.length,lb]
 refine call_any_walk<|Ug o1 #[s.heap.objs.size,[s.heap.objs.size,l],[s.heap.objs.size],its.toArray.size,_,_,λj=>bs.getD j ak,rfl,QK (A:=X.A.in1) (I.ok.hd hc) kb s.heap.objs.size l (a9 hlt) its.toArray,#[xp,o1.keep λo q=>ao _ q],?_,?_]
 .intro j v s' Q' E' hv hQ'
  have hj:its[j]?=aa v:=by simpa using hv
  have jl:j<ds.length:=by
   have:=(aX.mp hj).1;rw[<-rv.length,rx.length]at this;exact this
  obtain⟨w',g,r'⟩:=rx.get<|af jl;obtain⟨u',g',ru'⟩:=rv.get g;rw[hj]at g';cases g';exact WP r' ru' (tb j _<|af jl) s' Q' E' hQ'
 .intro h' tk hk
  rw[hlen,wU];exact#[.bl<|bs.any id,H,I.kept (t':=tk) λb o e=>hk b o (λhm=>by
   have:b=s.heap.objs.size:=by simpa using hm
   exact T7 (this▸aC e)<|bw _)<|ao _ e,rfl,q]
def wc(hc:X.calm=aj):ZI X (.builtin "any") (VI X.K xw .any):=ZI.imp (vE hc)<|by
 rintro vs H Q ⟨O,S,ds,st,r,h⟩;obtain⟨d,v,z,rfl,r1,hz,h⟩:=Wh h r;obtain⟨xs,hx,hz⟩:=bQ.mp hz;obtain⟨bs,hb,rfl⟩:=bj.mp hz;exact#[O,xs,d,v,bs,st.hk,rfl,r1,hx,hb,End.ok h st<|Ya _]
end Sd
namespace Tq
open PySem PyProof.Rows
noncomputable def Yh:Bool->bW->Array bW->Nat->Nat->Nat->StateT bP nH (Option Nat):=sortPriv% PySem.Builtin.gallop
def yC(lf:Bool)(k:bW)(ar:Array bW)(bs n hn:Nat):Yh lf k ar bs n hn=(do
 let bd (i:Nat):StateT bP nH (Option Bool):=do
  let x <-fT ar (bs+i)
  if lf then lt' x k else return (<-lt' k x).map (!·)
 let mut la:=0
 let mut of:=1
 let mut lo:=0
 let mut hi:=0
 let aa rt <-bd hn|return ag
 if rt then
  let mx:=n-hn
  for _ in [0:n] do
   if of>=mx then break
   let aa mo <-bd (hn+of)|return ag
   if !mo then break
   la:=of
   of:=2*of+1
  lo:=hn+la+1
  hi:=hn+pc of mx
 else
  let mx:=hn+1
  for _ in [0:n] do
   if of>=mx then break
   let aa fo <-bd (hn-of)|return ag
   if fo then break
   la:=of
   of:=2*of+1
  lo:=hn+1-pc of mx
  hi:=hn-la
 for _ in [0:n] do
  if lo>=hi then break
  let m:=lo+(hi-lo) / 2
  let aa mo <-bd m|return ag
  if mo then lo:=m+1 else hi:=m
 return aa hi):=rfl
noncomputable abbrev BT:=Option (Option Nat)×Nat×Nat
def vW{F:Nat->BT->StateT bP nH (ForInStep BT)}{n:Nat}{τ:bP}{B:Nat->Bool}{Q:BT->bP->Prop}
  (hF:∀i lo hi (Q:ForInStep BT->bP->Prop),hi<=n->(lo>=hi->Q (.done (ag,lo,hi)) τ)->(lo<hi->Q (.yield (ag,if B (lo+(hi-lo) / 2)=aj then(lo+(hi-lo) / 2+1,hi)else(lo,lo+(hi-lo) / 2))) τ)->lH (aS prog w) A E s (F i (ag,lo,hi)) Q τ)
  (mono:∀i j,i<=j->j<n->B j=aj->B i=aj)(hq:∀r,r<=n->(∀i,i<n->(B i=aj↔i<r))->Q (ag,r,r) τ){lo hi:Nat}(h1:lo<=hi)(h2:hi<=n)(h3:∀i,i<lo->B i=aj)(h4:∀i,hi<=i->i<n->B i=ak) :
  lH (aS prog w) A E s (iQ [0:n] ((ag,lo,hi):BT) F) Q τ:=by
 have fin:∀lo,lo<=n->(∀i,i<lo->B i=aj)->(∀i,lo<=i->i<n->B i=ak)->Q (ag,lo,lo) τ:=λlo a2 a4 a5=>hq _ a2 λi hi=>by
  refine#[λhB=>?_,a4 i]
  by_cases c:i<lo
  .exact c
  .rw[a5 i (by omega) hi]at hB;cases hB
 refine cy
  (I:=λi c st'=>st'=τ/\c.1=ag/\c.2.1<=c.2.2/\c.2.2<=n/\c.2.2-c.2.1+i<=n/\(∀i,i<c.2.1->B i=aj)/\∀i,c.2.2<=i->i<n->B i=ak) ?_ ?_ #[rfl,rfl,h1,h2,by dsimp only;omega,h3,h4]
 .rintro i ⟨r,lo,hi⟩ st' hi0 hin ⟨rfl,rfl,a1,a2,a3,a4,a5⟩
  dsimp only at a1 a2 a3 a4 a5 ⊢
  refine hF i lo hi _ a2 (λc=>?_) λc=>?_
  .have e:lo=hi:=by omega
   subst e;exact fin lo a2 a4 a5
  .cases hm:B (lo+(hi-lo) / 2)with
   |true=>
    simp only[if_true];exact#[trivial,trivial,by omega,a2,by omega,λj hj=>mono j _ (by omega) (by omega) hm,a5]
   |false=>
    simp only[cw,if_false];refine#[trivial,trivial,by omega,by omega,by omega,a4,λj hj hn=>?_]
    cases hj2:B j with|false=>rfl|true=>rw[mono _ j hj hn hj2]at hm;cases hm
 .rintro ⟨r,lo,hi⟩ st' ⟨rfl,rfl,a1,a2,a3,a4,a5⟩
  dsimp only at a1 a2 a3 a4 a5 ⊢
  have e:lo=hi:=by omega
  subst e;exact fin lo a2 a4 a5
def ZcO{lf:Bool}{k:bW}{ar:Array bW}{bs n hn:Nat}{τ:bP}{B:Nat->Bool}{Q:Option Nat->bP->Prop}(hh:hn<n)
  (hb:∀i,i<n->∀Q:Option Bool->bP->Prop,Q (aa<|B i) τ->lH (aS prog w) A E s (do
   let x <-fT ar (bs+i)
   if lf then lt' x k else return (<-lt' k x).map (!·)) Q τ)
  (mono:∀i j,i<=j->j<n->B j=aj->B i=aj)(hq:∀r,r<=n->(∀i,i<n->(B i=aj↔i<r))->Q (aa r) τ):lH (aS prog w) A E s (Yh lf k ar bs n hn) Q τ:=by
 have no:∀{i j},i<=j->j<n->B i=ak->B j=ak:=λ{i j} h hj hi=>by
  cases q:B j with|false=>rfl|true=>rw[mono i j h hj q]at hi;cases hi
 rw[yC]
 dsimp only
 refine aK<|hb hn hh _ ?_
 dsimp only
 cases h0:B hn with
 |true=>
  rw[T9 rfl];refine aK (eM (cy
   (I:=λi (c:BT) st'=>st'=τ/\c.1=ag/\c.2.1<c.2.2/\i<c.2.2/\hn+c.2.1<n/\B (hn+c.2.1)=aj)
   (Q:=λ(c:BT) st'=>st'=τ/\c.1=ag/\c.2.1<c.2.2/\hn+c.2.1<n/\B (hn+c.2.1)=aj/\(n<=hn+c.2.2\/B (hn+c.2.2)=ak)) ?_ ?_ #[rfl,rfl,by decide,by decide,hh,h0]) ?_)
  .rintro i ⟨r,la,f⟩ st' _ hin ⟨rfl,rfl,a1,a2,a3,a4⟩
   dsimp only at a1 a2 a3 a4 ⊢
   by_cases c:f>=n-hn
   .rw[T9 c]
    exact aQ #[rfl,rfl,a1,a3,a4,.inl (by dsimp only;omega)]
   .rw[T8 c]
    refine aK<|hb _ (by omega) _ ?_
    dsimp only
    cases hm:B (hn+f)with|true=>exact aQ #[rfl,rfl,by dsimp only;omega,by dsimp only;omega,by dsimp only;omega,hm]|false=>exact aQ #[rfl,rfl,a1,a3,a4,.inr hm]
  .rintro ⟨r,la,f⟩ st' ⟨rfl,rfl,a1,a2,a3,a4⟩
   dsimp only at a1 a2 a3 a4 ⊢
   exact#[rfl,rfl,a1,a3,a4,.inl (by omega)]
  .rintro ⟨r,la,f⟩ st' ⟨rfl,rfl,a1,a3,a4,a5⟩
   dsimp only at a1 a3 a4 a5 ⊢
   refine aK (vW (n:=n) (B:=B) (λi lo hi Q h1 h2 h3=>by
    by_cases c:lo>=hi
    .simp only[T9 c];exact aQ<|h2 c
    .simp only[T8 c]
     refine aK<|hb _ (by omega) _ ?_
     have h3:=h3 (by omega)
     cases hm:B (lo+(hi-lo) / 2)<;>(rw[hm]at h3;exact aQ h3)) mono (λr hr hB=>aQ<|hq r hr hB) (by omega) (by omega) (λi hi=>mono i _ (by omega) a3 a4) λi h1 h2=>?_)
   rcases a5 with a5|a5
   .omega
   .exact no (by omega) h2 a5
 |false=>
  rw[T8 (by simp)]
  refine aK (eM (cy
   (I:=λi (c:BT) st'=>st'=τ/\c.1=ag/\c.2.1<c.2.2/\i<c.2.2/\c.2.1<=hn/\B (hn-c.2.1)=ak)
   (Q:=λ(c:BT) st'=>st'=τ/\c.1=ag/\c.2.1<c.2.2/\c.2.1<=hn/\B (hn-c.2.1)=ak/\(hn<c.2.2\/B (hn-c.2.2)=aj)) ?_ ?_ #[rfl,rfl,by decide,by decide,cJ _,h0]) ?_)
  .rintro i ⟨r,la,f⟩ st' _ hin ⟨rfl,rfl,a1,a2,a3,a4⟩
   dsimp only at a1 a2 a3 a4 ⊢
   by_cases c:f>=hn+1
   .rw[T9 c]
    exact aQ #[rfl,rfl,a1,a3,a4,.inl (by dsimp only;omega)]
   .rw[T8 c]
    refine aK<|hb _ (by omega) _ ?_
    dsimp only
    cases hm:B (hn-f)with|true=>exact aQ #[rfl,rfl,a1,a3,a4,.inr hm]|false=>exact aQ #[rfl,rfl,by dsimp only;omega,by dsimp only;omega,by dsimp only;omega,hm]
  .rintro ⟨r,la,f⟩ st' ⟨rfl,rfl,a1,a2,a3,a4⟩
   dsimp only at a1 a2 a3 a4 ⊢
   exact#[rfl,rfl,a1,a3,a4,.inl (by omega)]
  .rintro ⟨r,la,f⟩ st' ⟨rfl,rfl,a1,a3,a4,a5⟩
   dsimp only at a1 a3 a4 a5 ⊢
   refine aK (vW (n:=n) (B:=B) (λi lo hi Q h1 h2 h3=>by
    by_cases c:lo>=hi
    .simp only[T9 c];exact aQ<|h2 c
    .simp only[T8 c]
     refine aK<|hb _ (by omega) _ ?_
     have h3:=h3 (by omega)
     cases hm:B (lo+(hi-lo) / 2)<;>(rw[hm]at h3;exact aQ h3)) mono (λr hr hB=>aQ<|hq r hr hB) (by omega) (by omega) (λi hi=>?_) λi h1 h2=>no h1 h2 a4)
   rcases a5 with a5|a5
   .omega
   .exact mono i _ (by omega) (by omega) a5
abbrev Srt(R:B->B->Prop)(l:List B):Prop:=l.Pairwise R
abbrev lr(rk:B->Nat):B->B->Prop:=λx y=>rk x<rk y
abbrev gr(rk:B->Nat):B->B->Prop:=λx y=>rk y<rk x
structure ML(R:B->B->Prop)(T o ra rb:List B):Prop where
 perm:(o++ra++rb).Perm T
 so:Srt R o
 sa:Srt R ra
 sb:Srt R rb
 lt:∀x∈o,∀y,y∈ra\/y∈rb->R x y
def ML.as{T o xs ra rb:List B}(h:ML R T o (xs++ra) rb)(hx:∀x∈xs,∀y∈rb,R x y):ML R T (o++xs) ra rb:=by
 obtain⟨s1,s2,s3⟩:=eN.mp h.sa;refine#[by simpa[bq]using h.perm,eN.mpr #[h.so,s1,λx hx y hy=>h.lt x hx y<|.inl<|dJ _ hy],s2,h.sb,λx hx2 y hy=>?_]
 rcases cW.mp hx2 with z|z
 .exact h.lt x z y<|hy.imp (bG _) id
 .rcases hy with hy|hy
  .exact s3 x z y hy
  .exact hx x z y hy
def ML.swap{T o ra rb:List B}(h:ML R T o ra rb):ML R T o rb ra:=by
 refine#[List.Perm.trans ?_ h.perm,h.so,h.sb,h.sa,λx hx y hy=>h.lt x hx y hy.symm]
 rw[bq,bq];exact List.perm_append_comm.append_left _
def ML.bs(h:ML R T o ra (xs++rb))(hx:∀x∈xs,∀y∈ra,R x y):ML R T (o++xs) ra rb:=(h.swap.as hx).swap
def ML.fin{T o ra:List B}(h:ML R T o ra []):(o++ra).Perm T/\Srt R (o++ra):=by
 have h':=ML.as (ra:=[]) (by simpa using h) λx _ y hy=>by cases hy
 exact#[by simpa using h'.perm,h'.so]
def ML.ne(h:ML R T o ra rb)(hT:(T.map rk).Nodup)(hx:x∈ra)(hy:y∈rb):rk x≠rk y:=by
 have n:=((h.perm.map rk).nodup_iff).mpr hT;rw[bK,eO]at n;exact n.2.2 _ (dS<|bG _ hx) _<|dS hy
structure Od(prog:bC)(w:bU)(A:cL)(E:ap->ax->Prop)(s:ax)(κ:fq)(In:bW->Prop)(rk:bW->Nat):Prop where
 ask:∀{x y:bW}{τ:bP}{Q:Option Bool->bP->Prop},In x->In y->kindOf τ=κ->Q (aa<|ae<|rk x<rk y) τ->lH (aS prog w) A E s (lt' x y) Q τ
def Sg(τ st':bP):Prop:=kindOf st'=kindOf τ/\ba st'=ba τ/\be st'=be τ/\f7 st'=f7 τ
section
variable{In:bW->Prop}
def ZG{Q:bW->bP->Prop}(h:ar[i]?=aa x)(hq:Q x τ):lH (aS prog w) A E s (fT ar i) Q τ:=by
 rw[elem'_eq,h];exact aQ hq
def X2{Q:Unit->bP->Prop}(hq:Q () τ):lH (aS prog w) A E s (liftM (mV t):StateT bP nH Unit) Q τ:=wpS_lift<|d7 #[rfl,hq]
theorem x5(O:Od prog w A E s κ In rk){Q:Option Nat->bP->Prop}(hk:kindOf τ=κ)(ik:In k)(hh:h0<n)(hn:i+n<=ar.size)(ia:∀x∈ar.toList,In x)
  (so:Srt (lr rk) ((ar.toList.drop i).take n))(ne:∀x∈(ar.toList.drop i).take n,rk x≠rk k)
  (hq:∀r,r<=n->(∀x∈((ar.toList.drop i).take n).take r,rk x<rk k)->(∀x∈((ar.toList.drop i).take n).drop r,rk k<rk x)->Q (aa r) τ):lH (aS prog w) A E s (Yh lf k ar i n h0) Q τ:=by
 generalize hl:(ar.toList.drop i).take n=l at so ne hq;have ll:l.length=n:=by rw[<-hl,bz,bo,aI];lia
 have at_:∀j (hj:j<n),ar[i+j]?=aa (l[j]'(by lia)):=λj hj=>by
  have:ar.toList[i+j]?=aa (l[j]'(by lia)):=by
   subst hl;rw[fD,fE];exact af _
  simpa using this
 have mem:∀j (hj:j<n),In (l[j]'(by lia)):=λj hj=>ia _ (by
  have h2:∀x∈l,x∈ar.toList:=λx hx=>by rw[<-hl]at hx;exact cq<|dm hx
  exact h2 _<|aU _)
 have hB:∀j (hj:j<n),((l[j]?).any λx=>ae<|rk x<rk k)=ae (rk (l[j]'(by lia))<rk k):=λj hj=>by
  rw[af (by lia)];rfl
 refine ZcO (B:=λj=>(l[j]?).any λx=>ae<|rk x<rk k) hh (λj hj Q hQ=>?_) (λa b hab hb h=>?_) λr hr hr2=>hq r hr (λx hx=>?_) λx hx=>?_
 .rw[hB j hj]at hQ
  refine aK<|ZG (at_ j hj) ?_;cases lf with
  |true=>exact O.ask (mem j hj) ik hk hQ
  |false=>
   refine aK<|O.ask ik (mem j hj) hk<|aQ ?_;have e:(!decide (rk k<rk (l[j]'(by lia))))=ae (rk (l[j]'(by lia))<rk k):=by
    have:=ne _<|aU (n:=j) (by lia)
    by_cases c:rk k<rk (l[j]'(by lia))
    .rw[T5 c,T4 (by lia)];rfl
    .rw[T4 c,T5 (by lia)];rfl
   show Q (aa<|!decide (rk k<rk (l[j]'(by lia)))) τ
   rw[e];exact hQ
 .rw[hB b hb]at h
  rw[hB a (by lia)]
  rcases Nat.lt_or_eq_of_le hab with c|c
  .have:=bF.mp so a b (by lia) (by lia) c
   have h:=T6 h;exact T5 (by lia)
  .subst c;exact h
 .obtain⟨j,hj,rfl⟩:=b9 hx
  rw[bz]at hj;have:=(hr2 j<|by lia).mpr (by lia)
  rw[hB j<|by lia]at this
  rw[fD];exact T6 this
 .obtain⟨j,hj,rfl⟩:=b9 hx
  rw[bo]at hj;rw[fE];have h1:=hr2 (r+j) (by lia)
  rw[hB _<|by lia]at h1
  have h2:=ne _<|aU (n:=r+j) (by lia)
  have h3:¬rk (l[r+j]'(by lia))<rk k:=λz=>T7 (h1.mp<|T5 z) (by lia)
  lia
end
noncomputable abbrev KA:=Array bW
noncomputable abbrev SM:=StateT bP nH
noncomputable def Ui:KA->KA->SM KA:=sortPriv% PySem.Builtin.mergeLo
noncomputable def U8:Nat->SM Unit:=sortPriv% PySem.Builtin.setMinGallop
def qJ(g:Nat):U8 g=modify λs=>oX (kindOf s) (ba s) (be s) g (f7 s):=rfl
noncomputable abbrev dn(a b o:KA)(i j:Nat):KA:=o++a.extract i a.size++b.extract j b.size
noncomputable abbrev ls(a b o:KA)(i j:Nat):KA:=o++b.extract j b.size++a.extract i a.size
noncomputable abbrev T2:=Option KA×KA×Nat×Nat×Nat×Nat
noncomputable abbrev T3:=Option KA×KA×Nat×Nat×Nat×Nat×Nat
noncomputable abbrev T1:=Option KA×KA×Nat×Nat×Nat
noncomputable def F1(a b:KA)(g:Nat)(c:T2):SM (ForInStep T2):=do
 let o:=c.2.1
 let i:=c.2.2.1
 let j:=c.2.2.2.1
 let ca:=c.2.2.2.2.1
 let cb:=c.2.2.2.2.2
 let aa t <-lt' (<-fT b j) (<-fT a i)|return .done (aa<|dn a b o i j,o,i,j,ca,cb)
 if t then
  let o:=o.push<|<-fT b j
  let j:=j+1
  if j == b.size then return .done (aa<|dn a b o i j,o,i,j,0,cb+1)
  if cb+1>=g then return .done (ag,o,i,j,0,cb+1)
  return .yield (ag,o,i,j,0,cb+1)
 else
  let o:=o.push<|<-fT a i
  let i:=i+1
  if i+1 == a.size then return .done (aa<|ls a b o i j,o,i,j,ca+1,0)
  if ca+1>=g then return .done (ag,o,i,j,ca+1,0)
  return .yield (ag,o,i,j,ca+1,0)
noncomputable def G3(a b:KA)(g ca cb i:Nat)(o:KA)(j:Nat):SM (ForInStep T3):=do
 let o:=o.push<|<-fT a i
 let i:=i+1
 if i+1 == a.size then return .done (aa<|ls a b o i j,o,i,j,g,ca,cb)
 if ca<7&&cb<7 then return .done (ag,o,i,j,g,ca,cb)
 return .yield (ag,o,i,j,g,ca,cb)
noncomputable def G2(a b:KA)(g ca cb j:Nat)(o:KA)(i:Nat):SM (ForInStep T3):=do
 let o:=o.push<|<-fT b j
 let j:=j+1
 if j == b.size then return .done (aa<|dn a b o i j,o,i,j,g,ca,cb)
 let aa k <-Yh aj (<-fT a i) b j (b.size-j) 0|return .done (aa<|dn a b o i j,o,i,j,g,ca,cb)
 if k>0 then
  let o:=o++b.extract j (j+k)
  let j:=j+k
  if j == b.size then return .done (aa<|dn a b o i j,o,i,j,g,ca,k)
  else G3 a b g ca k i o j
 else G3 a b g ca k i o j
noncomputable def G1(a b:KA)(o:KA)(i j ca cb g:Nat):SM (ForInStep T3):=do
 U8 g
 let aa k <-Yh ak (<-fT b j) a i (a.size-i) 0|return .done (aa<|dn a b o i j,o,i,j,g,ca,cb)
 if k>0 then
  let o:=o++a.extract i (i+k)
  let i:=i+k
  if i+1 == a.size then return .done (aa<|ls a b o i j,o,i,j,g,k,cb)
  else if i == a.size then return .done (aa<|dn a b o i j,o,i,j,g,k,cb)
  else G2 a b g k cb j o i
 else G2 a b g k cb j o i
noncomputable def F2(a b:KA)(c:T3):SM (ForInStep T3):=
 if c.2.2.2.2.1>1 then G1 a b c.2.1 c.2.2.1 c.2.2.2.1 c.2.2.2.2.2.1 c.2.2.2.2.2.2 (c.2.2.2.2.1-1)
 else G1 a b c.2.1 c.2.2.1 c.2.2.2.1 c.2.2.2.2.2.1 c.2.2.2.2.2.2 c.2.2.2.2.1
noncomputable def F0(a b:KA)(c:T1):SM (ForInStep T1):=do
 let d <-iQ [0:a.size+b.size] ((ag,c.2.1,c.2.2.1,c.2.2.2.1,0,0):T2) λ_ d=>F1 a b c.2.2.2.2 d
 iR d.1 (λ_=>do
  mV "list.sort.gallop"
  let e <-iQ [0:a.size+b.size] ((ag,d.2.1,d.2.2.1,d.2.2.2.1,c.2.2.2.2+1,d.2.2.2.2.1,d.2.2.2.2.2):T3) λ_ d=>F2 a b d
  iR e.1 (λ_=>do
   U8 (e.2.2.2.2.1+1)
   dg (.yield (ag,e.2.1,e.2.2.1,e.2.2.2.1,e.2.2.2.2.1+1))) λr=>dg<|.done (aa r,e.2.1,e.2.2.1,e.2.2.2.1,e.2.2.2.2.1)) λr=>dg<|.done (aa r,d.2.1,d.2.2.1,d.2.2.2.1,c.2.2.2.2)
def Ga(a b:KA):Ui a b=(do
 mV "list.sort.merge-lo"
 let y <-fT b 0
 if 1 == b.size then return dn a b #[y] 0 1
 if 0+1 == a.size then return ls a b #[y] 0 1
 let τ <-get
 let c <-iQ [0:a.size+b.size] ((ag,#[y],0,1,gallopOf τ):T1) λ_ c=>F0 a b c
 iR c.1 (λ_=>oo "internal:list.sort.merge-bound") λr=>dg r):=rfl
def X0(a:KA)(i:Nat):(a.extract i a.size).toList=a.toList.drop i:=by
 rw[hG,fU,<-aI];exact cp (by rw[bo];exact aH _)
def xr(a:KA)(i k:Nat):(a.extract i<|i+k).toList=(a.toList.drop i).take k:=by
 rw[hG,fU,Nat.add_sub_cancel_left]
def Z6{a:KA}{i:Nat}(h:i<a.size):a.toList.drop i=a[i]::a.toList.drop (i+1):=by
 rw[bE (by simpa using h)];rfl
def td{B:Type}(l:List B)(n r:Nat):(l.drop n).take r++l.drop (n+r)=l.drop n:=by rw[<-iS,cO]
def ZR{a:KA}{i:Nat}(h:i<a.size):a[i]?=aa a[i]:=a8 h
section
variable{prog:bC}{w:bU}{A:cL}{E:ap->ax->Prop}{s:ax}{κ:fq}{In:bW->Prop}{rk:bW->Nat}
def ZE{B:Type}{c:Prop}[Decidable c]{x y:SM B}{Q:B->bP->Prop}{τ:bP}(h1:c->lH (aS prog w) A E s x Q τ)(h2:¬c->lH (aS prog w) A E s y Q τ):lH (aS prog w) A E s (if c then x else y) Q τ:=by
 by_cases h:c
 .rw[T9 h];exact h1 h
 .rw[T8 h];exact h2 h
theorem wf(O:Od prog w A E s κ In rk){Q:Option Nat->bP->Prop}(hk:kindOf τ=κ)(ik:In k)(hi:i<ar.size)(ia:∀x∈ar.toList,In x)(so:Srt (lr rk) (ar.toList.drop i))(ne:∀x∈ar.toList.drop i,rk x≠rk k)
  (hq:∀r,i+r<=ar.size->(∀x∈(ar.toList.drop i).take r,rk x<rk k)->(∀x∈ar.toList.drop (i+r),rk k<rk x)->Q (aa r) τ):lH (aS prog w) A E s (Yh lf k ar i (ar.size-i) 0) Q τ:=by
 have e:(ar.toList.drop i).take (ar.size-i)=ar.toList.drop i:=cp (by rw[bo,aI];exact aH _)
 refine x5 O hk ik (Nat.sub_pos_of_lt hi) (nc<|Nat.add_sub_cancel'<|gw hi) ia (e.symm▸so) (e.symm▸ne) λr h1 h2 h3=>?_
 rw[e]at h2 h3;rw[iS]at h3;exact hq r (by lia) h2 h3
structure Mg(κ:fq)(In:bW->Prop)(rk:bW->Nat)(a b:KA)(T:List bW):Prop where
 nd:(T.map rk).Nodup
 ia:∀x∈a.toList,In x
 ib:∀x∈b.toList,In x
 last:∀y∈b.toList,∀x∈a.toList.drop (a.size-1),rk y<rk x
def Res(rk:bW->Nat)(T:List bW)(r:KA):Prop:=r.toList.Perm T/\Srt (lr rk) r.toList
abbrev Lo(rk:bW->Nat)(a b:KA)(T:List bW)(o:KA)(i j:Nat):Prop:=ML (lr rk) T o.toList (a.toList.drop i)<|b.toList.drop j
structure Iv(rk:bW->Nat)(a b:KA)(T:List bW)(o:KA)(i j:Nat):Prop where
 m:Lo rk a b T o i j
 hi:i+1<a.size
 hj:j<b.size
 z:o.size=i+j
variable{a b:KA}{T:List bW}
def Jo(h:Lo rk a b T o i j)(hj:(j == b.size)=aj):Res rk T (dn a b o i j):=by
 have hj:=beq_iff_eq.mp hj;unfold Lo at h;rw[hj,<-aI,d5]at h;have:=h.fin;unfold Res dn;rw[cz,cz,X0,X0,hj,<-aI,d5,bS];exact this
def j4(h:Lo rk a b T o i j)(hi:(i == a.size)=aj):Res rk T (dn a b o i j):=by
 have hi:=beq_iff_eq.mp hi;unfold Lo at h;rw[hi,<-aI,d5]at h;have:=h.swap.fin;unfold Res dn;rw[cz,cz,X0,X0,hi,<-aI,d5,bS];exact this
theorem JR(G:Mg κ In rk a b T)(h:Lo rk a b T o i j)(hi:(i+1 == a.size)=aj):Res rk T (ls a b o i j):=by
 have hi:=beq_iff_eq.mp hi;have e:a.size-1=i:=by lia
 have:=(ML.bs (by rw[bS];exact h) λy hy x hx=>G.last y (cq hy) x<|by rw[e];exact hx).fin
 unfold Res ls;rw[cz,cz,X0,X0];exact this
def qt(h:Lo rk a b T o i j)(hj:j<b.size)(hy:∀x∈a.toList.drop i,rk b[j]<rk x):Lo rk a b T (o.push b[j]) i (j+1):=by
 unfold Lo at h ⊢;rw[Z6 hj]at h;rw[dM];exact ML.bs h λx hx y hy'=>by rw[bg.mp hx];exact hy y hy'
def Zcp(h:Lo rk a b T o i j)(hi:i<a.size)(hx:∀y∈b.toList.drop j,rk a[i]<rk y):Lo rk a b T (o.push a[i]) (i+1) j:=by
 unfold Lo at h ⊢;rw[Z6 hi]at h;rw[dM];exact ML.as h λx hx' y hy'=>by rw[bg.mp hx'];exact hx y hy'
def yS(h:Srt (lr rk) (x::l))(hx:rk y<rk x):∀z∈x::l,rk y<rk z:=λz hz=>by
 rcases aB.mp hz with rfl|hz
 .exact hx
 .exact c0 hx<|(bm.mp h).1 z hz
def Ut(h:m<n)(q:¬(m+1 == n)=aj):m+1<n:=gh h λz=>q<|beq_iff_eq.mpr z
theorem Zfl(O:Od prog w A E s κ In rk)(G:Mg κ In rk a b T){g ca cb:Nat}{r0:Option KA}{τ:bP}{Q:ForInStep T2->bP->Prop}(hk:kindOf τ=κ)(I:Iv rk a b T o i j)
  (hd:∀r c,Res rk T r->Q (.done (aa r,c)) τ)(hb:∀o' i' j' ca cb,Iv rk a b T o' i' j'->o'.size=o.size+1->Q (.done (ag,o',i',j',ca,cb)) τ/\Q (.yield (ag,o',i',j',ca,cb)) τ):lH (aS prog w) A E s (F1 a b g (r0,o,i,j,ca,cb)) Q τ:=by
 have hi:=dN I.hi;have ha:a[i]∈a.toList.drop i:=by rw[Z6 hi];exact am ..
 have hb':b[j]'I.hj∈b.toList.drop j:=by rw[Z6 I.hj];exact am ..
 have sa:=I.m.sa;have sb:=I.m.sb;rw[Z6 hi]at sa;rw[Z6 I.hj]at sb;refine aK<|ZG (ZR I.hj)<|aK<|ZG (ZR hi)<|aK<|O.ask (G.ib _<|cq hb') (G.ia _<|cq ha) hk ?_;by_cases c:rk (b[j]'I.hj)<rk a[i]
 .rw[T5 c]
  refine aK<|ZG (ZR I.hj) ?_;have m:=qt I.m I.hj (by rw[Z6 hi];exact yS sa c)
  have z:(o.push<|b[j]'I.hj).size=o.size+1:=dy ..;refine ZE (λq=>aQ<|hd _ _<|Jo m q) λq=>?_
  have h:=hb _ _ _ 0 (cb+1) #[m,I.hi,Ut I.hj q,by rw[z,I.z];lia] z
  exact ZE (λ_=>aQ h.1) λ_=>aQ h.2
 .rw[T4 c]
  refine aK<|ZG (ZR hi) ?_;have c':=gh (d4 c)<|I.m.ne G.nd ha hb';have m:=Zcp I.m hi (by rw[Z6 I.hj];exact yS sb c')
  have z:(o.push a[i]).size=o.size+1:=dy ..;refine ZE (λq=>aQ<|hd _ _<|JR G m q) λq=>?_
  have h:=hb _ _ _ (ca+1) 0 #[m,Ut I.hi q,I.hj,by rw[z,I.z];lia] z
  exact ZE (λ_=>aQ h.1) λ_=>aQ h.2
theorem Sg.trans(h:Sg s1 s2)(k:Sg s2 s3):Sg s1 s3:=#[k.1.trans h.1,k.2.1.trans h.2.1,k.2.2.1.trans h.2.2.1,k.2.2.2.trans h.2.2.2]
def VW{Q:Unit->bP->Prop}(h:∀st',Sg τ st'->Q () st'):lH (aS prog w) A E s (U8 g) Q τ:=by
 rw[qJ];exact fg<|h _ #[rfl,rfl,rfl,rfl]
section
variable(O:Od prog w A E s κ In rk)(G:Mg κ In rk a b T)
include O G
theorem Zb9{g ca cb:Nat}{τ:bP}(m:Lo rk a b T o i j)(hi:i+1<a.size)(hj:j<b.size)(z:o.size=i+j)(hx:∀y∈b.toList.drop j,rk a[i]<rk y)
  (hd:∀r c,Res rk T r->Q (.done (aa r,c)) τ)(hb:∀o' i' j' g ca cb,Iv rk a b T o' i' j'->o'.size=o.size+1->Q (.done (ag,o',i',j',g,ca,cb)) τ/\Q (.yield (ag,o',i',j',g,ca,cb)) τ):lH (aS prog w) A E s (G3 a b g ca cb i o j) Q τ:=by
 have hi':=dN hi;refine aK<|ZG (ZR hi') ?_;have m:=Zcp m hi' hx;have z':(o.push a[i]).size=o.size+1:=dy ..;refine ZE (λq=>aQ<|hd _ _<|JR G m q) λq=>?_
 have h:=hb _ _ _ g ca cb #[m,Ut hi q,hj,by rw[z',z];lia] z'
 exact ZE (λ_=>aQ h.1) λ_=>aQ h.2
theorem Zce{g ca cb:Nat}{τ:bP}(hk:kindOf τ=κ)(m:Lo rk a b T o i j)(hi:i+1<a.size)(hj:j<b.size)(z:o.size=i+j)(hy:∀x∈a.toList.drop i,rk b[j]<rk x)
  (hd:∀r c,Res rk T r->Q (.done (aa r,c)) τ)(hb:∀o' i' j' g ca cb,Iv rk a b T o' i' j'->o.size<o'.size->Q (.done (ag,o',i',j',g,ca,cb)) τ/\Q (.yield (ag,o',i',j',g,ca,cb)) τ):lH (aS prog w) A E s (G2 a b g ca cb j o i) Q τ:=by
 have hi':=dN hi;refine aK<|ZG (ZR hj) ?_;have m:=qt m hj hy;have z':(o.push b[j]).size=o.size+1:=dy ..;refine ZE (λq=>aQ<|hd _ _<|Jo m q) λq=>?_
 have hj:=Ut hj q;have ha:a[i]∈a.toList.drop i:=by rw[Z6 hi'];exact am ..
 refine aK<|ZG (ZR hi')<|aK<|wf O hk (G.ia _<|cq ha) hj G.ib m.sb (λy hy=>(m.ne G.nd ha hy).symm) λr hr h1 h2=>?_
 refine ZE (λ_=>?_) λc=>?_
 .have m2:Lo rk a b T (o.push b[j]++b.extract (j+1) (j+1+r)) i (j+1+r):=by
   unfold Lo;rw[cz,xr];refine ML.bs ?_ λy hy x hx=>?_
   .rw[td];exact m
   .have sa:=m.sa
    rw[Z6 hi']at sa hx;exact yS sa (h1 y hy) x hx
  have z2:(o.push b[j]++b.extract (j+1) (j+1+r)).size=o.size+1+r:=by rw[gG,z',gj];lia
  refine ZE (λq=>aQ<|hd _ _<|Jo m2 q) λq=>?_
  have hj2:=gh hr λz=>q<|beq_iff_eq.mpr z
  exact Zb9 O G m2 hi hj2 (by rw[z2,z];lia) h2 hd λo' i' j' g ca cb I e=>hb o' i' j' g ca cb I (by lia)
 .have e:r=0:=by lia
  subst e;exact Zb9 O G m hi hj (by rw[z',z];lia) h2 hd λo' i' j' g ca cb I e=>hb o' i' j' g ca cb I (by lia)
theorem Zcc{g ca cb:Nat}{τ:bP}(hk:kindOf τ=κ)(I:Iv rk a b T o i j)
  (hd:∀r c st',Sg τ st'->Res rk T r->Q (.done (aa r,c)) st')(hb:∀o' i' j' g ca cb st',Sg τ st'->Iv rk a b T o' i' j'->o.size<o'.size->Q (.done (ag,o',i',j',g,ca,cb)) st'/\Q (.yield (ag,o',i',j',g,ca,cb)) st'):lH (aS prog w) A E s (G1 a b o i j ca cb g) Q τ:=by
 obtain⟨m,hi,hj,z⟩:=I;have hi':=dN hi;have hb':b[j]∈b.toList.drop j:=by rw[Z6 hj];exact am ..
 refine aK<|VW λst' sg=>aK<|ZG (ZR hj)<|aK<|wf O (sg.1.trans hk) (G.ib _<|cq hb') hi' G.ia m.sa (λx hx=>m.ne G.nd hx hb') λr hr h1 h2=>?_
 refine ZE (λ_=>?_) λc=>?_
 .have m2:Lo rk a b T (o++a.extract i (i+r)) (i+r) j:=by
   unfold Lo;rw[cz,xr];refine ML.as ?_ λx hx y hy=>?_
   .rw[td];exact m
   .have sb:=m.sb
    rw[Z6 hj]at sb hy;exact yS sb (h1 x hx) y hy
  have z2:(o++a.extract i (i+r)).size=o.size+r:=by rw[gG,gj];lia
  refine ZE (λq=>aQ<|hd _ _ st' sg<|JR G m2 q) λq=>ZE (λq=>aQ<|hd _ _ st' sg<|j4 m2 q) λq2=>?_
  have q2:i+r≠a.size:=λz=>q2<|beq_iff_eq.mpr z
  exact Zce O G (sg.1.trans hk) m2 (Ut (by lia) q) hj (by rw[z2,z];lia) h2 (λr c=>hd r c st' sg) λo' i' j' g ca cb I e=>hb o' i' j' g ca cb st' sg I (by lia)
 .have e:r=0:=by lia
  subst e;exact Zce O G (sg.1.trans hk) m hi hj z h2 (λr c=>hd r c st' sg) λo' i' j' g ca cb I e=>hb o' i' j' g ca cb st' sg I (by lia)
theorem ZeK{g ca cb:Nat}{r0:Option KA}{τ:bP}(hk:kindOf τ=κ)(I:Iv rk a b T o i j)
  (hd:∀r c st',Sg τ st'->Res rk T r->Q (.done (aa r,c)) st')(hb:∀o' i' j' g ca cb st',Sg τ st'->Iv rk a b T o' i' j'->o.size<o'.size->Q (.done (ag,o',i',j',g,ca,cb)) st'/\Q (.yield (ag,o',i',j',g,ca,cb)) st'):lH (aS prog w) A E s (F2 a b (r0,o,i,j,g,ca,cb)) Q τ:=by
 exact ZE (λ_=>Zcc O G hk I hd hb) λ_=>Zcc O G hk I hd hb
theorem Ze9{Q:ForInStep T1->bP->Prop}(hk:kindOf τ=κ)(I:Iv rk a b T o i j)
  (hd:∀r c st',Sg τ st'->Res rk T r->Q (.done (aa r,c)) st')(hy:∀o' i' j' g st',Sg τ st'->Iv rk a b T o' i' j'->o.size<o'.size->Q (.yield (ag,o',i',j',g)) st'):lH (aS prog w) A E s (F0 a b (r0,o,i,j,g)) Q τ:=by
 refine aK (eM (cy
  (I:=λx (c:T2) st'=>st'=τ/\c.1=ag/\Iv rk a b T c.2.1 c.2.2.1 c.2.2.2.1/\o.size+x<=c.2.1.size)
  (Q:=λ(c:T2) st'=>st'=τ/\((∃r,c.1=aa r/\Res rk T r)\/c.1=ag/\Iv rk a b T c.2.1 c.2.2.1 c.2.2.2.1/\o.size<c.2.1.size)) ?_ ?_ #[rfl,rfl,I,aH _]) ?_)
 .rintro x ⟨r,o',i',j',ca,cb⟩ st' _ _ ⟨rfl,rfl,I',hz⟩
  exact Zfl O G hk I' (λr c h=>#[rfl,.inl #[r,rfl,h]]) λo2 i2 j2 ca cb I2 e=>#[#[rfl,.inr #[rfl,I2,by dsimp only at hz ⊢;lia]],rfl,rfl,I2,by dsimp only at hz ⊢;lia]
 .rintro ⟨r,o',i',j',ca,cb⟩ st' ⟨rfl,rfl,I',hz⟩
  have:=I'.hi;have:=I'.hj;have:=I'.z;lia
 .rintro ⟨r,o',i',j',ca,cb⟩ st' ⟨rfl,⟨r',rfl,h⟩|⟨rfl,I',hz⟩⟩
  .exact aQ<|hd _ _ _ #[rfl,rfl,rfl,rfl] h
  .dsimp only at I' hz
   refine aK (X2 (aK (eM (cy
    (I:=λx (c:T3) st''=>Sg st' st''/\c.1=ag/\Iv rk a b T c.2.1 c.2.2.1 c.2.2.2.1/\o'.size+x<=c.2.1.size)
    (Q:=λ(c:T3) st''=>Sg st' st''/\((∃r,c.1=aa r/\Res rk T r)\/c.1=ag/\Iv rk a b T c.2.1 c.2.2.1 c.2.2.2.1/\o'.size<c.2.1.size)) ?_ ?_ #[#[rfl,rfl,rfl,rfl],rfl,I',aH _]) ?_)))
   .rintro x ⟨r,o2,i2,j2,g,ca,cb⟩ st2 _ _ ⟨sg,rfl,I2,hz2⟩
    dsimp only at I2 hz2
    exact ZeK O G (sg.1.trans hk) I2 (λr c st3 s3 h=>#[sg.trans s3,.inl #[r,rfl,h]]) λo3 i3 j3 g ca cb st3 s3 I3 e=>#[#[sg.trans s3,.inr #[rfl,I3,by dsimp only;lia]],sg.trans s3,rfl,I3,by dsimp only;lia]
   .rintro ⟨r,o2,i2,j2,g,ca,cb⟩ st2 ⟨sg,rfl,I2,hz2⟩
    have:=I2.hi;have:=I2.hj;have:=I2.z;lia
   .rintro ⟨r,o2,i2,j2,g,ca,cb⟩ st2 ⟨sg,⟨r',rfl,h⟩|⟨rfl,I2,hz2⟩⟩
    .exact aQ<|hd _ _ _ sg h
    .exact aK<|VW λst3 s3=>aQ<|hy _ _ _ _ _ (sg.trans s3) I2<|c0 hz hz2
theorem zO{τ:bP}{Q:KA->bP->Prop}(hk:kindOf τ=κ)(ha:0<a.size)(hb:0<b.size)(sa:Srt (lr rk) a.toList)(sb:Srt (lr rk) b.toList)(hT:(a.toList++b.toList).Perm T)(h0:∀x∈a.toList,rk b[0]<rk x)
  (hq:∀r st',Sg τ st'->Res rk T r->Q r st'):lH (aS prog w) A E s (Ui a b) Q τ:=by
 rw[Ga];refine aK<|X2<|aK<|ZG (ZR hb) ?_;have m0:Lo rk a b T #[] 0 0:=#[by simpa using hT,.nil,by simpa using sa,by simpa using sb,λx hx=>by cases hx]
 have m:=qt m0 hb (by simpa using h0)
 have sg0:Sg τ τ:=#[rfl,rfl,rfl,rfl];refine ZE (λq=>aQ<|hq _ _ sg0<|Jo m q) λq1=>ZE (λq=>aQ<|hq _ _ sg0<|JR G m q) λq2=>aK (gH (aK (eM (cy
  (I:=λx (c:T1) st''=>Sg τ st''/\c.1=ag/\Iv rk a b T c.2.1 c.2.2.1 c.2.2.2.1/\x<=c.2.1.size)
  (Q:=λ(c:T1) st''=>Sg τ st''/\∃r,c.1=aa r/\Res rk T r) ?_ ?_ #[sg0,rfl,#[m,Ut ha q2,Ut hb q1,rfl],cJ _]) ?_)))
 .rintro x ⟨r,o,i,j,g⟩ st2 _ _ ⟨sg,rfl,I,hz⟩
  dsimp only at I hz
  exact Ze9 O G (sg.1.trans hk) I (λr c st3 s3 h=>#[sg.trans s3,r,rfl,h]) λo3 i3 j3 g st3 s3 I3 e=>#[sg.trans s3,rfl,I3,by dsimp only;lia]
 .rintro ⟨r,o,i,j,g⟩ st2 ⟨sg,rfl,I,hz⟩
  have:=I.hi;have:=I.hj;have:=I.z;lia
 .rintro ⟨r,o,i,j,g⟩ st2 ⟨sg,r',rfl,h⟩
  exact aQ<|hq _ _ sg h
end
end
noncomputable def V4:KA->KA->SM KA:=sortPriv% PySem.Builtin.mergeHi
noncomputable abbrev dh(a b o:KA)(i j:Nat):KA:=a.extract 0 i++b.extract 0 j++o.reverse
noncomputable abbrev fh(a b o:KA)(i j:Nat):KA:=b.extract 0 j++a.extract 0 i++o.reverse
noncomputable abbrev U1:=Option KA×Nat×Nat×KA×Nat
noncomputable abbrev U2:=Option KA×Nat×Nat×KA×Nat×Nat
noncomputable abbrev U3:=Option KA×Nat×Nat×KA×Nat×Nat×Nat
noncomputable def H1(a b:KA)(g:Nat)(c:U2):SM (ForInStep U2):=do
 let i:=c.2.1
 let j:=c.2.2.1
 let o:=c.2.2.2.1
 let ca:=c.2.2.2.2.1
 let cb:=c.2.2.2.2.2
 let aa t <-lt' (<-fT b (j-1)) (<-fT a (i-1))|return .done (aa<|dh a b o i j,i,j,o,ca,cb)
 if t then
  let i:=i-1
  let o:=o.push<|<-fT a i
  if i == 0 then return .done (aa<|dh a b o i j,i,j,o,ca+1,0)
  if ca+1>=g then return .done (ag,i,j,o,ca+1,0)
  return .yield (ag,i,j,o,ca+1,0)
 else
  let j:=j-1
  let o:=o.push<|<-fT b j
  if j == 1 then return .done (aa<|fh a b o i j,i,j,o,0,cb+1)
  if cb+1>=g then return .done (ag,i,j,o,0,cb+1)
  return .yield (ag,i,j,o,0,cb+1)
noncomputable def K3(a b:KA)(g ca cb i:Nat)(o:KA)(j:Nat):SM (ForInStep U3):=do
 let i:=i-1
 let o:=o.push<|<-fT a i
 if i == 0 then return .done (aa<|dh a b o i j,i,j,o,g,ca,cb)
 if ca<7&&cb<7 then return .done (ag,i,j,o,g,ca,cb)
 return .yield (ag,i,j,o,g,ca,cb)
noncomputable def K2(a b:KA)(g ca cb j:Nat)(o:KA)(i:Nat):SM (ForInStep U3):=do
 let j:=j-1
 let o:=o.push<|<-fT b j
 if j == 1 then return .done (aa<|fh a b o i j,i,j,o,g,ca,cb)
 let aa t <-Yh aj (<-fT a (i-1)) b 0 j (j-1)|return .done (aa<|dh a b o i j,i,j,o,g,ca,cb)
 if j-t>0 then
  let o:=o++(b.extract t j).reverse
  if t == 1 then return .done (aa<|fh a b o i t,i,t,o,g,ca,j-t)
  else if t == 0 then return .done (aa<|dh a b o i t,i,t,o,g,ca,j-t)
  else K3 a b g ca (j-t) i o t
 else K3 a b g ca (j-t) i o j
noncomputable def K1(a b:KA)(o:KA)(i j ca cb g:Nat):SM (ForInStep U3):=do
 U8 g
 let aa t <-Yh ak (<-fT b (j-1)) a 0 i (i-1)|return .done (aa<|dh a b o i j,i,j,o,g,ca,cb)
 if i-t>0 then
  let o:=o++(a.extract t i).reverse
  if t == 0 then return .done (aa<|dh a b o t j,t,j,o,g,i-t,cb)
  else K2 a b g (i-t) cb j o t
 else K2 a b g (i-t) cb j o i
noncomputable def H2(a b:KA)(c:U3):SM (ForInStep U3):=
 if c.2.2.2.2.1>1 then K1 a b c.2.2.2.1 c.2.1 c.2.2.1 c.2.2.2.2.2.1 c.2.2.2.2.2.2 (c.2.2.2.2.1-1)
 else K1 a b c.2.2.2.1 c.2.1 c.2.2.1 c.2.2.2.2.2.1 c.2.2.2.2.2.2 c.2.2.2.2.1
noncomputable def TT(n:Nat)(f1:Nat->U2->SM (ForInStep U2))(f2:U3->SM (ForInStep U3))(c:U1):SM (ForInStep U1):=do
 let d <-iQ [0:n] ((ag,c.2.1,c.2.2.1,c.2.2.2.1,0,0):U2) λ_ d=>f1 c.2.2.2.2 d
 iR d.1 (λ_=>do
  mV "list.sort.gallop"
  let e <-iQ [0:n] ((ag,d.2.1,d.2.2.1,d.2.2.2.1,c.2.2.2.2+1,d.2.2.2.2.1,d.2.2.2.2.2):U3) λ_ d=>f2 d
  iR e.1 (λ_=>do
   U8 (e.2.2.2.2.1+1)
   dg (.yield (ag,e.2.1,e.2.2.1,e.2.2.2.1,e.2.2.2.2.1+1))) λr=>dg<|.done (aa r,e.2.1,e.2.2.1,e.2.2.2.1,e.2.2.2.2.1)) λr=>dg<|.done (aa r,d.2.1,d.2.2.1,d.2.2.2.1,c.2.2.2.2)
def zD(a b:KA):V4 a b=(do
 mV "list.sort.merge-hi"
 let x <-fT a (a.size-1)
 if a.size-1 == 0 then return dh a b #[x] (a.size-1) b.size
 if b.size == 1 then return fh a b #[x] (a.size-1) b.size
 let τ <-get
 let c <-iQ [0:a.size+b.size] ((ag,a.size-1,b.size,#[x],gallopOf τ):U1) λ_ c=>TT (a.size+b.size) (H1 a b) (H2 a b) c
 iR c.1 (λ_=>oo "internal:list.sort.merge-bound") λr=>dg r):=rfl
def uY{a:KA}{t i:Nat}:(a.extract t i).toList=(a.toList.take i).drop t:=by
 rw[hG,fU,List.drop_take]
noncomputable abbrev rv(a:KA)(i:Nat):List bW:=(a.toList.take i).reverse
def WJ{a:KA}{i:Nat}(h:0<i)(h2:i<=a.size):rv a i=a[i-1]::rv a (i-1):=by
 obtain⟨k,rfl⟩:∃k,i=k+1:=#[i-1,by lia]
 show(a.toList.take<|k+1).reverse=_;rw[List.take_succ_eq_append_getElem (by rw[aI];exact h2),mi];rfl
def vZ{a:KA}{t i:Nat}(h:t<=i):rv a i=((a.toList.take i).drop t).reverse++rv a t:=by
 rw[<-mi];have:=cO t<|a.toList.take i;rw[oY,lx h]at this;rw[this]
section
variable{prog:bC}{w:bU}{A:cL}{E:ap->ax->Prop}{s:ax}{κ:fq}{In:bW->Prop}{rk:bW->Nat}{a b:KA}{T:List bW}
abbrev Hi(rk:bW->Nat)(a b:KA)(T:List bW)(o:KA)(i j:Nat):Prop:=ML (gr rk) T o.toList (rv a i)<|rv b j
structure Ih(rk:bW->Nat)(a b:KA)(T:List bW)(o:KA)(i j:Nat):Prop where
 m:Hi rk a b T o i j
 i0:0<i
 i1:i<=a.size
 j0:1<j
 j1:j<=b.size
 z:o.size+i+j=a.size+b.size
def JA{l:List bW}{r:KA}(h:l.Perm T/\Srt (gr rk) l)(e:r.toList=l.reverse):Res rk T r:=by
 unfold Res;rw[e];exact#[(dO l).trans h.1,eB.mpr h.2]
def Zbe(h:Hi rk a b T o i j)(hi:(i == 0)=aj):Res rk T (dh a b o i j):=by
 cases beq_iff_eq.mp hi;refine JA (ML.fin h.swap) ?_;simp
def ZfV(h:Hi rk a b T o i j)(hj:(j == 0)=aj):Res rk T (dh a b o i j):=by
 cases beq_iff_eq.mp hj;refine JA (ML.fin h) ?_;simp
def Q0(fs:∀x∈a.toList,∀y∈b.toList.take 1,rk y<rk x)(h:Hi rk a b T o i j)(hj:(j == 1)=aj):Res rk T (fh a b o i j):=by
 cases beq_iff_eq.mp hj;have:=(ML.as (by rw[bS];exact h) λx hx y hy=>fs x (dm<|eV.mp hx) y<|eV.mp hy).swap.fin
 refine JA this ?_;simp
def qu(h:Hi rk a b T o i j)(i0:0<i)(i1:i<=a.size)(hx:∀y∈rv b j,rk y<rk a[i-1]):Hi rk a b T (o.push a[i-1]) (i-1) j:=by
 unfold Hi at h ⊢;rw[WJ i0 i1]at h;rw[dM];exact ML.as h λx hx' y hy'=>by rw[bg.mp hx'];exact hx y hy'
def Zb6(h:Hi rk a b T o i j)(j0:0<j)(j1:j<=b.size)(hx:∀y∈rv a i,rk y<rk b[j-1]):Hi rk a b T (o.push b[j-1]) i (j-1):=by
 unfold Hi at h ⊢;rw[WJ j0 j1]at h;rw[dM];exact ML.bs h λx hx' y hy'=>by rw[bg.mp hx'];exact hx y hy'
def xh{l:List bW}{x y:bW}(h:Srt (gr rk) (x::l))(hx:rk x<rk y):∀z∈x::l,rk z<rk y:=λz hz=>by
 rcases aB.mp hz with rfl|hz
 .exact hx
 .exact c0 ((bm.mp h).1 z hz) hx
theorem xD(O:Od prog w A E s κ In rk){lf:Bool}{k:bW}{ar:KA}{n:Nat}{τ:bP}{Q:Option Nat->bP->Prop}(hk:kindOf τ=κ)(ik:In k)(hn:0<n)(h1:n<=ar.size)(ia:∀x∈ar.toList,In x)(so:Srt (gr rk) (rv ar n))(ne:∀x∈rv ar n,rk x≠rk k)
  (hq:∀r,r<=n->(∀x∈rv ar r,rk x<rk k)->(∀x∈((ar.toList.take n).drop r).reverse,rk k<rk x)->Q (aa r) τ):lH (aS prog w) A E s (Yh lf k ar 0 n<|n-1) Q τ:=by
 refine x5 O hk ik (Nat.sub_lt hn Nat.one_pos) (by lia) ia (eB.mp so) (λx hx=>ne x<|eV.mpr hx) λr h2 h3 h4=>hq r h2 (λx hx=>h3 x ?_) λx hx=>h4 x<|eV.mp hx
 have hx:=eV.mp hx;rw[oY,lx h2];exact hx
def VQ{a:KA}{i:Nat}(i0:0<i)(i1:i<=a.size):a[i-1]∈rv a i:=by rw[WJ i0 i1];exact am ..
def za{a:KA}{i:Nat}{x:bW}(h:x∈rv a i):x∈a.toList:=dm<|eV.mp h
section
variable(O:Od prog w A E s κ In rk)(G:Mg κ In rk a b T)(fs:∀x∈a.toList,∀y∈b.toList.take 1,rk y<rk x)
include O G fs
theorem Zfk{g ca cb:Nat}{r0:Option KA}{τ:bP}{Q:ForInStep U2->bP->Prop}(hk:kindOf τ=κ)(I:Ih rk a b T o i j)
  (hd:∀r c,Res rk T r->Q (.done (aa r,c)) τ)(hb:∀o' i' j' ca cb,Ih rk a b T o' i' j'->o'.size=o.size+1->Q (.done (ag,i',j',o',ca,cb)) τ/\Q (.yield (ag,i',j',o',ca,cb)) τ):lH (aS prog w) A E s (H1 a b g (r0,i,j,o,ca,cb)) Q τ:=by
 obtain⟨m,i0,i1,j0,j1,z⟩:=I;have j0':=dN j0;have hja:j-1<b.size:=by lia
 have hia:i-1<a.size:=by lia
 have ha:=VQ i0 i1;have hb':=VQ j0' j1;have sa:=m.sa;have sb:=m.sb;rw[WJ i0 i1]at sa;rw[WJ j0' j1]at sb;refine aK<|ZG (ZR hja)<|aK<|ZG (ZR hia)<|aK<|O.ask (G.ib _<|za hb') (G.ia _<|za ha) hk ?_;by_cases c:rk b[j-1]<rk a[i-1]
 .rw[T5 c]
  refine aK<|ZG (ZR hia) ?_;have m:=qu m i0 i1 (by rw[WJ j0' j1];exact xh sb c)
  have z':(o.push a[i-1]).size=o.size+1:=dy ..;refine ZE (λq=>aQ<|hd _ _<|Zbe m q) λq=>?_
  have q:i-1≠0:=λz=>q<|beq_iff_eq.mpr z
  have h:=hb _ _ _ (ca+1) 0 #[m,by lia,by lia,j0,j1,by lia] z'
  exact ZE (λ_=>aQ h.1) λ_=>aQ h.2
 .rw[T4 c]
  refine aK<|ZG (ZR hja) ?_;have c':=gh (d4 c)<|m.ne G.nd ha hb';have m:=Zb6 m j0' j1 (by rw[WJ i0 i1];exact xh sa c')
  have z':(o.push b[j-1]).size=o.size+1:=dy ..;refine ZE (λq=>aQ<|hd _ _<|Q0 fs m q) λq=>?_
  have q:j-1≠1:=λz=>q<|beq_iff_eq.mpr z
  have h:=hb _ _ _ 0 (cb+1) #[m,i0,i1,by lia,by lia,by lia] z'
  exact ZE (λ_=>aQ h.1) λ_=>aQ h.2
theorem Zct{g ca cb:Nat}{τ:bP}(I:Ih rk a b T o i j)(hx:∀y∈rv b j,rk y<rk (a[i-1]'(by have:=I.i0;have:=I.i1;lia)))
  (hd:∀r c,Res rk T r->Q (.done (aa r,c)) τ)(hb:∀o' i' j' g ca cb,Ih rk a b T o' i' j'->o'.size=o.size+1->Q (.done (ag,i',j',o',g,ca,cb)) τ/\Q (.yield (ag,i',j',o',g,ca,cb)) τ):lH (aS prog w) A E s (K3 a b g ca cb i o j) Q τ:=by
 obtain⟨m,i0,i1,j0,j1,z⟩:=I;refine aK<|ZG (ZR<|by lia) ?_
 have m:=qu m i0 i1 hx;have z':(o.push a[i-1]).size=o.size+1:=dy ..;refine ZE (λq=>aQ<|hd _ _<|Zbe m q) λq=>?_
 have q:i-1≠0:=λz=>q<|beq_iff_eq.mpr z
 have h:=hb _ _ _ g ca cb #[m,by lia,by lia,j0,j1,by lia] z'
 exact ZE (λ_=>aQ h.1) λ_=>aQ h.2
theorem Zcl{g ca cb:Nat}{τ:bP}(hk:kindOf τ=κ)(I:Ih rk a b T o i j)(hy:∀y∈rv a i,rk y<rk (b[j-1]'(by have:=I.j0;have:=I.j1;lia)))
  (hd:∀r c,Res rk T r->Q (.done (aa r,c)) τ)(hb:∀o' i' j' g ca cb,Ih rk a b T o' i' j'->o.size<o'.size->Q (.done (ag,i',j',o',g,ca,cb)) τ/\Q (.yield (ag,i',j',o',g,ca,cb)) τ):lH (aS prog w) A E s (K2 a b g ca cb j o i) Q τ:=by
 obtain⟨m,i0,i1,j0,j1,z⟩:=I;refine aK<|ZG (ZR<|by lia) ?_
 have m:=Zb6 m (dN j0) j1 hy;have z':(o.push b[j-1]).size=o.size+1:=dy ..;refine ZE (λq=>aQ<|hd _ _<|Q0 fs m q) λq=>?_
 have q:j-1≠1:=λz=>q<|beq_iff_eq.mpr z
 have ha:=VQ i0 i1;refine aK<|ZG (ZR<|by lia)<|aK<|xD O hk (G.ia _<|za ha) (by lia) (by lia) G.ib m.sb (λy hy=>(m.ne G.nd ha hy).symm) λr hr h1 h2=>?_
 refine ZE (λc=>?_) λc=>?_
 .have m2:Hi rk a b T (o.push b[j-1]++(b.extract r<|j-1).reverse) i r:=by
   unfold Hi;rw[cz,lV,uY];refine ML.bs ?_ λy hy x hx=>?_
   .rw[<-vZ hr];exact m
   .have sa:=m.sa
    rw[WJ i0 i1]at sa hx;exact xh sa (h2 y hy) x hx
  have z2:(o.push b[j-1]++(b.extract r<|j-1).reverse).size=o.size+1+(j-1-r):=by rw[gG,z',mO,gj];lia
  refine ZE (λq=>aQ<|hd _ _<|Q0 fs m2 q) λq1=>ZE (λq=>aQ<|hd _ _<|ZfV m2 q) λq2=>?_
  have q1:r≠1:=λz=>q1<|beq_iff_eq.mpr z
  have q2:r≠0:=λz=>q2<|beq_iff_eq.mpr z
  exact Zct O G fs #[m2,i0,i1,by lia,by lia,by lia] h1 hd λo' i' j' g ca cb I e=>hb o' i' j' g ca cb I (by lia)
 .have e:r=j-1:=by lia
  subst e;exact Zct O G fs #[m,i0,i1,by lia,by lia,by lia] h1 hd λo' i' j' g ca cb I e=>hb o' i' j' g ca cb I (by lia)
theorem Zcd{g ca cb:Nat}{τ:bP}(hk:kindOf τ=κ)(I:Ih rk a b T o i j)
  (hd:∀r c st',Sg τ st'->Res rk T r->Q (.done (aa r,c)) st')(hb:∀o' i' j' g ca cb st',Sg τ st'->Ih rk a b T o' i' j'->o.size<o'.size->Q (.done (ag,i',j',o',g,ca,cb)) st'/\Q (.yield (ag,i',j',o',g,ca,cb)) st'):lH (aS prog w) A E s (K1 a b o i j ca cb g) Q τ:=by
 obtain⟨m,i0,i1,j0,j1,z⟩:=I;have j0':=dN j0;have hb':=VQ j0' j1;refine aK<|VW λst' sg=>aK<|ZG (ZR<|by lia)<|aK<|xD O (sg.1.trans hk) (G.ib _<|za hb') i0 i1 G.ia m.sa (λx hx=>m.ne G.nd hx hb') λr hr h1 h2=>?_
 refine ZE (λc=>?_) λc=>?_
 .have m2:Hi rk a b T (o++(a.extract r i).reverse) r j:=by
   unfold Hi;rw[cz,lV,uY];refine ML.as ?_ λx hx y hy=>?_
   .rw[<-vZ hr];exact m
   .have sb:=m.sb
    rw[WJ j0' j1]at sb hy;exact xh sb (h2 x hx) y hy
  have z2:(o++(a.extract r i).reverse).size=o.size+(i-r):=by rw[gG,mO,gj];lia
  refine ZE (λq=>aQ<|hd _ _ st' sg<|Zbe m2 q) λq=>?_
  have q:r≠0:=λz=>q<|beq_iff_eq.mpr z
  exact Zcl O G fs (sg.1.trans hk) #[m2,by lia,by lia,j0,j1,by lia] h1 (λr c=>hd r c st' sg) λo' i' j' g ca cb I e=>hb o' i' j' g ca cb st' sg I (by lia)
 .have e:r=i:=by lia
  subst e;exact Zcl O G fs (sg.1.trans hk) #[m,i0,i1,j0,j1,z] h1 (λr c=>hd r c st' sg) λo' i' j' g ca cb I e=>hb o' i' j' g ca cb st' sg I (by lia)
theorem Ze4{g ca cb:Nat}{r0:Option KA}{τ:bP}(hk:kindOf τ=κ)(I:Ih rk a b T o i j)
  (hd:∀r c st',Sg τ st'->Res rk T r->Q (.done (aa r,c)) st')(hb:∀o' i' j' g ca cb st',Sg τ st'->Ih rk a b T o' i' j'->o.size<o'.size->Q (.done (ag,i',j',o',g,ca,cb)) st'/\Q (.yield (ag,i',j',o',g,ca,cb)) st'):lH (aS prog w) A E s (H2 a b (r0,i,j,o,g,ca,cb)) Q τ:=by
 exact ZE (λ_=>Zcd O G fs hk I hd hb) λ_=>Zcd O G fs hk I hd hb
theorem Zfg{g:Nat}{r0:Option KA}{τ:bP}{Q:ForInStep U1->bP->Prop}(hk:kindOf τ=κ)(I:Ih rk a b T o i j)
  (hd:∀r c st',Sg τ st'->Res rk T r->Q (.done (aa r,c)) st')(hy:∀o' i' j' g st',Sg τ st'->Ih rk a b T o' i' j'->o.size<o'.size->Q (.yield (ag,i',j',o',g)) st'):lH (aS prog w) A E s (TT (a.size+b.size) (H1 a b) (H2 a b) (r0,i,j,o,g)) Q τ:=by
 refine aK (eM (cy
  (I:=λx (c:U2) st'=>st'=τ/\c.1=ag/\Ih rk a b T c.2.2.2.1 c.2.1 c.2.2.1/\o.size+x<=c.2.2.2.1.size)
  (Q:=λ(c:U2) st'=>st'=τ/\((∃r,c.1=aa r/\Res rk T r)\/c.1=ag/\Ih rk a b T c.2.2.2.1 c.2.1 c.2.2.1/\o.size<c.2.2.2.1.size)) ?_ ?_ #[rfl,rfl,I,aH _]) ?_)
 .rintro x ⟨r,i',j',o',ca,cb⟩ st' _ _ ⟨rfl,rfl,I',hz⟩
  exact Zfk O G fs hk I' (λr c h=>#[rfl,.inl #[r,rfl,h]]) λo2 i2 j2 ca cb I2 e=>#[#[rfl,.inr #[rfl,I2,by dsimp only at hz ⊢;lia]],rfl,rfl,I2,by dsimp only at hz ⊢;lia]
 .rintro ⟨r,i',j',o',ca,cb⟩ st' ⟨rfl,rfl,I',hz⟩
  have:=I'.i0;have:=I'.j0;have:=I'.z;lia
 .rintro ⟨r,i',j',o',ca,cb⟩ st' ⟨rfl,⟨r',rfl,h⟩|⟨rfl,I',hz⟩⟩
  .exact aQ<|hd _ _ _ #[rfl,rfl,rfl,rfl] h
  .dsimp only at I' hz
   refine aK (X2 (aK (eM (cy
    (I:=λx (c:U3) st''=>Sg st' st''/\c.1=ag/\Ih rk a b T c.2.2.2.1 c.2.1 c.2.2.1/\o'.size+x<=c.2.2.2.1.size)
    (Q:=λ(c:U3) st''=>Sg st' st''/\((∃r,c.1=aa r/\Res rk T r)\/c.1=ag/\Ih rk a b T c.2.2.2.1 c.2.1 c.2.2.1/\o'.size<c.2.2.2.1.size)) ?_ ?_ #[#[rfl,rfl,rfl,rfl],rfl,I',aH _]) ?_)))
   .rintro x ⟨r,i2,j2,o2,g,ca,cb⟩ st2 _ _ ⟨sg,rfl,I2,hz2⟩
    dsimp only at I2 hz2
    exact Ze4 O G fs (sg.1.trans hk) I2 (λr c st3 s3 h=>#[sg.trans s3,.inl #[r,rfl,h]]) λo3 i3 j3 g ca cb st3 s3 I3 e=>#[#[sg.trans s3,.inr #[rfl,I3,by dsimp only;lia]],sg.trans s3,rfl,I3,by dsimp only;lia]
   .rintro ⟨r,i2,j2,o2,g,ca,cb⟩ st2 ⟨sg,rfl,I2,hz2⟩
    have:=I2.i0;have:=I2.j0;have:=I2.z;lia
   .rintro ⟨r,i2,j2,o2,g,ca,cb⟩ st2 ⟨sg,⟨r',rfl,h⟩|⟨rfl,I2,hz2⟩⟩
    .exact aQ<|hd _ _ _ sg h
    .exact aK<|VW λst3 s3=>aQ<|hy _ _ _ _ _ (sg.trans s3) I2<|c0 hz hz2
theorem zW{τ:bP}{Q:KA->bP->Prop}(hk:kindOf τ=κ)(ha:0<a.size)(hb:0<b.size)(sa:Srt (lr rk) a.toList)(sb:Srt (lr rk) b.toList)(hT:(a.toList++b.toList).Perm T)
  (hq:∀r st',Sg τ st'->Res rk T r->Q r st'):lH (aS prog w) A E s (V4 a b) Q τ:=by
 rw[zD];refine aK<|X2<|aK<|ZG (ZR<|by lia) ?_
 have ea:rv a a.size=a.toList.reverse:=by show(a.toList.take a.size).reverse=_;rw[<-aI,fN]
 have eb:rv b b.size=b.toList.reverse:=by show(b.toList.take b.size).reverse=_;rw[<-aI,fN]
 have m0:Hi rk a b T #[] a.size b.size:=by
  unfold Hi;rw[ea,eb];exact#[by simpa using((dO _).append<|dO _).trans hT,.nil,eB.mpr sa,eB.mpr sb,λx hx=>by cases hx]
 have m:=qu m0 ha (aH _) λy hy=>G.last y (za hy) _ (by rw[Z6 (by lia)];exact am ..)
 have sg0:Sg τ τ:=#[rfl,rfl,rfl,rfl];refine ZE (λq=>aQ<|hq _ _ sg0<|Zbe m q) λq1=>ZE (λq=>aQ<|hq _ _ sg0<|Q0 fs m q) λq2=>?_
 have q1:a.size-1≠0:=λz=>q1<|beq_iff_eq.mpr z
 have q2:b.size≠1:=λz=>q2<|beq_iff_eq.mpr z
 refine aK (gH (aK (eM (cy
  (I:=λx (c:U1) st''=>Sg τ st''/\c.1=ag/\Ih rk a b T c.2.2.2.1 c.2.1 c.2.2.1/\x<=c.2.2.2.1.size)
  (Q:=λ(c:U1) st''=>Sg τ st''/\∃r,c.1=aa r/\Res rk T r) ?_ ?_ #[sg0,rfl,#[m,by dsimp only;lia,by dsimp only;lia,by dsimp only;lia,aH _,by show 1+(a.size-1)+b.size=_;lia],cJ _]) ?_)))
 .rintro x ⟨r,i,j,o,g⟩ st2 _ _ ⟨sg,rfl,I,hz⟩
  dsimp only at I hz
  exact Zfg O G fs (sg.1.trans hk) I (λr c st3 s3 h=>#[sg.trans s3,r,rfl,h]) λo3 i3 j3 g st3 s3 I3 e=>#[sg.trans s3,rfl,I3,by dsimp only;lia]
 .rintro ⟨r,i,j,o,g⟩ st2 ⟨sg,rfl,I,hz⟩
  have:=I.i0;have:=I.j0;have:=I.z;lia
 .rintro ⟨r,i,j,o,g⟩ st2 ⟨sg,r',rfl,h⟩
  exact aQ<|hq _ _ sg h
end
end
noncomputable def Kr(rk:bW->Nat)(xs:Array bW)(i:Nat):Nat:=match xs[i]? with
 |some p=>rk p
 |none=>0
def WF(h:xs[i]?=ys[j]?):Kr rk xs i=Kr rk ys j:=by unfold Kr;rw[h]
structure Sb(κ:fq)(a₀:Array bW)(P:Array (Nat×Nat×Nat))(lo:Nat)(L:List bW)(τ:bP):Prop where
 kd:kindOf τ=κ
 pm:(ba τ).Perm a₀
 fl:f7 τ=ag
 pd:be τ=P
 ah:(ba τ).toList.take lo=L
def Up(rk:bW->Nat)(xs:Array bW)(lo m:Nat):Prop:=∀i j,lo<=i->i<j->j<lo+m->Kr rk xs i<Kr rk xs j
def Dn(rk:bW->Nat)(xs:Array bW)(lo m:Nat):Prop:=∀i j,lo<=i->i<j->j<lo+m->Kr rk xs j<Kr rk xs i
section
variable{κ:fq}{a₀:Array bW}{P:Array (Nat×Nat×Nat)}{lo:Nat}{L:List bW}{τ:bP}{In:bW->Prop}{rk:bW->Nat}
theorem Sb.size(h:Sb κ a₀ P lo L τ):(ba τ).size=a₀.size:=h.pm.size_eq
def Sb.in(h:Sb κ a₀ P lo L τ)(ia:∀x∈a₀.toList,In x):∀x∈(ba τ).toList,In x:=λx hx=>ia x<|(bv.mp h.pm).mem_iff.mp hx
def Gb(hi:i<xs.size):Kr rk xs i=rk xs[i]:=by unfold Kr;rw[a8 hi]
theorem Sb.ne(h:Sb κ a₀ P lo L τ)(nd:(a₀.toList.map rk).Nodup)(hi:i<a₀.size)(hj:j<a₀.size)(e:Kr rk (ba τ) i=Kr rk (ba τ) j):i=j:=by
 have hs:=h.size;have n:=(((bv.mp h.pm).map rk).nodup_iff).mpr nd;have g:∀k,k<a₀.size->((ba τ).toList.map rk)[k]?=aa (Kr rk (ba τ) k):=λk hk=>by
  rw[aM,bf,a8 (by lia),Gb (by lia)];rfl
 exact(gI (by rw[aw,aI];lia) n).mp (by rw[g i hi,g j hj,e])
def Sb.setA(h:Sb κ a₀ P lo L τ)(hp:xs.Perm (ba τ))(hf:∀k,k<lo->xs[k]?=(ba τ)[k]?):Sb κ a₀ P lo L (setArr τ xs):=
 #[h.kd,hp.trans h.pm,h.fl,h.pd,by
  rw[<-h.ah];refine bR λk=>?_
  rw[cV,cV];split
  .rw[bf,bf];exact hf k ‹_›
  .rfl]
variable{prog:bC}{w:bU}{A:cL}{E:ap->ax->Prop}{s:ax}
theorem U0(O:Od prog w A E s κ In rk)(h:Sb κ a₀ P lo L τ)(ia:∀x∈a₀.toList,In x){Q:Option Bool->bP->Prop}(hi:i<a₀.size)(hj:j<a₀.size)(q:Q (aa<|ae<|Kr rk (ba τ) i<Kr rk (ba τ) j) τ):lH (aS prog w) A E s (ltAt' i j) Q τ:=by
 have hs:=h.size;have m:∀k (hk:k<(ba τ).size),In (ba τ)[k]:=λk hk=>h.in ia _ (by simp)
 rw[ltAt'_eq];refine aK<|gH ?_;refine aK<|ZG (ZR<|by lia)<|aK<|ZG (ZR<|by lia) ?_
 rw[Gb (by lia),Gb<|by lia]at q
 exact O.ask (m i _) (m j _) h.kd q
theorem ZdZ(xs:Array bW):Up rk xs lo 1:=λi j a b c=>by lia
theorem ZaM(h1:1<=m)(u:Up rk xs lo m)(c:Kr rk xs (lo+m-1)<Kr rk xs (lo+m)):Up rk xs lo (m+1):=λi j a b d=>by
 by_cases z:j=lo+m
 .subst z
  by_cases y:i=lo+m-1
  .rw[y];exact c
  .exact c0 (u i (lo+m-1) a (by lia)<|by lia) c
 .exact u i j a b (by lia)
theorem Zbp(h1:1<=m)(u:Dn rk xs lo m)(c:Kr rk xs (lo+m)<Kr rk xs (lo+m-1)):Dn rk xs lo (m+1):=λi j a b d=>by
 by_cases z:j=lo+m
 .subst z
  by_cases y:i=lo+m-1
  .rw[y];exact c
  .exact c0 c<|u i (lo+m-1) a (by lia) (by lia)
 .exact u i j a b (by lia)
theorem uK(O:Od prog w A E s κ In rk)(ia:∀x∈a₀.toList,In x)(nd:(a₀.toList.map rk).Nodup){Q:AscSt->bP->Prop}
  (hF:∀i m (Q:ForInStep AscSt->bP->Prop),1<=m->m<nrem->(Kr rk (ba τ) (lo+m)<Kr rk (ba τ) (lo+m-1)->Q (.done (ag,m)) τ)->(¬Kr rk (ba τ) (lo+m)<Kr rk (ba τ) (lo+m-1)->Q (.yield (ag,m+1)) τ)->lH (aS prog w) A E s (F i (ag,m)) Q τ)
  (hn:lo+nrem<=a₀.size)(h1:1<=n0)(hl:n0<=nrem)(hB:Sb κ a₀ P lo L τ)(u:Up rk (ba τ) lo n0)
  (q:∀m,n0<=m->m<=nrem->Up rk (ba τ) lo m->(m<nrem->Kr rk (ba τ) (lo+m)<Kr rk (ba τ) (lo+m-1))->Q (ag,m) τ):lH (aS prog w) A E s (iQ [n0:nrem] ((ag,n0):AscSt) F) Q τ:=by
 refine cy (I:=λi c st'=>st'=τ/\c=(ag,i)/\Up rk (ba τ) lo i) ?_ ?_ #[rfl,rfl,u]
 .rintro i c st' ha hb ⟨rfl,rfl,u⟩
  refine hF i i _ (by lia) hb (λc=>q i ha (by lia) u λ_=>c) λc=>#[rfl,rfl,ZaM (by lia) u ?_]
  have:Kr rk (ba st') (lo+i-1)≠Kr rk (ba st') (lo+i):=λe=>by
   have:=hB.ne nd (by lia) (by lia) e
   lia
  lia
 .rintro c st' ⟨rfl,rfl,u⟩
  have e:max n0 nrem=nrem:=by lia
  rw[e]at u ⊢;exact q nrem hl (aH _) u λz=>T7 z<|bw _
theorem qb(O:Od prog w A E s κ In rk)(ia:∀x∈a₀.toList,In x)(nd:(a₀.toList.map rk).Nodup){Q:Option Nat->bP->Prop}(hn:lo+nrem<=a₀.size)(h1:1<=nrem)(hB:Sb κ a₀ P lo L τ)
  (q:∀m st',Sb κ a₀ P lo L st'->1<=m->m<=nrem->Up rk (ba st') lo m->Q (aa m) st'):lH (aS prog w) A E s (countRun' lo nrem) Q τ:=by
 rw[countRun'_eq];refine aK<|uK O ia nd (λi m Q a b k1 k2=>?_) hn (aH _) h1 hB (ZdZ _) λm m1 m2 u c=>?_
 .refine aK (U0 O hB ia (by lia) (by lia) ?_)
  dsimp only
  split
  .exact aQ<|k1<|T6 ‹_›
  .exact aQ<|k2 λz=>‹¬_› (T5 z)
 dsimp only
 by_cases e:m=nrem
 .rw[T9 (by simpa using e)]
  exact aQ<|q m τ hB m1 m2 u
 rw[T8 (by simpa using e)]
 by_cases c1:m>1
 .rw[T9 c1]
  refine aK<|U0 O hB ia (by lia) (by lia) ?_
  dsimp only
  rw[T9<|T5<|u lo (lo+m-1) (aH _) (by lia) (by lia)]
  exact aQ<|q m τ hB m1 m2 u
 rw[T8 c1];obtain rfl:m=1:=by lia
 refine aK<|X2 ?_;have nl:∀i j,i<a₀.size->j<a₀.size->i≠j->¬Kr rk (ba τ) i<Kr rk (ba τ) j->Kr rk (ba τ) j<Kr rk (ba τ) i:=λi j hi hj ne c=>by
  have:Kr rk (ba τ) i≠Kr rk (ba τ) j:=λe=>ne<|hB.ne nd hi hj e
  lia
 have d2:Dn rk (ba τ) lo 2:=λi j a b d=>by
  obtain⟨rfl,rfl⟩:i=lo/\j=lo+1:=by lia
  exact c (by lia)
 refine aK<|eM (cy (I:=λi c st'=>st'=τ/\c=(ag,i,0)/\Dn rk (ba τ) lo i) (Q:=λc st'=>st'=τ/\∃i,c=(ag,i,0)/\2<=i/\i<=nrem/\Dn rk (ba τ) lo i) ?_ ?_ #[rfl,rfl,d2]) ?_
 .rintro i c st' ha hb ⟨rfl,rfl,u⟩
  dsimp only
  refine aK<|U0 O hB ia (by lia) (by lia) ?_
  dsimp only
  split
  .rw[T8<|bw 0]
   exact aQ #[rfl,rfl,Zbp (by lia) u<|T6 ‹_›]
  .refine aK (U0 O hB ia (by lia) (by lia) ?_)
   dsimp only
   rw[T9<|T5<|nl (lo+i) (lo+i-1) (by lia) (by lia) (by lia) λz=>‹¬_› (T5 z)]
   exact aQ #[rfl,i,rfl,by lia,by lia,u]
 .rintro c st' ⟨rfl,rfl,u⟩
  have e:max (1+1) nrem=nrem:=by lia
  rw[e]at u ⊢;exact#[rfl,nrem,rfl,by lia,aH _,u]
 .rintro c st' ⟨rfl,i,rfl,h2,hi,u⟩
  dsimp only
  rw[T8<|bw 0];refine aK<|wpS_reverse ?_;have hs:=hB.size;have gm:=λk=>getElem?_mirror_all (xs:=ba st') (i:=lo) (j:=lo+i) (by lia) k
  have hB2:=hB.setA (mirror_perm ..) λk hk=>by
   rw[gm k,T8 (by lia)]
  have u2:Up rk (mirror (ba st') lo (lo+i)<|(lo+i-lo) / 2) lo i:=λa b h1 h2 h3=>by
   have e:∀k,lo<=k->k<lo+i->Kr rk (mirror (ba st') lo (lo+i)<|(lo+i-lo) / 2) k=Kr rk (ba st') (lo+(lo+i-1-k)):=λk ka kb=>WF (by rw[gm k,T9 #[ka,kb]];congr 1;lia)
   rw[e a h1 (by lia),e b (by lia) h3]
   exact u _ _ (by lia) (by lia) (by lia)
  refine aK<|uK O ia nd (λi m Q a b k1 k2=>?_) hn (by lia) hi hB2 u2 λm m1 m2 u c=>?_
  .refine aK (U0 O hB2 ia (by dsimp only;lia) (by dsimp only;lia) ?_)
   dsimp only
   split
   .exact aQ<|k1<|T6 ‹_›
   .exact aQ<|k2 λz=>‹¬_› (T5 z)
  .exact aQ<|q m _ hB2 (by lia) m2 u
theorem ZaX(O:Od prog w A E s κ In rk)(ia:∀x∈a₀.toList,In x)(nd:(a₀.toList.map rk).Nodup){Q:Bool->bP->Prop}(hn:lo+n<=a₀.size)(h1:1<=ok)(hok:ok<=n)(hB:Sb κ a₀ P lo L τ)(u:Up rk (ba τ) lo ok)
  (q:∀st',Sb κ a₀ P lo L st'->Up rk (ba st') lo n->Q aj st'):lH (aS prog w) A E s (binarySort' lo n ok) Q τ:=by
 rw[binarySort'_eq];refine aK<|eM (cy (I:=λk c st'=>c=(ag,())/\Sb κ a₀ P lo L st'/\Up rk (ba st') lo k) (Q:=λc st'=>c=(ag,())/\Sb κ a₀ P lo L st'/\Up rk (ba st') lo n) ?_ ?_ #[rfl,hB,by rw[Nat.max_eq_left h1];exact u]) ?_
 .rintro k c st' ha hb ⟨rfl,B,u⟩
  have hs:=B.size;refine aK (eM (cy (I:=λx c st2=>st2=st'/\∃l r,c=(ag,l,r)/\l<=r/\r<=k/\r-l<=k-x/\(∀i,i<l->Kr rk (ba st') (lo+i)<Kr rk (ba st') (lo+k))/\∀i,r<=i->i<k->Kr rk (ba st') (lo+k)<Kr rk (ba st') (lo+i))
   (Q:=λc st2=>st2=st'/\∃l r,c=(ag,l,r)/\l<=k/\(∀i,i<l->Kr rk (ba st') (lo+i)<Kr rk (ba st') (lo+k))/\∀i,l<=i->i<k->Kr rk (ba st') (lo+k)<Kr rk (ba st') (lo+i)) ?_ ?_ #[rfl,0,k,rfl,by lia,by lia,by lia,λi hi=>by lia,λi a b=>by lia]) ?_)
  .rintro x c st2 _ hx ⟨rfl,l,r,rfl,g1,g2,g3,g4,g5⟩
   dsimp only
   by_cases c:l>=r
   .rw[T9 c]
    exact aQ #[rfl,l,r,rfl,by lia,g4,λi a b=>g5 i (by lia) b]
   .rw[T8 c]
    refine aK<|U0 O B ia (by lia) (by lia) ?_
    dsimp only
    split
    .have cm:=T6 ‹_›
     refine aQ #[rfl,l,(l+r) / 2,rfl,by lia,by lia,by lia,g4,λi a b=>?_]
     by_cases y:i=(l+r) / 2
     .rw[y];exact cm
     .exact c0 cm<|u _ _ (by lia) (by lia) (by lia)
    .have cm:Kr rk (ba st2) (lo+(l+r) / 2)<Kr rk (ba st2) (lo+k):=by
      have z:¬Kr rk (ba st2) (lo+k)<Kr rk (ba st2) (lo+(l+r) / 2):=λz=>‹¬_› (T5 z)
      have:Kr rk (ba st2) (lo+k)≠Kr rk (ba st2) (lo+(l+r) / 2):=λe=>by
       have:=B.ne nd (by lia) (by lia) e
       lia
      lia
     refine aQ #[rfl,(l+r) / 2+1,r,rfl,by lia,by lia,by lia,λi a=>?_,g5]
     by_cases y:i=(l+r) / 2
     .rw[y];exact cm
     .exact c0 (u _ _ (by lia) (by lia)<|by lia) cm
  .rintro c st2 ⟨rfl,l,r,rfl,g1,g2,g3,g4,g5⟩
   exact#[rfl,l,r,rfl,by lia,g4,λi a b=>g5 i (by lia) b]
  .rintro c st2 ⟨rfl,l,r,rfl,g2,g4,g5⟩
   dsimp only
   rw[moveDown'_eq];refine aK<|fg<|aQ ?_;have gb:=λi=>getElem?_bubble (xs:=ba st2) (src:=lo+k) (by lia) (lo+k-(lo+l)) (by lia) i
   have e1:lo+k-(lo+k-(lo+l))=lo+l:=by lia
   rw[e1]at gb;refine#[rfl,B.setA (bubble_perm ..) λi hi=>?_,λi j a b d=>?_]
   .rw[gb i,T8 (by lia),T8 (by lia)]
   .have e:∀i,Kr rk (bubble (ba st2) (lo+k)<|lo+k-(lo+l)) i=if i=lo+l then Kr rk (ba st2) (lo+k)else if lo+l<i/\i<=lo+k then Kr rk (ba st2) (i-1)else Kr rk (ba st2) i:=λi=>by
     have h:=gb i;split at h
     .rw[T9 ‹_›];exact WF h
     .rw[T8 ‹_›]
      split at h
      .rw[T9 ‹_›];exact WF h
      .rw[T8 ‹_›];exact WF h
    rw[e i,e j];have low:∀x,lo<=x->x<lo+l->Kr rk (ba st2) x<Kr rk (ba st2) (lo+k):=λx a b=>by
     have:=g4 (x-lo) (by lia)
     rwa [show lo+(x-lo)=x by lia]at this
    have high:∀x,lo+l<=x->x<lo+k->Kr rk (ba st2) (lo+k)<Kr rk (ba st2) x:=λx a b=>by
     have:=g5 (x-lo) (by lia) (by lia)
     rwa [show lo+(x-lo)=x by lia]at this
    by_cases ci:i=lo+l
    .rw[T9 ci,T8 (by lia),T9 (by lia)]
     exact high _ (by lia) (by lia)
    .rw[T8 ci]
     by_cases cj:j=lo+l
     .rw[T9 cj,T8 (by lia)]
      exact low _ a (by lia)
     .rw[T8 cj]
      by_cases di:lo+l<i/\i<=lo+k
      .rw[T9 di,T9 (by lia)];exact u _ _ (by lia) (by lia) (by lia)
      .rw[T8 di]
       by_cases dj:lo+l<j/\j<=lo+k
       .rw[T9 dj]
        by_cases z:i=j-1
        .lia
        .exact u _ _ a (by lia) (by lia)
       .rw[T8 dj];exact u _ _ a b (by lia)
 .rintro c st' ⟨rfl,B,u⟩
  have e:max (max ok 1) n=n:=by lia
  rw[e]at u;exact#[rfl,B,u]
 .rintro c st' ⟨rfl,B,u⟩
  exact aQ<|q st' B u
end
def zw(i:Nat):mergeAt' i=(do
 let t <-get
 let (aa (ia,ma,pw),aa (ib,mb,_)):=((be t)[i]?,(be t)[i+1]?)|unsupported "internal:list.sort.pending"
 set (gT t<|((be t).setIfInBounds i (ia,ma+mb,pw)).eraseIdxIfInBounds<|i+1)
 let aa r <-Yh ak (<-fT (ba t) ib) (ba t) ia ma 0|return ak
 let (ja,la):=(ia+r,ma-r)
 if la == 0 then return aj
 let aa lb <-Yh aj (<-fT (ba t) (ja+la-1)) (ba t) ib mb (mb-1)|return ak
 if lb == 0 then return aj
 let u:=(ba t).extract ja ib
 let v:=(ba t).extract ib<|ib+lb
 let mg <-if la<=lb then Ui u v else V4 u v
 modify λt=>setArr t<|mg.toList.zipIdx.foldl (λa (p,j)=>a.setIfInBounds (ja+j) p)<|ba t
 return (f7<|<-get).isNone):=rfl
theorem ze(b:Nat):∀(m:List bW)(j:Nat)(a:Array bW),b+j+m.length<=a.size->((m.zipIdx j).foldl (λa q=>a.setIfInBounds (b+q.2) q.1) a).toList=a.toList.take (b+j)++m++a.toList.drop (b+j+m.length)
 |[],j,a,h=>by simp
 |x::r,j,a,h=>by
  rw[aP]at h;rw[kN,dQ,ze b r (j+1) _ (by rw[Array.size_setIfInBounds];lia)]
  dsimp only
  rw[iT,aP,<-kB b j 1,kn,List.take_set_of_le<|aH _,bY (by simpa using(by lia:b+j<a.size)),List.drop_set_of_lt (by lia)]
  simp[kB,m9 1]
def Runs(rk:bW->Nat):List (Nat×Nat)->Nat->Nat->List bW->Prop
 |[],a,b,_=>a=b
 |(i,n)::r,a,b,l=>i=a/\1<=n/\Srt (lr rk) ((l.drop a).take n)/\Runs rk r (a+n) b l
section
theorem Runs.le:∀{r:List (Nat×Nat)}{a b:Nat}{l:List bW},Runs rk r a b l->a+r.length<=b
 |[],a,b,l,h=>nc h
 |(i,n)::r,a,b,l,#[_,h1,_,h]=>by have:=h.le;rw[aP];lia
theorem Runs.app:∀{r q:List (Nat×Nat)}{a b:Nat}{l:List bW},Runs rk (r++q) a b l↔∃c,Runs rk r a c l/\Runs rk q c b l
 |[],q,a,b,l=>#[λh=>#[a,rfl,h],λ#[c,h1,h2]=>by cases h1;exact h2]
 |(i,n)::r,q,a,b,l=>by
  constructor
  .rintro ⟨h1,h2,h3,h4⟩
   obtain⟨c,h5,h6⟩:=Runs.app.mp h4;exact#[c,#[h1,h2,h3,h5],h6]
  .rintro ⟨c,⟨h1,h2,h3,h4⟩,h5⟩
   exact#[h1,h2,h3,Runs.app.mpr #[c,h4,h5]]
theorem Runs.congr:∀{r:List (Nat×Nat)}{a b:Nat}{l l':List bW},Runs rk r a b l->(∀k,a<=k->k<b->l'[k]?=l[k]?)->Runs rk r a b l'
 |[],a,b,l,l',h,_=>h
 |(i,n)::r,a,b,l,l',#[h1,h2,h3,h4],e=>by
  have:=h4.le;refine#[h1,h2,?_,h4.congr λk ha hb=>e k (by lia) hb]
  have:(l'.drop a).take n=(l.drop a).take n:=bR λk=>by
   rw[cV,cV,gl,gl];split
   .exact e _ (by lia) (by lia)
   .rfl
  rw[this];exact h3
def Je(hx:Srt (lr rk) x)(hy:Srt (lr rk) y)(h:∀a∈x,∀b∈y,rk a<rk b):Srt (lr rk) (x++y):=eN.mpr #[hx,hy,h]
structure Sc(κ:fq)(a₀:Array bW)(τ:bP):Prop where
 kd:kindOf τ=κ
 pm:(ba τ).Perm a₀
 fl:f7 τ=ag
variable{In:bW->Prop}
theorem zS(O:Od prog w A E s κ In rk)(ia:∀x∈a₀.toList,In x)(nd:(a₀.toList.map rk).Nodup){Q:Bool->bP->Prop}(h:Sc κ a₀ τ)(h1:(be τ)[i]?=aa (a,na,pw))(h2:(be τ)[i+1]?=aa (a+na,nb,qw))
  (hl:(ba τ).toList=U++(X++(Y++Z)))(lU:U.length=a)(lX:X.length=na)(lY:Y.length=nb)(xa:1<=na)(yb:1<=nb)(sx:Srt (lr rk) X)(sy:Srt (lr rk) Y)
  (q:∀st' M,Sc κ a₀ st'->be st'=((be τ).setIfInBounds i (a,na+nb,pw)).eraseIdxIfInBounds (i+1)->(ba st').toList=U++(M++Z)->M.length=na+nb->Srt (lr rk) M->Q aj st'):lH (aS prog w) A E s (mergeAt' i) Q τ:=by
 have hp:=bv.mp h.pm;have ial:=λx hx=>ia x<|hp.mem_iff.mp hx
 have ndl:=((hp.map rk).nodup_iff).mpr nd;have hsz:(ba τ).size=a+(na+(nb+Z.length)):=by rw[<-aI,hl];simp[lU,lX,lY]
 have dX:((ba τ).toList.drop a).take na=X:=by rw[hl,<-lU,iU,<-lX,iV]
 have dY:((ba τ).toList.drop<|a+na).take nb=Y:=by rw[hl,<-bq,<-lU,<-lX,<-bc,iU,<-lY,iV]
 have ndXY:∀x∈X,∀y∈Y,rk x≠rk y:=λx hx y hy e=>by
  rw[hl,bK,eO,bK,eO]at ndl;exact ndl.2.1.2.2 _ (dS hx) _ (by rw[bK];exact dJ _<|dS hy) e
 have inX:∀x∈X,In x:=λx hx=>ial x (by rw[hl];simp[hx])
 have inY:∀y∈Y,In y:=λy hy=>ial y (by rw[hl];simp[hy])
 obtain⟨y0,Y',rfl⟩:∃y0 Y',Y=y0::Y':=by cases Y with|nil=>simp at lY;lia|cons y Y'=>exact#[y,Y',rfl]
 have e0:(ba τ)[a+na]?=aa y0:=by
  rw[<-bf,hl,<-bq,bB (by simp;lia)]
  simp[lU,lX]
 rw[zw];refine aK<|gH ?_;rw[h1,h2]
 dsimp only
 refine aK<|fg ?_
 generalize hst:gT τ (((be τ).setIfInBounds i (a,na+nb,pw)).eraseIdxIfInBounds<|i+1)=st1;have S1:Sc κ a₀ st1:=by rw[<-hst];exact#[h.kd,h.pm,h.fl]
 have P1:be st1=((be τ).setIfInBounds i (a,na+nb,pw)).eraseIdxIfInBounds (i+1):=by rw[<-hst]
 have A1:ba st1=ba τ:=by rw[<-hst]
 refine aK<|ZG e0<|aK<|x5 O S1.kd (inY y0<|am ..) xa (by lia) ial (by rw[dX];exact sx) (by rw[dX];exact λx hx=>ndXY x hx y0<|am ..) λr hr r1 r2=>?_
 rw[dX]at r1 r2
 dsimp only
 have lowY:∀x∈X.take r,∀y∈y0::Y',rk x<rk y:=λx hx y hy=>by
  rcases aB.mp hy with rfl|hy
  .exact r1 x hx
  .exact c0 (r1 x hx)<|(bm.mp sy).1 y hy
 by_cases c:na-r=0
 .rw[T9 (by simpa using c)]
  have:X.take r=X:=cp (by lia)
  rw[this]at lowY;exact aQ<|q st1 (X++y0::Y') S1 P1 (by rw[A1,hl,bq]) (by rw[bc,lX,lY])<|Je sx sy lowY
 rw[T8 (by simpa using c)]
 have exl:(ba τ)[a+r+(na-r)-1]?=X[na-1]?:=by
  rw[<-bf,hl,bB (by lia),bT (by lia)]
  congr 1;lia
 have xl:X[na-1]?=aa (X[na-1]'(by lia)):=af _
 generalize hx0:X[na-1]'(by lia)=x0 at xl
 have mx0:x0∈X:=dL xl;have mx1:x0∈X.drop r:=dL (i:=na-1-r) (by rw[gl];rw[<-xl];congr 1;lia)
 have maxX:∀x∈X,x=x0\/rk x<rk x0:=λx hx=>by
  obtain⟨k,hk,rfl⟩:=lW.mp hx;by_cases z:k=na-1
  .subst z;exact .inl hx0
  .right;rw[<-hx0];exact bF.mp sx k (na-1) hk (by lia) (by lia)
 refine aK<|ZG (exl.trans xl)<|aK<|x5 O S1.kd (inX x0 mx0) (by lia) (by lia) ial (by rw[dY];exact sy) (by rw[dY];exact λy hy=>Ne.symm<|ndXY x0 mx0 y hy) λt ht t1 t2=>?_
 rw[dY]at t1 t2
 dsimp only
 have t0:t≠0:=λz=>by
  subst z;have a1:=r2 x0 mx1;have a2:=t2 y0<|am ..;lia
 rw[T8 (by simpa using t0)]
 generalize hY:y0::Y'=Y at *;have eu:((ba τ).extract (a+r)<|a+na).toList=X.drop r:=by
  have:a+na=(a+r)+(na-r):=by lia
  rw[this,xr,<-iS,hl,<-lU,iU,hJ (by lia)]
  rw[show na-r=(X.drop r).length by rw[bo,lX],iV]
 have ev:((ba τ).extract (a+na)<|a+na+t).toList=Y.take t:=by
  rw[xr,hl,<-bq,<-lU,<-lX,<-bc,iU,hV (by lia)]
 generalize hu:(ba τ).extract (a+r) (a+na)=u at *;generalize hv:(ba τ).extract (a+na) (a+na+t)=v at *;have ul:u.size=na-r:=by rw[<-aI,eu,bo,lX]
 have vl:v.size=t:=by rw[<-aI,ev,bz,lY];lia
 have su:Srt (lr rk) u.toList:=by rw[eu];exact sx.sublist<|List.drop_sublist ..
 have sv:Srt (lr rk) v.toList:=by rw[ev];exact sy.sublist<|m3 ..
 have v0:∀x∈u.toList,rk (v[0]'(by lia))<rk x:=λx hx=>by
  have:v.toList[0]?=aa y0:=by
   rw[ev,<-hY];obtain⟨t',rfl⟩:∃t',t=t'+1:=#[t-1,by lia]
   rfl
  have e:v[0]'(by lia)=y0:=by
   rw[bf,a8<|by lia]at this
   exact al this
  rw[e];exact r2 x (by rw[<-eu];exact hx)
 have G:Mg κ In rk u v (u.toList++v.toList):=by
  refine#[?_,λx hx=>inX x<|cq<|eu▸hx,λy hy=>inY y<|dm<|ev▸hy,λy hy x hx=>?_]
  .rw[bK,eO]
   have nx:∀{z:List bW},Srt (lr rk) z->(z.map rk).Nodup:=λ{z} hz=>cS.mpr<|hz.imp λhab=>a9 hab
   refine#[nx su,nx sv,λp hp p' hp' e=>?_]
   obtain⟨x,hx,rfl⟩:=aO.mp hp;obtain⟨y,hy,rfl⟩:=aO.mp hp';exact ndXY x (cq<|eu▸hx) y (dm<|ev▸hy) e
  .have hx:x=x0:=by
    rw[eu,ul,iS,show r+(na-r-1)=na-1 by lia,bE (by lia),show na-1+1=X.length by lia,d5,bg]at hx
    rw[hx];exact hx0
   rw[hx];exact t1 y (by rw[<-ev];exact hy)
 have fin:∀r' st',Sg st1 st'->Res rk (u.toList++v.toList) r'->lH (aS prog w) A E s (do
   modify λt=>setArr t<|r'.toList.zipIdx.foldl (λz (p,j)=>z.setIfInBounds (a+r+j) p)<|ba t
   return (f7<|<-get).isNone) Q st':=λr' st' sg hr'=>by
  obtain⟨g1,g2,g3,g4⟩:=sg;obtain⟨k1,k2⟩:=hr';have rl:r'.toList.length=(na-r)+t:=by rw[k1.length_eq,bc,aI,aI,ul,vl]
  refine aK<|fg<|aK<|gH<|aQ ?_;have fo:=ze (a+r) r'.toList 0 (ba τ) (by lia)
  have el:((r'.toList.zipIdx.foldl (λz (q:bW×Nat)=>z.setIfInBounds (a+r+q.2) q.1)<|ba τ).toList)=U++((X.take r++(r'.toList++Y.drop t))++Z):=by
   rw[fo,Nat.add_zero,hl,<-lU,List.take_append,nV,rl];have e1:U.length+r-U.length=r:=by lia
   have e2:U.length+r+(na-r+t)-U.length=na+t:=by lia
   rw[e1,e2,cp (by lia),k9 (by lia),ic,hV (by lia),<-lX,nV,k9 (by lia),ic,show X.length+t-X.length=t by lia,hJ (by lia)]
   simp[bq]
  have hX:X.take r++X.drop r=X:=cO ..;have hYt:Y.take t++Y.drop t=Y:=cO ..;have pM:(X.take r++(r'.toList++Y.drop t)).Perm (X++Y):=by
   rw[eu,ev]at k1;have:(X.take r++(r'.toList++Y.drop t)).Perm (X.take r++((X.drop r++Y.take t)++Y.drop t)):=(k1.append_right _).append_left _;refine this.trans<|oA ?_;rw[bq<|X.drop r,hYt,<-bq,hX]
  rw[g4,S1.fl];refine q (setArr st'<|r'.toList.zipIdx.foldl (λz (q:bW×Nat)=>z.setIfInBounds (a+r+q.2) q.1)<|ba st') (X.take r++(r'.toList++Y.drop t)) #[g1.trans S1.kd,?_,g4.trans S1.fl] (g3.trans P1) (by rw[<-el,<-A1,<-g2]) (by rw[pM.length_eq,bc,lX,lY]) ?_
  .refine(bv.mpr ?_).trans h.pm
   rw[g2,A1,el,hl,<-bq X Y Z];exact(pM.append_right _).append_left _
  .have memR:∀z∈r'.toList,z∈X.drop r\/z∈Y.take t:=λz hz=>by
    have:=k1.mem_iff.mp hz;rw[eu,ev]at this;exact cW.mp this
   have sX:=eN.mp<|hX.symm▸sx;have sY:=eN.mp<|hYt.symm▸sy;refine Je sX.1 (Je k2 sY.2.1 λp hp y hy=>?_) λx hx z hz=>?_
   .rcases memR p hp with m|m
    .have:=t2 y hy
     rcases maxX p (cq m)with rfl|m
     .exact this
     .exact c0 m this
    .exact sY.2.2 p m y hy
   .rcases cW.mp hz with m|m
    .rcases memR z m with m|m
     .exact sX.2.2 x hx z m
     .exact lowY x hx z<|dm m
    .exact lowY x hx z<|cq m
 by_cases cl:na-r<=t
 .rw[T9 cl]
  exact aK<|zO O G S1.kd (by lia) (by lia) su sv (cr _) v0 λr' st' sg hr'=>fin r' st' sg hr'
 .rw[T8 cl]
  have fs:∀x∈u.toList,∀y∈v.toList.take 1,rk y<rk x:=λx hx y hy=>by
   have e:=Z6 (a:=v) (i:=0) (by lia)
   rw[gE]at e;rw[e]at hy;rw[bg.mp hy];exact v0 x hx
  exact aK<|zW O G fs S1.kd (by lia) (by lia) su sv (cr _) λr' st' sg hr'=>fin r' st' sg hr'
end
section
variable{In:bW->Prop}
noncomputable abbrev g2(q:Nat×Nat×Nat):Nat×Nat:=(q.1,q.2.1)
noncomputable def pl(τ:bP):List (Nat×Nat):=(be τ).toList.map g2
def cut2{B:Type}{l:List B}{i:Nat}{x y:B}(h1:l[i]?=aa x)(h2:l[i+1]?=aa y):l=l.take i++(x::y::l.drop (i+2)):=by
 obtain⟨a,e1⟩:=aX.mp h1;obtain⟨b,e2⟩:=aX.mp h2
 conv=>lhs;rw[<-cO i l,bE a,bE b,e1,e2]
theorem Wt(O:Od prog w A E s κ In rk)(ia:∀x∈a₀.toList,In x)(nd:(a₀.toList.map rk).Nodup){Q:Bool->bP->Prop}{i b:Nat}{R3:List (Nat×Nat)}(h:Sc κ a₀ τ)(hi:i+1<(be τ).size)(hb:b<=a₀.size)(hr:Runs rk (pl τ++R3) 0 b (ba τ).toList)
  (q:∀st',Sc κ a₀ st'->(be st').size=(be τ).size-1->Runs rk (pl st'++R3) 0 b (ba st').toList->Q aj st'):lH (aS prog w) A E s (mergeAt' i) Q τ:=by
 obtain⟨⟨a,na,pw⟩,h1⟩:∃x,(be τ)[i]?=aa x:=#[_,a8 (by lia)]
 obtain⟨⟨b1,nb,qw⟩,h2⟩:∃x,(be τ)[i+1]?=aa x:=#[_,a8 hi];have e:=cut2 (by rw[bf];exact h1) (by rw[bf];exact h2)
 generalize hA:(be τ).toList.take i=RA at e;generalize hC:(be τ).toList.drop (i+2)=RC at e;have lA:RA.length=i:=by rw[<-hA,bz,aI];lia
 unfold pl at hr;rw[e,bK,bq]at hr;obtain⟨c,r1,r2⟩:=Runs.app.mp hr;obtain⟨z1,n1,s1,z2,n2,s2,r3⟩:=r2
 dsimp only[g2]at z1 n1 s1 z2 n2 s2 r3
 subst z1 z2;have hle:=r3.le;have hsz:(ba τ).toList.length=a₀.size:=by rw[aI];exact h.pm.size_eq
 generalize hl:(ba τ).toList=l at *;have el:l=l.take a++((l.drop a).take na++((l.drop<|a+na).take nb++l.drop (a+na+nb))):=by
  rw[td,td,cO]
 have lU:(l.take a).length=a:=by rw[bz];lia
 refine zS O ia nd h h1 h2 (hl.trans el) lU (by rw[bz,bo];lia) (by rw[bz,bo];lia) n1 n2 s1 s2 λst' M S' hp' hl' lM sM=>?_
 have hpl:(be st').toList=RA++((a,na+nb,pw)::RC):=by
  rw[hp',Array.toList_eraseIdxIfInBounds,iT,e,List.set_append_right _ _ (by lia),lA,Nat.sub_self]
  rw[List.eraseIdx_append_of_length_le (by lia),lA,show i+1-i=1 by lia]
  rfl
 refine q st' S' ?_ ?_
 .rw[<-aI,hpl,<-aI,e]
  simp
 .have at_:∀k,(k<a\/a+na+nb<=k)->(ba st').toList[k]?=l[k]?:=λk hk=>by
   rw[hl']
   conv=>rhs;rw[el]
   rcases hk with hk|hk
   .rw[bT (by lia),bT (by lia)]
   .rw[bB (by lia),bB (by lia),bB (by lia),<-bq,bB (by simp;lia)]
    congr 1
    simp;lia
  unfold pl;rw[hpl,bK,bq];refine Runs.app.mpr #[a,r1.congr λk _ hk=>at_ k<|.inl hk,rfl,by dsimp only[g2];lia,?_,?_]
  .rw[hl',<-lM,List.drop_left' lU,iV];exact sM
  .rw[<-kB];exact r3.congr λk hk _=>at_ k<|.inr hk
theorem qP{lo n:Nat}{xs:Array bW}(hn:lo+n<=xs.size)(u:Up rk xs lo n):Srt (lr rk) ((xs.toList.drop lo).take n):=by
 refine bF.mpr λi j hi hj hij=>?_
 rw[bz,bo,aI]at hi hj;have g:∀k (hk:k<((xs.toList.drop lo).take n).length),((xs.toList.drop lo).take n)[k]=xs[lo+k]'(by rw[bz,bo,aI]at hk;lia):=λk hk=>by
  rw[fD,fE,Array.getElem_toList]
 rw[g,g];have:=u (lo+i) (lo+j) (by lia) (by lia) (by lia)
 rw[Gb (by lia),Gb<|by lia]at this
 exact this
def QY{P:Array (Nat×Nat×Nat)}{k pw:Nat}:(P.modify k λq=>(q.1,q.2.1,pw)).toList.map g2=P.toList.map g2:=by
 refine bR λi=>?_
 rw[aM,aM,bf,bf,Array.getElem?_modify];split
 .cases P[i]?<;>rfl
 .rfl
theorem sort_ok(O:Od prog w A E s κ In rk)(ia:∀x∈a₀.toList,In x)(nd:(a₀.toList.map rk).Nodup){Q:Unit->bP->Prop}(hk:kindOf τ=κ)(ha:ba τ=a₀)(hp:be τ = #[])(hf:f7 τ=ag)(h1:1<=a₀.size)
  (q:∀st',(ba st').Perm a₀->f7 st'=ag->Srt (lr rk) (ba st').toList->Q () st'):lH (aS prog w) A E s sortRuns' Q τ:=by
 rw[sortRuns'_eq];refine aK<|gH ?_;rw[ha]
 dsimp only
 have S0:Sc κ a₀ τ:=#[hk,by rw[ha],hf]
 refine aK (eM (cy
  (I:=λx c st'=>∃lo,c=(ag,lo)/\x<=lo/\lo<=a₀.size/\Sc κ a₀ st'/\Runs rk (pl st') 0 lo (ba st').toList)
  (Q:=λc st'=>c=(ag,a₀.size)/\Sc κ a₀ st'/\Runs rk (pl st') 0 a₀.size (ba st').toList) ?_ ?_ #[0,rfl,aH _,cJ _,S0,by unfold pl;rw[hp];rfl]) ?_)
 .rintro x c st1 _ hx ⟨lo,rfl,g1,g2',S1,R1⟩
  dsimp only
  by_cases c:lo>=a₀.size
  .rw[T9 c]
   obtain rfl:lo=a₀.size:=by lia
   exact aQ #[rfl,S1,R1]
  rw[T8 c];have B1:Sb κ a₀ (be st1) lo ((ba st1).toList.take lo) st1:=#[S1.kd,S1.pm,S1.fl,rfl,rfl];refine aK<|qb O ia nd (by lia) (by lia) B1 λm st2 B2 m1 m2 u2=>?_
  dsimp only
  have done:∀n st3,1<=n->lo+n<=a₀.size->Sc κ a₀ st3->Runs rk (pl st3++[(lo,n)]) 0 (lo+n) (ba st3).toList->∃lo',((ag,lo+n):Option PUnit×Nat)=(ag,lo')/\x+1<=lo'/\lo'<=a₀.size/\Sc κ a₀ (gT st3<|(be st3).push (lo,n,0))/\Runs rk (pl<|gT st3<|(be st3).push (lo,n,0)) 0 lo' (ba st3).toList:=λn st3 n1 n2 S3 R3=>
   #[lo+n,rfl,by lia,n2,#[S3.kd,S3.pm,S3.fl],by
    have:pl (gT st3<|(be st3).push (lo,n,0))=pl st3++[(lo,n)]:=by
     show iW g2 ((be st3).push (lo,n,0)).toList=_;rw[dM,bK];rfl
    rw[this];exact R3]
  by_cases c2:m<oH a₀.size a₀.size 0
  .rw[T9 c2]
   refine aK<|X2<|aK<|ZaX (n:=pc (a₀.size-lo)<|oH a₀.size a₀.size 0) O ia nd (by lia) m1 (by lia) B2 u2 λst5 B u=>?_
   have n1:1<=pc (a₀.size-lo) (oH a₀.size a₀.size 0):=by lia
   have n2:lo+pc (a₀.size-lo) (oH a₀.size a₀.size 0)<=a₀.size:=by lia
   simp only[gY,cw,if_false];generalize pc (a₀.size-lo) (oH a₀.size a₀.size 0)=n at *;clear B2 u2;refine aK<|gH ?_;have S5:Sc κ a₀ st5:=#[B.kd,B.pm,B.fl];have hz:(ba st5).size=a₀.size:=B.size;have R5:Runs rk (pl st5++[(lo,n)]) 0 (lo+n) (ba st5).toList:=Runs.app.mpr #[lo,by
    unfold pl at R1 ⊢;rw[B.pd];refine R1.congr λk _ hk=>?_
    have e:(iG lo _)[k]?=(iG lo _)[k]?:=congrArg (λl=>l[k]?) B.ah
    rw[cV,cV,T9 hk,T9 hk]at e;exact e,rfl,n1,qP (by lia) u,rfl]
   cases hbk:(be st5).back? with
   |none=>
    exact aK<|fg<|aQ<|done n st5 n1 n2 S5 R5
   |some q5=>
    obtain⟨x1,x2,x3⟩:=q5
    dsimp only
    refine aK<|eM (cy (I:=λ_ c st3=>c=(ag,())/\Sc κ a₀ st3/\Runs rk (pl st3++[(lo,n)]) 0 (lo+n) (ba st3).toList) ?_ (λc st3 h=>h) #[rfl,S5,R5]) ?_
    .rintro x c st3 _ _ ⟨rfl,S3,R3⟩
     refine aK<|gH ?_;by_cases c:(be st3).size>1
     .rw[T9 c,a8<|show(be st3).size-2<(be st3).size by lia]
      dsimp only
      split
      .exact aQ #[rfl,S3,R3]
      .refine aK (Wt O ia nd S3 (by lia) n2 R3 λst4 S4 _ R4=>?_)
       simp only[gY,cw,if_false];exact aQ #[rfl,S4,R4]
     .rw[T8 c]
      exact aQ #[rfl,S3,R3]
    .rintro c st3 ⟨rfl,S3,R3⟩
     dsimp only
     exact aK (fg (aK (fg (aQ (done n (gT st3 _) n1 n2 #[S3.kd,S3.pm,S3.fl] (by
      show Runs rk (iW g2 (Array.modify _ _ _).toList++_) _ _ _;rw[QY];exact R3))))))
  .rw[T8 c2]
   have n2:lo+m<=a₀.size:=by lia
   refine aK<|gH ?_;have S5:Sc κ a₀ st2:=#[B2.kd,B2.pm,B2.fl];have hz:(ba st2).size=a₀.size:=B2.size;have R5:Runs rk (pl st2++[(lo,m)]) 0 (lo+m) (ba st2).toList:=Runs.app.mpr #[lo,by
    unfold pl at R1 ⊢;rw[B2.pd];refine R1.congr λk _ hk=>?_
    have e:(iG lo _)[k]?=(iG lo _)[k]?:=congrArg (λl=>l[k]?) B2.ah
    rw[cV,cV,T9 hk,T9 hk]at e;exact e,rfl,m1,qP (by lia) u2,rfl]
   cases hbk:(be st2).back? with
   |none=>
    exact aK<|fg<|aQ<|done m st2 m1 n2 S5 R5
   |some q5=>
    obtain⟨x1,x2,x3⟩:=q5
    dsimp only
    refine aK<|eM (cy (I:=λ_ c st3=>c=(ag,())/\Sc κ a₀ st3/\Runs rk (pl st3++[(lo,m)]) 0 (lo+m) (ba st3).toList) ?_ (λc st3 h=>h) #[rfl,S5,R5]) ?_
    .rintro x c st3 _ _ ⟨rfl,S3,R3⟩
     refine aK<|gH ?_;by_cases c:(be st3).size>1
     .rw[T9 c,a8<|show(be st3).size-2<(be st3).size by lia]
      dsimp only
      split
      .exact aQ #[rfl,S3,R3]
      .refine aK (Wt O ia nd S3 (by lia) n2 R3 λst4 S4 _ R4=>?_)
       simp only[gY,cw,if_false];exact aQ #[rfl,S4,R4]
     .rw[T8 c]
      exact aQ #[rfl,S3,R3]
    .rintro c st3 ⟨rfl,S3,R3⟩
     dsimp only
     exact aK (fg (aK (fg (aQ (done m (gT st3 _) m1 n2 #[S3.kd,S3.pm,S3.fl] (by
      show Runs rk (iW g2 (Array.modify _ _ _).toList++_) _ _ _;rw[QY];exact R3))))))
 .rintro c st1 ⟨lo,rfl,g1,g2',S1,R1⟩
  obtain rfl:lo=a₀.size:=by lia
  exact#[rfl,S1,R1]
 .rintro c st1 ⟨rfl,S1,R1⟩
  dsimp only
  have len1:=R1.le;refine aK (eM (cy
   (I:=λx c st2=>c=(ag,())/\Sc κ a₀ st2/\Runs rk (pl st2) 0 a₀.size (ba st2).toList/\(be st2).size<=max 1 (a₀.size-x))
   (Q:=λc st2=>c=(ag,())/\Sc κ a₀ st2/\Runs rk (pl st2) 0 a₀.size (ba st2).toList/\(be st2).size<=1) ?_ ?_ #[rfl,S1,R1,by unfold pl at len1;rw[aw,aI]at len1;lia]) ?_)
  .rintro x c st2 _ hx ⟨rfl,S2,R2,l2⟩
   refine aK<|gH ?_;by_cases c:(be st2).size<=1
   .rw[T9 c]
    exact aQ #[rfl,S2,R2,c]
   rw[T8 c];generalize hj:(if(Option.any (λx=>ae<|x<((be st2)[(be st2).size-2+1]?).elim 0 λx=>x.2.1)<|if(be st2).size-2>0 then Option.map (λx=>x.2.1) (be st2)[(be st2).size-2-1]? else ag)=aj then(be st2).size-2-1 else(be st2).size-2)=j
   have hj1:j+1<(be st2).size:=by
    have g:∀b:Bool,(if b=aj then(be st2).size-2-1 else(be st2).size-2)+1<(be st2).size:=λb=>by cases b<;>simp<;>lia
    rw[<-hj];exact g _
   refine aK<|Wt (R3:=[]) O ia nd S2 hj1 (aH _) (by rw[bS];exact R2) λst3 S3 l3 R3=>?_
   rw[bS]at R3;simp only[gY,cw,if_false];exact aQ #[rfl,S3,R3,by lia]
  .rintro c st2 ⟨rfl,S2,R2,l2⟩
   exact#[rfl,S2,R2,by lia]
  .rintro c st2 ⟨rfl,S2,R2,l2⟩
   dsimp only
   refine aQ<|q st2 S2.pm S2.fl ?_;have hz:(ba st2).toList.length=a₀.size:=by rw[aI];exact S2.pm.size_eq
   unfold pl at R2
   match hP:(be st2).toList,R2 with
   |[],R2=>exact T7 (show 0=a₀.size from R2) (by lia)
   |[(i,n,pw)],R2=>
    obtain⟨_,_,z,e⟩:=R2;have e:0+n=a₀.size:=e;rw[gE,cp<|by dsimp only[g2];lia]at z
    exact z
   |_::_::_,_=>rw[<-aI,hP]at l2;simp at l2
end
end Tq
namespace Sq
open PySem PySem.W PyProof.Rows
structure Ord(n:Nat)(lt:Nat->Nat->Bool):Prop where
 tot:∀i j,i<n->j<n->i≠j->lt i j=ak->lt j i=aj
 asy:∀i j,i<n->j<n->lt i j=aj->lt j i=ak
 tr:∀i j k,i<n->j<n->k<n->lt i j=aj->lt j k=aj->lt i k=aj
noncomputable abbrev g(p:Array Nat)(i:Nat):Nat:=p.getD i 0
def Pm(n:Nat)(p:Array Nat):Prop:=p.Perm<|cA<|aL n
theorem Pm.size(h:Pm n p):p.size=n:=by have:=Array.Perm.size_eq h;simpa using this
def Zbi(h:i<p.size):p[i]?=aa (g p i):=by simp[g,h]
def Pm.lt(h:Pm n p)(hi:i<n):g p i<n:=by
 have hs:=h.size;have h1:g p i∈p.toList:=by
  have:p.toList[i]?=aa (g p i):=by rw[bf];exact Zbi (by lia)
  exact dL this
 have h2:p.toList.Perm (aL n):=by simpa using bv.mp h
 exact aR.mp<|h2.mem_iff.mp h1
def Up(lt:Nat->Nat->Bool)(p:Array Nat)(m:Nat):Prop:=∀i j,i<j->j<m->lt (g p i) (g p j)=aj
theorem Qx{B:Type}{p q:B->Bool}:∀{l:List B},(∀x∈l,p x=aj->q x=aj)->(∃x∈l,q x=aj/\p x=ak)->l.countP p<l.countP q
 |[],_,#[x,hx,_]=>by cases hx
 |y::l,h,#[x,hx,h1,h2]=>by
  have hm:=List.countP_mono_left λz hz=>h z<|ai _ hz
  rw[nY,nY];rcases aB.mp hx with rfl|hx
  .rw[h1,h2,T9 rfl,T8 aG];lia
  .have:=Qx (λz hz=>h z<|ai _ hz) #[x,hx,h1,h2]
   have hy:=h y<|am ..;cases e:p y with|false=>rw[T8 aG];lia|true=>rw[hy e,T9 rfl];lia
noncomputable def rank(n:Nat)(lt:Nat->Nat->Bool)(i:Nat):Nat:=(aL n).countP λj=>lt j i
def VR{n:Nat}{lt:Nat->Nat->Bool}(O:Ord n lt){i j:Nat}(hi:i<n)(hj:j<n):ae (rank n lt i<rank n lt j)=lt i j:=by
 have irr:∀k,k<n->lt k k=ak:=λk hk=>by
  cases e:lt k k with|false=>rfl|true=>rw[<-e];exact O.asy k k hk hk e
 have up:=λ{a b} ha hb e=>
  Qx (λx hx h=>O.tr x a b (aR.mp hx) ha hb h e) #[a,aR.mpr ha,e,irr a ha]
 cases e:lt i j with
 |true=>exact T5<|up hi hj e
 |false=>
  refine T4 λh=>?_
  by_cases z:i=j
  .subst z;exact bw _ h
  .exact Nat.lt_asymm h<|up hj hi<|O.tot i j hi hj z e
section
open Classical
noncomputable def idx(vs:List ap)(v:ap):Nat:=if h:∃i:Nat,vs[i]?=aa v then choose h else 0
def yo(nd:vs.Nodup)(h:vs[i]?=aa v):idx vs v=i:=by
 have hx:∃i:Nat,vs[i]?=aa v:=#[i,h];unfold idx;rw[dif_pos hx];have e:=choose_spec hx;have hl:=(aX.mp e).1;exact(gI hl nd).mp<|e.trans h.symm
end
def ZcA{vs:List ap}{κ:fq}{lt:Nat->Nat->Bool}(nd:vs.Nodup)(h1:1<=vs.length)(O:Ord vs.length lt)
  (ask:∀i j,i<vs.length->j<vs.length->∀(C:Bool->ax->Prop)(E:ap->ax->Prop),C (lt i j) s->aV (aS prog w) A (keyLt' κ (vs.getD i bh)<|vs.getD j bh) C E s) :
  aV (aS prog w) A ((sortRuns').run<|oX κ (vs.toArray.zip vs.toArray) #[] 7 ag) (λr s'=>s'=s/\∃p,Pm vs.length p/\Up lt p vs.length/\f7 r.2=ag/\(ba r.2).map (·.2)=cA (p.toList.map λi=>vs.getD i bh)) E s:=by
 have hz:(vs.toArray.zip vs.toArray).toList=vs.map λv=>(v,v):=by
  rw[ksk_zip];show pK vs vs=_;clear ask O h1 nd
  induction vs with|nil=>rfl|cons v l ih=>rw[b0,ih];rfl
 let rk:bW->Nat:=λx=>rank vs.length lt<|idx vs x.1
 let In:bW->Prop:=λx=>∃i:Nat,vs[i]?=aa x.1/\x=(x.1,x.1)
 have atI:∀{x:bW},In x->idx vs x.1<vs.length/\vs.getD (idx vs x.1) bh=x.1:=λ{x} #[i,e,_]=>by
  rw[yo nd e];exact#[(aX.mp e).1,by rw[aN,e];rfl]
 have od:Tq.Od prog w A E s κ In rk:=⟨λ{x y τ Q} ix iy hk q=>by
  obtain⟨a1,a2⟩:=atI ix;obtain⟨b1,b2⟩:=atI iy;rw[lt'_eq];refine aK<|gH ?_;rw[hk];have:=ask _ _ a1 b1 (λb s'=>s'=s/\b=lt (idx vs x.1) (idx vs y.1)) (λ_ _=>False) #[rfl,rfl]
  rw[a2,b2]at this;refine aK<|wpS_lift<|fZ<|dD this (λb s' h=>?_) λ_ _ h=>h.elim
  obtain⟨rfl,rfl⟩:=h;refine#[rfl,aQ ?_];rw[<-VR O a1 b1];exact q⟩
 have ia:∀x∈(vs.toArray.zip vs.toArray).toList,In x:=λx hx=>by
  rw[hz]at hx;obtain⟨v,hv,rfl⟩:=aO.mp hx;obtain⟨i,hi,e⟩:=lW.mp hv;exact#[i,by rw[af hi,e],rfl]
 have rks:(vs.toArray.zip vs.toArray).toList.map rk=(aL vs.length).map (rank vs.length lt):=by
  rw[hz,bn];refine bR λi=>?_
  rw[aM,aM];by_cases h:i<vs.length
  .rw[cK h,af h]
   exact congrArg (λk=>aa<|rank vs.length lt k)<|yo nd<|af h
  .rw[bH (by lia),bH (by rw[br];lia)];rfl
 have ndr:((vs.toArray.zip vs.toArray).toList.map rk).Nodup:=by
  rw[rks];refine cS.mpr<|kC ?_ nZ;intro a b ha hb ne e;have ha:=aR.mp ha;have hb:=aR.mp hb;have h1:=VR O ha hb;have h2:=VR O hb ha;rw[e,T4<|bw _]at h1 h2;exact T7 (O.tot a b ha hb ne h1.symm) (by rw[<-h2];simp)
 have sz:(vs.toArray.zip vs.toArray).size=vs.length:=by rw[<-aI,hz,aw]
 refine Tq.sort_ok (Q:=λ_ st'=>∃p,Pm vs.length p/\Up lt p vs.length/\f7 st'=ag/\(ba st').map (·.2)=cA (p.toList.map λi=>vs.getD i bh)) od ia ndr rfl rfl rfl rfl (by lia) λst' pm fl so=>?_
 have pl:=bv.mp pm;have inS:=λx hx=>ia x<|pl.mem_iff.mp hx
 have pp:((ba st').toList.map λx=>idx vs x.1).Perm (aL vs.length):=by
  refine(pl.map _).trans<|oA ?_;rw[hz,bn];refine bR λi=>?_
  rw[aM];by_cases h:i<vs.length
  .rw[cK h,af h]
   exact congrArg aa<|yo nd<|af h
  .rw[bH (by lia),bH (by rw[br];lia)];rfl
 have sl:(ba st').toList.length=vs.length:=by rw[pl.length_eq,hz,aw]
 refine#[cA<|(ba st').toList.map λx=>idx vs x.1,bv.mpr pp,λi j hij hj=>?_,fl,?_]
 .have gk:∀k (hk:k<(ba st').toList.length),g (cA<|(ba st').toList.map λx=>idx vs x.1) k=idx vs ((ba st').toList[k]).1:=λk hk=>by
   show((cA<|(ba st').toList.map λx=>idx vs x.1).getD k 0)=_
   rw[Array.getD_eq_getD_getElem?,List.getElem?_toArray,aM,af hk];rfl
  rw[gk i (by lia),gk j (by lia)]
  have:=bF.mp so i j (by lia) (by lia) hij
  rw[<-VR O (atI<|inS _<|aU _).1 (atI<|inS _<|aU _).1];exact T5 this
 .apply kO.mp
  rw[n4,bn];refine c9 λx hx=>?_
  have hi:=inS x hx;show x.2=vs.getD (idx vs x.1) bh;rw[(atI hi).2];obtain⟨_,_,e⟩:=hi;rw[e]
open PySem.Calls
def Lat(h h':cc):Prop:=∀b o,h.get? b=aa o->h'.get? b=aa o
structure Asks(prog:bC)(w:bU)(A:cL)(h:cc)(vs:List ap)(κ:fq)(lt:Nat->Nat->Bool):Prop where
 kind:2<=vs.length->∀(s':ax)(E:ap->ax->Prop)(Q:fq->ax->Prop),Lat h s'.heap->Q κ s'->aV (aS prog w) A (keyKind' vs.toArray) Q E s'
 nd:vs.Nodup
 cmp:∀i j,i<vs.length->j<vs.length->∀(s':ax)(C:Bool->ax->Prop)(E:ap->ax->Prop),Lat h s'.heap->C (lt i j) s'->aV (aS prog w) A (keyLt' κ (vs.getD i bh)<|vs.getD j bh) C E s'
noncomputable def ltR(b:Bool)(n:Nat)(lt:Nat->Nat->Bool):Nat->Nat->Bool:=λi j=>if b=aj then lt (n-1-i) (n-1-j)else lt i j
def j8(O:Ord n lt):Ord n (ltR b n lt):=by
 cases b
 .exact O
 .exact#[λi j hi hj ne h=>O.tot _ _ (by lia) (by lia) (by lia) h,λi j hi hj h=>O.asy _ _ (by lia) (by lia) h,λi j k hi hj hk h1 h2=>O.tr _ _ _ (by lia) (by lia) (by lia) h1 h2]
def Gk(hi:i<vs.length):(kD b vs).getD i bh=vs.getD (if b=aj then vs.length-1-i else i) bh:=by
 cases b
 .rfl
 .show vs.reverse.getD i bh=vs.getD (vs.length-1-i) bh
  simp only[aN];rw[lC hi]
def vD(vs:List ap):(aL vs.length).map (λi=>vs.getD i bh)=vs:=by
 apply bR
 intro i;rw[aM];by_cases h:i<vs.length
 .rw[cK h];simp[h]
 .simp[d4 h]
def list_sort_rev{P:PySem.Fin->ax->Prop}(ho:s.heap.get? a=aa (ek "list" vs.toArray n))(h64:vs.length<=100000)
  (h00:∀b o,h0.get? b=aa o->b≠a/\s.heap.get? b=aa o)(O:Ord vs.length lt)(K:Asks prog w A h0 vs κ lt)
  (h:∀p,Pm vs.length p->Up (ltR b vs.length lt) p vs.length->P (.done<|.ret .none) {s with heap:=sortedHeap s.heap a vs (cA<|kD b<|p.toList.map λi=>(kD b vs).getD i bh)}) :
  aV (aS prog w) A (db.«list.sort» #[[.ref a],[(lc "reverse",.bool b)]]) P E s:=by
 rw[iX];have ha:=aC ho;refine ab<|listItems_at ho rfl ?_;refine ab<|mw ho rfl ?_;obtain⟨e1,ho1⟩:∃e1,(s.heap.update a<|d9 λ_=>#[]).get? a=aa (ek "list" #[] e1):=#[_,get?_update_seq ho λ_=>#[]]
 refine ab<|oq ho1 rfl ?_;refine ab<|wpAny_newTuple ?_;refine ab<|kE ?_;refine bI ?_;have ho6:(((s.heap.update a<|d9 λ_=>#[]).push<|ek "tuple" vs.toArray 0).push<|ek "list" #[] 0).get? a=aa (ek "list" #[] e1):=by
  rw[gJ _ _ _ (by rw[mP,kP];exact a9<|cR ha),gJ _ _ _ (by rw[kP];exact a9 ha)]
  exact ho1
 have lat:Lat h0 (((s.heap.update a<|d9 λ_=>#[]).push<|ek "tuple" vs.toArray 0).push<|ek "list" #[] 0):=λb o e=>by
  obtain⟨nb,e⟩:=h00 b o e;exact ao _<|ao _ (by rw[mj _ _ _ _ nb];exact e)
 generalize hs':((s.heap.update a<|d9 λ_=>#[]).push<|ek "tuple" vs.toArray 0).push (ek "list" #[] 0)=h1 at ho6 lat ⊢
 dsimp only
 have step:∀t:nH PySem.Fin,aV (aS prog w) A t P E {s with heap:=h1}->aV (aS prog w) A (if b=aj then(do let _ <-mV "list.sort.reverse";t)else t) P E {s with heap:=h1}:=by
  intro t ht;split
  .exact ab<|d7 ht
  .exact ht
 refine step _ ?_;have hrl:=oI b vs;have fin:∀out:List ap,out.length=vs.length->(∃p,Pm vs.length p/\Up (ltR b vs.length lt) p vs.length/\out=p.toList.map λi=>(kD b vs).getD i bh)->
   P (.done<|.ret .none) {s with heap:=h1.update a (d9 λ_=>cA<|kD b out)}:=by
  rintro out _ ⟨p,h1',h2',rfl⟩
  subst hs';exact h p h1' h2'
 by_cases h2:vs.toArray.size<2
 .rw[T9 h2,T9 h2]
  refine ab<|au ?_;rw[StateT.run_pure];refine ab<|au ?_
  dsimp only
  have hz:((ba<|oX general' (if b=aj then(vs.toArray.zip vs.toArray).reverse else vs.toArray.zip vs.toArray) #[] 7 ag).map (·.2))=cA (kD b vs):=by
   rw[kat_pairs b rfl];apply kO.mp;rw[n4,ksk_zip];exact List.map_snd_zip<|aH _
  rw[hz];refine ab<|oq ho6 rfl ?_;rw[kat_outs];refine ab<|mw ho6 rfl ?_ (hsz2:=by rw[ay];(try rw[oI]);(try rw[oI]);rw[cI];lia)
  simp only[bne_self_eq_false,cw,if_false];refine au<|fin (kD b vs) (oI b vs) #[cA<|aL vs.length,Array.Perm.refl _,λi j a1 a2=>by rw[ay]at h2;lia,?_]
  rw[<-hrl];exact(vD _).symm
 .rw[T8 h2,T8 h2]
  have l2:2<=vs.length:=by rw[ay]at h2;lia
  refine ab<|K.kind l2 _ _ _ lat ?_;rw[kat_pairs b rfl];have ndR:(kD b vs).Nodup:=by
   cases b
   .exact K.nd
   .exact(dO vs).nodup_iff.mpr K.nd
  refine ab (dD (ZcA ndR (by lia) (by rw[hrl];exact j8 (b:=b) O) (by
    rw[hrl];intro i j hi hj C E hC;rw[Gk hi,Gk hj];cases b
    .exact K.cmp i j hi hj _ _ _ lat hC
    .exact K.cmp _ _ (by simp only[if_true];lia) (by simp only[if_true];lia) _ _ _ lat hC)) ?_ λ_ _ x=>x)
  rintro ⟨⟨⟩,st'⟩ s' ⟨rfl,p,e2,e3,hf,har⟩
  rw[hrl]at e2 e3
  dsimp only
  rw[har];have hl:(p.toList.map λi=>(kD b vs).getD i bh).length=vs.length:=by rw[aw,aI,e2.size]
  refine ab<|oq ho6 rfl ?_;rw[kat_outs];refine ab<|mw ho6 rfl ?_ (hsz2:=by rw[ay];(try rw[oI]);rw[hl,cI];lia)
  rw[hf];simp only[bne_self_eq_false,cw,if_false];exact au<|fin _ hl #[p,e2,e3,rfl]
def yG{l:aJ}{vs:List ap}{b:Bool}{κ:fq}{lt:Nat->Nat->Bool}{Q:ap->ax->Prop}(hl:s.heap.IsList l vs.toArray)(h64:vs.length<=100000)(O:Ord vs.length lt)(K:Asks prog w A.in1.in1 s.heap vs κ lt)
  (h:∀p,Pm vs.length p->Up (ltR b vs.length lt) p vs.length->Q (.ref<|s.heap.objs.size+1) {s with heap:=sortedAll s.heap vs (cA<|kD b<|p.toList.map λi=>(kD b vs).getD i bh)}) :
  aV (aS prog w) A (call (.builtin "sorted") [.ref l] [(lc "reverse",.bool b)]) Q E s:=by
 refine call_function_entry_kw ot nv ny (args_sorted_rev _ _) ?_;unfold db.«sorted»;refine ab (m:=oZ "sorted" 1 1 _)<|au ?_;refine ab<|collect_list hl ?_;refine ab<|kE ?_;have hsz:((s.heap.push<|ek "list" #[] 0).update s.heap.objs.size (d9 (·++vs.toArray))).objs.size=s.heap.objs.size+1:=by
  rw[kP,mP]
 have hoL:(((s.heap.push<|ek "list" #[] 0).update s.heap.objs.size (d9 (·++vs.toArray))).push<|ek "list" vs.toArray 0).get? (s.heap.objs.size+1)=aa (ek "list" vs.toArray 0):=by
  rw[<-hsz];exact aD _ rfl
 show aV _ _ _ _ _ {s with heap:=((s.heap.push<|ek "list" #[] 0).update s.heap.objs.size (d9 (·++vs.toArray))).push (ek "list" vs.toArray 0)}
 rw[hsz];refine ab<|bI<|wpAny_call_entry_kw lZ #[_,hoL,rfl] ly (list_sort_rev (h0:=s.heap) hoL h64 (λb o e=>?_) O K  λp a1 a2=>#[_,rfl,?_])<|args_list_sort_rev _ _
 .have hlt:b<s.heap.objs.size:=aC e
  refine#[a9<|cR hlt,?_];rw[gJ _ _ _ (by rw[hsz];exact a9<|cR hlt),mj _ _ _ _<|a9 hlt,gJ _ _ _<|a9 hlt]
  exact e
 .exact au #[_,rfl,h p a1 a2]
def QV(a:aJ):db.«list.sort» #[[.ref a],[]]=db.«list.sort» #[[.ref a],[(lc "reverse",.bool ak)]]:=by
 rw[PyProof.Rows.list_sort_plain,iX];rfl
end Sq
namespace Sd
open PySem PySem.Spec PyProof.Rows L2
open Ev (E Sm Fn Bop Cop Ty Bf Mf)
section
variable{X:Cx}{pq:List (aJ×fA)}{Z:L2.St}{H:Hp}{s:ax}{A:cL}{E:ap->ax->Prop}{b:Bool}{Q:ap->ax->Prop}
def zZ(I:Inv X pq Z H s)(rx:Zu x u)(ty:TyOf X.K H x t)(htp:s.heap.get? tp=aa #[.type "tuple",dd,.seq its.toArray n,sl])
  (e:eo X.K t its=aa b)(h:∀tk,Q (.bool b) {s with toks:=tk}):aV (aS X.prog X.w) A (call (.builtin "isinstance") [u,.ref tp]) Q E s:=by
 cases ty with
 |non=>cases(show u=bh from rx);exact cY mX I.kIn c8 htp e (λz=>nomatch z) h
 |bl y=>cases(rx);exact cY mY I.kIn c8 htp e (λz=>nomatch z) h
 |int i=>obtain⟨t,q⟩:=(rx);cases q;exact cY nJ I.kIn c8 htp e (λz=>nomatch z) h
 |str y=>obtain⟨t,q⟩:=(rx);cases q;exact cY nK I.kIn c8 htp e (λz=>nomatch z) h
 |flt y=>obtain⟨t,q⟩:=(rx);cases q;exact cY mH I.kIn c8 htp e (λz=>nomatch z) h
 |@lst a xs ea=>
  cases(rx);obtain⟨_,_,n,_,h1⟩:=(I.hok a _ ea)
  exact cY gx I.kIn #[_,h1,rfl] htp e (λz=>nomatch z) h
 |@frz a ob xs ea=>
  cases(rx);obtain⟨_,_,_,n,_,h1⟩:=(I.hok a _ ea)
  exact cY gx I.kIn #[_,h1,rfl] htp e (λz=>nomatch z) h
 |@tup a xs ea=>
  cases(rx);obtain⟨_,_,_,p⟩:=(I.hok a _ ea)
  obtain⟨o,h1,h2,_⟩:=p;exact cY mI I.kIn #[o,h1,h2] htp e (λz=>nomatch z) h
 |@dK a kvs ea=>
  cases(show u=bV a from rx);obtain⟨_,_,vs,_,p⟩:=(I.hok a _ ea)
  obtain⟨o,es,ep,h1,h2,_⟩:=p;exact cY gy I.kIn #[o,h1,h2.1] htp e (λz=>nomatch z) h
 |@dT a kvs ea=>
  cases(show u=bV a from rx);obtain⟨_,_,xs,_,o,es,ep,h1,h2,_⟩:=(I.hok a _ ea)
  exact cY gy I.kIn #[o,h1,h2.1] htp e (λz=>nomatch z) h
 |@ins a C dx fs ea cl ha hn htk hm=>
  cases(show u=bV a from rx);obtain⟨mA,O,_⟩:=yZ I.hok ea
  obtain⟨od,J,_⟩:=O.look;exact cY (nL (cl.get _) cl.hd ha hn htk hm) I.kIn J htp e (λz=>nomatch z) h
end
section
variable{X:Cx}{xw:Nat->Hp->Prop}{C:Calls}{e a b c:Expr}{i j k:E}{pos p p' p2 p3:gW}
def wj(T U:String):ZI X (.builtin "isinstance") (λvs H Q=>∃v tv n q,vs=[v,.ref q]/\H q=aa (.tup [.ty T,.ty U])/\TyOf X.K H v tv/\eo X.K tv [.type T,.type U]=aa n/\Q (.bl n) H):=by
 intro pq s Z H vs us Q I r h;obtain⟨v,tv,n,q,rfl,hq,ty,e,qq⟩:=h;obtain⟨u,w',rfl,r1,r2⟩:=zq r;cases r2;obtain⟨its,rv,⟨o,ho,hc,m,hd⟩,_⟩:=I.tuple<|SqT.of hq;obtain⟨cls,dd,data,sl⟩:=o;simp only at hc hd;subst hc hd;obtain⟨z1,z2,rfl,q1,q2⟩:=zq rv;cases q1;cases q2;exact zZ I r1 ty ho e λtk=>#[.bl n,H,I.tok tk,rfl,qq]
def TyOf.later{K:aq}{H:Hp}{v:V}{tv:ap}{q:aJ}{o:HO}(h:TyOf K H v tv)(hq:H q=ag):TyOf K (upd H q o) v tv:=by
 cases h with|non=>exact .non|bl b=>exact .bl b|int b=>exact .int b|str b=>exact .str b|flt b=>exact .flt b|lst e=>exact .lst (by rw[Zp<|ZK e hq];exact e)|frz e=>exact .frz (by rw[Zp<|ZK e hq];exact e)|tup e=>exact .tup (by rw[Zp<|ZK e hq];exact e)|dK e=>exact .dK (by rw[Zp<|ZK e hq];exact e)|dT e=>exact .dT (by rw[Zp<|ZK e hq];exact e)|ins e a1 a2 a3 a4 a5=>exact .ins (by rw[Zp<|ZK e hq];exact e) a1 a2 a3 a4 a5
def TyOf.uniq{K:aq}{H:Hp}{v:V}{t1 t2:ap}(h1:TyOf K H v t1)(h2:TyOf K H v t2):t1=t2:=by
 cases h1<;>cases h2<;>first|rfl|simp_all
theorem ZbL{T U:bx}{t u:Ty}{k0:Nat}{p4:gW}(ht:∀m,t≠.cls m)(hu:∀m,u≠.cls m)(hm:X.mg "isinstance" = ag)(hmT:X.mg T=ag)(hmU:X.mg U=ag)(ha:CE X xw C a i)(hg:Gl X "isinstance")(hgT:Gl X T)(hgU:Gl X U)(hvT:cZ T=aa (.type<|ZL t))(hvU:cZ U=aa (.type<|ZL u))(hnT:T≠"__name__")(hdT:(T == ("__debug__" : bx))=ak)(hnU:U≠"__name__")(hdU:(U == ("__debug__" : bx))=ak)
  (hs0:aE [.Name T p2,.Name U p3] X.env=(ak,cD (.Name T p2) X.env)::aE [.Name U p3] X.env)(hs00:aE [.Name U p3] X.env=(ak,cD (.Name U p3) X.env)::aE [] X.env)
  (hs1:aE [a,.Tuple [.Name T p2,.Name U p3] k0 p4] X.env=(ak,cD a X.env)::aE [.Tuple [.Name T p2,.Name U p3] k0 p4] X.env)(hs2:aE [.Tuple [.Name T p2,.Name U p3] k0 p4] X.env=(ak,cD (.Tuple [.Name T p2,.Name U p3] k0 p4) X.env)::aE [] X.env)(hpl:(dz pos<|aE [.Tuple [.Name T p2,.Name U p3] k0 p4] X.env).any (·.1)=ak) :
  CE X xw C (.Call (.Name "isinstance" p) [a,.Tuple [.Name T p2,.Name U p3] k0 p4] [] pos) (.isi i [t,u]):=.mk <|
 PE.imp (WH (wj (ZL t)<|ZL u) hg hm (by rfl) (Yj ha.h (Yj (uP<|Yj (Q4 (v:=.ty<|ZL t) hgT hmT hvT rfl hnT hdT) (Yj (Q4 (v:=.ty<|ZL u) hgU hmU hvU rfl hnU hdU) XI hs00) hs0) XI hs2) hs1) (by decide) (by decide) hs1 hpl)<|by
  rintro Z H Q ⟨O,l,S,st,lr,h⟩;refine#[O,l,S,st,lr,End.bind (show End X.K xw Rep O H Q ((Pv.pv C i l S).bind _)from h) λx S1 ρ1 H1 v f1 st1 r1 h1=>#[by show 2<=aZ;rw[cI];lia,λq hq=>?_]]
  obtain⟨n,hn,h2⟩:=End.ob h1;have st2:=st1.fresh (o:=.tup [.ty<|ZL t,.ty<|ZL u]) hq;have f2:=ZH (O:=ρ1) (o:=.tup [.ty<|ZL t,.ty<|ZL u]) hq;have fin:∀tv,TyOf X.K H1 v tv->eo X.K tv [.type<|ZL t,.type<|ZL u]=aa n->_:=λtv ty e=>(#[v,tv,n,q,rfl,Zy,TyOf.later ty hq,e,h2 ρ1 _ _ f2 st2<|Ya n]:∃v' tv n q',[v,V.ref q]=[v',.ref q']/\upd H1 q (.tup [.ty<|ZL t,.ty<|ZL u]) q'=aa (.tup [.ty<|ZL t,.ty<|ZL u])/\TyOf X.K (upd H1 q<|.tup [.ty<|ZL t,.ty<|ZL u]) v' tv/\eo X.K tv [.type<|ZL t,.type<|ZL u]=aa n/\Q (.bl n) (upd H1 q<|.tup [.ty<|ZL t,.ty<|ZL u]))
  unfold Pv.Z9 at hn;cases q1:Pv.YD x t with
  |none=>rw[q1]at hn;cases hn
  |some m=>
   rw[q1]at hn;obtain⟨tv,ty,e⟩:=yI r1 ht q1;cases m with
   |true=>
    have hn':n=aj:=(al hn).symm;exact fin tv ty (by unfold eo;rw[e,hn'])
   |false=>
    have hn1:(match Pv.YD x u with
     |some aj=>aa aj
     |some ak=>Pv.Z9 x []
     |none=>ag)=aa n:=hn
    cases q2:Pv.YD x u with
    |none=>rw[q2]at hn1;cases hn1
    |some m2=>
     rw[q2]at hn1;obtain⟨tv2,ty2,e2⟩:=yI r1 hu q2;have et:tv2=tv:=TyOf.uniq ty2 ty;subst et;refine fin tv2 ty ?_;unfold eo;rw[e];show eo X.K tv2 [.type<|ZL u]=aa n;unfold eo;rw[e2];cases m2 with|true=>exact hn1|false=>exact hn1
end
end Sd
namespace Sd
open Ev (ltI YA Zi)
theorem Jr:∀{x y:List Int},x≠y->ltI x y=ak->ltI y x=aj
 |[],[],h,_=>T7 rfl h
 |[],_::_,_,h=>by cases h
 |_::_,[],_,_=>rfl
 |a::x,b::y,h,e=>by
  unfold ltI at e ⊢;by_cases c:a=b
  .subst c
   rw[T9 rfl]at e ⊢;exact Jr (λz=>h<|by rw[z]) e
  .rw[T8 c]at e
   rw[T8<|Ne.symm c];have:=of_decide_eq_false e;exact T5 (by omega)
theorem VT:∀{x y:List Int},ltI x y=aj->ltI y x=ak
 |[],[],h=>by cases h
 |[],_::_,_=>rfl
 |_::_,[],h=>by cases h
 |a::x,b::y,e=>by
  unfold ltI at e ⊢;by_cases c:a=b
  .subst c
   rw[T9 rfl]at e ⊢;exact VT e
  .rw[T8 c]at e
   rw[T8<|Ne.symm c];have:=T6 e;exact T4 (by omega)
theorem yt:∀{x y z:List Int},ltI x y=aj->ltI y z=aj->ltI x z=aj
 |[],[],_,h,_=>by cases h
 |_::_,[],_,h,_=>by cases h
 |_,_::_,[],_,h=>by cases h
 |[],_::_,_::_,_,_=>rfl
 |a::x,b::y,c::z,e,f=>by
  unfold ltI at e f ⊢;by_cases h1:a=b
  .subst h1
   rw[T9 rfl]at e;by_cases h2:a=c
   .subst h2
    rw[T9 rfl]at f ⊢;exact yt e f
   .rw[T8 h2]at f ⊢;exact f
  .rw[T8 h1]at e
   have e':=T6 e;by_cases h2:b=c
   .subst h2
    rw[T8 h1];exact e
   .rw[T8 h2]at f
    have f':=T6 f;rw[T8 (by omega)]
    exact T5 (by omega)
theorem Vm(x:List Int):∀l:List (List Int),(YA x l).Perm (x::l)
 |[]=>cr _
 |y::r=>by
  unfold YA;split
  .exact cr _
  .exact((Vm x r).cons y).trans<|iY x y r
theorem YF:∀l:List (List Int),(Zi l).Perm l
 |[]=>cr _
 |x::r=>(Vm x<|Zi r).trans<|(YF r).cons x
theorem VE(x:List Int):∀{l:List (List Int)},(∀y∈l,x≠y)->l.Pairwise (λa b=>ltI a b=aj)->(YA x l).Pairwise (λa b=>ltI a b=aj)
 |[],_,_=>by exact kQ ..
 |y::r,hn,h=>by
  rw[bm]at h;unfold YA;split
  .rename_i c
   rw[bm,bm];refine#[λz hz=>?_,h]
   rcases aB.mp hz with rfl|hz
   .exact c
   .exact yt c<|h.1 z hz
  .rename_i c
   rw[bm];refine#[λz hz=>?_,VE x (λy hy=>hn y<|ai _ hy) h.2]
   rcases aB.mp ((Vm x r).mem_iff.mp hz)with rfl|hz
   .exact Jr (hn y<|am ..) (by simpa using c)
   .exact h.1 z hz
theorem Xg:∀{l:List (List Int)},l.Nodup->(Zi l).Pairwise (λa b=>ltI a b=aj)
 |[],_=>kh
 |x::r,h=>by
  rw[dP]at h;exact VE x (λy hy e=>h.1<|by rw[e];exact(YF r).mem_iff.mp hy)<|Xg h.2
theorem XF:∀{a b:List (List Int)},a.Perm b->a.Pairwise (λx y=>ltI x y=aj)->b.Pairwise (λx y=>ltI x y=aj)->a=b
 |[],b,p,_,_=>(List.Perm.nil_eq p)
 |x::a,[],p,_,_=>by have:=p.length_eq;simp at this
 |x::a,y::b,p,ha,hb=>by
  rw[bm]at ha hb;have e:x=y:=by
   rcases aB.mp (p.mem_iff.mp<|am ..)with h|h
   .exact h
   .rcases aB.mp (p.mem_iff.mpr (am))with h2|h2
    .exact h2.symm
    .have z1:=hb.1 x h
     have z2:=ha.1 y h2;rw[VT z1]at z2;cases z2
  subst e;rw[XF (List.perm_cons x |>.mp p) ha.2 hb.2]
open PySem PySem.Spec PyProof.Rows L2
open Ev (E Sm Fn Bop Cop Ty Bf Mf Z0 UT Y4 ltP Yt)
noncomputable def UQ(fin:Bool):List Int->List Int->Bool
 |[],_=>fin
 |_::_,[]=>fin
 |a::x,b::y=>if a=b then UQ fin x y else ae (a<b)
theorem Jg:∀(x y:List Int),UQ (ae<|x.length<y.length) x y=ltI x y
 |[],[]=>rfl
 |[],_::_=>by unfold UQ ltI;simp
 |_::_,[]=>by unfold UQ ltI;simp
 |a::x,b::y=>by
  unfold UQ ltI;have:ae ((a::x).length<(b::y).length)=ae (x.length<y.length):=by simp
  rw[this,Jg x y]
theorem zJ{C:Bool->ax->Prop}:∀{x y:List Int}{u v:List ap}{i:Nat},Vals (x.map V.int) u->Vals (y.map V.int) v->C (UQ fin x y) s->PySem.W.KatLex prog w A b fin C (u.zip v) i s
 |[],_,_,_,_,.nil,_,h=>by rw[ko];exact oB h
 |_::_,[],_,_,_,_,.nil,h=>by rw[iZ];exact oB h
 |a::x,c::y,_,_,i,.cons ra ta,.cons rb tb,h=>by
  obtain⟨t,rfl⟩:=ra;obtain⟨t',rfl⟩:=rb;rw[b0];refine PySem.W.kat_cons<|kI ?_;unfold UQ at h;by_cases e:a=c
  .rw[T9 e]at h
   rw[beq_iff_eq.mpr e];exact PySem.W.kat_yes<|zJ ta tb h
  .rw[T8 e]at h
   rw[beq_eq_false_iff_ne.mpr e];refine PySem.W.kat_no ?_;cases q:(b&&i == 0)with|true=>exact oneLt_int h|false=>exact PySem.W.kat_one _ _<|lt_int h
inductive RowsAt(h:cc):List (List Int)->List ap->Prop where
 |nil:RowsAt h [] []
 |cons {r:List Int} {rs:List (List Int)} {vs:List ap} {a:aJ} {o:fA} {us:List ap} {m:Nat} (ho:h.get? a=aa o) (hc:o.cls=.type "tuple") (hd:o.data=.seq us.toArray m) (hv:Vals (r.map V.int) us) (t:RowsAt h rs vs):RowsAt h (r::rs) (.ref a::vs)
theorem UH:∀{ks:List D}{k:List Int},Pv.intsV ks=aa k->ks=k.map Pv.V.int
 |[],k,h=>by cases h;rfl
 |d::ks,k,h=>by
  obtain⟨n,r,rfl,e,rfl⟩:=QL h;rw[UH e];rfl
def wH(h:Pv.Z4 (d::ds)=aa rs):∃a b,d=Pv.Zb a/\Pv.Z4 ds=aa b/\rs=a::b:=by
 cases d with
 |tup x=>
  have h:(match Pv.intsV x,Pv.Z4 ds with
   |some a,aa b=>aa (a::b)
   |_,_=>ag)=aa rs:=h
  cases q1:Pv.intsV x with
  |none=>rw[q1]at h;cases h
  |some a=>
   cases q2:Pv.Z4 ds with
   |none=>rw[q1,q2]at h;cases h
   |some b=>
    rw[q1,q2]at h;exact#[a,b,congrArg Pv.V.tup<|UH q1,rfl,(al h).symm]
 |_=>exact Ev.nos h
theorem Rq.intsV:∀{r:List Int}{xs:List V},Rq O H (r.map Pv.V.int) xs->xs=r.map V.int
 |[],xs,h=>by exact h
 |n::r,xs,h=>by
  have h':=h;obtain⟨v,vs,rfl,a,b⟩:=h';rw[a.int',Rq.intsV b];rfl
theorem WI(I:Inv X pq Z H s):∀{ds:List D}{rs:List (List Int)}{xs:List V}{its:List ap},Pv.Z4 ds=aa rs->Rq O H ds xs->Vals xs its->RowsAt s.heap rs its/\ds=rs.map Pv.Zb
 |[],rs,xs,its,h,r,v=>by
  subst r;cases v;cases h;exact#[.nil,rfl]
 |d::ds,rs,xs,its,h,r,v=>by
  obtain⟨x,xs',rfl,r1,r2⟩:=r;cases v with
  |cons v1 v2=>
   obtain⟨a,b,rfl,q2,rfl⟩:=wH h;obtain⟨t,e⟩:=WI I q2 r2 v2;obtain⟨p,ys,rfl,hp,ry⟩:=r1.tup';have ey:=Rq.intsV ry;subst ey;cases v1;obtain⟨us,rv,⟨o,ho,hc,m,hd⟩,_⟩:=I.tuple<|SqT.of hp;exact#[.cons ho hc hd rv t,by rw[e];rfl]
theorem RowsAt.length{h:cc}:∀{rs:List (List Int)}{vs:List ap},RowsAt h rs vs->rs.length=vs.length
 |_,_,.nil=>rfl
 |_,_,.cons _ _ _ _ t=>by rw[aP,aP,RowsAt.length t]
theorem RowsAt.at{h:cc}:∀{rs:List (List Int)}{vs:List ap}(i:Nat),RowsAt h rs vs->i<vs.length->∃a o us m,vs.getD i bh=.ref a/\h.get? a=aa o/\o.data=.seq us.toArray m/\Vals ((rs.getD i []).map V.int) us
 |_,_,_,.nil,hi=>by simp at hi
 |_,_,0,.cons ho hc hd hv t,_=>#[_,_,_,_,rfl,ho,hd,hv]
 |_,_,i+1,.cons ho hc hd hv t,hi=>by
  obtain⟨a,o,us,m,e1,e2,e3,e4⟩:=RowsAt.at i t (by simpa using hi)
  exact#[a,o,us,m,by simpa using e1,e2,e3,by simpa using e4]
theorem RowsAt.tups(k:Sq.Lat h h'):∀{rs:List (List Int)}{vs:List ap},RowsAt h rs vs->(∀r∈rs,r≠[])->∃fs,PySem.W.KatTups h' vs fs/\fs.length=vs.length/\∀v∈fs,∃n t,v=fu n t
 |_,_,.nil,_=>#[[],.nil,rfl,λv hv=>by cases hv]
 |_,_,.cons (r:=r) ho hc hd hv t,hn=>by
  obtain⟨fs,t1,t2,t3⟩:=RowsAt.tups k t λr hr=>hn r<|ai _ hr
  have hr:=hn r<|am ..;cases r with
  |nil=>exact T7 rfl hr
  |cons n r=>
   obtain⟨u,g,rel⟩:=hv.get (i:=0) rfl;refine#[u::fs,.cons (k _ _ ho) hc hd (by simpa using g) t1,by rw[aP,aP,t2],λv hv=>?_]
   rcases aB.mp hv with rfl|hv
   .obtain⟨tk,e⟩:=rel
    exact#[n,tk,e]
   .exact t3 v hv
theorem Uj:∀{x y:List Int}{us:List ap},Vals (x.map V.int) us->Vals (y.map V.int) us->x=y
 |[],[],_,_,_=>rfl
 |[],_::_,_,.nil,h=>by cases h
 |_::_,[],_,h,.nil=>by cases h
 |a::x,b::y,_,.cons r t,.cons r' t'=>by
  obtain⟨k,rfl⟩:=r;obtain⟨k',e⟩:=r';cases e;rw[Uj t t']
def uh{B:Type}{df:B}{rs:List B}{vs:List ap}(hl:rs.length=vs.length)(nd:rs.Nodup)(h:∀i j,i<vs.length->j<vs.length->vs.getD i bh=vs.getD j bh->rs.getD i df=rs.getD j df):vs.Nodup:=by
 refine bF.mpr λi j hi hj hij e=>?_
 have:=h i j hi hj (by simp[hi,hj,e])
 simp only[aN,af (show i<rs.length by lia),af (show j<rs.length by lia)]at this
 exact bF.mp nd i j (by lia) (by lia) hij this
def QE{prog:bC}{w:bU}{A:cL}{h:cc}{rs:List (List Int)}{vs:List ap}(R:RowsAt h rs vs)(nd:rs.Nodup)(hn:∀r∈rs,r≠[]):Sq.Asks prog w A h vs (tuples' aj) (λi j=>ltI (rs.getD i [])<|rs.getD j []):=by
 refine#[λh2 s' E Q k q=>?_,uh (df:=[]) R.length nd λi j hi hj e=>?_,λi j hi hj s' C E k q=>?_]
 .obtain⟨fs,t1,t2,t3⟩:=R.tups k hn
  exact PySem.W.kat_kind (T:=.type "int") t1 (by lia) (λv hv=>by obtain⟨n,t,rfl⟩:=t3 v hv;exact PySem.W.Looks.of_pure rfl) rfl q
 .obtain⟨a,o,us,m,e1,e2,e3,e4⟩:=R.at i hi
  obtain⟨a',o',us',m',f1,f2,f3,f4⟩:=R.at j hj;rw[e1,f1]at e;cases e;rw[e2]at f2;cases f2;rw[e3]at f3;cases f3;exact Uj e4 f4
 .obtain⟨a,o,us,m,e1,e2,e3,e4⟩:=R.at i hi
  obtain⟨a',o',us',m',f1,f2,f3,f4⟩:=R.at j hj;rw[e1,f1];refine PySem.W.kat_lt (k _ _ e2) e3 (k _ _ f2) f3<|zJ e4 f4 ?_;have l1:us.toArray.size=(rs.getD i []).length:=by rw[ay,<-e4.length,aw]
  have l2:us'.toArray.size=(rs.getD j []).length:=by rw[ay,<-f4.length,aw]
  rw[l1,l2,Jg];exact q
def Gj{rs:List (List Int)}{n:Nat}(hn:rs.Nodup)(hl:rs.length=n):Sq.Ord n (λi j=>ltI (rs.getD i [])<|rs.getD j []):=by
 have hd:∀i j,i<n->j<n->i≠j->rs.getD i []≠rs.getD j []:=λi j hi hj ne e=>by
  simp only[aN]at e;have hi':i<rs.length:=by lia
  have hj':j<rs.length:=by lia
  refine ne<|(gI hi' hn).mp ?_;rw[af hi',af hj']at e ⊢;exact congrArg aa e
 exact#[λi j hi hj ne e=>Jr (hd i j hi hj ne) e,λi j _ _ e=>VT e,λi j k _ _ _ e f=>yt e f]
def UB{B β:Type}(b:Bool)(f:B->β)(l:List B):bi b (l.map f)=(bi b l).map f:=by
 cases b
 .rfl
 .exact n5.symm
def Gc{B:Type}(b:Bool)(l:List B):(bi b l).Perm l:=by
 cases b
 .exact cr _
 .exact dO l
def Vy{B:Type}{d:B}{b:Bool}{vs:List B}{i:Nat}(hi:i<vs.length):(bi b vs).getD i d=vs.getD (if b=aj then vs.length-1-i else i) d:=by
 cases b
 .rfl
 .show vs.reverse.getD i d=vs.getD (vs.length-1-i) d
  simp only[aN];rw[lC hi]
def J3{rs:List (List Int)}{b:Bool}{p:Array Nat}(hn:rs.Nodup)(h1:Sq.Pm rs.length p)(h2:Sq.Up (Sq.ltR b rs.length λi j=>ltI (rs.getD i [])<|rs.getD j []) p rs.length) :
  (p.toList.map λi=>(bi b rs).getD i [])=Zi rs:=by
 have hp:p.toList.Perm (aL rs.length):=by simpa using bv.mp h1
 have hl:p.toList.length=rs.length:=by rw[hp.length_eq,br]
 refine XF ?_ ?_<|Xg hn
 .refine((hp.map _).trans ?_).trans (YF rs).symm
  have e:(aL rs.length).map (λi=>(bi b rs).getD i [])=bi b rs:=by
   apply bR
   intro i;rw[aM];by_cases h:i<rs.length
   .have:i<(bi b rs).length:=by rw[gc];exact h
    rw[cK h];simp[this]
   .have:(bi b rs).length<=i:=by rw[gc];lia
    simp[d4 h,this]
  rw[e];exact Gc b rs
 .rw[cS,bF]
  intro i j hi hj hij;have g1:p.toList[i]=Sq.g p i:=by
   have:=Sq.Zbi (by simpa using hi)
   rw[<-bf,af hi]at this;exact al this
  have g2:p.toList[j]=Sq.g p j:=by
   have:=Sq.Zbi (by simpa using hj)
   rw[<-bf,af hj]at this;exact al this
  rw[g1,g2,Vy (h1.lt (by lia)),Vy<|h1.lt (by lia)]
  have:=h2 i j hij (by lia)
  cases b
  .exact this
  .exact this
def Gx{F:List Nat}{xs:List V}{rs:List (List Int)}(h:Rq O H (rs.map Pv.Zb) xs)(hF:∀i∈F,i<rs.length):Rq O H ((F.map λi=>rs.getD i []).map Pv.Zb) (F.map λi=>xs.getD i V.non):=by
 induction F with
 |nil=>exact Rq.nil
 |cons i F ih=>
  refine Rq.cons ?_<|ih λj hj=>hF j<|ai _ hj
  have hi:=hF i<|am ..;obtain⟨v,g,r⟩:=h.get (by rw[aM,af hi];rfl)
  show Rep O H (Pv.Zb<|rs.getD i []) (xs.getD i V.non);rw[aN,aN,g,af hi];exact r
def zd{F:List Nat}{xs:List V}{us:List ap}(h:Vals xs us)(hF:∀i∈F,i<xs.length):Vals (F.map λi=>xs.getD i V.non) (F.map λi=>us.getD i bh):=by
 induction F with
 |nil=>exact .nil
 |cons i F ih=>
  refine .cons ?_<|ih λj hj=>hF j<|ai _ hj
  have hi:=hF i<|am ..;obtain⟨u,g,r⟩:=h.get<|af hi;show Zu (xs.getD i V.non) (us.getD i bh);rw[aN,aN,g,af hi];exact r
def zK(h:Rq O H ds xs):Rq O H (bi b ds) (bi b xs):=by
 cases b
 .exact h
 .exact h.reverse
def GK :∀{xs:List V}{us:List ap},Vals xs us->Vals (bi b xs) (bi b us):=by
 cases b
 .exact λh=>h
 .have snoc:∀{xs:List V}{us:List ap}{x:V}{u:ap},Vals xs us->Zu x u->Vals (xs++[x]) (us++[u]):=by
   intro xs us x u h r
   induction h with|nil=>exact .cons r .nil|cons a _ ih=>exact .cons a ih
  intro xs us h;show Vals xs.reverse us.reverse
  induction h with|nil=>exact .nil|cons r t ih=>rw[gD,gD];exact snoc ih r
def Zcf(b:Bool):List V->Hp->VK->Prop:=λvs H Q=>∃O ds rws v,vs=[v]/\Rep O H (.lst ds) v/\Pv.Z4 ds=aa rws/\Z0 rws=aj/\∀ys,Rq O H ((if b then(Zi rws).reverse else Zi rws).map Pv.Zb) ys->∀p,H p=ag->Q (.ref p) (upd H p<|.lst ys)
def wS{pq:List (aJ×fA)}{s:ax}{Z:L2.St}{H:Hp}{vs:List V}{us:List ap}{Q:VK}{b:Bool}(I:Inv X pq Z H s)(r:Vals vs us)(h:Zcf b vs H Q) :
  ∃(l:aJ)(its:List ap)(rs:List (List Int)),us=[.ref l]/\s.heap.IsList l its.toArray/\its.length<=100000/\rs.length=its.length/\Sq.Ord its.length (λi j=>ltI (rs.getD i [])<|rs.getD j [])/\(∀A,Sq.Asks X.prog X.w A s.heap its (tuples' aj) λi j=>ltI (rs.getD i [])<|rs.getD j [])/\
   ∀p,Sq.Pm its.length p->Sq.Up (Sq.ltR b its.length λi j=>ltI (rs.getD i [])<|rs.getD j []) p its.length->
    EP X pq Z Q (.ref<|s.heap.objs.size+1) {s with heap:=sortedAll s.heap its (cA<|bi b<|p.toList.map λi=>(bi b its).getD i bh)}:=by
 obtain⟨O,ds,rws,v,rfl,r1,hrw,hok,h3⟩:=h;obtain⟨l,xs,rfl,hx,_,rx⟩:=r1.lst';obtain⟨u,rfl,ru⟩:=XJ r;cases ru;obtain⟨its,rv,pl,hz⟩:=I.list<|SqL.of hx;obtain⟨RA,ed⟩:=WI I hrw rx rv;obtain⟨hok1,hok3⟩:=(aF _ _).mp hok;obtain⟨hok1,hok2⟩:=(aF _ _).mp hok1;have h64:=T6 hok1;have hnd:=T6 hok2;have hne:∀r∈rws,r≠[]:=λr hr e=>by
  have:=aY.mp hok3 r hr;rw[e]at this;cases this
 have hlen:=RA.length;refine#[l,its,rws,rfl,pl.isList,by lia,hlen,Gj hnd hlen,λA=>QE RA hnd hne,λp hp hu=>?_]
 rw[<-hlen]at hp hu;have out:=J3 hnd hp hu;have hmem:∀i∈p.toList,i<rws.length:=λi hi=>by
  have hp':p.toList.Perm (aL rws.length):=by simpa using bv.mp hp
  exact aR.mp<|hp'.mem_iff.mp hi
 subst ed;have xl:xs.length=rws.length:=by rw[rx.length,aw]
 have rx1:Rq O H ((bi b rws).map Pv.Zb) (bi b xs):=by rw[<-UB];exact zK rx
 have rx2:=Gx rx1 (by rw[gc];exact hmem)
 rw[out]at rx2;have rx3:=zK (b:=b) rx2;have rv2:=GK (b:=b)<|zd (GK (b:=b) rv) (by rw[gc,xl];exact hmem)
 have eb:(if b=aj then(Zi rws).reverse else Zi rws)=bi b (Zi rws):=rfl
 rw[eb,<-UB]at h3;obtain⟨ep,he⟩:=sortedAll_at s.heap its<|cA<|bi b<|p.toList.map λi=>(bi b its).getD i bh
 refine#[.ref<|s.heap.objs.size+1,_,I.laid (t':=s.toks) (λb ob q=>sortedAll_old q) (km _) ?_,rfl,h3 _ rx3 _<|I.hok.fresh<|km _]
 refine#[?_,_,ep,rv2,he];rw[gc,aw,aI,hp.size,cI];lia
def z7{kp kp2:gW}{q0}(hm:X.mg "sorted" = ag)(ha:CA X xw C [e] [i])(hg:Gl X "sorted")
  (he:dz pos (aE [e] X.env)=(ak,cD e X.env)::dz pos (aE [] X.env))(hpl:(dz pos<|aE [e] X.env).any (·.1)=ak) :
  CE X xw C (.Call (.Name "sorted" p) [e] [#[aa "reverse",.Constant (.bool aj) q0 kp,kp2]] pos) (.blt .sortedR [i]):=.mk <| by
 intro pq s Z H Q I hq;obtain⟨O,l,S,st,lr,h⟩:=hq;refine d8<|YX I hg hm (show cZ "sorted" = aa (.builtin "sorted")from rfl) ?_ (by decide) (by decide)
 refine callWith_kw (thn (ha.h pos pq s Z H (λvs H1=>Zcf aj vs H1 Q) I ?_) λus s1 #[vs,H1,I1,r1,q1]=>?_) he hpl rfl rfl
 .refine#[O,l,S,st,lr,End.bind (show End X.K xw Rep O H Q ((Pv.pvs C [i] l S).bind λxs S=>Pv.po (Pv.Xt .sortedR xs) S)from h) λxs S1 ρ1 H1 vs f1 st1 r1 h1=>?_]
  obtain⟨d,v,z,rfl,r1,hz,h1⟩:=Wh h1 r1;cases d with
  |lst ds=>
   obtain⟨rws,hr,hz⟩:=bQ.mp hz;split at hz
   .cases hz;exact#[ρ1,ds,rws,v,rfl,r1,hr,‹_›,λys r=>h1.newL st1 r]
   .cases hz
  |_=>exact Ev.nos hz
 .refine kws_cons (thn (jc pq s1 Z H1 (λv H2=>v=.bl aj/\H2=H1) I1 #[rfl,rfl]) λu s2 #[x,H2,I2,r2,e1,e2]=>kws_nil ?_)
  subst e1 e2;cases r2;obtain⟨l,its,rs,rfl,h1,h2,h3,h4,h5,h6⟩:=wS I2 r1 q1;exact Sq.yG (b:=aj) h1 h2 h4 (h5 _) λp a b=>h6 p a b
end Sd
namespace Sd
open PySem PySem.Spec PyProof.Rows L2
open Ev (ltI)
open PySem.SeqAt PySem.MeetsSeq PySem.MeetsSeq2 PySem.MeetsSeq3 PySem.SeqRoads2
open PySem.AutoSeq1 (wpAny_loadPart')
def zV(l b:aJ)(u v:List ap)(n n2:Nat)(dd dd2:Option aJ)(sl sl2:Array (Option ap))(x y:List Int)(hx:Vals (x.map V.int) u)(hy:Vals (y.map V.int) v) :
  oS (db.«tuple.__lt__» #[[.ref l,.ref b],[]]) (λA R s=>s.heap.get? l=aa {cls:=.type "tuple",dict:=dd,data:=.seq u.toArray n,slots:=sl}/\s.heap.get? b=aa {cls:=.type "tuple",dict:=dd2,data:=.seq v.toArray n2,slots:=sl2}/\R (.ok<|.ret<|.bool<|ltI x y) s):=
 .of_wp λprog w A R s h=>by
  obtain⟨hp,g,d,tk,os⟩:=s;obtain⟨hl,hb,h⟩:=h;have f2:=dH;rw[<-Jg]at h
  wp_walk using iq hl,iq hb,wpAny_forIn_list _ (λrest b s'=>b.1=ag/\s'=#[hp,g,d,tk,os]/\∃x' y' u' v',rest=pK u' v'/\Vals (iW V.int x') u'/\Vals (iW V.int y') v'/\R (.ok<|.ret<|.bool<|UQ (ae<|x.length<y.length) x' y') #[hp,g,d,tk,os]) _
  case turn=>
   rintro ⟨a,c⟩ rest b s' ⟨hb',rfl,x',y',u',v',hz,hx',hy',hR⟩
   match x',y',u',v',hx',hy',hz,hR with
   |i::x',j::y',_::u',_::v',.cons ra ta,.cons rb tb,hz,hR=>
    obtain⟨t,rfl⟩:=ra;obtain⟨t',rfl⟩:=rb;rw[b0]at hz;injection hz with h1 h2
    cases h1;unfold UQ at hR;refine ab<|kI ?_;by_cases e:i=j
    .rw[T9 e]at hR
     rw[beq_iff_eq.mpr e]
     wp_walk
     exact#[rfl,rfl,x',y',u',v',h2,ta,tb,hR]
    .rw[T8 e]at hR
     rw[beq_eq_false_iff_ne.mpr e];simp only[o0,if_true];refine ab<|d7<|ab<|PyProof.Rows.lt_int ?_
     wp_walk
     exact#[_,rfl,by simpa using hR]
   |[],_,_,_,.nil,_,hz,_=>rw[ko]at hz;cases hz
   |_::_,[],_,_,_,.nil,hz,_=>rw[iZ]at hz;cases hz
  case fin=>
   rintro ⟨b1,b2⟩ s' ⟨hb',rfl,x',y',u',v',hz,hx',hy',hR⟩
   simp only at hb';subst hb';have hf:UQ (ae<|x.length<y.length) x' y'=ae (x.length<y.length):=by
    match x',y',u',v',hx',hy',hz with
    |[],_,_,_,_,_,_=>rfl
    |_::_,[],_,_,_,_,_=>rfl
    |_::_,_::_,_::_,_::_,.cons _ _,.cons _ _,hz=>rw[b0]at hz;cases hz
   rw[hf]at hR;have l1:u.length=x.length:=by rw[<-hx.length,aw]
   have l2:v.length=y.length:=by rw[<-hy.length,aw]
   wp_walk
   exact#[_,rfl,by simpa[gN,l1,l2]using hR]
  case h=>
   exact#[rfl,rfl,x,y,u,v,by simp,hx,hy,h]
def Zby{E:ap->ax->Prop}{Q:ap->ax->Prop}(ha:s.heap.get? a=aa o)(hc:o.cls=.type "tuple")(hd:o.data=.seq u.toArray m)(hx:Vals (x.map V.int) u)
  (hb:s.heap.get? b=aa o')(hc':o'.cls=.type "tuple")(hd':o'.data=.seq v.toArray m')(hy:Vals (y.map V.int) v)(hu:A.units<du)(q:Q (.bool<|ltI x y) s):aV (aS prog w) A (cB .Lt (.ref a)<|.ref b) Q E s:=by
 obtain⟨cls,dd,data,sl⟩:=o;obtain⟨cls2,dd2,data2,sl2⟩:=o';simp only at hc hd hc' hd';subst hc hd hc' hd';exact lg (op:=.Lt) #[_,ha,rfl] #[_,hb,rfl] oC n6 (nz _ _) (zV a b u v m m' dd dd2 sl sl2 x y hx hy) #[ha,hb,#[(λx=>nomatch x),q]] hu
end Sd
namespace Sd
open Ev (ltI ltP UT Y4)
open PySem PySem.Spec PyProof.Rows L2
theorem Jl:∀{x:List Int}{u:List ap}{j:Nat}(h:j<u.length),Vals (x.map V.int) u->∃t,u[j]=fu (x.getD j 0) t
 |[],[],_,h,.nil=>by simp at h
 |_::_,_::_,0,_,.cons ra _=>by obtain⟨t,rfl⟩:=ra;exact#[t,rfl]
 |_::x,_::u,j+1,h,.cons _ ta=>by
  obtain⟨t,e⟩:=Jl (by simpa using h) ta
  exact#[t,by simpa using e]
def Zew:∀{x y:List Int},((aL<|pc x.length y.length).all (λj=>x.getD j 0 == y.getD j 0)&&x.length == y.length)=ae (x=y):=by
 intro x y;rw[cf,aF,aY,decide_eq_true_iff]
 constructor
 .rintro ⟨h1,h2⟩
  have h2:x.length=y.length:=by simpa using h2
  apply gU h2;intro i hi hj;have:=h1 i<|aR.mpr (by lia)
  simpa[hi,hj]using this
 .rintro rfl
  exact#[λj _=>by simp,by simp]
def Gy(h:cc)(r:List Int)(v:ap):Prop:=∃a o us m,v=.ref a/\h.get? a=aa o/\o.cls=.type "tuple"/\o.data=.seq us.toArray m/\Vals (r.map V.int) us
def Zaj(hx:Gy s.heap x v)(hy:Gy s.heap y u)(hu:A.units<du):gQ A s v u (ae<|x=y):=by
 obtain⟨a,o,us,m,rfl,ho,hc,hd,hv⟩:=hx;obtain⟨b,o',us',m',rfl,ho',hc',hd',hv'⟩:=hy;have l1:us.toArray.size=x.length:=by rw[ay,<-hv.length,aw]
 have l2:us'.toArray.size=y.length:=by rw[ay,<-hv'.length,aw]
 by_cases e:a=b
 .subst e
  rw[ho]at ho';cases ho';rw[hd]at hd';injection hd' with h1 h2
  have h1:us=us':=by simpa using h1
  subst h1;rw[T5<|Uj hv hv'];exact h8 _
 .refine iP e ?_
  have:=kl #[o,ho,hc,m,hd] #[o',ho',hc',m',hd'] hu (λj h1 h2=>by
   obtain⟨t,e1⟩:=Jl (by simpa using h1) hv
   obtain⟨t',e2⟩:=Jl (by simpa using h2) hv'
   rw[show us.toArray[j]=us[j]'(by simpa using h1) by simp,show us'.toArray[j]=us'[j]'(by simpa using h2) by simp,e1,e2]
   exact mK _ _ _ _)
  rw[l1,l2,Zew]at this;exact this
def qz{E:ap->ax->Prop}{Q:ap->ax->Prop}(hx:Gy s.heap x v)(hy:Gy s.heap y u)(hu:A.units<du)(q:Q (.bool<|ltI x y) s):aV (aS prog w) A (cB .Lt v u) Q E s:=by
 obtain⟨a,o,us,m,rfl,ho,hc,hd,hv⟩:=hx;obtain⟨b,o',us',m',rfl,ho',hc',hd',hv'⟩:=hy;exact Zby ho hc hd hv ho' hc' hd' hv' hu q
noncomputable def zg(fin:Bool):List (List Int)->List (List Int)->Bool
 |[],_=>fin
 |_::_,[]=>fin
 |a::x,b::y=>if a=b then zg fin x y else ltI a b
theorem yU:∀(x y:List (List Int)),zg (ae<|x.length<y.length) x y=ltP x y
 |[],[]=>rfl
 |[],_::_=>by unfold zg ltP;simp
 |_::_,[]=>by unfold zg ltP;simp
 |a::x,b::y=>by
  unfold zg ltP;have:ae ((a::x).length<(b::y).length)=ae (x.length<y.length):=by simp
  rw[this,yU x y]
inductive RowsIn(h:cc):List (List Int)->List ap->Prop where
 |nil:RowsIn h [] []
 |cons {r:List Int} {rs:List (List Int)} {v:ap} {vs:List ap} (a:Gy h r v) (t:RowsIn h rs vs):RowsIn h (r::rs) (v::vs)
theorem RowsIn.length :∀{rs:List (List Int)}{vs:List ap},RowsIn h rs vs->rs.length=vs.length
 |_,_,.nil=>rfl
 |_,_,.cons _ t=>by rw[aP,aP,RowsIn.length t]
open Ev (E Sm Fn Bop Cop Ty Bf Mf YA Zi Z0 Yt)
section
variable{X:Cx}{pq:List (aJ×fA)}{Z:L2.St}{H:Hp}{s:ax}{O:Mx}
theorem RowsAt.ins{h:cc}:∀{rs:List (List Int)}{vs:List ap},RowsAt h rs vs->RowsIn h rs vs
 |_,_,.nil=>.nil
 |_,_,.cons ho hc hd hv t=>.cons #[_,_,_,_,rfl,ho,hc,hd,hv]<|RowsAt.ins t
end
open PySem.SeqAt PySem.MeetsSeq PySem.MeetsSeq2 PySem.MeetsSeq3 PySem.SeqRoads2
open PySem.AutoSeq1 (wpAny_loadPart')
def yN(l b:aJ)(u v:List ap)(n n2:Nat)(dd dd2:Option aJ)(sl sl2:Array (Option ap))(x y:List (List Int)) :
  oS (db.«tuple.__lt__» #[[.ref l,.ref b],[]]) (λA R s=>s.heap.get? l=aa {cls:=.type "tuple",dict:=dd,data:=.seq u.toArray n,slots:=sl}/\s.heap.get? b=aa {cls:=.type "tuple",dict:=dd2,data:=.seq v.toArray n2,slots:=sl2}/\A.units+1<du/\RowsIn s.heap x u/\RowsIn s.heap y v/\R (.ok<|.ret<|.bool<|ltP x y) s):=
 .of_wp λprog w A R s h=>by
  obtain⟨hp,g,d,tk,os⟩:=s;obtain⟨hl,hb,hu,hx,hy,h⟩:=h;have f2:=dH;rw[<-yU]at h
  wp_walk using iq hl,iq hb,wpAny_forIn_list _ (λrest b s'=>b.1=ag/\s'=#[hp,g,d,tk,os]/\∃x' y' u' v',rest=pK u' v'/\RowsIn hp x' u'/\RowsIn hp y' v'/\R (.ok<|.ret<|.bool<|zg (ae<|x.length<y.length) x' y') #[hp,g,d,tk,os]) _
  case turn=>
   rintro ⟨a,c⟩ rest b s' ⟨hb',rfl,x',y',u',v',hz,hx',hy',hR⟩
   match x',y',u',v',hx',hy',hz,hR with
   |i::x',j::y',_::u',_::v',.cons ra ta,.cons rb tb,hz,hR=>
    rw[b0]at hz;injection hz with h1 h2
    cases h1;unfold zg at hR;refine ab<|Zaj ra rb (by lia) prog w _ _ ?_
    by_cases e:i=j
    .rw[T9 e]at hR
     rw[T5 e]
     wp_walk
     exact#[rfl,rfl,x',y',u',v',h2,ta,tb,hR]
    .rw[T8 e]at hR
     rw[T4 e];simp only[o0,if_true];refine ab<|d7<|ab<|qz ra rb (by lia) ?_
     wp_walk
     exact#[_,rfl,by simpa using hR]
   |[],_,_,_,.nil,_,hz,_=>rw[ko]at hz;cases hz
   |_::_,[],_,_,_,.nil,hz,_=>rw[iZ]at hz;cases hz
  case fin=>
   rintro ⟨b1,b2⟩ s' ⟨hb',rfl,x',y',u',v',hz,hx',hy',hR⟩
   simp only at hb';subst hb';have hf:zg (ae<|x.length<y.length) x' y'=ae (x.length<y.length):=by
    match x',y',u',v',hx',hy',hz with
    |[],_,_,_,_,_,_=>rfl
    |_::_,[],_,_,_,_,_=>rfl
    |_::_,_::_,_::_,_::_,.cons _ _,.cons _ _,hz=>rw[b0]at hz;cases hz
   rw[hf]at hR;have l1:u.length=x.length:=by rw[<-hx.length]
   have l2:v.length=y.length:=by rw[<-hy.length]
   wp_walk
   exact#[_,rfl,by simpa[gN,l1,l2]using hR]
  case h=>
   exact#[rfl,rfl,x,y,u,v,by simp,hx,hy,h]
def qA{E:ap->ax->Prop}{Q:ap->ax->Prop}(ha:s.heap.get? a=aa o)(hc:o.cls=.type "tuple")(hd:o.data=.seq u.toArray m)(hx:RowsIn s.heap x u)
  (hb:s.heap.get? b=aa o')(hc':o'.cls=.type "tuple")(hd':o'.data=.seq v.toArray m')(hy:RowsIn s.heap y v)(hu:A.units+3<du)(q:Q (.bool<|ltP x y) s):aV (aS prog w) A (cB .Lt (.ref a)<|.ref b) Q E s:=by
 obtain⟨cls,dd,data,sl⟩:=o;obtain⟨cls2,dd2,data2,sl2⟩:=o';simp only at hc hd hc' hd';subst hc hd hc' hd';exact lg (op:=.Lt) #[_,ha,rfl] #[_,hb,rfl] oC n6 (nz _ _) (yN a b u v m m' dd dd2 sl sl2 x y) #[ha,hb,by first|exact hu|(lia)|lia,hx,hy,#[(λx=>nomatch x),q]] (by lia)
def xy(hu:X.A.units+7<du):Y9 X xw .Lt .lt:=by
 intro pq s Z H v0 u0 v u Q I rv ru #[O,S,x,y,st,rx,ry,h];rcases ZeP st rx ry h with z|⟨a,b,A,B,rfl,rfl,hA,hB,q⟩
 .exact ZeG pq s Z H v0 u0 v u Q I rv ru z
 .obtain⟨p1,xs,rfl,hp1,r1⟩:=rx.tup'
  obtain⟨p2,ys,rfl,hp2,r2⟩:=ry.tup';cases rv;cases ru;obtain⟨us,w1,⟨o,ho,hc,m,hd⟩,_⟩:=I.tuple<|SqT.of hp1;obtain⟨us',w2,⟨o',ho',hc',m',hd'⟩,_⟩:=I.tuple<|SqT.of hp2;obtain⟨ra,_⟩:=WI I hA r1 w1;obtain⟨rb,_⟩:=WI I hB r2 w2;exact qA ho hc hd ra.ins ho' hc' hd' rb.ins (by lia) #[.bl<|ltP A B,H,I,rfl,q]
end Sd
namespace Sd
open PySem PySem.Spec PyProof.Rows L2
open Ev (E Sm Fn Bop Cop Ty Bf Mf)
section
variable{prog:bC}{w:bU}{A:cL}{E:ap->ax->Prop}{s:ax}{it d:aJ}{i n ep:Nat}{od:fA}{es:Array fL}
def ve{Q:ap->ax->Prop}(hd:(d == c7)=ak)(ho:s.heap.get? d=aa od)(hc:od.ExactDict)(hdat:od.data=.dict es ep)
  (hQ:Q (.ref s.heap.objs.size) {s with heap:=s.heap.push {cls:=.type "dict_keyiterator",data:=.fields [.ref d,.int 0 0,.int es.size 0,.int ep 0].toArray}}) :
  aV (aS prog w) A (mE<|.ref d) Q E s:=by
 have hT:s.TypeIs (.ref d) "dict":=#[_,ho,hc.1];refine kq hT n8<|cg n8 hT F.entry_dict_iter ?_<|F.args_dict_iter_1 _;unfold db.«dict.__iter__»;refine ab ?_;refine ab<|lD hT<|au (show aV _ _ (lE d >>= _) _ _ s from ?_)
 unfold lE;rw[T8 (by rw[hd];exact aG)]
 refine ab<|au<|ab<|nA ho hdat<|ab<|wpAny_dictEpoch ho hdat ?_;refine ab<|bD<|au #[_,rfl,"dict_keyiterator",_,#[_,aD _ rfl,rfl],iu.lookup,?_]
 simpa[fw]using hQ
def Qu{Q:Option ap->ax->Prop}(hit:s.heap.IsKeyIter it d i es.size ep)(ho:s.heap.get? d=aa od)(hdat:od.data=.dict es ep)
  (h1:∀(hlt:i<es.size) h',h'.IsKeyIter it d (i+1) es.size ep->dU it s.heap h'->Q (aa es[i].key) {s with heap:=h' })
  (h2:es.size<=i->A.handled=ag/\∀h',gu it s.heap h'->Q ag {s with heap:=h' }):aV (aS prog w) A (ku<|.ref it) Q E s:=by
 obtain⟨o,hi,hc,hd⟩:=id hit;unfold ku;refine ab (fZ (cC hit.typeIs iu
  (cg iu hit.typeIs F.entry_dict_keyiterator_next ?_<|F.args_dict_keyiterator_next_1 _)))
 refine ab<|au<|ab<|ab ?_
 first|refine ab<|eZ hit.typeIs<|au ?_|refine ab<|f8 hit.typeIs<|au ?_
 refine ab<|wpAny_fieldsOf hi hd ?_;have hown:db.Dict_items.ownsTuple "dict_keyiterator" = ak:=by decide
 simp only[hown,cw,if_false];show aV _ _ (if(bV d == bh)=aj then _ else _) _ _ s
 rw[T8<|show¬((bV d == bh)=aj)from aG]
 refine ab<|au<|ab<|nA ho hdat ?_;rw[T8 (by simp)]
 refine ab<|au<|ab<|wpAny_dictEpoch ho hdat ?_;rw[T8 (by simp)]
 refine au ?_;by_cases hlt:i<es.size
 .simp only[by omega,if_false,dv,a8 hlt]
  refine ab ?_
  first|refine ab<|eZ hit.typeIs<|au ?_|refine ab<|f8 hit.typeIs<|au ?_
  refine ab<|lG hit.typeIs (show aV _ _ (setField (.ref it) 1 (fw<|(i:Int)+1) >>= _) _ _ s from ab<|eT hi hd (by simp) ?_)
  have hit':(s.heap.update it (my (·.setIfInBounds 1 (fw<|(i:Int)+1)))).IsKeyIter it d (i+1) es.size ep:=
   #[_,de _ hi<|eA<|cU hd _,(fC ..).trans hc,by rw[cU hd];simp[fw]]
  refine ab<|bI<|ab<|lG hit'.typeIs ?_
  exact au<|au #[_,rfl,au<|h1 hlt _ hit'<|cx ..]
 .obtain⟨hh,hQ⟩:=h2 (by omega)
  simp only[by omega,if_false,dv,fe (show es.size<=i by omega)]
  refine ab ?_
  first|refine ab<|eZ hit.typeIs<|au ?_|refine ab<|f8 hit.typeIs<|au ?_
  show aV _ _ (setField (.ref it) 0 .none >>= _) _ _ s;refine ab<|eT hi hd (by simp)<|ab ?_
  simp only[oV,oW];refine ab<|bD ?_ (by size_fits)
  refine ab (eY (a:=bh) (by first|rfl|(simp only[gF];rfl))<|bD ?_ (by size_fits))
  simp only[raiseNew];refine ab<|mv ?_;rw[hh]
  refine ab<|au<|oj ?_;refine ab<|d6 (T:="StopIteration") (b:=aj) #[_,aD _ rfl,rfl] lT ?_;exact au<|hQ _<|((cx ..).extBut.push _).push _
end
theorem Qm{B β:Type}{F:B->β->Prop}:∀{l:List B}{m:List β}{i:Nat}{p:B},Paired F l m->l[i]?=aa p->∃q,m[i]?=aa q/\F p q
 |_,_,_,_,.nil,e=>by simp at e
 |_,_,0,_,.cons r t,e=>by simp at e;subst e;exact#[_,rfl,r]
 |_,_,i+1,_,.cons r t,e=>by
  obtain⟨q,h1,h2⟩:=Qm t (by simpa using e)
  exact#[q,by simpa using h1,h2]
def JS:oO (.type "list") "keys" = dg ag:=by rw[iw,fz];kernel_rfl
def yk:isSubtype (.type "AttributeError") (.type "AttributeError")=dg aj:=by rw[i5];kernel_rfl
section
variable{prog:bC}{w:bU}{A:cL}{E:ap->ax->Prop}{s:ax}{a:aJ}{B:Type}{name msg:bx}
def w6{Q:Unit->ax->Prop}(he:s.heap.get? e=aa {cls:=.type "AttributeError",data:=.fields vs})(h6:vs[6]?=aa unsetMember)(h7:vs[7]?=aa unsetMember)
  (hQ:∀h',gu e s.heap h'->(∃ob,h'.get? e=aa ob/\ob.cls=.type "AttributeError")->Q () {s with heap:=h' }):aV (aS prog w) A (noteAttr (.ref e) ov nm) Q E s:=by
 have hT:s.TypeIs (.ref e) "AttributeError":=#[_,he,rfl];refine ab<|ab<|d6 hT yk ?_;simp only[gY,cw,if_false];refine ab<|iI he ?_;simp only[h6,h7];rw[T8 (by decide),T8 (by decide)]
 refine au ?_;simp only[if_true];refine ab<|d7<|ab<|fK hT ?_;simp only[layMembers];refine ab<|iI he<|wpAny_update he<|hQ _ (cx ..).extBut #[_,de _ he<|eA<|cU rfl _,fC ..]
def yw{Q:B->ax->Prop}(hh:A.handled=ag)(hm:msg.length<=aZ)(hq:∀h' t' e,(∀b o,s.heap.get? b=aa o->h'.get? b=aa o)->(∃ob,h'.get? e=aa ob/\ob.cls=.type "AttributeError")->E (.ref e) {s with heap:=h',toks:=t' }):aV (aS prog w) A (raiseAttrError (.ref a) name msg:nH B) Q E s:=by
 refine ab<|wpAny_mkStr ?_ hm;simp only[oV,oW];refine ab<|ab<|bD ?_ (by size_fits)
 refine ab (eY (by first|rfl|(simp only[gF];rfl)) ?_)
 refine bD ?_ (by size_fits)
 refine ab<|wpAny_mkText<|ab<|w6 (aD _ rfl) rfl rfl λh' eb ob=>?_
 refine wpAny_raiseNew_none hh<|hq _ _ _ (λb o e=>eb b o (λz=>?_)<|ao _<|ao _ e) ob
 have q:=aC e;subst z;exact T7 q (by show¬(s.heap.push _).objs.size<s.heap.objs.size;rw[cH];omega)
end
section
variable{prog:bC}{w:bU}{A:cL}{E:ap->ax->Prop}{h:cc}{g:Array GenState}{d:Drawn}{t:Nat}{os:OsState}{a:aJ}{its:Array ap}{n:Nat}
def zU{Q:Fin->ax->Prop}(hx:h.get? a=aa {cls:=.type "list",data:=.seq its n})(hh:A.handled=ag)(hq:∀h' t' e,(∀b o,h.get? b=aa o->h'.get? b=aa o)->(∃ob,h'.get? e=aa ob/\ob.cls=.type "AttributeError")->E (.ref e) #[h',g,d,t',os]) :
  aV (aS prog w) A (db.«object.__getattribute__» #[[.ref a,.str "keys" tk],[]]) Q E #[h,g,d,t,os]:=by
 have hT:(#[h,g,d,t,os]:ax).TypeIs (.ref a) "list":=#[_,hx,rfl];have f4:=JS
 repeat(any_goals (first|assumption|wp_step))
 exact yw hh (by decide +kernel) hq
def wz{R:pG->ax->Prop}(hx:h.get? a=aa {cls:=.type "list",data:=.seq its n})(hh:A.handled=ag)(hq:∀h' t' e,(∀b o,h.get? b=aa o->h'.get? b=aa o)->(∃ob,h'.get? e=aa ob/\ob.cls=.type "AttributeError")->R (.error<|.ref e) #[h',g,d,t',os]) :
  iA (aS prog w) A (.call (.builtin "list.__getattribute__") #[[.ref a,.str "keys" tk],[]]) R #[h,g,d,t,os]:=
 l0 F.slot_list_getattribute.plain F.entry_list_ga (F.slot_list_getattribute.check _ _ _ _ _ _ _ _ (#[_,hx,rfl]) (F.args_list_getattribute_2 _ _)<|zU hx hh hq)
def ZbB{Q:ap->ax->Prop}(hx:h.get? a=aa {cls:=.type "list",data:=.seq its n})(hh:A.handled=ag)(hq:∀h' t' e,(∀b o,h.get? b=aa o->h'.get? b=aa o)->(∃ob,h'.get? e=aa ob/\ob.cls=.type "AttributeError")->E (.ref e) #[h',g,d,t',os]):aV (aS prog w) A (getAttrBy (.ref a) (.str "keys" tk) ak) Q E #[h,g,d,t,os]:=by
 have hT:(#[h,g,d,t,os]:ax).TypeIs (.ref a) "list":=#[_,hx,rfl];have f2:=F.slot_list_getattribute.lookup;have f3:=F.slot_list_getattribute.bind<|.ref a
 repeat(any_goals (first|assumption|wp_step))
 refine wz hx hh λh' t' e k ob=>?_
 have hTe:(#[h',g,d,t',os]:ax).TypeIs (.ref e) "AttributeError":=ob;have f9:oO (.type "list") "__getattr__" = dg ag:=by rw[iw,fz];kernel_rfl
 have hE:=hq h' t' e k ob
 repeat(any_goals (first|assumption|with_reducible apply d6 hTe yk|wp_step))
def wQ{Q:Option ap->ax->Prop}(hx:h.get? a=aa {cls:=.type "list",data:=.seq its n})(hh:A.handled=ag)(hq:∀h' t',(∀b o,h.get? b=aa o->h'.get? b=aa o)->Q ag #[h',g,d,t',os]):aV (aS prog w) A (getAttr? (.ref a) "keys") Q E #[h,g,d,t,os]:=by
 unfold getAttr? getAttrBy?
 refine ab<|wpAny_mkText<|ab<|fZ<|ZbB hx hh λh' t' e k ob=>?_
 exact ab<|d6 (ob) yk<|au<|hq h' t' k
end
def XZ:plainId "dict.update.loop" = aj:=by decide +kernel
def Qi:o4 table "dict.update.loop" = aa db.«dict.update.loop»:=entryFor_of_tree (by kernel_rfl)
section
variable{prog:bC}{w:bU}{A:cL}{E:ap->ax->Prop}
def yf{Q:List ap->ax->Prop}(hp:oa s.heap p its)(h:Q its.toList s):aV (aS prog w) A (db.Dict.pairItems<|.ref p) Q E s:=by
 obtain⟨o,ho,hc,n,hd⟩:=hp;refine ab<|fK #[_,ho,hc] ?_;rw[T9 (by decide)]
 unfold seqItems?
 refine ab<|ab<|iI ho ?_;rw[hd];exact au<|au h
def yW{K:Type}[DecidableEq K]{knd:KeyKind prog w K}{h h':cc}{k:List K}{a:aJ}(x:(dC knd).is h k a)(hk:∀o,h.get? a=aa o->h'.get? a=aa o):(dC knd).is h' k a:=by
 obtain⟨o,its,n,h1,r⟩:=x;exact#[o,its,n,hk _ h1,r]
def Wp{K:Type}[DecidableEq K]{knd:KeyKind prog w K}{h h':cc}{d:aJ}{xs:List (List K×aJ×ap)}(x:h.DictOfH (dC knd) d xs)(hd:∀o,h.get? d=aa o->h'.get? d=aa o)(hx:∀x∈xs,∀o,h.get? x.2.1=aa o->h'.get? x.2.1=aa o):h'.DictOfH (dC knd) d xs:=by
 obtain⟨o,es,ep,h1,h2,h3,h4,h5,h6⟩:=x;exact#[o,es,ep,hd _ h1,h2,h3,h4,λy hy=>yW (h5 y hy)<|hx y hy,h6]
abbrev Pr:=List Key×aJ×aJ
def vN{I d:aJ}{fp wr:List aJ}{its:Array ap}{St:Nat->cc->Prop}{R:pG->ax->Prop}{h0:cc}{ps:List Pr}{res:ap}(W:Walks prog w A.in1 I fp wr its.size (λi v=>its[i]?=aa v) St)(hu:A.units+2<du)(hf:d∉fp)
  (hl:ps.length=its.size)(hi:∀(i:Nat)(p:Pr),ps[i]?=aa p->its[i]?=aa (bV p.2.2))
  (hp:∀p∈ps,oa h0 p.2.2 [bV p.2.1,bX aj].toArray/\(dC<|ZP prog w).is h0 p.1 p.2.1/\p.2.2∉wr/\p.2.2≠d/\p.2.1∉wr/\p.2.1≠d)(hn:(ps.map (·.1)).Nodup)(hz:ps.length<=aZ) :
  ∀(k i:Nat)(s:ax),its.size-i=k->i<=its.size->St i s.heap->(∀b o,b∉wr->b≠d->h0.get? b=aa o->s.heap.get? b=aa o)->
  s.heap.DictOfH (dC<|ZP prog w) d ((ps.take i).map λp=>(p.1,p.2.1,bX aj))->
  (∀h' tk,(∀b o,b∉wr->b≠d->h0.get? b=aa o->h'.get? b=aa o)->h'.DictOfH (dC<|ZP prog w) d (ps.map λp=>(p.1,p.2.1,bX aj))->R (.ok<|.ret res) {s with heap:=h',toks:=tk})->
  iA (aS prog w) A (.builtin "dict.update.loop" #[[.ref d,.ref I,fw i,res],[]]) R s:=by
 intro k
 induction k with
 |zero=>
  intro i s hk hi' hst kp dd hR;have e:i=its.size:=by omega
  subst e;refine dR Qi ?_;rw[dq XZ _];refine ab<|W.done s _ _ hst λh' tk hk'=>?_
  refine ab<|au<|au<|hR h' tk (λb o hb hd z=>hk' b o hb<|kp b o hb hd z) ?_
  rw[cp<|by omega]at dd
  exact Wp dd (λo e=>hk' _ o (λz=>hf<|W.sub _ z) e) λx hx o e=>by
   obtain⟨y,hy,rfl⟩:=aO.mp hx;exact hk' _ o (hp y hy).2.2.2.2.1 e
 |succ k ih=>
  intro i s hk hi' hst kp dd hR;have hlt:i<its.size:=by omega
  have hp':=hp _<|aU (n:=i) (by omega)
  have hv:=hi i _<|af (by omega)
  refine dR Qi ?_;rw[dq XZ _];refine ab<|W.item i s _ _ hlt hst λv h' tk hP hst' hk'=>?_
  rw[hv]at hP;cases hP;obtain⟨p1,p2,p3,p4,p5,p6⟩:=hp';have kp2:=λb o hb hd z=>hk' b o hb<|kp b o hb hd z
  have dd2:=Wp dd (λo e=>hk' _ o (λz=>hf<|W.sub _ z) e) λx hx o e=>by
   obtain⟨y,hy,rfl⟩:=aO.mp hx;exact hk' _ o (hp y<|dm hy).2.2.2.2.1 e
  obtain⟨po,g1,g2,pn,g3⟩:=p1;refine ab<|bI<|ab<|wpAny_tryCatch<|yf #[po,kp2 _ _ p3 p4 g1,g2,pn,g3] ?_;have hsz:((ps.take i).map λp=>(p.1,p.2.1,bX aj)).length<=aZ:=by rw[aw,bz];omega
  refine bI<|mQ (gf<|by omega) (yW p2 λo e=>kp2 _ o p5 p6 e) dd2 λh2 dd3 sb=>?_
  refine au #[gZ XZ _,ih (i+1) _ (by omega) hlt (W.frame _ _ _ hst' λb hb o e=>(sb.2 b λz=>hf<|z▸hb).trans e) (λb o hb hd z=>(sb.2 b hd).trans<|kp2 b o hb hd z) ?_ hR]
  have hnew:nh ((ps.take i).map λp=>(p.1,p.2.1,bX aj)) ps[i].1=ag:=by
   unfold nh;rw[lh,mR];intro x hx z;obtain⟨y,hy,rfl⟩:=aO.mp hx;have hn2:=hn;rw[<-cO i ps,bK,eO,bE<|by omega]at hn2
   exact hn2.2.2 _ (dS hy) _ (dS am)<|T6 z
  rw[storedH_new hnew]at dd3;rw[kn,af (by omega),bK]
  exact dd3
def ya{s:ax}{l:aJ}{its:Array ap}{n:Nat}{ps:List Pr}{Q:ap->ax->Prop}(hh:A.handled=ag)(hu:A.units+3<du)(hx:s.heap.get? l=aa {cls:=.type "list",data:=.seq its n})
  (hl:ps.length=its.size)(hi:∀(i:Nat)(p:Pr),ps[i]?=aa p->its[i]?=aa (bV p.2.2))
  (hp:∀p∈ps,oa s.heap p.2.2 [bV p.2.1,bX aj].toArray/\(dC<|ZP prog w).is s.heap p.1 p.2.1)(hn:(ps.map (·.1)).Nodup)(hz:ps.length<=aZ)
  (h:∀h' tk,(∀b o,s.heap.get? b=aa o->h'.get? b=aa o)->h'.DictOfH (dC<|ZP prog w) s.heap.objs.size (ps.map λp=>(p.1,p.2.1,bX aj))->Q (.ref s.heap.objs.size) {s with heap:=h',toks:=tk}) :
  aV (aS prog w) A (call (.type "dict") [.ref l]) Q E s:=by
 refine callType_codes (Q₁:=λobj s₁=>obj=.ref s.heap.objs.size/\s₁={s with heap:=s.heap.push {cls:=.type "dict",data:=.dict #[]}}) F.kt_called_dict (F.kt_typeCall_dict_1 _) F.entry_dict_init (kt_code_dict_new _ #[rfl,rfl]) ?_
 rintro obj s₁ ⟨rfl,rfl⟩
 have hnew:(s.heap.push {cls:=.type "dict",data:=.dict #[]}).DictOfH (dC<|ZP prog w) s.heap.objs.size []:=cc.DictOfH.new s.heap;have hx':=ao {cls:=.type "dict",data:=.dict #[]} hx;refine#[hnew.typeIs (s:={s with heap:=_}),F.args_dict_init_2 _ _,?_]
 unfold db.«dict.__init__»;refine ab ?_;refine ab<|lD (hnew.typeIs (s:={s with heap:=_})) ?_
 refine au ?_;refine ab<|fK (T:="list") #[_,hx',rfl] ?_;rw[T9 (by decide)]
 refine ab<|wQ hx' hh λh1 t1 k1=>?_
 rw[T9<|show(ag:Option ap).isNone=aj from rfl]
 have hx1:=k1 _ _ hx';obtain⟨od,es,ep,g1,g2⟩:=id hnew;have hd1:=aC<|k1 _ _ g1;have hl0:l<s.heap.objs.size:=aC hx;refine ab<|d7<|ab<|eL (items:=its) #[_,hx1,rfl,n,rfl]<|au #[gZ XZ _,?_];have lt:∀{b:aJ}{o:fA},s.heap.get? b=aa o->b∉[h1.objs.size]/\b≠s.heap.objs.size:=λ{b o} e=>by
  have q:=aC e;exact#[λz=>T7 (bg.mp z)<|a9<|c0 q hd1,a9 q]
 refine vN (A:=A.in1) (h0:=s.heap) (ps:=ps) (i:=0) (s:={s with heap:=h1.push<|Ys aj l,toks:=t1}) (QK (A:=A.in1.in1) hh aj h1.objs.size l (a9<|c0 hl0 hd1) its) (by show A.units+1+2<du;omega) (λz=>?_) hl hi (λp hq=>?_) hn hz _ rfl (cJ _) #[xp,?_] (λb o _ _ e=>ao _<|k1 _ _<|ao _ e) ?_ λh' tk kp dd=>#[rfl,h h' tk (λb o e=>kp b o (lt e).1 (lt e).2 e) dd]
 .simp only[aB,ck,or_false]at z
  rcases z with z|z
  .exact a9 hd1 z
  .exact eI hl0 z
 .obtain⟨x1,x2⟩:=hp p hq
  obtain⟨_,y1,_⟩:=id x1;obtain⟨_,_,_,y2,_⟩:=id x2;exact#[x1,x2,(lt y1).1,(lt y1).2,(lt y2).1,(lt y2).2]
 .exact#[_,ao _ hx1,rfl,n,rfl]
 .exact Wp hnew (λo e=>ao _<|k1 _ _ e) λx hx=>by cases hx
end
section
variable{X:Cx}{xw:Nat->Hp->Prop}{O:Mx}{H:Hp}
theorem GZ:∀{ds:List D}{ks:List (List Int)}{ys:List V},Pv.Ws ds=aa ks->Rq O H ds ys->∃ps:List Pr,ps.map (·.1)=ks.map (·.map cP)/\ps.length=ys.length/\
  ∀(i:Nat)(p:Pr),ps[i]?=aa p->ys[i]?=aa (.ref p.2.2)/\H p.2.2=aa (.tup [.ref p.2.1,.bl aj])/\H p.2.1=aa (.tup<|p.1.map kV)
 |[],ks,ys,h,r=>by
  cases h;subst r;exact#[[],rfl,rfl,λi p e=>by simp at e]
 |d::ds,ks,ys,h,r=>by
  obtain⟨v,vs,rfl,r1,r2⟩:=r;obtain⟨a,e1,h⟩:=bQ.mp (h)
  obtain⟨b,e2,rfl⟩:=bj.mp h;obtain⟨ps,h1,h2,h3⟩:=GZ e2 r2;unfold Pv.Zck at e1;split at e1
  .split at e1
   .rename_i k b hb
    subst hb;obtain⟨p,zs,rfl,hp,rz⟩:=r1.tup';obtain⟨u,u2,rfl,ru,ru2⟩:=GO rz;rw[ru2.bl']at hp;obtain⟨q,ws,rfl,hq,rw'⟩:=ru.tup';rw[Xc e1 rw']at hq;refine#[(a.map cP,q,p)::ps,by rw[aW,h1];rfl,by simp[h2],λi y hy=>?_]
    cases i with|zero=>simp at hy;subst hy;exact#[rfl,hp,hq]|succ i=>exact h3 i y (by simpa using hy)
   .cases e1
  .cases e1
def QJ(hc:X.calm=aj)(hu:X.A.units+7<du):ZI X (.type "dict") (VI X.K xw .dictP):=by
 intro pq s Z H vs us Q I r h;obtain⟨O,S,ds,st,rs,h⟩:=h;obtain⟨d,v,z,rfl,r1,hz,h3⟩:=Wh h rs;have hd:∃ds ks,d=.lst ds/\Pv.Ws ds=aa ks/\Ev.Uz ks=aj/\z=.dct (aa ks):=by
  cases d with
  |lst ds=>
   obtain⟨ks,hk,hz⟩:=bQ.mp hz;split at hz
   .cases hz;exact#[ds,ks,rfl,hk,‹_›,rfl]
   .cases hz
  |_=>exact Ev.nos hz
 obtain⟨ds,ks,rfl,hk,hok,rfl⟩:=hd;obtain⟨l,ys,rfl,hl,_,ry⟩:=r1.lst';obtain⟨u,rfl,ru⟩:=XJ r;cases ru;obtain⟨ps,p1,p2,p3⟩:=GZ hk ry;obtain⟨_,its,c,rv,hg⟩:=(I.hok l _ hl)
 obtain⟨k1,k2⟩:=(aF _ _).mp hok;have hn:(ps.map (·.1)).Nodup:=by
  rw[p1];exact List.Pairwise.map _ (λa b ne e=>ne<|Jf e)<|T6 k2
 have hlen:ps.length=ks.length:=by have:=congrArg fH p1;simpa using this
 have hz:ps.length<=aZ:=by rw[hlen,<-XB];exact T6 k1
 have hp0:=I.hok.fresh<|aH _;refine ya (I.ok.hd hc) (by omega) hg (by rw[p2,rv.length,ay]) (λi p e=>?_) (λp hp=>?_) hn hz λh' tk kp dd=>?_
 .obtain⟨w',g',ru'⟩:=rv.get (p3 i p e).1
  rw[ru']at g'
  simpa using g'
 .obtain⟨i,hi,e⟩:=b9 hp
  obtain⟨_,a2,a3⟩:=p3 i p (by rw[<-e];exact af hi)
  obtain⟨_,zs,rz,tz⟩:=(I.hok _ _ a2)
  refine#[?_,Vo I.hok a3];cases rz with
  |cons x rz=>cases rz with
   |cons y rz=>
    cases rz;cases(x)
    cases(y)
    exact tz
 .obtain⟨od,es,ep,g1,g2,g3,g4,g5,g6⟩:=dd
  have hb:=beq_eq_false_iff_ne.mpr<|eI I.big;have hpr:∀{l:List Pr},(∀p∈l,H p.2.1=aa (.tup<|p.1.map kV))->Paired (λ(p:List Key×V) (q:List Key×aJ×ap)=>p.1=q.1/\upd H s.heap.objs.size (.frz od<|.dT<|ps.map λp=>(p.1,V.bl aj)) q.2.1=aa (.tup<|p.1.map kV)/\Zu p.2 q.2.2) (l.map λp=>(p.1,V.bl aj)) (l.map λp=>(p.1,p.2.1,bX aj)):=λ{l}=>by
   induction l with|nil=>intro _;exact .nil|cons p l ih=>intro hl;exact .cons #[rfl,by rw[Zp<|ZK (hl p am) hp0];exact hl p am,rfl]<|ih λq hq=>hl q<|ai _ hq
  refine#[.ref s.heap.objs.size,upd H s.heap.objs.size<|.frz od<|.dT<|ps.map λp=>(p.1,V.bl aj),I.laid (t':=tk) kp (aH _) (#[g1,by rw[aw];exact hz,hb,ps.map λp=>(p.1,p.2.1,bX aj),hpr λp hp=>?_,od,es,ep,g1,g2,g3,g4,g6]),rfl,?_]
  .obtain⟨i,hi,e⟩:=b9 hp
   exact(p3 i p<|by rw[<-e];exact af hi).2.2
  .exact h3 O _ _ (ZH hp0) (st.fresh hp0) (by exact#[_,rfl,od,_,Zy,by rw[bn];exact p1])
end
section
variable{X:Cx}{xw:Nat->Hp->Prop}{fr:Bool}{C:Calls}{ns:List Nat}{e a:Expr}{i:E}{pos p p' p2:gW}{n:Nat}{x:bx}{q:Option bx}
def ZaL{q}(ha:CE X xw C a i):CE X xw C (.Subscript a (.Constant (.int 0) q p2) pos) (.dix i ak):=.mk <| PE.imp (xT Jt ha.h JD<|by intro _ _;with_unfolding_all rfl)<|by
 rintro Z H Q ⟨O,l,S,st,lr,h⟩;rw[Pv.pv]at h;refine#[O,l,S,st,lr,h.bind λx S1 ρ1 H1 v f1 st1 r1 h1=>?_]
 cases x with|drw=>obtain⟨p,rfl,hn⟩:=r1.drw';exact#[p,_,0,_,rfl,rfl,SqL.of (st1.dw p hn).1,rfl,End.ok h1 st1<|ZQ _]|_=>exact h1.elim
def Zac{q}(ha:CE X xw C a i):CE X xw C (.Subscript a (.Constant (.int 1) q p2) pos) (.dix i aj):=.mk <| PE.imp (xT Jt ha.h JD<|by intro _ _;with_unfolding_all rfl)<|by
 rintro Z H Q ⟨O,l,S,st,lr,h⟩;rw[Pv.pv]at h;refine#[O,l,S,st,lr,h.bind λx S1 ρ1 H1 v f1 st1 r1 h1=>?_]
 cases x with|drw=>obtain⟨p,rfl,hn⟩:=r1.drw';exact#[p,_,1,_,rfl,rfl,SqL.of (st1.dw p hn).1,rfl,End.ok h1 st1<|Ya _]|_=>exact h1.elim
def ZaH{q}(he:CE X xw C e i)(hN:X.N[n]?=aa x)(hv:Vis X.env.scope x)(hd:(x == ("__debug__" : bx))=ak)
  (hcd:(x == ("__classdict__" : bx))=ak)
  (ha:∀v,dZ (.Subscript (.Name x p') (.Constant (.int 0) q p2) p) X.env v=(do
   let ov <-kf [v] (cD (.Name x p') X.env)
   let iv <-kf [v,ov] (cD (.Constant (.int 0) q p2) X.env)
   oG p
   kf [v,ov,iv] (pF ov iv v)
   release [v,ov,iv] []))(hs:dF [.Subscript (.Name x p') (.Constant (.int 0) q p2) p] e pos.line X.env=dg ak)(hw:dG [.Subscript (.Name x p') (.Constant (.int 0) q p2) p] e X.env=dg ag)
  (h1:(cu [.Subscript (.Name x p') (.Constant (.int 0) q p2) p] X.env).map (·.2)=[dZ (.Subscript (.Name x p') (.Constant (.int 0) q p2) p) X.env]):CS X xw fr C ns (.Assign [.Subscript (.Name x p') (.Constant (.int 0) q p2) p] e pos) (.dset n i):=.mk <|
 PS.imp (W6 he.h (Zde (Jz hN hv hd hcd) JD (u8 (X:=X)) ha) hs hw h1)<|by
 rintro D Z H ⟨O,H0,W,l,os,S,st,en,h⟩;rw[Pv.rv]at h;refine#[O,l,S,st,en.all,Zt.bind en h λy S1 H1 v f1 st1 r1 h1=>?_]
 cases y with
 |int y=>
  obtain⟨hk,h1⟩:=h1.guard;have hx:l[n]?=aa (aa .drw):=by
   cases z:l[n]? with
   |none=>rw[z]at h1;exact h1.elim
   |some o=>cases o with
    |none=>rw[z]at h1;exact h1.elim
    |some d=>cases d<;>rw[z]at h1<;>first|rfl|exact h1.elim
  rw[hx]at h1;obtain⟨u,hu,r⟩:=(en.mono f1).all.val n .drw hx;obtain⟨a,rfl,hn⟩:=r.drw';obtain⟨e1,_⟩:=st1.dw a hn;refine#[.ref a,hu,a,_,0,0,rfl,rfl,e1,rfl,?_];rw[r1.int'];have f2:Fut O H1 O (upd H1 a<|.lst [.int y,.bl S1.2]):=#[rfl,λb o z=>by
   by_cases c:b=a
   .subst c;rw[e1]at z;cases z;exact .inr<|.inl #[hn,_,rfl]
   .exact .inl (by rw[Zp c];exact z)]
  refine h1 _ Z W #[st1.hk,λb x=>?_,λb x=>?_,st1.tb.upd (λo u z=>by rw[e1]at z;cases z) λ_ z=>by cases z]<|(en.mono f1).mono f2
  .by_cases c:b=a
   .rw[c];show upd _ _ _ _≠ag;rw[Zy];intro z;cases z
   .show upd _ _ _ _≠ag;rw[Zp c];exact st1.xd b x
  .rw[hn]at x
   cases x;exact#[Zy,hk]
 |_=>exact h1.elim
end
open Ev in
noncomputable def Wj:Fn:=#[2,4,
 [.ite (.dix (.v 0) aj) [.asg [2]<|.bin .mod (.dix (.v 0) ak)<|.v 1,
  .dset 0 (.bin .fdiv (.dix (.v 0) ak)<|.v 1),
  .ret (.v 2)] [],
  .dset 0 (.bin .mod (.bin .add (.bin .mul (.dix (.v 0) ak)<|.c<|.int 48271)<|.c<|.int 29)<|.c<|.int 2147483647),
  .asg [3] (.bin .mod (.bin .add (.bin .add (.bin .mul (.dix (.v 0) ak)<|.dix (.v 0) ak)<|.bin .mul (.c<|.int 39373)<|.dix (.v 0) ak)<|.c<|.int 7)<|.c<|.int 2147483629),
  .asg [3] (.bin .mod (.bin .add (.bin .mul (.v 3)<|.v 3)<|.bin .mul (.c<|.int 16807)<|.v 3)<|.c<|.int 2147483587),
  .ret (.bin .mod (.bin .fdiv (.v 3)<|.c<|.int 8)<|.v 1)]]
open Ev Pv in
def X5(h0:0<=a)(h:a<4294967296):fits a=aj:=by
 refine T5 ?_;have h1:a.natAbs<2^32:=by lia
 exact bu h1<|eP (by decide) (by decide)
open Ev Pv in
def qf(h:okS s.1 s.2=aj)(m0:0<m)(m1:m<1073741824):J5 C Wj [.drw,.int m] s=.ok (.int (XM s m).1) (XM s m).2:=by
 obtain⟨a,b⟩:=s;have hm:muts Wj.body=[]:=rfl;unfold J5;rw[hm];have ha:=T6 ((aF _ _).mp h).1;have lt8:(8:Int)<big:=vM (by decide)
 cases b with
 |true=>
  have o2:okS (a / m) aj=aj:=by simp[okS];exact Int.ediv_nonneg ha (by lia)
  simp[Wj,XM,rvs,rv,pvA,Pv.pv.eq_1,Pv.pv.eq_2,Pv.pv.eq_7,Pv.pv.eq_28,Y5,PR.bind,po,Zq,ZS,ofD,YZ,Pv.UO,m0,m1,vM m1,o2,hide]
 |false=>
  have hb:a<2147483647:=by simpa using((aF _ _).mp h).2
  have h1:=X5 ha (by lia)
  have x0:0<=(a*48271+29)%2147483647:=by lia
  have x1:(a*48271+29)%2147483647<2147483647:=by lia
  generalize hxx:(a*48271+29)%2147483647=x at x0 x1;have y0:0<=(x*x+39373*x+7)%2147483629:=by lia
  have y1:(x*x+39373*x+7)%2147483629<2147483629:=by lia
  generalize hyy:(x*x+39373*x+7)%2147483629=y at y0 y1;have f1:=X5 x0 (by lia)
  have f2:=X5 y0 (by lia)
  have f3:fits 48271=aj:=X5 (by lia) (by lia)
  have f4:fits 39373=aj:=X5 (by lia) (by lia)
  have f5:fits 16807=aj:=X5 (by lia) (by lia)
  have o2:okS x ak=aj:=by simp[okS,x0,x1]
  simp[Wj,XM,rvs,rv,pvA,Pv.pv.eq_1,Pv.pv.eq_2,Pv.pv.eq_7,Pv.pv.eq_28,Y5,PR.bind,po,Zq,ZS,ofD,YZ,Pv.UO,m0,m1,lt8,h1,hxx,hyy,f1,f2,f3,f4,f5,o2,hide]
def Zbw{K:aq}{F:List Fn}{tk d:Nat}:∀O S H ds vs,St3 K O S H->Rq O H ds vs->Pv.Zo F tk (d+1) tk ds S=.no\/Pv.Zo F tk (d+1) tk ds S=J5 (Pv.Zo F tk d) Wj ds S:=λO S H ds vs st r=>by
 rw[Pv.Zo,T9 rfl];unfold Pv.Zb8;split
 .rename_i m
  obtain⟨v,u,rfl,r1,_⟩:=GO r;obtain⟨a,_,hn⟩:=r1.drw';split
  .rename_i hm
   exact .inr (qf (st.dw a hn).2 hm.1 hm.2).symm
  .exact .inl rfl
 .exact .inl rfl
def Zbb{K:aq}{F:List Fn}{tk n d:Nat}{fn:Fn}(hn:n≠tk)(hf:F[n]?=aa fn):∀O S H ds vs,St3 K O S H->Rq O H ds vs->Pv.Zo F tk (d+1) n ds S=.no\/Pv.Zo F tk (d+1) n ds S=J5 (Pv.Zo F tk d) fn ds S:=λO S H ds vs st r=>by
 rw[Pv.Zo,T8 hn,hf]
 all_goals exact .inr rfl
def ZaE(h:Pv.UK v=aa d):v=.lst [.int d.1,.bl d.2]/\Pv.okS d.1 d.2=aj:=by
 unfold Pv.UK at h;split at h
 .split at h
  .cases h;exact#[rfl,‹_›]
  .cases h
 .cases h
def GJ{l:Lc}{i:Nat}{d:D}(h:(l.map Pv.Vt)[i]?=aa (aa d)):l[i]?=aa (aa d)/\d.flat=aj:=by
 rw[aM]at h;cases q:l[i]? with
 |none=>rw[q]at h;cases h
 |some o=>
  rw[q]at h;have h:=al h;obtain⟨a,b⟩:=Option.filter_eq_some_iff.mp h;exact#[by rw[a],b]
def qY{n:Nat}{l:Lc}{i:Nat}{d:D}(h:(Pv.Ww n l)[i]?=aa (aa d)):l[i]?=aa (aa d)/\d.flat=aj:=by
 unfold Pv.Ww at h;rw[List.getElem?_append]at h;split at h
 .obtain⟨a,b⟩:=GJ h
  rw[cV]at a;split at a
  .exact#[a,b]
  .cases a
 .rw[cT]at h
  split at h<;>cases h
def zc :(Pv.Ww n l).length=l.length:=by
 unfold Pv.Ww;rw[bc,aw,bz,b8];omega
def tCl(X:Cx)(xw:Nat->Hp->Prop)(C:Calls)(fi:Nat)(is:List E):TE:=λZ H Q=>tA X xw (Pv.pvs C is) Z H λvs H1=>∃O ds S,St3 X.K O S H1/\Rq O H1 ds vs/\End X.K xw (Wu aj H1) O H1 Q (C fi ds S)
def ZdV{xw:Nat->Hp->Prop}{fi:Nat}{y:bx}{es:List Expr}{is:List E}{ss:List fG}{B:List Sm}(hc:PE X (.Call (.Name y p') (e::es) [] p) (tCl X xw C fi is))(hB:CSs X xw fr C ns ss B)(hN:X.N.Nodup)
  (hi:X.N[n]?=aa x:=by rfl)(hx:L2.Loc X.env.scope x:=by first|exact Or.inl rfl|exact nR rfl)(hf:X.fn x=aj\/X.env.scope.names.lookup x=aa .local:=by first|exact .inl rfl|exact .inr rfl)
  (hs:dF [.Name x px] (.Call (.Name y p') (e::es) [] p) pos.line X.env=dg ak:=by rfl)(hw:dG [.Name x px] (.Call (.Name y p') (e::es) [] p) X.env=dg ag:=by rfl)
  (h1:(cu [.Name x px] X.env).map (·.2)=[dZ (.Name x px) X.env]:=by rfl) :
  CSs X xw fr C ns (.Assign [.Name x px] (.Call (.Name y p') (e::es) [] p) pos::ss) [.cel n fi is B]:=.mk <|
 PSs.imp (Gs (W6 hc (Jp hN hi hx hf) hs hw h1) hB.h)<|by
 rintro D Z H ⟨O,H0,W,l,os,S,st,en,h⟩;have h:Zt fr X.K xw O H0 D (Pv.rv C ns (.cel n fi is B) l os S):=by
  rw[Pv.rvs]at h;cases q:Pv.rv C ns (.cel n fi is B) l os S with|no=>rw[q]at h;exact h|ex c s=>rw[q]at h;exact h|ok g s=>rw[q]at h;cases g<;>exact h
 rw[Pv.rv]at h;obtain⟨ho,h⟩:=h.guard;refine#[O,l,S,st,en.all,Zt.bind en h λxs S1 H1 vs f1 st1 r1 h1=>?_]
 refine#[O,xs,S1,st1,r1,Zt.bind (en.mono f1) h1 λv S2 H2 u f2 st2 r2 h2=>?_]
 obtain⟨d,hd,h3⟩:=Zt.ob h2;obtain⟨rfl,hok⟩:=ZaE hd;obtain⟨a,rfl,na⟩:=r2.2 rfl _ rfl;obtain⟨_,us,z,ea,_,ru⟩:=r2.1.lst';cases z;obtain⟨u1,u2,rfl,q1,q2⟩:=GO ru;cases q1.int';cases q2.bl';have en2:=(en.mono f1).mono f2;have nX:∀q,O.X q->q≠a:=λq x z=>st1.xd q x<|z▸na
 let ρ':Mx:=#[O.K,aa a,λq=>O.X q\/q=a,λq h=>.inr (al h).symm]
 have st':St3 X.K ρ' d H2:=#[st2.hk,λq x=>x.elim (st2.xd q) λz=>(by rw[z,ea];intro w;cases w),λq x=>(by cases x;exact#[ea,hok]),st2.tb]
 have en':Eu ρ' H2 (λ_=>ag) ((Pv.Ww n l).set n<|aa .drw) [] (Z.set n<|aa<|.ref a) H2:=by
  refine#[Fut.refl _ _,st'.xd,by rw[bZ,bZ,zc];exact en.len,λ_=>rfl,λ_ _ _ z=>?_,λ_ _ z=>?_,λ_ _ z=>?_,λi w q _=>?_]
  .cases z
  .cases z
  .cases z
  .rcases JW q with⟨rfl,z,hl⟩|⟨c,z⟩
   .cases z
    exact#[.ref a,bY (by rw[<-en.len,<-zc];exact hl),by exact#[a,rfl,rfl]]
   .obtain⟨z,hfl⟩:=qY z
    obtain⟨v,hv,r⟩:=en2.all.val i w z;exact#[v,by rw[bp c];exact hv,Rep.flat (O:=O) (ρ':=ρ'.ex λ_=>ag) rfl (λ_ _ z _ _=>z) hfl r]
 have n0:∀{b},b≠a->ρ'.n0≠aa b:=λc w=>T7 (al w).symm c
 have keep:∀{H'},Fut ρ' H2 ρ' H'->∀b o,b≠a->H2 b=aa o->(∀ps,o≠.tbl ps)->H' b=aa o:=λ{H'} f b o c z n=>(f.keep b o z).elim id λw=>w.elim (λw=>T7 w.1<|n0 c) λ#[#[ps,e],_]=>T7 e<|n ps
 have back:∀{H':Hp}{s:Zv},Fut ρ' H2 ρ' H'->St3 X.K ρ' s H'->St3 X.K O S2 H'/\Fut O H0 O H':=λ{H' s} f w=>by
  refine#[#[st2.hk,λq x=>?_,λq x=>?_,w.tb],rfl,λb o z=>?_]
  .exact f.there (n0<|nX q x)<|st2.xd q x
  .obtain⟨e1,e2⟩:=st2.dw q x
   exact#[keep f q _ (nX q<|O.xz q x) e1 (by intro _ z;cases z),e2]
  .have ne:b≠a:=λc=>by rw[c,zu (en.mono f1) st1 na]at z;cases z
   rcases en2.fut.keep b o z with y|y|⟨e,ps,y⟩
   .rcases f.keep b o y with q|q|q
    .exact .inl q
    .exact T7 q.1<|n0 ne
    .exact .inr<|.inr q
   .exact .inr<|.inl y
   .rcases f.keep b _ y with q|⟨_,xs,q⟩|⟨_,q⟩
    .exact .inr<|.inr #[e,ps,q]
    .cases q
    .exact .inr<|.inr #[e,q]
 have backE:∀{H':Hp}{s:Zv}{W':Own}{l':Lc}{os':List Nat}{σ':L2.St},Eu ρ' H2 W' l' os' σ' H'->St3 X.K ρ' s H'->St3 X.K O S2 H'/\Eu O H0 (λ_=>ag) (l'.map Pv.Vt) [] σ' H':=λ{H' s W' l' os' σ'} g w=>by
  obtain⟨a1,a2⟩:=back g.fut w;refine#[a1,a2,en.xd,by rw[aw];exact g.len,λ_=>rfl,λ_ _ _ z=>?_,λ_ _ z=>?_,λ_ _ z=>?_,λi w q _=>?_]
  .cases z
  .cases z
  .cases z
  .obtain⟨z,hfl⟩:=GJ q
   obtain⟨v,hv,r⟩:=g.all.val i w z;exact#[v,hv,Rep.flat (O:=ρ') (ρ':=O.ex λ_=>ag) rfl (λ_ _ z _ _=>z) hfl r]
 refine#[ρ',H2,λ_=>ag,_,[],d,st',en',?_]
 cases q:Pv.rvs C ns B ((Pv.Ww n l).set n<|aa .drw) [] d with
 |no=>rw[q]at h3;exact h3
 |ex c s=>rw[q]at h3;exact h3.elim
 |ok g s=>
  rw[q]at h3;cases g with
  |nx l' os'=>exact λH' σ' W' w g=>let #[a1,a2]:=backE g w;h3 H' σ' _ a1 a2
  |brk l' os'=>exact λH' σ' W' w g=>let #[a1,a2]:=backE g w;h3 H' σ' _ a1 a2
  |cnt l' os'=>exact λH' σ' W' w g=>let #[a1,a2]:=backE g w;h3 H' σ' _ a1 a2
  |ret v=>
   obtain⟨hfl,h3⟩:=Zt.guard h3;exact λH' v' f w r=>let #[a1,a2]:=back f w;h3 H' v' a2 a1 #[Rep.flat (O:=ρ') (ρ':=O) rfl (λ_ _ z _ _=>z) hfl r.1,λ_ ds z=>by rw[z]at hfl;cases hfl]
open Ev (ltI YA Zi Z0)
section
variable{prog:bC}{w:bU}{A:cL}{E:ap->ax->Prop}{s:ax}{d:aJ}{ep:Nat}{od:fA}{es:Array fL}
def xu(lo:(d == c7)=ak)(hc:od.ExactDict)(hdat:od.data=.dict es ep):i6 prog w "dict" d d es.size (λi v=>(es[i]?).map (·.key)=aa v) (λh=>h.get? d=aa od) where
 type:=λ_ hm=>#[_,hm,hc.1]
 there:=λ_ hm=>#[aC hm,aC hm]
 keep:=λ_ _ hm hk=>hk d (.inl rfl) _ hm
 notList:=by decide
 notTuple:=by decide
 hint:=λ_ _ _ _ hm hq=>PySem.W.kdl_hint_dict #[_,hm,hc.1] hq
 iter:=λA s hh hm=>by
  have hne:d≠s.heap.objs.size:=a9<|aC hm;refine#[_,λi h=>h.IsKeyIter s.heap.objs.size d i es.size ep/\h.get? d=aa od,λE Q hq=>ve lo hm hc hdat hq,?_,#[_,aD _ rfl,rfl,rfl],ao _ hm]
  exact{
   sub:=λb hb=>by simp at hb;simp[hb]
   frame:=λ_ _ _ st hk=>#[st.1.at λo e=>hk _ (by simp) o e,hk d (by simp) _ st.2]
   item:=λi s' Q E hi st hQ=>Qu st.1 st.2 hdat (λhlt h' hit' sb=>hQ _ h' s'.toks (by simp[hlt]) #[hit',sb.extBut _ _ hne st.2] λb o hb e=>sb.extBut b o (λz=>hb<|by simp[z]) e) λz=>T7 hi (by omega)
   done:=λs' Q E st hQ=>Qu st.1 st.2 hdat (λhlt _ _ _=>T7 hlt<|by omega) λ_=>#[hh,λh' eb=>hQ h' s'.toks λb o hb e=>eb b o (λz=>hb<|by simp[z]) e]
   self:=λ_ _ _ _ st hQ=>wpAny_pyIter_keyiter st.1 hQ}
def xf{acc:Array ap}(h:pH (λi v=>(es[i]?).map (·.key)=aa v) acc es.size):acc.toList=es.toList.map (·.key):=by
 refine bR λi=>?_
 by_cases hi:i<es.size
 .have hl:i<acc.size:=by rw[h.1];exact hi
  have:=h.2 i acc[i]<|a8 hl;rw[aM,bf,bf,this,a8 hl]
 .rw[bH (by rw[aI,h.1];omega),bH (by simp;omega)]
def GU{T:String}{r:aJ}{n:Nat}{P:Nat->ap->Prop}{OK:cc->Prop}{R:List ap->ax->Prop}(K:i6 prog w T r d n P OK)(hh:A.handled=ag)(hok:OK s.heap)(hn:n<=aZ)
  (h:∀h' tk acc,(∀b o,s.heap.get? b=aa o->h'.get? b=aa o)->s.heap.objs.size<=h'.objs.size->pH P acc n->R acc.toList {s with heap:=h',toks:=tk}):aV (aS prog w) A (collect<|.ref r) R E s:=by
 obtain⟨l1,l2⟩:=K.there _ hok
 let S:=s.heap.objs.size
 have hS:(s.heap.push {cls:=.type "list",data:=.seq #[]}).get? S=aa {cls:=.type "list",data:=.seq #[]}:=aD _ rfl;have fin:∀{h':cc}{tk c:Nat}{acc:Array ap},(∀b o,b≠S->(s.heap.push {cls:=.type "list",data:=.seq #[]}).get? b=aa o->h'.get? b=aa o)->h'.get? S=aa {cls:=.type "list",dict:=ag,data:=.seq acc c,slots:=#[]}->pH P acc n->R acc.toList {s with heap:=h',toks:=tk}:=
  λk e i=>h _ _ _ (λb o z=>k b o (a9<|aC z)<|ao _ z) (gw<|aC e) i
 unfold collect;refine ab<|wpAny_runValue<|dR entry_proto_collect' ?_;rw[dq PySem.F.plain_proto_collect _];refine ab (m:=newList [])<|bD<|au #[gZ kR _,dR entry_list_iadd' ?_];rw[dq kR _];show aV _ A.in1 (db.List.listExtendWith (.ref S) (.ref r)<|.ref S) _ _ {s with heap:=s.heap.push {cls:=.type "list",data:=.seq #[]}}
 refine dD (PySem.W.kdl_extend (A:=A) (R:=λq s'=>∃h' tk acc c,q=.ok (.ret<|.ref S)/\s'={s with heap:=h',toks:=tk}/\h'.get? S=aa {cls:=.type "list",dict:=ag,data:=.seq acc c,slots:=#[]}/\R acc.toList s') K hh (K.keep _ _ hok λb _ o e=>ao _ e) S (eI l1) (eI l2) _ 0 hS (λh' tk acc c k e i=>#[h',tk,acc,c,rfl,rfl,e,fin k e i]) hn) (λf s' x=>?_) λe s' x=>?_
 .cases f with
  |done f=>
   obtain⟨h',tk,acc,c,z,rfl,e,q⟩:=x;cases z;exact ab (m:=load S)<|iI e<|au q
  |again c'=>
   refine#[x.1,gz x.2 λy s2 z=>?_]
   obtain⟨h',tk,acc,c,rfl,rfl,e,q⟩:=z;exact ab (m:=load S)<|iI e<|au q
 .obtain⟨_,_,_,_,z,_⟩:=x
  cases z
def Go{κ:fq}{lt:Nat->Nat->Bool}{vs:List ap}{Q:ap->ax->Prop}(hh:A.handled=ag)(lo:(d == c7)=ak)(ho:s.heap.get? d=aa od)(hc:od.ExactDict)(hdat:od.data=.dict es ep)(hv:es.toList.map (·.key)=vs)(h64:vs.length<=100000)
  (O:Sq.Ord vs.length lt)(K:Sq.Asks prog w A.in1.in1 s.heap vs κ lt)
  (h:∀p h' tk D n,Sq.Pm vs.length p->Sq.Up (Sq.ltR ak vs.length lt) p vs.length->(∀b o,s.heap.get? b=aa o->h'.get? b=aa o)->s.heap.objs.size<=D->h'.get? D=aa (ek "list" (cA<|bi ak<|p.toList.map λi=>(bi ak vs).getD i bh) n)->Q (.ref D) {s with heap:=h',toks:=tk}) :
  aV (aS prog w) A (call (.builtin "sorted") [.ref d]) Q E s:=by
 have hl:vs.length=es.size:=by rw[<-hv];simp
 refine Calls.call_function_entry ot nv ny (args_sorted1 _) ?_;unfold db.«sorted»;refine ab (m:=oZ "sorted" 1 1 _)<|au ?_;refine ab<|GU (A:=A.in1) (xu lo hc hdat) hh ho (by rw[cI];omega) λh1 tk acc hk big hacc=>?_
 rw[xf hacc,hv];refine ab<|kE ?_ (by rw[cI];omega)
 have hoL:(h1.push<|ek "list" vs.toArray 0).get? h1.objs.size=aa (ek "list" vs.toArray 0):=aD _ rfl;show aV _ _ _ _ _ {s with heap:=h1.push<|ek "list" vs.toArray 0,toks:=tk}
 refine ab (bI (cg lZ #[_,hoL,rfl] ly (by
  rw[Sq.QV];exact Sq.list_sort_rev (h0:=s.heap) hoL h64 (λb o e=>by
   have hlt:b<h1.objs.size:=aC<|hk b o e;exact#[a9 hlt,ao _<|hk b o e]) O K λp a1 a2=>#[_,rfl,au #[_,rfl,by
    obtain⟨n,hn⟩:=sortedHeap_at (out:=cA<|bi ak<|p.toList.map λi=>(bi ak vs).getD i bh) hoL
    exact h p _ tk _ n a1 a2 (λb o e=>by
     have hlt:b<h1.objs.size:=aC<|hk b o e;rw[sortedHeap_old (a9 hlt) (by rw[mP];exact cR hlt)]
     exact ao _<|hk b o e) big hn]])<|args_list_sort _))
end
def ZdJ(tk tv:TE):TE:=λZ H Q=>∀p,H p=ag->yD [(tk,tv)] Z (upd H p<|.dT []) λps H2=>∃b r z,ps=[(.ref b,z)]/\H2 b=aa (.tup<|r.map kV)/\H2 p=aa (.dT [])/\Q (.ref p) (upd H2 p<|.dT [(r,z)])
def qX{X:Cx}{k v:Expr}{tk tv:TE}{pos:gW}(hu:X.A.units+7<du)(hk:PE X k tk)(hv:PE X v tv):PE X (.Dict [aa k] [v] pos) (ZdJ tk tv):=by
 intro pq s Z H Q I h;have I1:=I.laid (a:=s.heap.objs.size) (o:=.dT []) (h':=s.heap.push {cls:=.type "dict",data:=.dict #[]}) (t':=s.toks) (λ_ _ q=>ao _ q) (aH _)<|uQ s.heap I.big
 rw[arm_eval_Dict,zip_pairTrees [aa k] [v] X.env pos rfl rfl,dictDisplay_pairs (pairTrees [aa k] [v] X.env pos) (by simp[pairTrees]) (by rw[pairTrees_length _ _ _ _ rfl rfl];show 1<17;omega)]
 refine ab<|fV<|ab ?_;unfold subDict;refine ab<|oh<|ab<|bI ?_;rw[T9 (by rw[pairTrees_length _ _ _ _ rfl rfl];show 1<=15;omega)]
 refine ab<|thn (v3 hk hv Zab pq _ Z _ _ I1<|h _<|I.hok.fresh<|aH s.heap.objs.size) λws s2 #[ps,H2,I2,rel,b,r,z,e,hb,hp,q]=>?_
 subst e;cases rel with
 |@cons _ y _ ys h1 t=>
  cases t;obtain⟨u,x⟩:=y;obtain⟨h1,h2⟩:=h1;cases(show u=bV b from h1)
  obtain⟨zz,hd,xs,rl,dd⟩:=Zca I2.hok hp;cases rl;refine bI ?_;show aV _ _ (iQ [(bV b,x)] _ _ >>= _) _ _ _;rw[fk];refine ab (ab<|ab<|mQ (hsz:=by size_fits) (show(dC<|ZP X.prog X.w).room X.A from(show X.A.units<du by omega)) (Vo I2.hok hb) dd λh' dd' hs=>au ?_)
  show aV _ _ (iQ [] _ _) _ _ _;rw[lR];refine au<|au<|au<|au #[.ref s.heap.objs.size,_,?_,rfl,q];obtain⟨o,es,ep,hq,g2,g3,g4,_,g5⟩:=dd';refine Jj I2 (by rw[hp];exact c8) hs #[o,hq] #[by show 1<=aZ;decide,hd,[(r,b,x)],.cons #[rfl,?_,h2] .nil,o,es,ep,hq,g2,g3,g4,g5]
  rw[Zp (Zcq hb hp (λz=>nomatch z))]
  exact hb
def Gf{O:Mx}{H:Hp}{d:D}{v:V}{r:List Int}(h:Rep O H d v)(e:Pv.ZdP d=aa r):∃b,v=.ref b/\H b=aa (.tup<|(r.map (cP:Int->Key)).map kV):=by
 cases d with|tup ks=>obtain⟨b,xs,rfl,hb,rs⟩:=h.tup';exact#[b,rfl,by rw[hb,Xc e rs]]|_=>exact Ev.nos e
def ZaQ{O:Mx}{H:Hp}{d:D}{v:V}(h:Rep O H d v)(e:Pv.isT d=aj):v=.bl aj:=by
 cases d with
 |bl b=>cases b with|true=>exact h.bl'|false=>cases e
 |_=>cases e
def wN{ks:List (List Int)}{vs:List (List Key×V)}{r:List Int}{v:V}(h:vs.map (·.1)=ks.map (·.map (cP:Int->Key))):(Wl vs (r.map cP) v).map (·.1)=(Pv.Yk ks r).map (·.map cP):=by
 have hv:=W3 (k:=r) h;unfold Pv.Yk;cases c:ks.contains r with
 |true=>
  rw[c]at hv;unfold Wl;rw[XQ,hv,T9 rfl,bn,T9 rfl,<-h];refine c9 λx _=>?_
  show(if x.1=_ then(x.1,v)else x).1=x.1
  split<;>rfl
 |false=>
  rw[c]at hv;rw[ub v (by simpa using hv),bK,h,T8 aG,bK]
  rfl
section
variable{X:Cx}{xw:Nat->Hp->Prop}{fr:Bool}{C:Calls}{ns:List Nat}{e a b c tg:Expr}{i j k:E}{pos p p' p2 dp:gW}{n:Nat}{x:bx}
def ZcT{q:Nat}(hu:X.A.units+7<du)(he:CE X xw C e i)(hg:CG X tg [n])(hs:dF [tg] (.Dict [aa e] [.Constant (.bool aj) q p] dp) pos.line X.env=dg ak)(hw:dG [tg] (.Dict [aa e] [.Constant (.bool aj) q p] dp) X.env=dg ag)
  (h1:(cu [tg] X.env).map (·.2)=[dZ tg X.env]):CS X xw fr C ns (.Assign [tg] (.Dict [aa e] [.Constant (.bool aj) q p] dp) pos) (.dnw n i):=.mk <| PS.imp (W6 (qX hu he.h jc) hg.h hs hw h1) λD Z H #[O,H0,W,l,os,S,st,en,h]=>λa ha=>by
 rw[Pv.rv]at h;have f0:Fut O H O (upd H a<|.dT []):=ZH ha;have en0:=en.mono f0;refine#[O,l,S,st.fresh ha,en0.all,Zt.bind en0 h λy S1 H1 v f1 st1 r1 h1=>?_]
 obtain⟨r,hr,h1⟩:=Zt.ob h1;obtain⟨hl,h1⟩:=h1.guard;obtain⟨b,rfl,hb⟩:=Gf r1 hr;have nx:¬O.X a:=st.nx ha;have hp:H1 a=aa (.dT []):=u4 f1 nx Zy;have hx:¬(O.ex W).X a:=λz=>z.elim nx λ#[j,w]=>let #[_,_,_,z]:=en.own j a w;T7 ha z.ne
 have f2:Fut O H O (upd H1 a<|.dT [(r.map cP,.bl aj)]):=#[rfl,λc o z=>by
  have ne:c≠a:=λq=>by rw[q,ha]at z;cases z
  rw[Zp ne];exact(f0.trans f1).keep c o z]
 refine#[b,r.map cP,.bl aj,rfl,hb,hp,h1 _ _ _ ?_<|en.takeO (d:=.dow [r]) st.xd f2 ha hx #[_,Zy,rfl] hl];exact#[st1.hk,λc z=>by rw[Zp λq:c=a=>nx (by rw[<-q];exact z)];exact st1.xd c z,λc z=>by rw[Zp λq:c=a=>nx (by rw[<-q];exact O.xz c z)];exact st1.dw c z,st1.tb.upd (λo u z=>by rw[hp]at z;cases z) λ_ z=>by cases z]
def ZaI{ix:Expr}{ii:E}(hu:X.A.units+7<du)(hi:CE X xw C ix ii)(he:CE X xw C e i)(hN:X.N[n]?=aa x)(hv:Vis X.env.scope x)(hd:(x == ("__debug__" : bx))=ak)(hcd:(x == ("__classdict__" : bx))=ak)
  (hs:kJ e (aa<|.Subscript (.Name x p') ix p) pos.line X.env=dg ak):CS X xw fr C ns (.Assign [.Subscript (.Name x p') ix p] e pos) (.dput (.v n) ii i):=.mk <| PS.imp (Zav (by omega) (Jz hN hv hd hcd) hi.h he.h hs)<|by
 rintro D Z H ⟨O,H0,W,l,os,S,st,en,h⟩;rw[Pv.rv]at h;obtain⟨c,h⟩:=h.guard;refine#[O,l,S,st,en.all,Zt.bind en h λy S1 H1 v f1 st1 r1 h1=>?_]
 obtain⟨ht,h1⟩:=h1.guard;obtain⟨ks,hk,h1⟩:=Zt.ob h1;have en1:=en.mono f1;obtain⟨a,ha⟩:=bO.mp<|(en.osW n).symm.trans c;have own:∀{H2},Eu O H0 W l os Z H2->Z[n]?=aa (aa<|.ref a)/\∃vs,H2 a=aa (.dT vs)/\vs.map (·.1)=ks.map (·.map cP):=λ{H2} en=>by
  obtain⟨d,p,q,r⟩:=en.own n a ha;rw[p]at hk;cases d with|dow ks'=>cases hk;exact#[q,r]|_=>cases hk
 refine#[.ref a,(own en1).1,O,l,S1,st1,en1.all,Zt.bind en1 h1 λz S2 H2 w f2 st2 r2 h2=>?_]
 obtain⟨r,hr,h2⟩:=Zt.ob h2;obtain⟨hl,h2⟩:=h2.guard;have en2:=en1.mono f2;obtain⟨b,rfl,hb⟩:=Gf r2 hr;obtain⟨_,vs,e2,e3⟩:=own en2;have hz:vs.length<aZ:=by
  have:=congrArg fH e3;rw[aw,aw]at this;rw[this,<-XB];exact hl
 rw[ZaQ r1 ht];exact#[a,_,rfl,DPut.t e2 hb hz,h2 _ _ W (st2.mut en2 ha)<|en2.mutO ha (d':=.dow<|Pv.Yk ks r) #[_,Zy,wN e3]]
def ZeJ{P:bC}{w:bU}{H:Hp}{h:cc}{a:aJ}{kvs:List (List Key×V)}(ok:HOk P w H h)(e:H a=aa (.dT kvs)):(a == c7)=ak/\kvs.length<=aZ/\
  ∃(o:fA)(es:Array fL)(ep:Nat),h.get? a=aa o/\o.ExactDict/\o.data=.dict es ep/\es.size=kvs.length/\∃qs:List aJ,es.toList.map (·.key)=qs.map bV/\qs.length=kvs.length/\∀(i:Nat)(p:List Key×V),kvs[i]?=aa p->∃q,qs[i]?=aa q/\H q=aa (.tup<|p.1.map kV):=by
 obtain⟨z,y,xs,r,o,es,ep,h1,h2,h3,h4,h5⟩:=(show Ym P w H h a (.dT kvs)from ok a _ e)
 have hl:es.size=kvs.length:=by
  have:=congrArg fH h4;rw[aw,<-Paired.length r]at this
  simpa using this
 refine#[y,z,o,es,ep,h1,h2,h3,hl,xs.map (·.2.1),?_,by rw[aw,<-Paired.length r],λi p hp=>?_]
 .rw[h4,bn,bn];rfl
 .obtain⟨q,hq,e1,e2,e3⟩:=Qm r hp
  exact#[q.2.1,by rw[aM,hq];rfl,e2]
theorem Qq{O:Mx}{H:Hp}:∀{ks:List (List Int)}{qs:List aJ},qs.length=ks.length->(∀(i:Nat)(k:List Int),ks[i]?=aa k->∃q,qs[i]?=aa q/\H q=aa (.tup<|k.map V.int))->Rq O H (ks.map Pv.Zb) (qs.map V.ref)
 |[],[],_,_=>Rq.nil
 |k::ks,q::qs,hl,h=>by
  obtain⟨q',e,hq⟩:=h 0 k rfl;cases e;exact Rq.cons (YR hq<|Rq.ints k)<|Qq (by simpa using hl) λi k e=>h (i+1) k e
 |[],_::_,hl,_=>by cases hl
 |_::_,[],hl,_=>by cases hl
theorem Ve:∀qs:List aJ,Vals (qs.map V.ref) (qs.map bV)
 |[]=>.nil
 |q::qs=>.cons rfl<|Ve qs
theorem zr:∀ks:List (List Int),Pv.Z4 (ks.map Pv.Zb)=aa ks
 |[]=>rfl
 |k::ks=>by
  have hi:∀k:List Int,Pv.intsV (k.map Pv.V.int)=aa k:=λk=>by
   induction k with|nil=>rfl|cons n k ih=>show(Pv.intsV<|k.map Pv.V.int).map (n :: ·)=_;rw[ih];rfl
  show(match Pv.intsV (k.map Pv.V.int),Pv.Z4 (ks.map Pv.Zb)with|some a,aa b=>aa (a::b)|_,_=>ag)=_
  rw[hi,zr ks]
def qE{O:Mx}{pq:List (aJ×fA)}{s:ax}{Z:L2.St}{H:Hp}{v:V}{ks:List (List Int)}(I:Inv X pq Z H s)(r:Rep O H (.dow ks) v):∃(a:aJ)(o:fA)(es:Array fL)(ep:Nat)(qs:List aJ),v=.ref a/\(a == c7)=ak/\ks.length<=aZ/\s.heap.get? a=aa o/\o.ExactDict/\o.data=.dict es ep/\es.size=ks.length/\es.toList.map (·.key)=qs.map bV/\qs.length=ks.length/\Rq O H (ks.map Pv.Zb) (qs.map V.ref):=by
 obtain⟨a,vs,e,ha,_,hk⟩:=r.dow';obtain⟨lo,hz,o,es,ep,g1,g2,g3,hl,qs,e1,e2,e3⟩:=ZeJ I.hok ha;have hn:vs.length=ks.length:=by have:=congrArg fH hk;simpa using this
 refine#[a,o,es,ep,qs,e,lo,by omega,g1,g2,g3,by omega,e1,by omega,Qq (by omega) λi k q=>?_]
 have e4:=congrArg (·[i]?) hk
 simp only[aM,q,oD]at e4;obtain⟨p,e5,e6⟩:=bj.mp e4;obtain⟨q',e7,e8⟩:=e3 i p e5;rw[e6,bn]at e8;exact#[q',e7,e8]
def wR(hc:X.calm=aj):ZI X (.type "list") (zm X.K xw .listD):=by
 intro pq s Z H vs us Q I r h;obtain⟨O,S,ds,st,rs,H0,S0,f0,s0,h⟩:=h;obtain⟨d,v,z,rfl,r1,hz,h⟩:=Wh h rs;cases d with
 |dow ks=>
  cases hz;obtain⟨a,o,es,ep,qs,rfl,lo,hn,g1,g2,g3,g4,g5,g6,rq⟩:=qE I r1;obtain⟨u,rfl,ru⟩:=XJ r;cases ru;refine PySem.W.kdl_call (xu lo g2 g3) (I.ok.hd hc) g1 (by omega) λh' tk acc c' kp hL hacc=>?_
  refine#[.ref _,_,I.laid (t':=tk) (o:=.lst<|qs.map V.ref) kp (aH _) #[by rw[aw];omega,acc.toList,c',by rw[xf hacc,g5];exact Ve qs,hL],rfl,h.newF f0 s0 st rq _<|I.hok.fresh<|aH _]
 |_=>exact Ev.nos hz
def G9(hc:X.calm=aj):ZI X (.builtin "sorted") (zm X.K xw .sortedD):=by
 intro pq s Z H vs us Q I r h;obtain⟨O,S,ds,st,rs,H0,S0,f0,s0,h⟩:=h;obtain⟨d,v,z,rfl,r1,hz,h⟩:=Wh h rs;cases d with
 |dow ks=>
  have hz:(if Z0 ks=aj then aa (Pv.V.lst<|(Zi ks).map Pv.Zb)else ag)=aa z:=hz
  split at hz
  case isFalse=>cases hz
  rename_i hok
  cases hz;obtain⟨a,o,es,ep,qs,rfl,lo,hn,g1,g2,g3,g4,g5,g6,rq⟩:=qE I r1;obtain⟨u,rfl,ru⟩:=XJ r;cases ru;have rv:=Ve qs;obtain⟨RA,_⟩:=WI I (zr ks) rq rv;obtain⟨hok1,hok3⟩:=(aF _ _).mp hok;obtain⟨hok1,hok2⟩:=(aF _ _).mp hok1;have h64:=T6 hok1;have hnd:=T6 hok2;have hne:∀r∈ks,r≠[]:=λr hr e=>by
   have:=aY.mp hok3 r hr;rw[e]at this;cases this
  have hlen:=RA.length;refine Go (I.ok.hd hc) lo g1 g2 g3 g5 (by omega) (Gj hnd hlen) (QE RA hnd hne) λp h' tk D n hp hu kp hD hL=>?_
  rw[<-hlen]at hp hu;have out:=J3 hnd hp hu;have hmem:∀i∈p.toList,i<ks.length:=λi hi=>by
   have hp':p.toList.Perm (aL ks.length):=by simpa using bv.mp hp
   exact aR.mp<|hp'.mem_iff.mp hi
  have rx2:=Gx (F:=p.toList) rq hmem;have out:(p.toList.map λi=>ks.getD i [])=Zi ks:=out
  rw[out]at rx2;have rv2:=zd (F:=p.toList) rv (by rw[aw,g6];exact hmem)
  refine#[.ref D,_,I.laid (t':=tk) (o:=.lst<|p.toList.map λi=>(qs.map V.ref).getD i V.non) kp hD #[?_,_,n,rv2,hL],rfl,h.newF f0 s0 st rx2 _<|I.hok.fresh hD]
  rw[aw,aI,hp.size];exact hn
 |_=>exact Ev.nos hz
end
end Sd
namespace Sd
open PySem PySem.Spec PyProof.Rows
noncomputable def pl(b:Nat):List Nat:=(aL 6).filter b.testBit
noncomputable def tbl(b:Nat)(led:Bool):SetTable:={mask:=if 5<=(pl b).length then 31 else 7,place:=(pl b).toArray,dummies:=#[],finger:=0,led,moves:=if 5<=(pl b).length then 1 else 0,plain:=aj}
noncomputable def qZ(b k:Nat):Nat:=(pl b).countP (· < k)
noncomputable def J1(b k:Nat)(led:Bool):Bool:=
 b.testBit k||(
  let b':=b ||| 2^k
  let t':=((tbl b led).put k).1
  let n:=(pl b').length
  decide ((tbl b led).freeSlot k=aa (k,ak))&&ae (((tbl b led).put k).2=qZ b k)&&ae (eQ (pl b).toArray (qZ b k) k=(pl b').toArray)&&t'.fits n&&t'.plain &&
  (if t'.tooFull then ae (t'.relaid ((pl b').map gV).toArray (o5 n)=aa (tbl b' led,ou n))&&coversAll (ou n) n&&(tbl b' led).fits n else ae (t'=tbl b' led))&&ae (b'<64))
def qo:(aL 64).all (λb=>(aL 6).all λk=>J1 b k aj&&J1 b k ak)=aj:=by decide +kernel
def Zbr{b k:Nat}{led:Bool}(hb:b<64)(hk:k<6):J1 b k led=aj:=by
 have h:=aY.mp (aY.mp qo b<|aR.mpr hb) k<|aR.mpr hk;obtain⟨h1,h2⟩:=(aF _ _).mp h;cases led
 .exact h2
 .exact h1
noncomputable def ZV(b:Nat)(tg:Nat->Nat):Array (Int×ap):=((pl b).map λk:Nat=>(((k:Nat):Int),fu k<|tg k)).toArray
def JX{B β:Type}(f:B->β)(xs:Array B)(p:Nat)(x:B):eQ (xs.map f) p (f x)=(eQ xs p x).map f:=by
 unfold eQ;simp
def ZeV{b k:Nat}(h:k∈pl b):k<6:=aR.mp (bM.mp h).1
def zY{b k:Nat}(hk:k<6):k∈pl b↔b.testBit k=aj:=#[λh=>(bM.mp h).2,λh=>bM.mpr #[aR.mpr hk,h]]
def ZdH{b k u:Nat}{tg:Nat->Nat}(hk:k<6)(hn:b.testBit k=ak)(h:eQ (pl b).toArray (qZ b k) k=(pl (b ||| 2^k)).toArray) :
  eQ (ZV b tg) (qZ b k) ((k:Int),fu k u)=ZV (b ||| 2^k) λi=>if i=k then u else tg i:=by
 have e:ZV b tg=(pl b).toArray.map λi:Nat=>((i:Int),fu i (if i=k then u else tg i)):=by
  unfold ZV;rw[kS]
  congr 1
  refine c9 λi hi=>?_
  rw[T8]
  rintro rfl
  rw[zY hk,hn]at hi;cases hi
 have:=JX (λi:Nat=>((i:Int),fu i (if i=k then u else tg i))) (pl b).toArray (qZ b k) k
 rw[<-e,h,T9 rfl]at this;rw[this,kS];rfl
def Yd(b:Nat)(tg:Nat->Nat):(ZV b tg).size=(pl b).length:=by simp[ZV]
def xF(b:Nat)(tg:Nat->Nat):(ZV b tg).map (·.1)=((pl b).map gV).toArray:=by
 unfold ZV;rw[kS,bn];rfl
def Zan{b k u:Nat}{tg:Nat->Nat}{led:Bool}(hb:b<64)(hk:k<6)(hn:b.testBit k=ak):∃t',layNew (tbl b led) (ZV b tg) (k:Int) (.int k u)=(ZV (b ||| 2^k) λi=>if i=k then u else tg i,t',ak,ak)/\t'.plain=aj/\t'.fits (pl (b ||| 2^k)).length=aj/\b ||| 2^k<64/\
  (if t'.tooFull=aj then relayAll t' (ZV (b ||| 2^k) λi=>if i=k then u else tg i) (o5 (pl (b ||| 2^k)).length)=(ZV (b ||| 2^k) λi=>if i=k then u else tg i,tbl (b ||| 2^k) led,ak)else t'=tbl (b ||| 2^k) led):=by
 have h:=Zbr (led:=led) hb hk;unfold J1 at h;rw[hn,kx]at h;simp only[aF,T0]at h;obtain⟨⟨⟨⟨⟨⟨h1,h2⟩,h3⟩,h4⟩,h5⟩,h6⟩,h7⟩:=h;refine#[((tbl b led).put k).1,?_,h5,h4,h7,?_]
 .unfold layNew
  rw[h1]
  dsimp only
  rw[h2,ZdH hk hn h3,Yd];unfold SetTable.orStandIn;rw[h4];rfl
 .cases q:((tbl b led).put k).1.tooFull with
  |false=>
   rw[q]at h6;rw[T8 (by simp)]
   rw[T8<|by simp]at h6
   exact T6 h6
  |true=>
   rw[q,T9 rfl]at h6;simp only[aF,T0]at h6;obtain⟨⟨a1,a2⟩,a3⟩:=h6;rw[T9 rfl];unfold relayAll;rw[xF,a1]
   dsimp only
   have e:(ou (pl (b ||| 2^k)).length).filterMap (λx=>(ZV (b ||| 2^k) λi=>if i=k then u else tg i)[x]?)=ZV (b ||| 2^k) λi=>if i=k then u else tg i:=by
    refine kO.mp ?_;rw[Array.toList_filterMap,Array.toList_range,<-Yd (b ||| 2^k) λi=>if i=k then u else tg i]
    exact filterMap_getElem?_range _
   rw[e,Yd,a2,a3];rfl
def jW:(aL 64).all (λb=>(aL 6).all λk=>!b.testBit k||decide (b ||| 2^k=b))=aj:=by decide +kernel
def Zev{b k:Nat}(hb:b<64)(hk:k<6)(h:b.testBit k=aj):b ||| 2^k=b:=by
 have:=aY.mp (aY.mp jW b<|aR.mpr hb) k<|aR.mpr hk;rw[h]at this;exact T6 (by simpa using this)
def ZbF:(aL 64).all (λb=>(tbl b aj).fits (pl b).length&&(tbl b ak).fits (pl b).length)=aj:=by decide +kernel
def WL{b:Nat}{led:Bool}{tg:Nat->Nat}(hb:b<64):(tbl b led).fits (ZV b tg).size=aj:=by
 rw[Yd];obtain⟨h1,h2⟩:=(aF _ _).mp<|aY.mp ZbF b<|aR.mpr hb;cases led
 .exact h2
 .exact h1
def Zcb:∀k,k<6->pE ((k:Nat):Int)=k:=by decide
def JM(b:Nat):(pl b).length<=6:=cn (eC _ _) (by decide)
def uT(prog:bC)(w:bU)(b:Nat)(tg:Nat->Nat):ElemsOf (fb prog w) (ZV b tg).toList:=λe he=>by
 unfold ZV at he;obtain⟨k,hk,rfl⟩:=aO.mp he;exact#[#[k,gS _ _ _ _,(Zcb k<|ZeV hk).symm],rfl]
def Xe(h:cc)(a:aJ)(b:Nat)(led:Bool):Prop:=∃o ep tg,h.get? a=aa o/\o.ExactSet/\o.data=.set (ZV b tg) ep (tbl b led)
def Xe.keep{h h':cc}{a:aJ}{b:Nat}{led:Bool}(S:Xe h a b led)(k:∀o,h.get? a=aa o->h'.get? a=aa o):Xe h' a b led:=
 let #[o,ep,tg,ho,r]:=S;#[o,ep,tg,k o ho,r]
def Xe.store{h:cc}{a:aJ}{o:fA}{es es':Array (Int×ap)}{ep:Nat}{t t':SetTable}(ho:h.get? a=aa o)(hd:o.data=.set es ep t):(h.update a<|o6 es' t').get? a=aa {o with data:=.set es' (ep+1) t' }:=by
 have:=de (o6 es' t') ho (by rw[putSet_of es' t' hd];rfl)
 rwa [putSet_of es' t' hd]at this
section
variable{prog:bC}{w:bU}{A:cL}{E:ap->ax->Prop}{s:ax}{a:aJ}{b k u:Nat}{led:Bool}
def ZaO{Q:Bool->ax->Prop}(hb:b<64)(hk:k<6)(hS:Xe s.heap a b led)(h:∀r h',dU a s.heap h'->Xe h' a (b ||| 2^k) led->b ||| 2^k<64->Q r {s with heap:=h' }) :
  aV (aS prog w) A (setAddHashed a (.int k u)<|pE k) Q E s:=by
 obtain⟨o,ep,tg,ho,hex,hd⟩:=hS;have hf:=WL (led:=led) (tg:=tg) hb;have hel:=uT prog w b tg;have hsz:(ZV b tg).size<scanBound:=by rw[Yd];have:=JM b;unfold scanBound;omega
 unfold setAddHashed setAddHashedIn;refine bI<|ab<|gK ho hd hf ?_
 dsimp only
 rw[byScan_of (knd:=fb prog w) (x:=.int k u) rfl hsz hel,T9 rfl];unfold setAddByScan;refine ab<|ab<|d7<|ab<|wpAny_setScan_of (knd:=fb prog w) (k:=(k:Int)) (gS _ _ _ _) ho hd hf hel ?_;cases hr:List.findIdx? (λe:Int×ap=>(fb prog w).is (k:Int) e.2) (ZV b tg).toList with
 |some j=>
  obtain⟨hj,hp,_⟩:=List.findIdx?_eq_some_iff_getElem.mp hr;have hm:=aU hj;generalize (ZV b tg).toList[j]=e at hm hp;unfold ZV at hm;obtain⟨i,hi,rfl⟩:=aO.mp hm;have:=(fb prog w).inj _ _ _ hp<|gS _ _ _ _;have:k=i:=gV.inj this;subst this;have hin:=Zev hb hk<|(zY hk).mp hi;exact au<|au<|h ak s.heap (nq a s.heap) (by rw[hin];exact#[o,ep,tg,ho,hex,hd]) (by rw[hin];exact hb)
 |none=>
  have hn:b.testBit k=ak:=by
   cases q:b.testBit k with
   |false=>rfl
   |true=>
    have hm:(((k:Nat):Int),fu k<|tg k)∈(ZV b tg).toList:=aO.mpr #[k,(zY hk).mpr q,rfl];have:=List.findIdx?_eq_none_iff.mp hr _ hm;rw[gS]at this;cases this
  obtain⟨t',e1,pn,ft,b64,e2⟩:=Zan (u:=u) (tg:=tg) (led:=led) hb hk hn;have b6:=JM (b ||| 2^k)
  dsimp only
  rw[Zcb k hk,e1]
  dsimp only
  generalize hes:(ZV (b ||| 2^k) λi=>if i=k then u else tg i)=es' at e2
  have hz:es'.size=(pl (b ||| 2^k)).length:=by rw[<-hes,Yd]
  have hz':es'.size<=aZ:=by rw[hz,cI];omega
  refine ab<|au ?_;rw[T9 pn,hashByValue_scannable 8 (x:=.int k u) rfl];refine ab<|au ?_;rw[T9 (show plainKind (.int (k:Int) u)=aj from rfl)]
  refine ab<|nB ho hd ?_ hz';have g1:=Xe.store (es':=es') (t':=t') ho hd;have sb1:=cx s.heap a<|o6 es' t';rw[<-hz]at e2;cases q:t'.tooFull with
  |false=>
   rw[q,T8 aG]at e2;subst e2;exact au<|au<|h aj _ sb1 #[_,ep+1,λi=>if i=k then u else tg i,g1,hex,by rw[hes]] b64
  |true=>
   rw[q,T9 rfl]at e2;show aV _ _ (_ >>= _) _ _ _;rw[e2]
   dsimp only
   refine ab<|au<|ab<|nB g1 rfl ?_ hz';exact au<|au<|h aj _ (sb1.trans<|cx _ a _) #[_,ep+1+1,λi=>if i=k then u else tg i,Xe.store g1 rfl,hex,by rw[hes]] b64
end
noncomputable def bt(v:Nat->Nat):Nat->Nat
 |0=>0
 |i+1=>bt v i ||| 2^v i
def ug(led:Bool)(tg:Nat->Nat):Data.set #[] 0 (.fresh 0 0 led)=.set (ZV 0 tg) 0 (tbl 0 led):=by
 have:pl 0=[]:=by decide
 unfold ZV tbl;rw[this];rfl
noncomputable def Yw(w:bU):Bool:=!w.params.followText "set-order"
section
variable{prog:bC}{w:bU}{A:cL}{E:ap->ax->Prop}{s:ax}
def jC{R:pG->ax->Prop}{I:aJ}{fp wr:List aJ}{n:Nat}{P:Nat->ap->Prop}{St:Nat->cc->Prop}{led:Bool}(W:Walks prog w A.in1 I fp wr n P St)(S:aJ)(hSf:S∉fp)(v:Nat->Nat)(hv:∀i x,P i x->v i<6/\∃t,x=.int (v i) t) :
  ∀(k i:Nat)(s:ax),n-i=k->i<=n->St i s.heap->bt v i<64->Xe s.heap S (bt v i) led->
   (∀h' tk,(∀b o,b∉S::wr->s.heap.get? b=aa o->h'.get? b=aa o)->Xe h' S (bt v n) led->R (.ok<|.ret .none) {s with heap:=h',toks:=tk})->iA (aS prog w) A (.builtin "set.update.loop" #[[.ref S,.ref I],[]]) R s:=by
 have hSw:S∉wr:=λz=>hSf<|W.sub _ z
 intro k
 induction k with
 |zero=>
  intro i s hk hi st hb hS hR;obtain rfl:i=n:=by omega
  refine dR kT ?_;rw[dq gv _];show aV _ A.in1 (ku (.ref I) >>= _) _ _ s;exact ab<|W.done s _ _ st λh' tk kp=>au<|hR h' tk (λb o z e=>kp b o (λy=>z<|ai _ y) e)<|hS.keep λo e=>kp S o hSw e
 |succ k ih=>
  intro i s hk hi st hb hS hR;have lt:i<n:=by omega
  refine dR kT ?_;rw[dq gv _];show aV _ A.in1 (ku (.ref I) >>= _) _ _ s;refine ab<|W.item i s _ _ lt st λx h1 tk hP st1 kp=>?_
  obtain⟨h6,t,rfl⟩:=hv i x hP;show aV _ A.in1 (kf [fu (v i) t] (setAdd S<|.int (v i) t) >>= _) _ _ _;refine ab<|bI ?_;unfold setAdd;refine bI<|ab<|(fb prog w).pyHash (k:=((v i:Nat):Int)) (gS _ _ _ _) ?_;refine ZaO (s:={s with heap:=h1,toks:=tk+1}) hb h6 (hS.keep λo e=>kp S o hSw e) λr h2 sb hS2 b64=>?_
  refine au #[gZ gv _,ih (i+1) _ (by omega) lt (W.frame _ _ _ st1 λb z o e=>?_) b64 hS2 λh3 tk3 kp3 hS3=>hR h3 tk3 (λb o z e=>kp3 b o z ?_) hS3]
  .rw[sb.2 b λy=>hSf<|y▸z];exact e
  .rw[sb.2 b λy=>z (by rw[y];exact am)];exact kp b o (λy=>z<|ai _ y) e
def ZaY(a:ap){Q:ap->ax->Prop}(h:Q (.ref s.heap.objs.size) {s with heap:=s.heap.push {cls:=.type "set",dict:=ag,data:=.set #[] 0 (.fresh 0 0<|Yw w)}}) :
  iA (aS prog w) A (.call (.builtin "set.__new__") #[[.type "set",a],[]]) (wants Q E) s:=by
 refine codeAny_of_tree ?_;show aV _ A.in1 (do checkBuiltinCall "set.__new__" #[[.type "set",a],[]];pA (.builtin "set.__new__" #[[.type "set",a],[]])) _ _ s;refine ab<|eY (F.newCall_set_1 a)<|au #[gZ oE _,dR F.entry_set_new ?_];rw[dq oE _];unfold db.«set.__new__» db.Frozenset.newClass;have hsub:=sub_set_self;obtain⟨hp,g,d,tk,os⟩:=s
 dsimp only
 wp_walk
 refine fO<|au ?_;dsimp only;simp only[newObj];exact ab<|oh<|au<|au h
set_option maxHeartbeats 3200000 in
def jK{l:aJ}{items:Array ap}{v:Nat->Nat}{Q:ap->ax->Prop}(hh:A.handled=ag)(hl:s.heap.IsList l items)(hv:∀i x,items[i]?=aa x->v i<6/\∃t,x=.int (v i) t)
  (h:∀h' tk,Xe h' s.heap.objs.size (bt v items.size) (Yw w)->(∀b o,s.heap.get? b=aa o->h'.get? b=aa o)->Q (.ref s.heap.objs.size) {s with heap:=h',toks:=tk}):aV (aS prog w) A (call (.type "set") [.ref l]) Q E s:=by
 obtain⟨c,tl,hmro⟩:=F.called_set.mro;have hmade:=F.called_set.made;have hsub:=F.called_set.sub;refine wpAny_call<|codeAny_of_tree ?_;show aV _ _ (callAny (.type "set") _) _ _ _;refine au #[Code.quiet_builtin _ (by decide +kernel),dR F.entry_type_call ?_];rw[cL.under_plain (weight_type_call_type "set" [.ref l] []) rfl]
 have h1:=F.called_set.notType;have h2:=F.called_set.canCreate;have hct:=F.typeCall_set_1<|.ref l
 repeat(any_goals (first|assumption|wp_step))
 let so:fA:={cls:=.type "set",dict:=ag,data:=.set #[] 0 (.fresh 0 0<|Yw w)}
 refine gz (ZaY (.ref l) (E:=E) (Q:=λobj s1=>obj=.ref s.heap.objs.size/\s1={s with heap:=s.heap.push so}) #[rfl,rfl]) λr s1 hr=>?_
 cases r with
 |error e=>exact hr
 |ok fl=>
  cases fl with
  |ret obj=>
   obtain⟨rfl,rfl⟩:=hr;have hS:(s.heap.push so).get? s.heap.objs.size=aa so:=aD _ rfl;have hT:ax.TypeIs {s with heap:=s.heap.push so} (.ref s.heap.objs.size) "set":=#[_,hS,rfl]
   have hli:=F.called_set.init.lookup;have hbi:=F.called_set.init.bind<|.ref s.heap.objs.size
   repeat(any_goals (first|assumption|wp_step))
   refine gz (l0 (R:=wants (λr s2=>r=.none/\∃h' tk,s2={s with heap:=h',toks:=tk}/\Xe h' s.heap.objs.size (bt v items.size) (Yw w)/\∀b o,s.heap.get? b=aa o->h'.get? b=aa o) E) F.called_set.init.plain F.entry_set_init<|check_set_init_1 hT ?_) λr2 s2 hr2=>?_
   .obtain⟨⟨ocls,odict,odata,oslots⟩,hol,hcl,nl,hdl⟩:=hl
    simp only at hcl hdl;subst hcl hdl;have hol':(s.heap.push so).get? l=aa {cls:=.type "list",dict:=odict,data:=.seq items nl,slots:=oslots}:=ao _ hol;have hsls:=F.sub_list_set;have hslf:=F.sub_list_frozenset;have hne:(mC "list" == mC "dict")=ak:=by decide
    have hl1:(s.heap.push so).IsList l items:=#[_,hol',rfl,nl,rfl];unfold db.«set.__init__» noKeywords db.Frozenset.updateFrom;generalize hPI:mE=PI
    wp_walk
    subst hPI;refine eL hl1<|ab<|wpAny_runValue ?_;have hlS:l<s.heap.objs.size:=aC hol;have sz:(s.heap.push so).objs.size=s.heap.objs.size+1:=cH ..;have hh3:A.in1.in1.in1.handled=ag:=by simp[hh]
    refine jC (led:=Yw w) (oT hh3 _ l (by rw[sz];exact a9<|cR hlS) items) s.heap.objs.size (by rw[sz];intro z;rcases aB.mp z with z|z;exact T7 z<|a9<|gR _;exact T7 (bg.mp z)<|eI hlS) v hv (items.size-0) 0 _ (by omega) (cJ _) #[#[_,aD _ rfl,rfl,rfl],hl1.push _] (show 0<64 by decide) #[so,0,λ_=>0,ao _ hS,#[rfl,rfl,rfl],ug _ _] λh' tk kp hS'=>?_
    show aV _ _ _ _ _ _;refine au ?_;show aV _ _ (pI bh) _ _ _;refine au #[rfl,h',tk,rfl,hS',λb o e=>kp b o ?_<|ao _<|ao _ e]
    have:=aC e;rw[sz];intro z;rcases aB.mp z with z|z;exact T7 z<|a9 this;exact T7 (bg.mp z)<|a9<|cR this
   .cases r2 with
    |error e=>exact hr2
    |ok fl2=>
     cases fl2 with
     |ret r=>
      obtain⟨rfl,h',tk,rfl,hS',hk'⟩:=hr2
      repeat(any_goals (first|assumption|wp_step))
      exact h _ _ hS' hk'
     |_=>exact hr2.elim
  |_=>exact hr.elim
end
def WQ:Slot "set_iterator" "__next__" "set_iterator.__next__":=.of (owner:="set_iterator") (n:="__next__") (by rw[iw,fz];kernel_rfl) (by decide +kernel) (by decide +kernel) (by decide +kernel) (by first|(left;decide +kernel)|(right;decide +kernel)) (by rw[i5];kernel_rfl)
def GT:Slot "set_iterator" "__iter__" "set_iterator.__iter__":=.of (owner:="set_iterator") (n:="__iter__") (by rw[iw,fz];kernel_rfl) (by decide +kernel) (by decide +kernel) (by decide +kernel) (by first|(left;decide +kernel)|(right;decide +kernel)) (by rw[i5];kernel_rfl)
def vF:o4 table "set_iterator.__next__" = aa db.«set_iterator.__next__»:=entryFor_of_tree (by kernel_rfl)
def vb:o4 table "set_iterator.__iter__" = aa db.«dict_keyiterator.__iter__»:=entryFor_alias (id':="dict_keyiterator.__iter__") (by kernel_rfl) rfl (by decide +kernel) (by kernel_rfl)
def zX:o4 table "set.__iter__" = aa db.«frozenset.__iter__»:=entryFor_alias (id':="frozenset.__iter__") (by kernel_rfl) rfl (by decide +kernel) (by kernel_rfl)
def u9:Manifest.owners.lookup (String.ofList ['r','o','t','a','r','e','t','i','_','t','e','s'].reverse)=aa Manifest.sig_set_iterator:=by kernel_rfl
def js(a:ap):argsOk "set_iterator.__next__" #[[a],[]]:=by unfold argsOk;rw[signature?_of (id:="set_iterator.__next__") (n:=['_','_','t','x','e','n','_','_']) (o:=['r','o','t','a','r','e','t','i','_','t','e','s']) (by kernel_rfl) u9];kernel_rfl
def ue(a:ap):argsOk "set_iterator.__iter__" #[[a],[]]:=by unfold argsOk;rw[signature?_of (id:="set_iterator.__iter__") (n:=['_','_','r','e','t','i','_','_']) (o:=['r','o','t','a','r','e','t','i','_','t','e','s']) (by kernel_rfl) u9];kernel_rfl
theorem xb{B:Type}{nx:Nat->Nat}:∀(n k:Nat)(l:List B)(out:Array B),l.length=n->(nC nx n k l out).toList.Perm (out.toList++l)
 |0,k,l,out,h=>by
  cases l with|nil=>simp[nC]|cons=>cases h
 |n+1,k,l,out,h=>by
  have hj:nx k%l.length<l.length:=Nat.mod_lt _ (by omega)
  unfold nC;rw[af hj];refine(xb n (k+1) _ _<|by rw[List.length_eraseIdx_of_lt hj];omega).trans ?_
  rw[dM,bq];refine List.Perm.append_left _ ?_;rw[List.eraseIdx_eq_take_drop_succ];have e:=cO (nx k%l.length) l;rw[bE hj]at e;have p:(iG (nx k%l.length) l++l[nx k%l.length]::pD (nx k%l.length+1) l).Perm (l[nx k%l.length]::(iG (nx k%l.length) l++pD (nx k%l.length+1) l)):=List.perm_middle;exact p.symm.trans (by rw[e])
noncomputable def We(w:bU)(a:aJ)(ep:Nat)(es:Array (Int×ap)):Array (Int×ap):=if w.params.followText "set-order" = aj then pickOrder (w.params.setOrder a ep) es else es
def J4{w:bU}{a:aJ}{ep:Nat}{es:Array (Int×ap)}:(We w a ep es).toList.Perm es.toList:=by
 unfold We;split
 .unfold pickOrder
  simpa using xb es.size 0 es.toList #[] (by simp)
 .exact cr _
def Gi{w:bU}{a:aJ}{ep:Nat}{es:Array (Int×ap)}:(We w a ep es).size=es.size:=by
 rw[<-aI,J4.length_eq,aI]
noncomputable def zB(b i:Nat):Nat:=if i=0 then 0 else(pl b).getD (i-1) 0+1
noncomputable def YG(w:bU)(b i:Nat):Nat:=if w.params.followText "set-order" = aj then 0 else zB b i
def wn:(aL 64).all (λb=>(aL<|(pl b).length+1).all λi=>ae<|o7 (pl b).toArray (zB b i)=i)=aj:=by decide +kernel
def uo{b i:Nat}(hb:b<64)(hi:i<=(pl b).length):o7 (pl b).toArray (zB b i)=i:=
 T6 (aY.mp (aY.mp wn b<|aR.mpr hb) i<|aR.mpr<|Nat.lt_succ_of_le hi)
section
variable{prog:bC}{w:bU}{A:cL}{E:ap->ax->Prop}{s:ax}{a it:aJ}{b i ep:Nat}{o:fA}{tg:Nat->Nat}
def yJ{Q:Option (ap×Nat)->ax->Prop}(hb:b<64)(hi:i<=(pl b).length)(ho:s.heap.get? a=aa o)(hd:o.data=.set (ZV b tg) ep (tbl b<|Yw w))(h:Q (((We w a ep<|ZV b tg)[i]?).map λe=>(e.2,YG w b<|i+1)) s) :
  aV (aS prog w) A (setNext a (YG w b i) i ep) Q E s:=by
 have hf:=WL (led:=Yw w) (tg:=tg) hb;unfold setNext;refine ab<|gK ho hd hf ?_
 dsimp only
 unfold o8;refine ab<|ab<|fO<|au ?_;unfold We YG at h;unfold YG;show aV _ _ (if w.params.followText "set-order" = aj then _ else _) _ _ _
 by_cases c:w.params.followText "set-order" = aj
 .rw[T9 c]
  rw[T9 c,T9 c]at h;rw[T8 (by simp)]
  unfold setWalk;refine ab<|ab<|gK ho hd hf ?_
  dsimp only
  unfold o8;refine ab<|ab<|fO<|au ?_;show aV _ _ (if w.params.followText "set-order" = aj then _ else _) _ _ _
  rw[T9 c];refine ab<|fO<|au<|au ?_;rw[T9 c];exact h
 .rw[T8 c]
  rw[T8 c,T8 c]at h;have hl:Yw w=aj:=by unfold Yw;simp[c]
  rw[hl];have bl:=uo hb hi;split
  .rename_i z
   exact T7 (show(!true&&ae ((ZV b tg).size>1))=aj from z) (by simp)
  .refine ab (eY (a:=()) rfl<|au ?_)
   rw[show(tbl b aj).place=(pl b).toArray from rfl,bl]
   by_cases lt:i<(pl b).length
   .have e1:(ZV b tg)[i]?=aa ((((pl b)[i]:Nat):Int),fu (pl b)[i]<|tg (pl b)[i]):=by unfold ZV;simp[lt]
    have e2:(pl b).toArray[i]?=aa (pl b)[i]:=by simp[lt]
    rw[e1]at h;rw[e1,e2];have e3:zB b (i+1)=(pl b)[i]+1:=by unfold zB;simp[List.getD,lt]
    rw[e3]at h;exact h
   .have e1:(ZV b tg)[i]?=ag:=fe (by rw[Yd];omega)
    rw[e1]at h;rw[e1];exact h
def Xk(w:bU)(h:cc)(it a:aJ)(b i ep:Nat):Prop:=∃o,h.get? it=aa o/\o.cls=.type "set_iterator"/\o.data=.fields [.int (YG w b i) 0,.int i 0,.ref a,.int (pl b).length 0,.int ep 0].toArray
def v7{Q:ap->ax->Prop}(hb:b<64)(ho:s.heap.get? a=aa o)(hex:o.ExactSet)(hd:o.data=.set (ZV b tg) ep (tbl b<|Yw w))
  (hQ:Q (.ref s.heap.objs.size) {s with heap:=s.heap.push {cls:=.type "set_iterator",data:=.fields [.int (YG w b 0) 0,.int 0 0,.ref a,.int (pl b).length 0,.int ep 0].toArray}}):aV (aS prog w) A (mE<|.ref a) Q E s:=by
 have hf:=WL (led:=Yw w) (tg:=tg) hb;have hT:s.TypeIs (.ref a) "set":=#[_,ho,hex.1];refine kq hT oF<|cg oF hT zX ?_<|F.args_set_iter_1 _;unfold db.«frozenset.__iter__» db.Frozenset.slot0 slotArgs db.Frozenset.addrOf db.Frozenset.sizeOf;refine ab<|eY (a:=a) rfl<|ab<|ab<|ml ho hd hf<|au ?_;unfold setDrawn o8;refine ab<|ab<|gK ho hd hf<|ab<|ab<|fO<|au<|au ?_
 dsimp only
 have nd:∀x:Bool,(!x&&(!(tbl b<|Yw w).plain&&ae ((ZV b tg).size>1)))=ak:=λx=>by rw[show(tbl b<|Yw w).plain=aj from rfl];simp
 split
 .rename_i z
  exact T7 ((nd _).symm.trans z) (by simp)
 .refine ab (au<|ab<|wpAny_setEpoch_of ho hd hf ?_)
  refine ab<|bD<|au #[_,rfl,"set_iterator",_,#[_,aD _ rfl,rfl],WQ.lookup,?_];have z0:YG w b 0=0:=by unfold YG;split<;>rfl
  rw[z0]at hQ;rw[Yd]
  simpa[fw]using hQ
def jz{Q:ap->ax->Prop}(hit:Xk w s.heap it a b i ep)(h:Q (.ref it) s):aV (aS prog w) A (mE<|.ref it) Q E s:=by
 have hT:s.TypeIs (.ref it) "set_iterator":=let #[o,h1,h2,_]:=hit;#[o,h1,h2];refine kq hT GT<|cg GT hT vb (show aV _ _ (pI<|.ref it) _ _ s from au #[_,rfl,"set_iterator",_,hT,WQ.lookup,h])<|ue _
def zA{Q:Option ap->ax->Prop}(hb:b<64)(hi:i<=(pl b).length)(hit:Xk w s.heap it a b i ep)(ho:s.heap.get? a=aa o)(hd:o.data=.set (ZV b tg) ep (tbl b<|Yw w))
  (h1:∀e,(We w a ep<|ZV b tg)[i]?=aa e->∀h',Xk w h' it a b (i+1) ep->dU it s.heap h'->Q (aa e.2) {s with heap:=h' })
  (h2:i=(pl b).length->A.handled=ag/\∀h',gu it s.heap h'->Q ag {s with heap:=h' }):aV (aS prog w) A (ku<|.ref it) Q E s:=by
 have hf:=WL (led:=Yw w) (tg:=tg) hb;obtain⟨oi,hq,hc,hdi⟩:=id hit;have hT:s.TypeIs (.ref it) "set_iterator":=#[oi,hq,hc];unfold ku;refine ab<|fZ<|cC (name:=lc "__next__") hT WQ<|cg WQ hT vF ?_<|js _;unfold db.«set_iterator.__next__» slotArgs;refine ab<|eY (a:=(bV it,[])) rfl<|ab<|wpAny_fieldsOf hq hdi ?_
 dsimp only
 refine ab<|ml ho hd hf ?_;rw[Yd,T8 (by simp)]
 simp only[dv];refine ab<|yJ hb hi ho hd ?_;cases q:(We w a ep<|ZV b tg)[i]? with
 |some e=>
  refine ab<|eT hq hdi (by simp) ?_
  have g1:=de (my (·.setIfInBounds 0 (fw ((YG w b (i+1):Nat):Int)))) hq<|eA<|cU hdi _
  have d1:=cU hdi (·.setIfInBounds 0 (fw ((YG w b (i+1):Nat):Int)))
  refine ab<|eT g1 d1 (by simp) ?_
  have g2:=de (my (·.setIfInBounds 1 (fw<|(i:Int)+1))) g1<|eA<|cU d1 _
  refine au #[_,rfl,au<|h1 e q _ #[_,g2,?_,?_]<|(cx ..).trans<|cx ..]
  .exact(fC ..).trans<|(fC ..).trans hc
  .rw[cU d1];simp[fw]
 |none=>
  have hn:i=(pl b).length:=by
   have:=Array.getElem?_eq_none_iff.mp q;rw[Gi,Yd]at this;omega
  obtain⟨hh,hQ⟩:=h2 hn;refine ab<|eT hq hdi (by simp) (show aV _ _ (oV (.type "StopIteration") [] >>= _) _ _ _ from ab ?_)
  simp only[oV,oW];refine ab<|bD ?_ (by size_fits);refine ab (m:=gF _ _) (eY (a:=bh) (by first|rfl|(simp only[gF];rfl))<|bD ?_ (by size_fits))
  simp only[raiseNew];refine ab<|mv ?_;rw[show A.in1.handled=ag from hh]
  refine ab<|au<|oj ?_;refine ab<|d6 (T:="StopIteration") (b:=aj) #[_,aD _ rfl,rfl] lT ?_;exact au<|hQ _<|((cx ..).extBut.push _).push _
def Xk.at{h h':cc}(hit:Xk w h it a b i ep)(k:∀o,h.get? it=aa o->h'.get? it=aa o):Xk w h' it a b i ep:=
 let #[o,h1,r]:=hit;#[o,k o h1,r]
def uV{Q:Bool->ax->Prop}(hT:s.TypeIs (.ref a) "set")(h:Q ak s):aV (aS prog w) A (iE<|.ref a) Q E s:=by
 unfold iE;refine ab<|wpAny_specialOf hT F.slot_set_len.lookup ?_;generalize hid:("set.__len__" : String)=id0
 wp_delta
 rw[show splitId id0=aa ("set","__len__")from by subst hid;decide +kernel];subst hid
 refine ab<|d6 (T:="set") (b:=aj) hT (by rw[i5];kernel_rfl) ?_;refine wpAny_ite_split (λz=>T7 z<|by decide) (λ_=>wpAny_ite_split (λ_=>ab<|fK hT<|au h) λz=>T7 (by decide +kernel) z)
def ZbH(hb:b<64)(hex:o.ExactSet)(hd:o.data=.set (ZV b tg) ep (tbl b<|Yw w)):i6 prog w "set" a a (pl b).length (λi v=>((We w a ep<|ZV b tg)[i]?).map (·.2)=aa v) (λh=>h.get? a=aa o) where
 type:=λ_ hm=>#[_,hm,hex.1]
 there:=λ_ hm=>#[aC hm,aC hm]
 keep:=λ_ _ hm hk=>hk a (.inl rfl) _ hm
 notList:=by decide
 notTuple:=by decide
 hint:=λ_ _ _ _ hm hq=>uV #[_,hm,hex.1] hq
 iter:=λA s hh hm=>by
  have hne:a≠s.heap.objs.size:=a9<|aC hm;refine#[{cls:=.type "set_iterator",data:=.fields [.int (YG w b 0) 0,.int 0 0,.ref a,.int (pl b).length 0,.int ep 0].toArray},λi h=>i<=(pl b).length/\Xk w h s.heap.objs.size a b i ep/\h.get? a=aa o,λE Q hq=>?_,?_,cJ _,#[_,aD _ rfl,rfl,rfl],ao _ hm]
  .exact v7 hb hm hex hd hq
  .exact{
    sub:=λb hb=>by simp at hb;simp[hb]
    frame:=λ_ _ _ st hk=>#[st.1,st.2.1.at λo e=>hk _ (by simp) o e,hk a (by simp) _ st.2.2]
    item:=λi s' Q E hi st hQ=>zA hb st.1 st.2.1 st.2.2 hd (λe q h' hit' sb=>hQ _ h' s'.toks (by rw[q];rfl) #[hi,hit',sb.extBut _ _ hne st.2.2] λb o hb e=>sb.extBut b o (λz=>hb<|by simp[z]) e) λz=>T7 hi (by omega)
    done:=λs' Q E st hQ=>zA hb st.1 st.2.1 st.2.2 hd (λe q _ _ _=>T7 (i7.mp q).1<|by rw[Gi,Yd];omega) λ_=>#[hh,λh' eb=>hQ h' s'.toks λb o hb e=>eb b o (λz=>hb<|by simp[z]) e]
    self:=λ_ _ _ _ st hQ=>jz st.2.1 hQ}
end
open L2
section
variable{prog:bC}{w:bU}{A:cL}{E:ap->ax->Prop}{s:ax}{d:aJ}
def yB{T:String}{n:Nat}{P:Nat->ap->Prop}{OK:cc->Prop}{κ:fq}{lt:Nat->Nat->Bool}{vs:List ap}{Q:ap->ax->Prop}(src:i6 prog w T d d n P OK)(hh:A.handled=ag)(hok:OK s.heap)(hv:∀acc,pH P acc n->acc.toList=vs)(hn:n<=100000)(hl:vs.length=n)
  (O:Sq.Ord vs.length lt)(K:Sq.Asks prog w A.in1.in1 s.heap vs κ lt)
  (h:∀p h' tk D n,Sq.Pm vs.length p->Sq.Up (Sq.ltR ak vs.length lt) p vs.length->(∀b o,s.heap.get? b=aa o->h'.get? b=aa o)->s.heap.objs.size<=D->h'.get? D=aa (ek "list" (cA<|bi ak<|p.toList.map λi=>(bi ak vs).getD i bh) n)->Q (.ref D) {s with heap:=h',toks:=tk}) :
  aV (aS prog w) A (call (.builtin "sorted") [.ref d]) Q E s:=by
 refine Calls.call_function_entry ot nv ny (args_sorted1 _) ?_;unfold db.«sorted»;refine ab (m:=oZ "sorted" 1 1 _)<|au ?_;refine ab<|GU (A:=A.in1) src hh hok (by rw[cI];omega) λh1 tk acc hk big hacc=>?_
 rw[hv acc hacc];refine ab<|kE ?_ (by rw[cI];omega)
 have hoL:(h1.push<|ek "list" vs.toArray 0).get? h1.objs.size=aa (ek "list" vs.toArray 0):=aD _ rfl;show aV _ _ _ _ _ {s with heap:=h1.push<|ek "list" vs.toArray 0,toks:=tk}
 refine ab (bI (cg lZ #[_,hoL,rfl] ly (by
  rw[Sq.QV];exact Sq.list_sort_rev (h0:=s.heap) hoL (by omega) (λb o e=>by
   have hlt:b<h1.objs.size:=aC<|hk b o e;exact#[a9 hlt,ao _<|hk b o e]) O K λp a1 a2=>#[_,rfl,au #[_,rfl,by
    obtain⟨n,hn⟩:=sortedHeap_at (out:=cA<|bi ak<|p.toList.map λi=>(bi ak vs).getD i bh) hoL
    exact h p _ tk _ n a1 a2 (λb o e=>by
     have hlt:b<h1.objs.size:=aC<|hk b o e;rw[sortedHeap_old (a9 hlt) (by rw[mP];exact cR hlt)]
     exact ao _<|hk b o e) big hn]])<|args_list_sort _))
def wy{h:cc}{ns:List Int}{vs:List ap}(hi:gC vs ns)(nd:ns.Nodup):Sq.Asks prog w A h vs oneType' (λi j=>ae<|ns.getD i 0<ns.getD j 0):=by
 have hl:vs.length=ns.length:=gC.length hi;refine#[λh2 s' E Q k q=>eY (ksk_kind (keys:=vs.toArray) (by simpa using hi)<|by simpa using h2) q,?_,λi j hi' hj s' C E k q=>?_]
 .refine bF.mpr λi j h1 h2 hij e=>?_
  obtain⟨t1,e1⟩:=hi.int_at i vs[i]<|af h1;obtain⟨t2,e2⟩:=hi.int_at j vs[j]<|af h2;rw[e1,e2]at e;have e:=(fu.inj e).1;have g1:i<ns.length:=by omega
  have g2:j<ns.length:=by omega
  rw[aN,aN,af g1,af g2]at e;exact T7 e<|bF.mp nd i j g1 g2 hij
 .have g1:vs[i]?=aa (vs.getD i bh):=by simp[hi']
  have g2:vs[j]?=aa (vs.getD j bh):=by simp[hj]
  obtain⟨t1,e1⟩:=hi.int_at i _ g1;obtain⟨t2,e2⟩:=hi.int_at j _ g2;rw[e1,e2,keyLt'_oneType];exact oneLt_int q
def jJ{ns:List Int}{n:Nat}(nd:ns.Nodup)(hl:ns.length=n):Sq.Ord n (λi j=>ae<|ns.getD i 0<ns.getD j 0):=by
 refine#[λi j hi hj ne e=>?_,λi j _ _ e=>?_,λi j k _ _ _ e f=>?_]
 .have:ns.getD i 0≠ns.getD j 0:=λe=>by
   simp only[aN]at e;have hi':i<ns.length:=by omega
   have hj':j<ns.length:=by omega
   refine ne<|(gI hi' nd).mp ?_;rw[af hi',af hj']at e ⊢;exact congrArg aa e
  have e:=of_decide_eq_false e;exact T5 (by omega)
 .have e:=T6 e
  exact T4 (by omega)
 .have e:=T6 e
  have f:=T6 f;exact T5 (by omega)
def qK{ns l:List Int}{p:Array Nat}(hp:l.Perm ns)(hs:l.Pairwise (· < ·))(h1:Sq.Pm ns.length p)(h2:Sq.Up (Sq.ltR ak ns.length λi j=>ae<|ns.getD i 0<ns.getD j 0) p ns.length):(p.toList.map λi=>ns.getD i 0)=l:=by
 have hq:p.toList.Perm (aL ns.length):=by simpa using bv.mp h1
 have hl:p.toList.length=ns.length:=by rw[hq.length_eq,br]
 refine List.Perm.eq_of_pairwise (le:=λa b=>a<b) (λa b _ _ x y=>by omega) ?_ hs ?_
 .rw[cS,bF]
  intro i j hi hj hij;have g:∀k (hk:k<p.toList.length),p.toList[k]=Sq.g p k:=λk hk=>by
   have:=Sq.Zbi (p:=p) (i:=k) (by simpa using hk)
   rw[<-bf,af hk]at this;exact al this
  rw[g i hi,g j hj];exact T6<|h2 i j hij (by omega)
 .refine((hq.map _).trans ?_).trans hp.symm
  have e:(aL ns.length).map (λi=>ns.getD i 0)=ns:=by
   refine bR λi=>?_
   rw[aM];by_cases h:i<ns.length
   .rw[cK h];simp[h]
   .simp[d4 h]
  rw[e]
def vy:(aL 64).all (λb=>ae (((pl b).map gV).Pairwise (· < ·)))=aj:=by decide +kernel
theorem WX:∀{l:List (Int×ap)},(∀e∈l,∃t,e.2=.int e.1 t)->gC (l.map (·.2)) (l.map (·.1))
 |[],_=>.nil
 |(n,v)::l,h=>by
  obtain⟨t,e⟩:=h (n,v) am;have e:v=.int n t:=e;subst e;exact .cons n t<|WX λe he=>h e<|ai _ he
theorem Qg{vs:List ap}{ns:List Int}(hi:gC vs ns):∀{l:List Nat},(∀i∈l,i<vs.length)->gC (l.map λi=>vs.getD i bh) (l.map λi=>ns.getD i 0)
 |[],_=>.nil
 |i::l,h=>by
  obtain⟨t,e⟩:=hi.int_at i (vs.getD i bh) (by simp[h i am])
  rw[aW,aW,e];exact .cons _ t<|Qg hi λj hj=>h j<|ai _ hj
def yj{b:Nat}{Q:ap->ax->Prop}(hh:A.handled=ag)(hb:b<64)(S:Xe s.heap d b (Yw w))
  (h:∀h' tk D n us,gC us ((pl b).map gV)->(∀b o,s.heap.get? b=aa o->h'.get? b=aa o)->s.heap.objs.size<=D->h'.get? D=aa (ek "list" us.toArray n)->Q (.ref D) {s with heap:=h',toks:=tk}) :
  aV (aS prog w) A (call (.builtin "sorted") [.ref d]) Q E s:=by
 obtain⟨o,ep,tg,ho,hex,hd⟩:=S;have pm:(We w d ep<|ZV b tg).toList.Perm (ZV b tg).toList:=J4;generalize hsq:We w d ep (ZV b tg)=sq at pm;have hI:gC (sq.toList.map (·.2)) (sq.toList.map (·.1)):=WX λe he=>by
  have:=pm.mem_iff.mp he;unfold ZV at this;obtain⟨k,_,rfl⟩:=aO.mp this;exact#[tg k,rfl]
 have hP:((pl b).map gV).Perm (sq.toList.map (·.1)):=by
  have:=pm.map (·.1)
  have e:(ZV b tg).toList.map (·.1)=(pl b).map gV:=by
   have:=congrArg mS<|xF b tg
   simpa using this
  rw[e]at this;exact this.symm
 have hS:((pl b).map gV).Pairwise (· < ·):=T6<|aY.mp vy b<|aR.mpr hb
 have hnd:(sq.toList.map (·.1)).Nodup:=hP.nodup_iff.mp<|hS.imp λh e=>by omega
 have hlen:(sq.toList.map (·.2)).length=(pl b).length:=by
  rw[aw,pm.length_eq,aI,Yd]
 have hl2:(sq.toList.map (·.1)).length=(sq.toList.map (·.2)).length:=by simp
 refine yB (vs:=sq.toList.map (·.2)) (ZbH hb hex hd) hh ho (λacc ha=>?_) (by have:=JM b;omega) hlen (jJ hnd hl2) (wy hI hnd) λp h' tk D n h1 h2 kp hD hL=>?_
 .rw[hsq]at ha
  refine bR λi=>?_
  by_cases hi:i<(pl b).length
  .have hl:i<acc.size:=by rw[ha.1];exact hi
   have:=ha.2 i acc[i]<|a8 hl;rw[aM,bf,bf,this,a8 hl]
  .rw[bH (by rw[aI,ha.1];omega),bH (by rw[hlen];omega)]
 .have hq:p.toList.Perm (aL (sq.toList.map (·.2)).length):=by simpa using bv.mp h1
  have out:=Qg hI (l:=p.toList) λi hi=>aR.mp<|hq.mem_iff.mp hi
  rw[<-hl2]at h1 h2;rw[qK hP hS h1 h2]at out;exact h h' tk D n _ out kp hD hL
end
def ZfQ(te:TE):TE:=λZ H Q=>te Z H λv H1=>∃(a:aJ)(ks:List Nat),v=.ref a/\H1 a=aa (.lst (ks.map λk:Nat=>V.int k))/\(∀k∈ks,k<6)/\∀D,H1 D=ag->Q (.ref D) (upd H1 D (.lst ((pl (bt (ks.getD · 0) ks.length)).map λk:Nat=>V.int k)))
theorem Zci{v:Nat->Nat}:∀{n:Nat},(∀i,i<n->v i<6)->bt v n<64
 |0,_=>by show 0<64;decide
 |n+1,h=>Nat.or_lt_two_pow (n:=6) (Zci λi hi=>h i<|by omega)<|l4 (by decide)<|h n (by omega)
theorem Xb{us:List ap}:∀{ns:List Nat},gC us (ns.map gV)->Vals (ns.map λk:Nat=>V.int k) us
 |[],h=>by cases h;exact .nil
 |n::ns,h=>by
  cases h with|cons _ t h=>exact .cons #[t,rfl]<|Xb h
def yO{X:Cx}{e:Expr}{te:TE}{p p2 p3 pos:gW}(hc:X.calm=aj)(he:PE X e te)(hm1:X.mg "sorted" = ag)(hm2:X.mg "set" = ag)(hg1:Gl X "sorted")(hg2:Gl X "set")
  (hs1:aE [e] X.env=(ak,cD e X.env)::aE [] X.env)(hs2:aE [.Call (.Name "set" p2) [e] [] p3] X.env=(ak,cD (.Call (.Name "set" p2) [e] [] p3) X.env)::aE [] X.env) :
  PE X (.Call (.Name "sorted" p) [.Call (.Name "set" p2) [e] [] p3] [] pos) (ZfQ te):=by
 intro pq s Z H Q I h;refine d8<|YX I hg1 hm1 (by rfl) ?_ (by decide) (by decide)
 refine gP ?_ hs2 rfl;rw[hs2];show aV _ _ (spliced ((ak,cD (.Call (.Name "set" p2) [e] [] p3) X.env)::dz pos (aE [] X.env))) _ _ s;refine Calls.spliced_cons ?_;refine d8<|YX I hg2 hm2 (by rfl) ?_ (by decide) (by decide)
 refine cQ ?_ hs1 rfl;rw[hs1];show aV _ _ (spliced ((ak,cD e X.env)::dz p3 (aE [] X.env))) _ _ s;refine Calls.spliced_cons<|thn (he pq s Z H _ I h) λu s1 #[x,H1,I1,r1,a,ks,ex,ha,h6,q1]=>Calls.spliced_nil ?_
 subst ex;cases(show u=bV a from r1)
 obtain⟨hz,us,n,rel,ho⟩:=I1.hok a _ ha;have hlen:us.length=ks.length:=by rw[<-rel.length,aw]
 have hh:=I1.ok.hd hc;have h6':∀i,i<ks.length->ks.getD i 0<6:=λi hi=>by
  rw[aN,af hi];exact h6 _<|aU hi
 refine jK (v:=(ks.getD · 0)) (items:=us.toArray) hh #[_,ho,rfl,n,rfl] (λi x hx=>?_) λh2 tk2 hS k2=>?_
 .have hx':us[i]?=aa x:=by simpa using hx
  have hi:i<us.length:=(aX.mp hx').1;refine#[h6' i (by omega),?_]
  obtain⟨y,hy,ry⟩:=rel.get (i:=i) (x:=V.int<|ks.getD i 0) (by rw[aM,af (show i<ks.length by omega),aN,af (show i<ks.length by omega)];rfl)
  rw[hx']at hy;cases hy;exact ry
 .refine Calls.spliced_nil ?_
  have b64:bt (ks.getD · 0) us.toArray.size<64:=Zci λi hi=>h6' i (by simpa[hlen]using hi)
  refine yj (s:={s1 with heap:=h2,toks:=tk2}) hh b64 hS λh3 tk3 D m vs hI k3 hD hL=>?_
  have sz:us.toArray.size=ks.length:=by simpa using hlen
  rw[sz]at hI;have le:s1.heap.objs.size<=D:=by
   obtain⟨o,_,_,hg,_⟩:=hS;exact cn (gw<|aC hg) hD
  refine#[.ref D,_,I1.laid (a:=D) (o:=.lst ((pl (bt (ks.getD · 0) ks.length)).map λk:Nat=>V.int k)) (h':=h3) (t':=tk3) (λb o e=>k3 b o<|k2 b o e) le #[?_,vs,m,Xb hI,hL],rfl,q1 D<|I1.hok.fresh le]
  rw[aw,cI];have:=JM (bt (ks.getD · 0) ks.length)
  omega
theorem vL{v:Nat->Nat}{k:Nat}:∀{n:Nat},(bt v n).testBit k=((aL n).map v).contains k
 |0=>by simp[bt]
 |n+1=>by
  show(bt v n ||| 2^v n).testBit k=_;rw[Nat.testBit_or,vL,List.range_succ,bK,List.contains_append,Nat.testBit_two_pow];simp[eq_comm]
def Zep{ks:List Nat}:pl (bt (ks.getD · 0) ks.length)=(aL 6).filter ks.contains:=by
 unfold pl;refine List.filter_congr λk _=>?_
 rw[vL];have e:(aL ks.length).map (λi=>ks.getD i 0)=ks:=by
  refine bR λi=>?_
  rw[aM];by_cases h:i<ks.length
  .rw[cK h];simp[h]
  .simp[d4 h]
 rw[e]
open Ev (E Sm Fn Bop Cop Ty Bf Mf)
theorem Ue{O:Mx}{H:Hp}:∀{ds:List D}{ks:List Nat}{vs:List V},Pv.Wm ds=aa ks->Rq O H ds vs->vs=ks.map (λk:Nat=>V.int k)/\∀k∈ks,k<6
 |[],ks,vs,e,h=>by
  cases e;unfold Rq at h;exact#[h,λ_ z=>by cases z]
 |x::r,ks,vs,e,h=>by
  unfold Rq at h;obtain⟨v,us,rfl,h1,h2⟩:=h;cases x with
  |int i=>
   have e:(if 0<=i/\i<6 then(Pv.Wm r).map (i.toNat :: ·)else ag)=aa ks:=e
   split at e
   .rename_i hi
    obtain⟨ks',e1,rfl⟩:=bj.mp e;obtain⟨rfl,h6⟩:=Ue e1 h2;refine#[by rw[h1.int',aW,mm hi.1],λk hk=>?_]
    rcases aB.mp hk with rfl|hk
    .omega
    .exact h6 k hk
   .cases e
  |_=>exact Ev.nos e
theorem UV{O:Mx}{H:Hp}:∀l:List Nat,Rq O H (l.map λk:Nat=>Pv.V.int k) (l.map λk:Nat=>V.int k)
 |[]=>Rq.nil
 |k::l=>Rq.cons (ZQ (k:Int))<|UV l
def yM{X:Cx}{xw:Nat->Hp->Prop}{C:Calls}{e:Expr}{i:E}{p p2 p3 pos:gW}(hc:X.calm=aj)(he:CE X xw C e i)(hm1:X.mg "sorted" = ag)(hm2:X.mg "set" = ag)(hg1:Gl X "sorted")(hg2:Gl X "set")
  (hs1:aE [e] X.env=(ak,cD e X.env)::aE [] X.env)(hs2:aE [.Call (.Name "set" p2) [e] [] p3] X.env=(ak,cD (.Call (.Name "set" p2) [e] [] p3) X.env)::aE [] X.env) :
  CF X xw C (.Call (.Name "sorted" p) [.Call (.Name "set" p2) [e] [] p3] [] pos) (.blt .sortedS [i]):=.mk <| PE.imp (yO hc he.h hm1 hm2 hg1 hg2 hs1 hs2)<|by
 rintro Z H Q ⟨O,l,S,st,lr,h⟩;rw[Pv.pv,Pv.pvs,YQ]at h;refine#[O,l,S,st,lr,h.bind λx S1 ρ1 H1 v f1 st1 r1 h1=>?_]
 cases f1.eq;rw[Pv.pvs]at h1;obtain⟨z,hz,h1⟩:=End.po h1;cases x with
 |lst ds=>
  obtain⟨ks,e1,rfl⟩:=bj.mp hz;obtain⟨a,us,rfl,ha,_,rs⟩:=r1.lst';obtain⟨rfl,h6⟩:=Ue e1 rs;exact#[a,ks,rfl,ha,h6,by rw[Zep];exact h1.newF f1 st st1<|UV _]
 |_=>exact Ev.nos hz
end Sd
namespace Sd
open PySem PySem.Spec PyProof.Rows
open L2
end Sd
namespace Sd
open PySem PySem.Spec PyProof.Rows
open L2
open Ev (ltI YA Zi)
open Ev (E Sm Fn Bop Cop Ty Bf Mf spcs Zcn Z0)
end Sd
namespace Sd
open PySem PyProof.Rows L2 Ev
variable{X:Cx}{xw:Nat->Hp->Prop}{C:Calls}{ns:List Nat}{e:Expr}{i:E}{pos:gW}
end Sd
namespace Sd
open PySem PySem.Spec PyProof.Rows L2
open Ev (ltP UT Y4)
open Ev (E Sm Fn Bop Cop Ty Bf Mf qe Yt)
open Ev (So)
open PySem.Builtin.Str (occurrences partsBetween strKind)
section
variable{X:Cx}{xw:Nat->Hp->Prop}
def Zbs:ZI X (.type "str") (VI X.K xw .strI):=ZI.imp Jd<|by
 rintro vs H Q ⟨O,S,ds,st,r,h⟩;obtain⟨d,v,z,rfl,r1,hz,h⟩:=Wh h r;cases d with
 |int m=>
  have hz:(if 0<=m/\m<10 then aa (Pv.V.str<|mW m)else ag)=aa z:=hz
  split at hz
  .rename_i hm
   cases hz;exact#[m,by rw[r1.int'],mN (Nat.log2_le_self _) (by omega),End.ok h st<|Xo _]
  .cases hz
 |_=>exact Ev.nos hz
theorem Gg{O:Mx}{H:Hp}:∀{ds:List D}{xs:List V}{ts:List bx},Rq O H ds xs->Pv.U4 ds=aa ts->xs=ts.map V.str
 |[],_,_,r,h=>by
  cases h;unfold Rq at r;rw[r];rfl
 |d::ds,_,_,r,h=>by
  unfold Rq at r;obtain⟨v,vs,rfl,r1,r2⟩:=r;cases d with
  |str x=>
   obtain⟨ts',h',rfl⟩:=bj.mp h;rw[r1.str',Gg r2 h'];rfl
  |_=>exact Ev.nos h
theorem QT:∀{ts:List bx}{its:List ap},Vals (ts.map V.str) its->∃ls:List (bx×pb),n9 ls=its/\ls.map (·.1)=ts
 |[],_,.nil=>#[[],rfl,rfl]
 |x::ts,_,.cons #[t,e] r=>by
  obtain⟨ls,e1,e2⟩:=QT r;refine#[(x,t)::ls,?_,by rw[aW,e2]]
  rw[e,<-e1];rfl
theorem QC:∀(ls:List (bx×pb)),Vals (ls.map λp=>V.str p.1) (n9 ls)
 |[]=>.nil
 |p::ls=>.cons #[p.2,rfl]<|QC ls
def Ze1(K:aq):V->List V->Hp->VK->Prop:=λx vs H Q=>∃a l ts,x=.str a/\vs=[.ref l]/\SqL K H l (ts.map V.str)/\JoinOk a ts=aj/\Q (.str<|Txt.join a ts) H
def ZbQ:MtR X "str.join" (Ze1 X.K):=by
 intro pq s Z H x vs v us Q I rx rv h;obtain⟨a,l,ts,rfl,rfl,hH,hj,q⟩:=h;obtain⟨t,rfl⟩:=rx;obtain⟨u,rfl,ru⟩:=rv.one;cases ru;obtain⟨its,r,pl,hz⟩:=I.list hH;obtain⟨ls,e1,e2⟩:=QT r;subst e1;exact SC.join pl.isList e2 hj λt' k=>#[.str _,H,I.tok _,#[_,rfl],q]
def Zfc:V->List V->Hp->VK->Prop:=λx vs H Q=>∃a b,x=.str a/\vs=[.str b]/\a.length<=1000/\Q (.int<|Txt.find a b) H
def jZ:MtR X "str.find" Zfc:=by
 intro pq s Z H x vs v us Q I rx rv h;obtain⟨a,b,rfl,rfl,hl,q⟩:=h;obtain⟨t,rfl⟩:=rx;obtain⟨u,rfl,t',rfl⟩:=rv.one;exact call_gives F.slot_str_find (iM _ _ _) F.entry_str_find (F.args_str_find_2 _ _) (gives_str_find a b t t') #[.int _,H,I.tok _,#[_,rfl],q]
def Zdv:V->List V->Hp->VK->Prop:=λx vs H Q=>∃a b,x=.str a/\vs=[.str b]/\b.length=1/\a.length<=1000000/\∀p,H p=ag->Q (.ref p) (upd H p<|.lst<|(fP a b).map V.str)
def vY:MtR X "str.split" Zdv:=by
 intro pq s Z H x vs v us Q I rx rv h;obtain⟨a,b,rfl,rfl,hb,ha,q⟩:=h;obtain⟨t,rfl⟩:=rx;obtain⟨u,rfl,t',rfl⟩:=rv.one;have fin:∀(ls:List (bx×pb))(tk:Nat),ls.map (·.1)=fP a b->ls.length<=aZ->EP X pq Z Q (.ref s.heap.objs.size) {s with heap:=s.heap.push {cls:=.type "list",data:=.seq (n9 ls).toArray},toks:=tk}:=λls tk e hz=>by
  have hf:H s.heap.objs.size=ag:=I.hok.fresh<|aH _;refine#[.ref s.heap.objs.size,upd H s.heap.objs.size<|.lst<|(fP a b).map V.str,I.laid (λb u e=>ao _ e) (aH _) ?_,rfl,q _ hf]
  rw[<-e,bn];exact#[by rw[aw];exact hz,n9 ls,0,QC ls,aD _ rfl]
 have hy:(b.length == 0)=ak:=by rw[hb];rfl
 have sl:aZ=16777216:=rfl;cases h1:(ae (a.length<b.length)||decide (strKind a<strKind b))
 .cases hf:(occurrences a b 0 a.length<|a.length+1).isEmpty
  .have hn:(partsBetween a (occurrences a b 0 a.length<|a.length+1) b.length).length<=aZ:=by
    have:=StrLaws.occ_length_le a b 0 a.length<|a.length+1;simp only[partsBetween,aw,fm,aP,bc,dB];omega
   refine fc kU (iM _ _ _) kr (i8 _ _) (meets_str_split_sep a b t t' h1 hy hf (by omega) hn) ?_
   show wants (EP X pq Z Q) X.xe _ {s with toks:=_,heap:=s.heap.push {cls:=.type "list",data:=.seq (strsFrom s.toks<|partsBetween a (occurrences a b 0 a.length<|a.length+1) b.length).toArray}}
   rw[strsFrom_eq];exact fin _ _ ((numbered_texts _ _).trans<|by unfold fP;rw[T8 (by rw[h1];exact aG),T8<|by rw[hf];exact aG]) (by
    have:=congrArg fH<|numbered_texts s.toks<|partsBetween a (occurrences a b 0 a.length<|a.length+1) b.length;rw[aw]at this;omega)
  .exact fc kU (iM _ _ _) kr (i8 _ _) (meets_str_split_not_found a b t t' h1 hy hf)<|fin [(a,t)] s.toks (by unfold fP;rw[T8 (by rw[h1];exact aG),T9 hf];rfl) (by show 1<=_;omega)
 .exact fc kU (iM _ _ _) kr (i8 _ _) (meets_str_split_cannot_occur a b t t' h1)<|fin [(a,t)] s.toks (by unfold fP;rw[T9 h1];rfl) (by show 1<=_;omega)
end
section
variable{X:Cx}{xw:Nat->Hp->Prop}{C:Calls}{a b e tg:Expr}{i j:Ev.E}{n:Nat}{apos cpos pos p:gW}
def ym{z:bx}{ts:List bx}(h:(Pv.Z3 ts&&Pv.Z3 [z])=aj):JoinOk z ts=aj:=by
 unfold Pv.Z3 at h;simp only[aF,T0,aY]at h;obtain⟨⟨h1,h2⟩,_,h3⟩:=h;have h4:=h3 z (by simp)
 unfold JoinOk;rw[StrLaws.joinFits (B:=1000) h2 (by
  have:ts.length*z.length<=1000*1000:=fI h1 h4;omega)]
 rfl
def Zbt{z:bx}(ha:CE X xw C a (.c<|.str z))(hb:CE X xw C b j)
  (hbase:gX a "join" X.env (cD a X.env)=cD a X.env)
  (hfew:((dz cpos<|aE [b] X.env).all (λx=>!x.1)&&(m8 cpos<|kg [] X.env).all (λx=>x.1.isSome)
   && ae (([b]:List Expr).length+([]:List iB).length+(if([]:List iB).isEmpty then 0 else 1)<30))=aj)
  (hline:(apos.endLine == cpos.line)=aj)(hs:aE [b] X.env=(ak,cD b X.env)::aE [] X.env)(hplain:(dz cpos<|aE [] X.env).any (·.1)=ak) :
  CE X xw C (.Call (.Attribute a "join" apos) [b] [] cpos) (.sop .join (.c<|.str z) j):=.mk <|
 PE.imp (xQ gL PySem.F.slot_str_join PySem.F.type_str_join ZbQ ha.h (Yj hb.h XI hs) hbase hfew hline hs hplain)<|by
 rintro Z H Q ⟨O,l,S,st,lr,h⟩;have e:Pv.pv C (.sop .join (.c<|.str z) j) l S=(Pv.pv C j l S).bind λy S=>Pv.po (Pv.zQ .join (.str z) y) S:=by rw[Pv.pv,Pv.pv];rfl
 rw[e]at h;refine#[O,l,S,st,lr,?_];rw[Pv.pv];intro ρ1 H1 v f1 st1 r1;rw[r1.str'];refine#[rfl,ρ1,l,S,st1,lr.mono f1,?_];refine(End.mono f1 h).bind λy S2 ρ2 H2 u f2 st2 r2 h2=>?_
 obtain⟨w,hw,h3⟩:=End.po h2;cases y with
 |lst ds=>
  obtain⟨ts,ht,hw⟩:=bQ.mp hw;split at hw
  .rename_i hk
   cases hw;obtain⟨q,xs,rfl,hp,hx,rs⟩:=r2.lst';have hxs:=Gg rs ht;subst hxs;exact#[z,q,ts,rfl,rfl,SqL.of hp,ym hk,End.ok h3 st2<|Xo _]
  .cases hw
 |_=>exact Ev.nos hw
def ZbU{z:bx}(ha:CE X xw C a (.c<|.str z))(hb:CE X xw C b j)
  (hbase:gX a "find" X.env (cD a X.env)=cD a X.env)
  (hfew:((dz cpos<|aE [b] X.env).all (λx=>!x.1)&&(m8 cpos<|kg [] X.env).all (λx=>x.1.isSome)
   && ae (([b]:List Expr).length+([]:List iB).length+(if([]:List iB).isEmpty then 0 else 1)<30))=aj)
  (hline:(apos.endLine == cpos.line)=aj)(hs:aE [b] X.env=(ak,cD b X.env)::aE [] X.env)(hplain:(dz cpos<|aE [] X.env).any (·.1)=ak) :
  CE X xw C (.Call (.Attribute a "find" apos) [b] [] cpos) (.sop .find (.c<|.str z) j):=.mk <|
 PE.imp (xQ gL PySem.F.slot_str_find PySem.F.type_str_find jZ ha.h (Yj hb.h XI hs) hbase hfew hline hs hplain)<|by
 rintro Z H Q ⟨O,l,S,st,lr,h⟩;have e:Pv.pv C (.sop .find (.c<|.str z) j) l S=(Pv.pv C j l S).bind λy S=>Pv.po (Pv.zQ .find (.str z) y) S:=by rw[Pv.pv,Pv.pv];rfl
 rw[e]at h;refine#[O,l,S,st,lr,?_];rw[Pv.pv];intro ρ1 H1 v f1 st1 r1;rw[r1.str'];refine#[rfl,ρ1,l,S,st1,lr.mono f1,?_];refine(End.mono f1 h).bind λy S2 ρ2 H2 u f2 st2 r2 h2=>?_
 obtain⟨w,hw,h3⟩:=End.po h2;cases y with
 |str b=>
  have hw:(if z.length<=1000 then aa (Pv.V.int<|Txt.find z b)else ag)=aa w:=hw
  split at hw
  .rename_i hk
   cases hw;exact#[z,b,rfl,by rw[r2.str'],hk,End.ok h3 st2<|ZQ _]
  .cases hw
 |_=>exact Ev.nos hw
def jV{z:bx}(ha:CE X xw C a i)(hb:CE X xw C b (.c<|.str z))
  (hbase:gX a "split" X.env (cD a X.env)=cD a X.env)
  (hfew:((dz cpos<|aE [b] X.env).all (λx=>!x.1)&&(m8 cpos<|kg [] X.env).all (λx=>x.1.isSome)
   && ae (([b]:List Expr).length+([]:List iB).length+(if([]:List iB).isEmpty then 0 else 1)<30))=aj)
  (hline:(apos.endLine == cpos.line)=aj)(hs:aE [b] X.env=(ak,cD b X.env)::aE [] X.env)(hplain:(dz cpos<|aE [] X.env).any (·.1)=ak) :
  CE X xw C (.Call (.Attribute a "split" apos) [b] [] cpos) (.sop .split i<|.c<|.str z):=.mk <|
 PE.imp (xQ gL PySem.F.slot_str_split PySem.F.type_str_split vY ha.h (Yj hb.h XI hs) hbase hfew hline hs hplain)<|by
 rintro Z H Q ⟨O,l,S,st,lr,h⟩;have e:Pv.pv C (.sop .split i<|.c<|.str z) l S=(Pv.pv C i l S).bind λx S=>Pv.po (Pv.zQ .split x<|.str z) S:=by
  rw[Pv.pv]
  congr 1
 rw[e]at h;refine#[O,l,S,st,lr,h.bind λx S1 ρ1 H1 v f1 st1 r1 h1=>?_]
 obtain⟨w,hw,h3⟩:=End.po h1;cases x with
 |str y=>
  have hw:(if z.length=1/\y.length<=1000000 then aa (Pv.V.lst<|(fP y z).map .str)else ag)=aa w:=hw
  split at hw
  .rename_i hk
   cases hw;rw[r1.str'];refine#[rfl,ρ1,l,S1,st1,lr.mono f1,?_];rw[Pv.pv];intro ρ2 H2 u f2 st2 r2;rw[r2.str'];refine#[y,z,rfl,rfl,hk.1,hk.2,λq hq=>?_]
   have hr:Rq ρ2 H2 ((fP y z).map Pv.V.str) ((fP y z).map V.str):=by
    generalize fP y z=ts
    induction ts with|nil=>exact Rq.nil|cons t ts ih=>exact Rq.cons (Xo t) ih
   exact(End.mono f2 (show End X.K xw Rep ρ1 H1 Q (.ok _ S1)from h3)) ρ2 _ _ (ZH hq) (st2.fresh hq)<|X4 Zy (st2.nx hq)<|hr.mono<|ZH hq
  .cases hw
 |_=>exact Ev.nos hw
def ZdD(ha:CE X xw C a i)(hb:CE X xw C b j)(hs:Ja b):CE X xw C (.Subscript a b pos) (.sop .ix i j):=.mk <| PE.imp (xT ZcV ha.h hb.h hs) λZ H Q h=>by
 refine Xf (g:=λx y S=>Pv.po (Pv.zQ .ix x y) S) (λ{O H S x y v u Q} st rx ry h=>?_) Z H Q (by
  obtain⟨O,l,S,st,lr,h⟩:=h;rw[Pv.pv]at h;exact#[O,l,S,st,lr,h])
 obtain⟨w,hw,h3⟩:=End.po h;cases x with
 |str z=>
  cases y with
  |int m=>
   have hw:(if z.length<=1000 then(Ev.at' z.cps.toList m).map λc=>Pv.V.str ⟨#[c]⟩else ag)=aa w:=hw
   split at hw
   .rename_i hk
    obtain⟨c,hc,rfl⟩:=bj.mp hw;refine#[z,m,c,by rw[rx.str'],by rw[ry.int'],by
     have:aZ=16777216:=rfl;omega,?_,End.ok h3 st<|Xo _]
    unfold Ev.at' at hc;obtain⟨k,hk1,hk2⟩:=bQ.mp hc;unfold atI;rw[show ixN z.cps.toList.length m=aa k from hk1]
    exact hk2
   .cases hw
  |_=>exact Ev.nos hw
 |_=>exact Ev.nos hw
noncomputable def Itx(x:bx):It:=#[λi _=>i<x.cps.size,λi H v H'=>H'=H/\∃c,x.cps[i]?=aa c/\v=.str ⟨#[c]⟩,λi _=>x.cps.size<=i]
def jN{P:bC}{w:bU}{K:aq}{tg:Expr}(it:aJ)(x:bx)(t:pb):Turn P w K tg (Itx x) [it] it (λi h=>h.IsStrIter it "str_ascii_iterator" x t i) where
 mem:=by simp
 obj:=λi h st b hb=>by
  have e:b=it:=by simpa using hb
  subst e;obtain⟨o,h1,h2,h3⟩:=st;exact#[o,h1,λv z=>by rw[h3]at z;cases z]
 keep:=λi h h' st k=>let #[o,ho,r]:=st;#[o,k it (by simp) o ho,r]
 item:=by
  intro X hP hw hK hc i pq s Z H E I hf st hg;subst hP hw hK;obtain⟨f0,f1,f2,f3,f4,f5⟩:=hf it (by simp)
  have hlt:i<x.cps.size:=hg;refine wpAny_pyNext_ascii_item st (a8 hlt) λh' hit' sb=>?_
  have I1:Inv X pq Z H {s with heap:=h',toks:=s.toks+1}:=I.turned (t':=s.toks+1) (λb o hb e=>sb.extBut b o (by simpa using hb) e) f0 f1 f3 f4 f5
  obtain⟨io,j1,j2,j3⟩:=id hit';exact#[_,rfl,xk (s:={s with heap:=h',toks:=s.toks+1}) (n:="str_ascii_iterator") j1 j2 j3 (by decide) #[.str ⟨#[x.cps[i]]⟩,H,I1,#[_,rfl],#[rfl,_,a8 hlt,rfl],hit',λb hb=>(hf b hb).1]]
 done:=by
  intro X hP hw hK hc i pq s Z H E I hf st hg;subst hP hw hK;obtain⟨f0,f1,f2,f3,f4,f5⟩:=hf it (by simp)
  exact wpAny_pyNext_ascii_end (I.ok.hd hc) st (fe hg) λh' eb=>#[rfl,I.turned (t':=s.toks) (λb o hb e=>eb b o (by simpa using hb) e) f0 f1 f3 f4 f5]
 self:=λ_ _ _ _ _ st h=>wpAny_pyIter_striter_ascii st h
def iSg(te:TE):TI:=λZ H R=>te Z H λx H1=>∃z,x=.str z/\z.cps.all (· < 128)=aj/\R (Itx z) H1
def Zfn{te:TE}(he:PE X e te):PI X tg e (iSg te):=by
 intro pq s Z H R I h;refine thn (he pq s Z H _ I h) λv s1 #[x,H1,I1,r1,z,e,ha,hR]=>?_
 subst e;obtain⟨t,rfl⟩:=r1;refine wpAny_pyIter_ascii ha #[s1.heap.objs.size,[s1.heap.objs.size],_,_,H1,rfl,I1.kept (t':=s1.toks) λb o e=>ao _ e,jN _ z t,#[_,aD _ rfl,rfl,rfl],λb hb=>?_,hR]
 have e:b=s1.heap.objs.size:=by simpa using hb
 subst e;exact I1.fpOk (aH _)<|I1.hok.fresh<|aH _
def Zdw(he:CE X xw C e i):CW X xw C tg e (.sgn i):=.mk <| PI.imp (Zfn he.h)<|by
 rintro Z H Q ⟨O,l,S,st,lr,h⟩;rw[Pv.pvw]at h;refine#[O,l,S,st,lr,h.bind λx S1 ρ1 H1 v f1 st1 r1 h1=>?_]
 obtain⟨w,hw,h1⟩:=End.po h1;cases x with
 |str z=>
  have hw:(if z.cps.all (· < 128)=aj then aa (Pv.V3 z)else ag)=aa w:=hw
  split at hw
  .rename_i ha
   cases hw;refine#[z,r1.str',ha,End.ok (rep:=WRel X.K) h1 st1 ?_];have hr:Rq ρ1 H1 (Pv.V3 z) (z.cps.toList.map λc=>V.str ⟨#[c]⟩):=by
    unfold Pv.V3;generalize z.cps.toList=l
    induction l with|nil=>exact Rq.nil|cons c l ih=>exact Rq.cons (Xo _) ih
   refine XY hr λρ' H' f=>#[λi x g=>?_,λm e=>?_]
   .rw[aM]at g
    obtain⟨c,hc,rfl⟩:=bj.mp g;have hc':z.cps[i]?=aa c:=by rw[<-bf];exact hc
    refine#[(i7.mp hc').1,λy H'' q=>#[q.1,?_]]
    obtain⟨d,hd,e⟩:=q.2;rw[hc']at hd;cases hd;exact e
   .rw[aw]at e
    show z.cps.size<=m;rw[e];simp
  .cases hw
 |_=>exact Ev.nos hw
def Zbq{z:bx}{t:pb}{x:bx}(hm:X.mg x=aa (.str z t))(hg:Gl X x:=by rfl)(hd:(x == ("__debug__" : bx))=ak:=by decide):CE X xw C (.Name x p) (.c<|.str z):=.mk <|
 PE.imp (ZbZ (v:=.str z) hg hm #[t,rfl] hd)<|by rintro Z H Q ⟨O,l,S,st,lr,h⟩;exact End.ok h st<|Xo z
end
end Sd
namespace Gn
open PySem PySem.Spec PyProof.Rows L2
open Ev (E Sm Fn Bop Cop Ty Bf Mf)
open Sd (Calls spF CompScope cxC hu7 xU u3)
structure FR where
 x:bx
 st:fG
 N:List bx
 k:Nat
noncomputable def FR.ps(r:FR):List bx:=r.N.take r.k
noncomputable def scB(N:List bx)(k:Nat)(sc:eX):Bool:=
 (match sc.kind with|.function=>aj|_=>ak)&&(!sc.isCoroutine&&(!sc.isGenerator&&(decide N.Nodup&&((N.take k).all (λx=>ae (sc.names.lookup x=aa .local)||decide (sc.names.lookup x=aa .cell))&&sc.names.all λy=>ae<|y.2≠.free))))
def Zdu(h:scB N k sc=aj):FnScope N (N.take k) sc:=by
 unfold scB at h;simp only[aF,nD,T0,aY,ig]at h;obtain⟨h1,h2,h3,h4,h5,h6⟩:=h;refine#[?_,h2,h3,h4,?_,h5,h6]
 .cases e:sc.kind<;>rw[e]at h1<;>first|rfl|cases h1
 .rw[bz]
  by_cases hk:k<=N.length
  .rw[lx hk]
  .rw[Nat.min_eq_right (by omega),fN,cp (by omega)]
inductive Gv where
 |int (n:Int)|tab (t:List (Int×Int))|str (x:bx)
 deriving DecidableEq
def Ze2(K:aq)(mg:bx->Option ap)(x:bx):Gv->Prop
 |.int n=>∃t:pb,mg x=aa (.int n t)
 |.str z=>∃t:pb,mg x=aa (.str z t)
 |.tab t=>∃tb:aJ,(∀P w,Sd.ZeY P w K tb t)/\mg x=aa (.ref tb)
structure Top(K:aq)(mg:bx->Option ap)(fs:List FR)(zs:List bx)(gs:List (bx×Gv))(f:Nat->aJ)(fd:Nat->c6):Prop where
 d:∀i r,fs[i]?=aa r->Fun K r.x r.x r.st (f i) (fd i)
 b:∀i r,fs[i]?=aa r->V1 K (fd i) r.ps []
 m:∀i r,fs[i]?=aa r->mg r.x=aa (.ref<|f i)
 z:∀x∈zs,mg x=ag
 g:∀y∈gs,Ze2 K mg y.1 y.2
def All(P:bC)(w:bU)(K:aq)(mg:bx->Option ap)(base:cc)(fs:List FR)(F:List Fn)(tk:Nat)(sn:List Nat)(f:Nat->aJ)(fd:Nat->c6)(d:Nat):Prop:=
 ∀i r,fs[i]?=aa r->FnOk P w K mg base CX0 d (f i) (fd i) r.ps (spF K (Pv.Zo F tk d) (sn.contains i) i)
def Bd(fs:List FR)(zs:List bx)(gs:List (bx×Gv))(F:List Fn)(tk:Nat)(sn:List Nat)(i:Nat)(r:FR)(fn:Fn):Prop:=
 ∀(P:bC)(w:bU)(K:aq)(mg:bx->Option ap)(base:cc)(f:Nat->aJ)(fd:Nat->c6)(d:Nat),Top K mg fs zs gs f fd->All P w K mg base fs F tk sn f fd d->r.N.Nodup->
  ∀(cdv:ap)(A:cL)(outer:List Env)(s:ax)(H:Hp)(E:XK),Room d (A.deeper<|iJ r.x (ZD r.st) s.heap.objs.size (f i) cdv)->(A.deeper<|iJ r.x (ZD r.st) s.heap.objs.size (f i) cdv).units+7<du->
   Sd.CSs (zC CX0 P w K mg base r.N r.x (ZD r.st) (f i) cdv A outer s H E).nox (λ_ _=>False) (sn.contains i) (Pv.Zo F tk d) (Pv.muts fn.body) (Yi r.st) fn.body
def OkL(fs:List FR)(zs:List bx)(gs:List (bx×Gv))(F:List Fn)(tk:Nat)(sn:List Nat):Nat->List FR->List Fn->Prop
 |_,[],[]=>True
 |i,r::rs,fn::fns=>(fn.ns=r.N.length/\fn.ps=r.ps.length/\scB r.N r.k (ZD r.st)=aj/\Bd fs zs gs F tk sn i r fn)/\OkL fs zs gs F tk sn (i+1) rs fns
 |_,_,_=>False
theorem OkL.get{fs:List FR}{zs:List bx}{gs:List (bx×Gv)}{F:List Fn}{tk:Nat}{sn:List Nat}:∀{rs:List FR}{fns:List Fn}{i0:Nat},OkL fs zs gs F tk sn i0 rs fns->∀i r,rs[i]?=aa r->∃fn,fns[i]?=aa fn/\fn.ns=r.N.length/\fn.ps=r.ps.length/\scB r.N r.k (ZD r.st)=aj/\Bd fs zs gs F tk sn (i0+i) r fn
 |[],_,_,_,i,r,e=>by simp at e
 |_::_,[],_,h,_,_,_=>h.elim
 |r::rs,fn::fns,i0,h,0,r',e=>by
  simp at e;subst e;exact#[fn,rfl,h.1.1,h.1.2.1,h.1.2.2.1,h.1.2.2.2]
 |r::rs,fn::fns,i0,h,i+1,r',e=>by
  obtain⟨g,a,b,c,d,q⟩:=OkL.get h.2 i r' (by simpa using e)
  exact#[g,by simpa using a,b,c,d,by rw[kB,m9 1 i]at q;exact q]
theorem jo{P:bC}{w:bU}{K:aq}{mg:bx->Option ap}{base:cc}{fs:List FR}{zs:List bx}{gs:List (bx×Gv)}{F:List Fn}{tk:Nat}{sn:List Nat}{f:Nat->aJ}{fd:Nat->c6}(O:OkL fs zs gs F tk sn 0 fs F)(hT:F[tk]?=aa Sd.Wj)(T:Top K mg fs zs gs f fd):∀d,All P w K mg base fs F tk sn f fd d
 |0=>λi r h=>xU
 |d+1=>λi r h=>by
  obtain⟨fn,a,b,c,e,q⟩:=O.get i r h;rw[Nat.zero_add]at q;have S:=Zdu e;have hb:=λcdv A outer s H E hr=>(q P w K mg base f fd d T (jo O hT T d) S.nd cdv A outer s H E hr<|hu7 hr)
  by_cases ht:i=tk
  .subst ht
   rw[hT]at a;cases a;exact Sd.jh Sd.Zbw b c (T.d i r h) S hb
  .exact Sd.jh (Sd.Zbb ht a) b c (T.d i r h) S hb
def Qa(r:FR):Prop:=∀(kV doc pm:ap)(an:Option aJ)(cdv ct:ap)(us:List ap),us.length=r.ps.length->oN (dW r.x r.x (YS r.st) (Yi r.st) (ZD r.st) .none kV doc pm an cdv ct) #[us,[]]=dg (r.ps.zip us)
section
variable{x:bx}{st:fG}
noncomputable abbrev bA(x:bx)(st:fG)(kV doc pm:ap)(an:Option aJ)(cdv ct:ap)(us:List ap):=oN (dW x x (YS st) (Yi st) (ZD st) .none kV doc pm an cdv ct) #[us,[]]
def bd1(h:∀kV doc pm an cdv ct a0,bA x st kV doc pm an cdv ct [a0]=dg ((N.take n).zip [a0]))(hl:(N.take n).length=1:=by rfl):Qa #[x,st,N,n]:=λkV doc pm an cdv ct us e=>match us,e.trans hl with|[a0],_=>h kV doc pm an cdv ct a0
def bd2(h:∀kV doc pm an cdv ct a0 a1,bA x st kV doc pm an cdv ct [a0,a1]=dg ((N.take n).zip [a0,a1]))(hl:(N.take n).length=2:=by rfl):Qa #[x,st,N,n]:=λkV doc pm an cdv ct us e=>match us,e.trans hl with|[a0,a1],_=>h kV doc pm an cdv ct a0 a1
def bd3(h:∀kV doc pm an cdv ct a0 a1 a2,bA x st kV doc pm an cdv ct [a0,a1,a2]=dg ((N.take n).zip [a0,a1,a2]))(hl:(N.take n).length=3:=by rfl):Qa #[x,st,N,n]:=λkV doc pm an cdv ct us e=>match us,e.trans hl with|[a0,a1,a2],_=>h kV doc pm an cdv ct a0 a1 a2
def bd4(h:∀kV doc pm an cdv ct a0 a1 a2 a3,bA x st kV doc pm an cdv ct [a0,a1,a2,a3]=dg ((N.take n).zip [a0,a1,a2,a3]))(hl:(N.take n).length=4:=by rfl):Qa #[x,st,N,n]:=λkV doc pm an cdv ct us e=>match us,e.trans hl with|[a0,a1,a2,a3],_=>h kV doc pm an cdv ct a0 a1 a2 a3
end
inductive FnsAt(K:aq):List FR->List aJ->List c6->Prop
 |nil:FnsAt K [] [] []
 |cons {x:bx} {st:fG} {N:List bx} {n:Nat} {a:aJ} {rs:List FR} {as:List aJ} {fds:List c6} {oc kV dc pm cd ct:ap} {od an:Option aJ} {sl:Array (Option ap)}
   (h1:fQ K cG x=aa (aa<|.ref a)) (h2:K.lookup a=aa #[oc,od,.func<|dW x x (YS st) (Yi st) (ZD st) .none kV dc pm an cd ct,sl])
   (h3:iK K cd x=aj) (h4:gA K (.ref a)=aj) (h5:Qa #[x,st,N,n]) (t:FnsAt K rs as fds) :
   FnsAt K (#[x,st,N,n]::rs) (a::as) (dW x x (YS st) (Yi st) (ZD st) .none kV dc pm an cd ct::fds)
inductive ZsAt(K:aq):List bx->Prop
 |nil:ZsAt K []
 |cons {x:bx} {zs:List bx} (h:fQ K cG x=aa ag) (t:ZsAt K zs):ZsAt K (x::zs)
inductive GsAt(K:aq):List (bx×Gv)->Prop
 |nil:GsAt K []
 |cons {x:bx} {n:Int} {u:pb} {gs:List (bx×Gv)} (h:fQ K cG x=aa (aa<|.int n u)) (t:GsAt K gs):GsAt K ((x,.int n)::gs)
 |tab {x:bx} {a:aJ} {es:Array fL} {n:Nat} {tb:List (Int×Int)} {gs:List (bx×Gv)} (h:fQ K cG x=aa (aa<|.ref a)) (h2:K.lookup a=aa #[.type "dict",ag,.dict es n,#[]]) (h3:Sd.Y0 es.toList tb) (h4:(a == c7)=ak) (t:GsAt K gs):GsAt K ((x,.tab tb)::gs)
 |str {x z:bx} {u:pb} {gs:List (bx×Gv)} (h:fQ K cG x=aa (aa<|.str z u)) (t:GsAt K gs):GsAt K ((x,.str z)::gs)
theorem GsAt.get{K:aq}{h:cc}{mg:bx->Option ap}(X:K.In h)(G:h.Ns cG mg):∀{gs:List (bx×Gv)},GsAt K gs->∀y∈gs,Ze2 K mg y.1 y.2
 |_,.nil,x,h=>by simp at h
 |_,.cons h t,x,m=>by
  rcases aB.mp m with rfl|m
  .exact#[_,kF X G h]
  .exact t.get X G x m
 |_,.str h t,x,m=>by
  rcases aB.mp m with rfl|m
  .exact#[_,kF X G h]
  .exact t.get X G x m
 |_,.tab h h2 h3 h4 t,x,m=>by
  rcases aB.mp m with rfl|m
  .exact#[_,λP w=>Sd.ZbW h2 h3 h4,kF X G h]
  .exact t.get X G x m
theorem FnsAt.get{K:aq}{fd0:c6}:∀{fs:List FR}{as:List aJ}{fds:List c6},FnsAt K fs as fds->∀i r,fs[i]?=aa r->
  fQ K cG r.x=aa (aa<|.ref<|as.getD i 0)/\Fun K r.x r.x r.st (as.getD i 0) (fds.getD i fd0)/\Qa r
 |_,_,_,.nil,i,r,e=>by simp at e
 |_,_,_,.cons h1 h2 h3 h4 h5 t,0,r,e=>by
  simp at e;subst e;exact#[h1,Zc7 h2 h3 h4,h5]
 |_,_,_,.cons h1 h2 h3 h4 h5 t,i+1,r,e=>by
  obtain⟨a,b,c⟩:=t.get i r (by simpa using e)
  exact#[by simpa using a,by simpa using b,c]
theorem ZsAt.get{K:aq}:∀{zs:List bx},ZsAt K zs->∀x∈zs,fQ K cG x=aa ag
 |_,.nil,x,h=>by simp at h
 |_,.cons h t,x,m=>by
  rcases aB.mp m with rfl|m
  .exact h
  .exact t.get x m
def ZcR{l:lv}{w:bU}{K:aq}{h:cc}{mg:bx->Option ap}{fa:aJ}{fs:List FR}{zs:List bx}{gs:List (bx×Gv)}{F:List Fn}{tk L:Nat}{sn:List Nat}{st:fG}{N:List bx}{as:List aJ}{fds:List c6}
  (X:K.In h)(G:h.Ns cG mg)(hfa:mg "law" = aa (.ref fa))(hL:fs[L]?=aa #["law",st,"_law_script" :: N,1])(O:OkL fs zs gs F tk sn 0 fs F)(hT:F[tk]?=aa Sd.Wj)(hLs:sn.contains L=ak)(A:FnsAt K fs as fds)(Z:ZsAt K zs)(Y:GsAt K gs) :
  ∃fd:c6,(∀(s:ax)(v:ap),mZ s fd #[[v],[]] [("_law_script",v)])/\∀base:cc,K.In base->base.Ns cG mg->FnOk l.prog w K mg base CX0 65 fa fd ["_law_script"] (spF K (Pv.Zo F tk 65) ak L):=by
 cases fds with
 |nil=>cases A;simp at hL
 |cons fd0 fds'=>
 have T:Top K mg fs zs gs (λi=>as.getD i 0) (λi=>(fd0::fds').getD i fd0):=
  #[λi r e=>(A.get i r e).2.1,λi r e=>by
   obtain⟨_,F,B⟩:=A.get (fd0:=fd0) i r e;exact F.binds B,λi r e=>kF X G (A.get (fd0:=fd0) i r e).1,λx hx=>PySem.W.mg_none_of X G<|Z.get x hx,λy hy=>Y.get X G y hy]
 have e:=hfa.symm.trans<|T.m L _ hL;obtain⟨_,Fu,B⟩:=A.get (fd0:=fd0) L _ hL;cases e;refine#[(fd0::fds').getD L fd0,λs v=>?_,λbase _ _=>?_]
 .obtain⟨oc,od,kV,doc,pm,an,cdv,ct,osl,e,lk,hcd⟩:=Fu.ex
  rw[e];exact .of_eq<|B kV doc pm an cdv ct [v] rfl
 .have:=jo (P:=l.prog) (w:=w) (base:=base) O hT T 65 L _ hL
  rw[hLs]at this;exact this
def walk{l:lv}{q:bC}{loose:List bx}{XP:(bx->Option ap)->cc->Prop}{YP:bU->cc->Prop}{d:DefRec}{K:Params->aq}{F:List Fn}{tk L:Nat}(hok:∀(ns:List Int) s,∃S,Pv.Zo F tk 65 L [.scr ns] s=.ok (.bl aj) S)(hn:l.most=aa 63)(hdf:d.params.defaults=[])
  (hY:∀(w:bU)(h:cc),YP w h->(K w.params).In h)
  (hF:∀(w:bU)(mg:bx->Option ap)(fa:aJ)(h:cc),(K w.params).In h->h.Ns cG mg->mg d.name=aa (.ref fa)->
   ∃fd:c6,(∀(s:ax)(u:ap),mZ s fd #[[u],[]] [("_law_script",u)])/\∀base:cc,(K w.params).In base->base.Ns cG mg->FnOk l.prog w (K w.params) mg base CX0 65 fa fd ["_law_script"] (spF (K w.params) (Pv.Zo F tk 65) ak L)) :
  pi q loose XP YP l.row.toRowW d [] (λf vs=>oQ f vs):=
 L2.ZbO (n:=63) (k:=65) (x:="_law_script") (CX:=λ_=>CX0) (sp:=λw=>spF (K w.params) (Pv.Zo F tk 65) ak L) hn (by decide) hdf #[rfl,by decide,by decide] hY hF (λw H a ns hl hO hS=>u3 hO hS<|hok ns) λ_ _ _ _ _ z=>z
def Top.no{K:aq}{mg:bx->Option ap}{x:bx}(T:Top K mg fs zs gs f fd)(h:zs.contains x=aj):mg x=ag:=T.z x (by simpa using h)
def Zen{n:Nat}{x:bx}(T:Top X.K X.mg fs zs gs f fd)(h:All X.prog X.w X.K X.mg X.base fs F tk sn f fd d)(hr:Room d X.A)(ha:Sd.CA X (λ_ _=>False) (Pv.Zo F tk d) (e::es) is)(hx:(fs[n]?).map FR.x=aa x)(hg:Gl X x)(hdb:(x == ("__debug__" : bx))=ak)
  (he:aE (e::es) X.env=(ak,cD e X.env)::aE es X.env)(hpl:(dz pos<|aE es X.env).any (·.1)=ak):Sd.CE X (λ_ _=>False) (Pv.Zo F tk d) (.Call (.Name x p) (e::es) [] pos) (.call n is):=by
 cases e0:fs[n]? with
 |none=>rw[e0]at hx;cases hx
 |some r=>
  rw[e0]at hx;obtain rfl:r.x=x:=al hx;exact Sd.Zbh (h n r e0) hr (T.m n r e0) (T.d n r e0).kp (T.b n r e0) ha hg hdb he hpl
def Zeo{x y:bx}{n k:Nat}{px p':gW}{ss:List fG}{B:List Sm}{fr:Bool}{ns:List Nat}(T:Top X.K X.mg fs zs gs f fd)(h:All X.prog X.w X.K X.mg X.base fs F tk sn f fd d)(hr:Room d X.A)(ha:Sd.CA X (λ_ _=>False) (Pv.Zo F tk d) (e::es) is)(hB:Sd.CSs X (λ_ _=>False) fr (Pv.Zo F tk d) ns ss B)(hN:X.N.Nodup)(hx:(fs[k]?).map FR.x=aa y)(hk:sn.contains k=aj)
  (hg:Gl X y)(hdb:(y == ("__debug__" : bx))=ak)(he:aE (e::es) X.env=(ak,cD e X.env)::aE es X.env)(hpl:(dz p<|aE es X.env).any (·.1)=ak)(hi:X.N[n]?=aa x)(hl:L2.Loc X.env.scope x)(hf:X.fn x=aj\/X.env.scope.names.lookup x=aa .local)
  (hs:dF [.Name x px] (.Call (.Name y p') (e::es) [] p) pos.line X.env=dg ak)(hw:dG [.Name x px] (.Call (.Name y p') (e::es) [] p) X.env=dg ag)(h1:(cu [.Name x px] X.env).map (·.2)=[dZ (.Name x px) X.env]) :
  Sd.CSs X (λ_ _=>False) fr (Pv.Zo F tk d) ns (.Assign [.Name x px] (.Call (.Name y p') (e::es) [] p) pos::ss) [.cel n k is B]:=by
 cases e0:fs[k]? with
 |none=>rw[e0]at hx;cases hx
 |some r=>
  rw[e0]at hx;obtain rfl:r.x=y:=al hx;have q:=h k r e0;rw[hk]at q;refine Sd.ZdV (Sd.PE.imp (yY q hr hg (T.m k r e0) (T.d k r e0).kp (T.b k r e0) .nil Zcm ha.h hdb he hpl) λZ H Q z=>?_) hB hN hi hl hf hs hw h1
  unfold Zb2;simp only[bS];exact z
def Zex{z:bx}{x:bx}(T:Top X.K X.mg fs zs gs f fd)(h:gs.contains (x,.str z)=aj)(hg:Gl X x)(hd:(x == ("__debug__" : bx))=ak):Sd.CE X xw C (.Name x p) (.c<|.str z):=by
 obtain⟨t,e⟩:=T.g (x,.str z) (by simpa using h)
 exact Sd.Zbq e hg hd
noncomputable def csB(sc:eX)(N0:List bx)(scope:eX)(N:List bx)(cap:List Nat)(nl:Nat):Bool:=
 ((N.take nl).all (λx=>ae (scope.names.lookup x=aa .local)||decide (scope.names.lookup x=aa .cell))&&(ae (N.length=nl+cap.length)&&(cap.zipIdx.all (λp=>ae (N[nl+p.2]?=N0[p.1]?)&&ae ((N0[p.1]?).map (λx=>ae<|(x,bJ)∈scope.names)=aa aj)) &&
  ((match scope.kind with|.function=>aj|_=>ak)&&scope.names.all λy=>(!decide (y.2=.cell) || !decide ((y.1,bJ)∈scope.names))&&((!decide (y.2=.local)||decide (scope.names.lookup y.1=aa .local))&&(!decide (y.2=.free)||((ae (sc.names.lookup y.1=aa .cell)||decide (sc.names.lookup y.1=aa .free))&&ae (scope.names.lookup y.1≠aa .local))))))))
def Zdn{sc:eX}{N0:List bx}{scope:eX}{N:List bx}{cap:List Nat}{nl:Nat}(h:csB sc N0 scope N cap nl=aj):CompScope sc N0 scope N cap nl:=by
 unfold csB at h;simp only[aF,ig,nD,T0,decide_eq_false_iff_not,aY]at h;obtain⟨_,h1,h2,h3,h4⟩:=h;refine#[?_,λy hy z=>(h4 y hy).1.resolve_left λq=>q z,λy hy z=>?_,λy hy z=>?_,λy hy z=>?_,h1,h2]
 .cases e:scope.kind<;>rw[e]at h3<;>first|rfl|cases h3
 .rcases(h4 y hy).2.1 with q|q
  .exact T7 z q
  .exact q
 .rcases(h4 y hy).2.2 with q|q
  .exact T7 z q
  .exact q.1
 .rcases(h4 y hy).2.2 with q|q
  .exact T7 z q
  .exact q.2
noncomputable def cN(scope:eX)(nl:Nat)(cap:List Nat)(N0:List bx):List bx:=((scope.names.drop 1).take nl).map (·.1)++cap.map λi=>N0.getD i ""
def v9{sc:eX}{N0:List bx}{scope:eX}{cap:List Nat}{nl:Nat}(h:csB sc N0 scope (cN scope nl cap N0) cap nl=aj):CompScope sc N0 scope (cN scope nl cap N0) cap nl:=Zdn h
end Gn
namespace K91
open Ev
noncomputable def UI:Fn:=#[2,2,
 [.ite (.cmp .lt (.v 1)<|.blt .len [(.v 0)]) [.ret<|.ix (.v 0)<|.v 1] [],
  .ret (.c<|.int 0)]]
noncomputable def JK:Fn:=#[2,3,
 [.asg [2]<|.call 0 [(.v 0),(.v 1)],
  .ite (.cmp .ge (.v 2)<|.bin .pow (.c<|.int 10)<|.c<|.int 18) [.ret<|.lst [(.bin .sub (.v 2)<|.bin .pow (.c<|.int 10)<|.c<|.int 18),(.c<|.bl aj)]] [],
  .ret (.lst [(.bin .mod (.v 2)<|.c<|.int 2147483647),(.c<|.bl ak)])]]
noncomputable def zH:Fn:=#[2,4,
 [.ite (.dix (.v 0) aj) [.asg [2]<|.bin .mod (.dix (.v 0) ak)<|.v 1,
  .dset 0 (.bin .fdiv (.dix (.v 0) ak)<|.v 1),
  .ret (.v 2)] [],
  .dset 0 (.bin .mod (.bin .add (.bin .mul (.dix (.v 0) ak)<|.c<|.int 48271)<|.c<|.int 29)<|.c<|.int 2147483647),
  .asg [3] (.bin .mod (.bin .add (.bin .add (.bin .mul (.dix (.v 0) ak)<|.dix (.v 0) ak)<|.bin .mul (.c<|.int 39373)<|.dix (.v 0) ak)<|.c<|.int 7)<|.c<|.int 2147483629),
  .asg [3] (.bin .mod (.bin .add (.bin .mul (.v 3)<|.v 3)<|.bin .mul (.c<|.int 16807)<|.v 3)<|.c<|.int 2147483587),
  .ret (.bin .mod (.bin .fdiv (.v 3)<|.c<|.int 8)<|.v 1)]]
noncomputable def Xn:Fn:=#[2,3,
 [.asg [2]<|.lst [(.tup [(.c<|.int 2),(.c<|.int 1)]),(.tup [(.c<|.int 2),(.c<|.int 2)]),(.tup [(.c<|.int 2),(.c<|.int 3)]),(.tup [(.c<|.int 2),(.c<|.int 4)]),(.tup [(.c<|.int 3),(.c<|.int 1)]),(.tup [(.c<|.int 3),(.c<|.int 2)]),(.tup [(.c<|.int 3),(.c<|.int 3)]),(.tup [(.c<|.int 5),(.c<|.int 1)]),(.tup [(.c<|.int 5),(.c<|.int 2)]),(.tup [(.c<|.int 2),(.c<|.int 3)]),(.tup [(.c<|.int 2),(.c<|.int 4)]),(.tup [(.c<|.int 3),(.c<|.int 3)])],
  .ite (.cmp .gt (.v 1)<|.c<|.int 27) [.asg [2]<|.bin .add (.v 2)<|.lst [(.tup [(.c<|.int 2),(.c<|.int 5)]),(.tup [(.c<|.int 2),(.c<|.int 6)]),(.tup [(.c<|.int 3),(.c<|.int 4)]),(.tup [(.c<|.int 5),(.c<|.int 3)])]] [],
  .ret (.ix (.v 2)<|.call 2 [(.v 0),(.blt .len [(.v 2)])])]]
noncomputable def Xw:Fn:=#[1,1,
 [.ret<|.ix (.bin .add (.comp1 [0] 1 [0] (.rng1<|.blt .len [(.v 0)]) [(.cmp .ne (.ix (.v 1)<|.v 0)<|.c<|.int 0)]<|.v 0)<|.lst [(.blt .len [(.v 0)])])<|.c<|.int 0]]
noncomputable def XS:Fn:=#[2,6,
 [.asg [2]<|.blt .sortedS [(.comp1 [] 1 [0] (.of<|.v 1) [(.blt .any [(.v 0)])]<|.call 4 [(.v 0)])],
  .asg [3] (.lst []),
  .forr [4] (.of<|.v 2) [.forr [5] (.of<|.v 1) [.ite (.and (.cmp .eq (.ix (.v 5)<|.v 4)<|.c<|.int 1)<|.cmp .eq (.call 4 [(.v 5)])<|.v 4) [.ite (.cmp .eq (.comp1 [4,5] 1 [0] (.of<|.v 2) [(.and (.cmp .ne (.v 0)<|.v 1)<|.cmp .ne (.ix (.v 2)<|.v 0)<|.c<|.int 0)]<|.v 0)<|.lst []) [.ex<|.mt .append (.v 3) [(.v 5)]] []] []]],
  .ret (.blt .tuple [(.v 3)])]]
noncomputable def Wq:Fn:=#[2,3,
 [.asg [2]<|.bin .mul (.call 2 [(.v 0),(.bin .add (.ix (.v 1)<|.c<|.int 1)<|.c<|.int 1)])<|.blt .toInt [(.cmp .eq (.call 2 [(.v 0),(.c<|.int 3)])<|.c<|.int 0)],
  .ret (.bin .add (.bin .mul (.tup [(.c<|.int 0)])<|.v 2)<|.blt .tuple [(.comp1 [0,1] 1 [0] (.rng1<|.bin .sub (.ix (.v 1)<|.c<|.int 1)<|.v 2) []<|.call 2 [(.v 1),(.ix (.v 2)<|.c<|.int 0)])])]]
noncomputable def G6:Fn:=#[4,4,
 [.ret<|.blt .tuple [(.comp1 [1,2,3,0] 1 [0] (.rng1<|.ix (.v 0)<|.c<|.int 1) []<|.bin .mod (.bin .add (.ix (.v 1)<|.v 0)<|.bin .mul (.v 2)<|.ix (.v 3)<|.v 0)<|.ix (.v 4)<|.c<|.int 0)]]]
noncomputable def J7:Fn:=#[2,6,
 [.dnw 2<|.bin .mul (.tup [(.c<|.int 0)])<|.ix (.v 0)<|.c<|.int 1,
  .forr [3] (.of<|.v 1) [.ite (.cmp .nin (.v 3)<|.v 2) [.forF [4] (.blt .listD [(.v 2)]) [.forr [5] (.rng2 (.c<|.int 1)<|.ix (.v 0)<|.c<|.int 0) [.dput (.v 2) (.call 7 [(.v 0),(.v 4),(.v 5),(.v 3)])<|.c<|.bl aj]]] []],
  .ret (.blt .sortedD [(.v 2)])]]
noncomputable def XN:Fn:=#[2,3,
 [.asg [2]<|.comp1 [0,1] 1 [0] (.rng1<|.call 2 [(.v 0),(.bin .add (.ix (.v 1)<|.c<|.int 1)<|.c<|.int 1)]) []<|.call 6 [(.v 1),(.v 2)],
  .ret (.call 5 [(.v 1),(.call 8 [(.v 1),(.v 2)])])]]
noncomputable def Js:Fn:=#[1,1,
 [.ret<|.comp1 [0] 1 [0] (.rng1<|.ix (.v 0)<|.c<|.int 1) []<|.blt .tuple [(.comp1 [0] 1 [0] (.rng1<|.ix (.v 1)<|.c<|.int 1) []<|.blt .toInt [(.cmp .eq (.v 0)<|.v 1)])]]]
noncomputable def XH:Fn:=#[2,8,
 [.asg [2]<|.tup [],
  .asg [3] (.lst [(.bin .mul (.tup [(.c<|.int 0)])<|.ix (.v 1)<|.c<|.int 1)]),
  .asg [4] (.call 8 [(.v 1),(.call 10 [(.v 1)])]),
  .forr [5] (.rng1<|.ix (.v 1)<|.c<|.int 1) [.asg [6]<|.blt .dictP [(.comp1 [] 1 [0] (.of<|.v 3) []<|.tup [(.v 0),(.c<|.bl aj)])],
  .asg [7] (.comp1 [6] 1 [0] (.of<|.v 4) [(.cmp .nin (.v 0)<|.v 1)]<|.v 0),
  .asg [2] (.bin .add (.v 2)<|.tup [(.ix (.v 7)<|.call 2 [(.v 0),(.blt .len [(.v 7)])])]),
  .asg [3] (.call 8 [(.v 1),(.v 2)])],
  .ret (.v 2)]]
noncomputable def Wk:Fn:=#[1,1,
 [.ret<|.sop .join (.c<|.str<|az "")<|.comp1 [] 1 [0] (.of<|.v 0) []<|.sop .ix (.c<|.str<|az "01234")<|.v 0]]
noncomputable def XU:Fn:=#[1,1,
 [.ret<|.sop .join (.c<|.str<|az "/")<|.comp1 [] 1 [0] (.of<|.v 0) []<|.call 12 [(.v 0)]]]
noncomputable def Xv:Fn:=#[1,1,
 [.ret<|.ite (.v 0) (.call 13 [(.v 0)])<|.c<|.str<|az "none"]]
noncomputable def XG:Fn:=#[1,1,
 [.ite (.not<|.isi (.v 0) [.str]) [.raise 1 []] [],
  .ret (.blt .tuple [(.comp1 [] 1 [0] (.of<|.sop .split (.v 0)<|.c<|.str<|az "/") []<|.blt .tuple [(.comp1 [] 1 [0] (.sgn<|.v 0) []<|.sop .find (.c<|.str<|az "01234")<|.v 0)])])]]
noncomputable def wC:Fn:=#[1,3,
 [.forr [1,2] (.enum<|.v 0) [.ite (.cmp .ne (.v 2)<|.c<|.int 0) [.ret<|.v 1] []],
  .ret (.c .non)]]
noncomputable def Vr:Fn:=#[1,1,
 [.ret<|.blt .all [(.comp1 [] 2 [0,1] (.zip (.v 0)<|.sl (.v 0) (aa<|.c<|.int 1) ag) []<|.cmp .lt (.v 0)<|.v 1)]]]
noncomputable def WO:Fn:=#[2,2,
 [.ret<|.blt .all [(.comp1 [1] 1 [0] (.of<|.v 0) []<|.cmp .eq (.ix (.v 0)<|.v 1)<|.c<|.int 0)]]]
noncomputable def XA:Fn:=#[3,3,
 [.ret<|.and (.cmp .eq (.ix (.ix (.v 0)<|.v 1)<|.v 2)<|.c<|.int 1)<|.call 18 [(.bin .add (.sl (.v 0) ag<|aa<|.v 1)<|.sl (.v 0) (aa<|.bin .add (.v 1)<|.c<|.int 1) ag),(.v 2)]]]
noncomputable def YI:Fn:=#[3,3,
 [.ret<|.and (.isi (.v 0) [.int])<|.and (.not<|.isi (.v 0) [.bool])<|.chain .le .le (.v 1) (.v 0)<|.v 2]]
noncomputable def GE:Fn:=#[2,4,
 [.asg [2,3]<|.v 0,
  .ite (.or (.not<|.isi (.v 1) [.tuple])<|.cmp .ne (.blt .len [(.v 1)])<|.v 3) [.ret<|.c<|.bl ak] [],
  .ret (.blt .all [(.comp1 [2] 1 [0] (.of<|.v 1) []<|.call 20 [(.v 0),(.c<|.int 0),(.bin .sub (.v 1)<|.c<|.int 1)])])]]
noncomputable def W7:Fn:=#[2,3,
 [.ite (.or (.not<|.isi (.v 1) [.tuple])<|.not<|.blt .all [(.comp1 [0] 1 [0] (.of<|.v 1) []<|.call 21 [(.v 1),(.v 0)])]) [.ret<|.c<|.bl ak] [],
  .asg [2] (.comp1 [] 1 [0] (.of<|.v 1) []<|.call 16 [(.v 0)]),
  .ite (.or (.cmp .inn (.c .non)<|.v 2)<|.not<|.call 17 [(.v 2)]) [.ret<|.c<|.bl ak] [],
  .ret (.blt .all [(.comp1 [1] 2 [0,1] (.enum<|.v 2) []<|.call 19 [(.v 2),(.v 0),(.v 1)])])]]
noncomputable def Xy:Fn:=#[2,3,
 [.asg [2]<|.ite (.cmp .eq (.v 1)<|.c<|.str<|az "none") (.tup [])<|.call 15 [(.v 1)],
  .ite (.not<|.call 22 [(.v 0),(.v 2)]) [.raise 1 []] [],
  .ret (.v 2)]]
noncomputable def XT:Fn:=#[1,1,
 [.ret<|.call 13 [(.v 0)]]]
noncomputable def YT:Fn:=#[2,2,
 [.ite (.isi (.v 1) [.list,.tuple]) [.ite (.or (.cmp .ne (.isi (.v 0) [.list])<|.isi (.v 1) [.list])<|.cmp .ne (.isi (.v 0) [.tuple])<|.isi (.v 1) [.tuple]) [.ret<|.c<|.bl ak] [],
  .ret (.and (.cmp .eq (.blt .len [(.v 0)])<|.blt .len [(.v 1)])<|.blt .all [(.comp1 [] 2 [0,1] (.zip (.v 0)<|.v 1) []<|.call 25 [(.v 0),(.v 1)])])] [],
  .ret (.and (.cmp .eq (.isi (.v 0) [.bool])<|.isi (.v 1) [.bool])<|.cmp .eq (.v 0)<|.v 1)]]
noncomputable def Yo:Fn:=#[1,1,
 [.ret<|.sop .join (.c<|.str<|az "/")<|.comp1 [] 1 [0] (.of<|.v 0) []<|.sop .join (.c<|.str<|az "")<|.comp1 [] 1 [0] (.of<|.v 0) []<|.blt .strI [(.v 0)]]]
noncomputable def Yr:Fn:=#[1,1,
 [.ite (.cmp .eq (.v 0)<|.tup []) [.ret<|.c<|.str<|az "none"] [],
  .ret (.call 26 [(.v 0)])]]
noncomputable def WT:Fn:=#[4,4,
 [.ret<|.blt .tuple [(.comp1 [3,0] 2 [0,1] (.zip (.v 1)<|.v 2) []<|.bin .mod (.bin .add (.v 0)<|.bin .mul (.v 2)<|.v 1)<|.v 3)]]]
noncomputable def QD:Fn:=#[4,4,
 [.ret<|.call 28 [(.v 0),(.v 1),(.v 2),(.neg<|.ix (.v 1)<|.v 3)]]]
noncomputable def zL:Fn:=#[3,7,
 [.asg [3,4]<|.v 0,
  .asg [5] (.v 2),
  .forr [6] (.of<|.v 1) [.asg [5]<|.call 29 [(.v 3),(.v 5),(.v 6),(.call 16 [(.v 6)])]],
  .ret (.v 5)]]
noncomputable def JN:Fn:=#[3,3,
 [.ret<|.blt .tuple [(.comp1 [2,0] 1 [0] (.of<|.v 1) []<|.bin .mod (.bin .mul (.v 1)<|.v 0)<|.v 2)]]]
noncomputable def Qn:Fn:=#[2,3,
 [.asg [2]<|.c<|.int 1,
  .whl (.cmp .ne (.bin .mod (.bin .mul (.v 2)<|.v 1)<|.v 0)<|.c<|.int 1) [.aug 2 .add<|.c<|.int 1],
  .ret (.v 2)]]
noncomputable def X3:Fn:=#[3,9,
 [.asg [3,4]<|.v 0,
  .asg [5] (.call 30 [(.v 0),(.v 1),(.v 2)]),
  .asg [6] (.call 16 [(.v 5)]),
  .ite (.cmp .is (.v 6)<|.c .non) [.ret<|.v 1] [],
  .asg [7] (.call 31 [(.v 3),(.v 5),(.call 32 [(.v 3),(.ix (.v 5)<|.v 6)])]),
  .asg [8] (.comp1 [3,7,6] 1 [0] (.of<|.v 1) []<|.call 29 [(.v 1),(.v 0),(.v 2),(.v 3)]),
  .ret (.blt .tuple [(.blt .sortedR [(.bin .add (.v 8)<|.lst [(.v 7)])])])]]
noncomputable def Z8:Fn:=#[3,5,
 [.asg [3]<|.v 1,
  .forr [4] (.of<|.v 2) [.asg [3]<|.call 33 [(.v 0),(.v 3),(.v 4)]],
  .ret (.v 3)]]
noncomputable def vj:Fn:=#[2,4,
 [.asg [2,3]<|.v 0,
  .ite (.or (.not<|.isi (.v 1) [.tuple])<|.cmp .ne (.blt .len [(.v 1)])<|.v 3) [.ret<|.c<|.bl ak] [],
  .ret (.and (.blt .all [(.comp1 [0] 1 [0] (.of<|.v 1) []<|.call 21 [(.v 1),(.v 0)])])<|.cmp .eq (.blt .len [(.call 34 [(.v 0),(.tup []),(.v 1)])])<|.v 3)]]
noncomputable def XR:Fn:=#[2,3,
 [.asg [2]<|.call 15 [(.v 1)],
  .ite (.not<|.call 35 [(.v 0),(.v 2)]) [.raise 1 []] [],
  .ret (.v 2)]]
noncomputable def Zfe:Fn:=#[1,7,
 [.forr [1] (.rng1<|.blt .max2 [(.c<|.int 1),(.blt .min2 [(.blt .len [(.v 0)]),(.c<|.int 8)])]) [.cel 2 1 [(.v 0),(.v 1)]
  [.asg [3]<|.call 3 [(.v 2),(.c<|.int 125)],
  .par [4,5] [(.call 9 [(.v 2),(.v 3)]),(.call 11 [(.v 2),(.v 3)])],
  .forr [6] (.rng1<|.c<|.int 2) [.ite (.not<|.call 25 [(.call 14 [(.v 4)]),(.call 27 [(.v 4)])]) [.ret<|.c<|.bl ak] [],
  .ite (.not<|.call 25 [(.call 24 [(.v 5)]),(.call 26 [(.v 5)])]) [.ret<|.c<|.bl ak] [],
  .ite (.not<|.call 25 [(.call 23 [(.v 3),(.call 27 [(.v 4)])]),(.v 4)]) [.ret<|.c<|.bl ak] [],
  .ite (.not<|.call 25 [(.call 36 [(.v 3),(.call 26 [(.v 5)])]),(.v 5)]) [.ret<|.c<|.bl ak] []]]],
  .ret (.and (.cmp .eq (.call 14 [(.tup [])])<|.c<|.str<|az "none")<|.and (.cmp .eq (.call 23 [(.tup [(.c<|.int 3),(.c<|.int 2)]),(.c<|.str<|az "01")])<|.tup [(.tup [(.c<|.int 0),(.c<|.int 1)])])<|.cmp .eq (.call 24 [(.tup [(.tup [(.c<|.int 2)])])])<|.c<|.str<|az "2")]]
noncomputable def fns:List Fn:=[UI,JK,zH,Xn,Xw,XS,Wq,G6,J7,XN,Js,XH,Wk,XU,Xv,XG,wC,Vr,WO,XA,YI,GE,W7,Xy,XT,YT,Yo,Yr,WT,QD,zL,JN,Qn,X3,Z8,vj,XR,Zfe]
noncomputable abbrev tk:Nat:=2
noncomputable abbrev sn:List Nat:=[1]
end K91
namespace La
variable{F:Type}[mn F]
noncomputable abbrev Vec(F:Type):=Nat->F
noncomputable abbrev Pt(F:Type):=List<|Nat×Vec F
noncomputable def pr:Pt F->Vec F->Vec F
 |[],_,_=>0
 |a::P,v,j=>v a.1*a.2 j+pr P v j
structure Rf(P:Pt F):Prop where
 inc:P.Pairwise λa b=>a.1<b.1
 low:∀a∈P,∀j,j<a.1->a.2 j=0
 one:∀a∈P,a.2 a.1=1
 zer:∀a∈P,∀b∈P,a.1≠b.1->b.2 a.1=0
def Mem(P:Pt F)(v:Vec F):Prop:=∀j,v j=pr P v j
theorem Zdt(P:Pt F)(u v:Vec F)(c:F)(j:Nat):pr P (λj=>u j+c*v j) j=pr P u j+c*pr P v j:=by
 induction P with|nil=>show(0:F)=0+c*0;grind|cons a P ih=>show(u a.1+c*v a.1)*a.2 j+pr P _ j=(u a.1*a.2 j+pr P u j)+c*(v a.1*a.2 j+pr P v j);grind
theorem Ju(P:Pt F)(u v:Vec F)(c:F)(j:Nat):pr P (λj=>u j-c*v j) j=pr P u j-c*pr P v j:=by
 induction P with|nil=>show(0:F)=0-c*0;grind|cons a P ih=>show(u a.1-c*v a.1)*a.2 j+pr P _ j=(u a.1*a.2 j+pr P u j)-c*(v a.1*a.2 j+pr P v j);grind
def GW{P:Pt F}{u v:Vec F}(h:∀b∈P,u b.1=v b.1)(j:Nat):pr P u j=pr P v j:=by
 induction P with
 |nil=>rfl
 |cons a P ih=>
  show u a.1*a.2 j+pr P u j=v a.1*a.2 j+pr P v j;rw[h a<|am ..,ih λb hb=>h b<|ai _ hb]
theorem Xl{P:Pt F}{v:Vec F}{j:Nat}(h:∀b∈P,v b.1*b.2 j=0):pr P v j=0:=by
 induction P with
 |nil=>rfl
 |cons a P ih=>
  show v a.1*a.2 j+pr P v j=0;rw[h a<|am ..,ih λb hb=>h b<|ai _ hb];grind
theorem x4{P:Pt F}{v:Vec F}{j:Nat}{a:Nat×Vec F}(inc:P.Pairwise λa b=>a.1<b.1)(ha:a∈P)(h:∀b∈P,b.1≠a.1->v b.1*b.2 j=0):pr P v j=v a.1*a.2 j:=by
 induction P with
 |nil=>cases ha
 |cons b P ih=>
  rw[bm]at inc;show v b.1*b.2 j+pr P v j=_;rcases aB.mp ha with e|hm
  .subst e
   rw[Xl λc hc=>h c (ai _ hc) (by have:=inc.1 c hc;lia)];grind
  .rw[ih inc.2 hm λc hc=>h c<|ai _ hc,h b (am ..) (by have:=inc.1 a hm;lia)];grind
def Rf.tail{a:Nat×Vec F}{P:Pt F}(h:Rf (a::P)):Rf P:=
 #[(bm.mp h.inc).2,λb hb=>h.low b<|ai _ hb,λb hb=>h.one b<|ai _ hb,λb hb c hc=>h.zer b (ai _ hb) c<|ai _ hc]
def Rf.nil:Rf ([]:Pt F):=#[kh,λ_ h=>(by cases h),λ_ h=>(by cases h),λ_ h=>(by cases h)]
theorem xc{P:Pt F}(h:Rf P){a:Nat×Vec F}(ha:a∈P)(v:Vec F):pr P v a.1=v a.1:=by
 rw[x4 h.inc ha λb hb ne=>by rw[h.zer a ha b hb<|Ne.symm ne];grind,h.one a ha];grind
theorem XX{P:Pt F}(h:Rf P){a:Nat×Vec F}(ha:a∈P):Mem P a.2:=λj=>by
 rw[x4 h.inc ha λb hb ne=>by rw[h.zer b hb a ha ne];grind,h.one a ha];grind
def WM(c:F)(hu:Mem P u)(hv:Mem P v):Mem P λj=>u j+c*v j:=λj=>by
 rw[Zdt,<-hu j,<-hv j]
def J2(c:F)(hu:Mem P u)(hv:Mem P v):Mem P λj=>u j-c*v j:=λj=>by
 rw[Ju,<-hu j,<-hv j]
theorem WZ{P:Pt F}:Mem P λ_=>0:=λj=>(Xl λb _=>by grind).symm
def ud{P:Pt F}(h:Rf P)(v:Vec F):Mem P (pr P v):=λj=>GW (λb hb=>(xc h hb v).symm) j
theorem qr{P:Pt F}{v:Vec F}(h:Mem P v)(z:∀b∈P,v b.1=0)(j:Nat):v j=0:=by
 rw[h j];exact Xl λb hb=>by rw[z b hb];grind
theorem zk{P:Pt F}(h:Rf P){v:Vec F}(hv:Mem P v){k:Nat}(hk:v k≠0)(hl:∀j,j<k->v j=0):∃a∈P,a.1=k:=by
 have inc:=h.inc;have low:=h.low;have gen:∀Q:Pt F,Q.Pairwise (λa b=>a.1<b.1)->(∀a∈Q,∀j,j<a.1->a.2 j=0)->(∀j,v j=pr Q v j)->∃a∈Q,v a.1≠0/\∀j,j<a.1->v j=0:=by
  intro Q
  induction Q with
  |nil=>intro _ _ e;exact T7 (e k) hk
  |cons a Q ih=>
   intro inc low e;rw[bm]at inc;by_cases c:v a.1=0
   .obtain⟨b,hb,r⟩:=ih inc.2 (λb hb=>low b<|ai _ hb) λj=>by
     have:v j=v a.1*a.2 j+pr Q v j:=e j;rw[c]at this;grind
    exact#[b,ai _ hb,r]
   .refine#[a,am ..,c,λj hj=>?_]
    have e1:v j=v a.1*a.2 j+pr Q v j:=e j;have e2:pr Q v j=0:=Xl λb hb=>by rw[low b (ai _ hb) j (by have:=inc.1 b hb;lia)];grind
    rw[e1,e2,low a (am ..) j hj];grind
 obtain⟨a,ha,h1,h2⟩:=gen P inc low hv;refine#[a,ha,?_];by_cases c:a.1<k
 .exact T7 (hl _ c) h1
 .by_cases c2:k<a.1
  .exact T7 (h2 _ c2) hk
  .lia
def UW{P Q:Pt F}(one0:(1:F)≠0)(hP:Rf P)(hQ:Rf Q)(h:∀v,Mem P v->Mem Q v):∀a∈P,∃b∈Q,b.1=a.1:=λa ha=>
 zk hQ (h _<|XX hP ha) (by rw[hP.one a ha];exact one0) (hP.low a ha)
theorem Q8:∀{a b:List Nat},a.Pairwise (· < ·)->b.Pairwise (· < ·)->(∀x,x∈a↔x∈b)->a=b
 |[],[],_,_,_=>rfl
 |[],y::b,_,_,h=>by have:=(h y).mpr<|am ..;cases this
 |x::a,[],_,_,h=>by have:=(h x).mp<|am ..;cases this
 |x::a,y::b,ha,hb,h=>by
  rw[bm]at ha hb;have e:x=y:=by
   rcases aB.mp ((h x).mp<|am ..)with e|e
   .exact e
   .rcases aB.mp ((h y).mpr<|am ..)with e'|e'
    .exact e'.symm
    .have:=hb.1 x e;have:=ha.1 y e';lia
  subst e;rw[Q8 ha.2 hb.2 λz=>?_]
  constructor
  .intro hz
   rcases aB.mp ((h z).mp<|ai _ hz)with e|e
   .have:=ha.1 z hz;lia
   .exact e
  .intro hz
   rcases aB.mp ((h z).mpr<|ai _ hz)with e|e
   .have:=hb.1 z hz;lia
   .exact e
def Rf.heads{P:Pt F}(h:Rf P):(P.map (·.1)).Pairwise (· < ·):=cS.mpr h.inc
theorem uniq{P Q:Pt F}(one0:(1:F)≠0)(hP:Rf P)(hQ:Rf Q)(h:∀v,Mem P v↔Mem Q v):P=Q:=by
 have eh:=Q8 hP.heads hQ.heads λx=>by
  constructor
  .intro hx
   obtain⟨a,ha,rfl⟩:=aO.mp hx;obtain⟨b,hb,e⟩:=UW one0 hP hQ (λv=>(h v).mp) a ha
   exact aO.mpr #[b,hb,e]
  .intro hx
   obtain⟨a,ha,rfl⟩:=aO.mp hx;obtain⟨b,hb,e⟩:=UW one0 hQ hP (λv=>(h v).mpr) a ha
   exact aO.mpr #[b,hb,e]
 have ev:∀a∈P,∀b∈Q,a.1=b.1->a.2=b.2:=by
  intro a ha b hb e;have hd:=J2 1 (XX hP ha)<|(h _).mpr<|XX hQ hb
  funext j
  have:=qr hd (λc hc=>by
   have:c.1∈Q.map (·.1):=by rw[<-eh];exact aO.mpr #[c,hc,rfl]
   obtain⟨c',hc',ec⟩:=aO.mp this;by_cases z:c.1=a.1
   .rw[z,hP.one a ha,e,hQ.one b hb];grind
   .rw[hP.zer c hc a ha z,<-ec,hQ.zer c' hc' b hb (by lia)];grind) j
  grind
 clear h hP hQ
 induction P generalizing Q with
 |nil=>cases Q with|nil=>rfl|cons b Q=>cases eh
 |cons a P ih=>cases Q with
  |nil=>cases eh
  |cons b Q=>
   rw[aW,aW]at eh;injection eh with e1 e2
   have e3:=ev a (am ..) b (am ..) e1;rw[ih e2 λx hx y hy=>ev x (ai _ hx) y<|ai _ hy]
   rw[Prod.ext e1 e3]
noncomputable def ins(x:Nat×Vec F):Pt F->Pt F
 |[]=>[x]
 |y::P=>if x.1<y.1 then x::y::P else y::ins x P
theorem Yv(x:Nat×Vec F):∀P:Pt F,(ins x P).Perm (x::P)
 |[]=>cr _
 |y::P=>by
  unfold ins;split
  .exact cr _
  .exact((Yv x P).cons y).trans<|iY x y P
theorem x6(x:Nat×Vec F):∀{P:Pt F},P.Pairwise (λa b=>a.1<b.1)->(∀a∈P,a.1≠x.1)->(ins x P).Pairwise λa b=>a.1<b.1
 |[],_,_=>by exact kQ ..
 |y::P,h,hn=>by
  have h':=bm.mp h;unfold ins;split
  .rename_i c
   refine bm.mpr #[λz hz=>?_,h]
   rcases aB.mp hz with rfl|hz
   .exact c
   .have:=h'.1 z hz;lia
  .rename_i c
   refine bm.mpr #[λz hz=>?_,x6 x h'.2 λa ha=>hn a<|ai _ ha]
   rcases aB.mp ((Yv x P).mem_iff.mp hz)with rfl|hz
   .have:=hn y<|am ..;lia
   .exact h'.1 z hz
theorem qF(x:Nat×Vec F)(v:Vec F)(j:Nat):∀P:Pt F,pr (ins x P) v j=v x.1*x.2 j+pr P v j
 |[]=>rfl
 |y::P=>by
  unfold ins;split
  .rfl
  .show v y.1*y.2 j+pr (ins x P) v j=v x.1*x.2 j+(v y.1*y.2 j+pr P v j)
   rw[qF x v j P];grind
noncomputable def off(h:Nat)(l:Vec F)(a:Nat×Vec F):Nat×Vec F:=(a.1,λj=>a.2 j-a.2 h*l j)
noncomputable def wid(P:Pt F)(h:Nat)(l:Vec F):Pt F:=ins (h,l)<|P.map<|off h l
theorem qm(h:Nat)(l v:Vec F)(j:Nat):∀P:Pt F,pr (P.map<|off h l) v j=pr P v j-pr P v h*l j
 |[]=>by show(0:F)=0-0*l j;grind
 |a::P=>by
  show v a.1*(a.2 j-a.2 h*l j)+pr (P.map<|off h l) v j=(v a.1*a.2 j+pr P v j)-(v a.1*a.2 h+pr P v h)*l j;rw[qm h l v j P];grind
structure Lead(P:Pt F)(h:Nat)(l:Vec F):Prop where
 one:l h=1
 low:∀j,j<h->l j=0
 zer:∀a∈P,l a.1=0
def Lead.ne{P:Pt F}{h:Nat}{l:Vec F}(one0:(1:F)≠0)(L:Lead P h l){a:Nat×Vec F}(ha:a∈P):a.1≠h:=λe=>by
 have:=L.zer a ha;rw[e,L.one]at this;exact one0 this
theorem ZdA{P:Pt F}{h:Nat}{l:Vec F}(one0:(1:F)≠0)(hP:Rf P)(L:Lead P h l):Rf (wid P h l):=by
 have mem:∀{x},x∈wid P h l->x=(h,l)\/∃a∈P,x=off h l a:=λ{x} hx=>by
  rcases aB.mp ((Yv _ _).mem_iff.mp hx)with e|e
  .exact .inl e
  .obtain⟨a,ha,e⟩:=aO.mp e
   exact .inr #[a,ha,e.symm]
 refine#[x6 _ ?_ ?_,λx hx j hj=>?_,λx hx=>?_,λx hx y hy ne=>?_]
 .exact cS.mpr hP.inc
 .intro a ha
  obtain⟨b,hb,rfl⟩:=aO.mp ha;exact L.ne (a:=b) one0 hb
 .rcases mem hx with rfl|⟨a,ha,rfl⟩
  .exact L.low j hj
  .show a.2 j-a.2 h*l j=0
   rw[hP.low a ha j hj];by_cases c:h<a.1
   .rw[hP.low a ha h c];grind
   .have:j<a.1:=hj
    rw[L.low j (by have:=L.ne one0 ha;lia)];grind
 .rcases mem hx with rfl|⟨a,ha,rfl⟩
  .exact L.one
  .show a.2 a.1-a.2 h*l a.1=1
   rw[hP.one a ha,L.zer a ha];grind
 .rcases mem hx with rfl|⟨a,ha,rfl⟩
  .rcases mem hy with rfl|⟨b,hb,rfl⟩
   .exact T7 rfl ne
   .show b.2 h-b.2 h*l h=0
    rw[L.one];grind
  .rcases mem hy with rfl|⟨b,hb,rfl⟩
   .exact L.zer a ha
   .show b.2 a.1-b.2 h*l a.1=0
    rw[hP.zer a ha b hb ne,L.zer a ha];grind
def ZbY(P:Pt F)(h:Nat)(l:Vec F):(wid P h l).length=P.length+1:=by
 have:=(Yv (h,l)<|P.map<|off h l).length_eq;rw[aP,aw]at this;exact this
theorem jY{P:Pt F}{h:Nat}{l:Vec F}(hP:Rf P)(L:Lead P h l)(u:Vec F):Mem (wid P h l) u↔∃c,Mem P λj=>u j-c*l j:=by
 have e:∀j,pr (wid P h l) u j=u h*l j+(pr P u j-pr P u h*l j):=λj=>by
  unfold wid;rw[qF,qm]
 have pl:∀j,pr P l j=0:=λj=>Xl λb hb=>by rw[L.zer b hb];grind
 constructor
 .intro hu
  refine#[u h-pr P u h,λj=>?_]
  rw[Ju,pl];have:=hu j;rw[e j]at this;show u j-(u h-pr P u h)*l j=_
  grind
 .rintro ⟨c,hc⟩ j
  rw[e j];have h1:=hc j;have h2:u h-c*l h=_:=hc h;rw[Ju,pl]at h1 h2;rw[L.one]at h2
  grind
noncomputable def rest(P:Pt F)(v:Vec F):Vec F:=λj=>v j-pr P v j
theorem um(hP:Rf P)(v:Vec F)(ha:a∈P):rest P v a.1=0:=by
 unfold rest;rw[xc hP ha];grind
theorem Ul{P:Pt F}{v:Vec F}:(∀j,rest P v j=0)↔Mem P v:=by
 constructor
 .intro h j;have:=h j;unfold rest at this;grind
 .intro h j;have:=h j;unfold rest;grind
theorem xj{P:Pt F}(hP:Rf P){v:Vec F}{h:Nat}{i:F}(hi:i*rest P v h=1)(hl:∀j,j<h->rest P v j=0):Lead P h λj=>i*rest P v j:=
 #[hi,λj hj=>by rw[hl j hj];grind,λa ha=>by rw[um hP v ha];grind]
theorem uX{P:Pt F}(hP:Rf P){v:Vec F}{h:Nat}{i:F}(hi:i*rest P v h=1)(hl:∀j,j<h->rest P v j=0)(u:Vec F) :
  Mem (wid P h λj=>i*rest P v j) u↔∃c,Mem P λj=>u j-c*v j:=by
 rw[jY hP<|xj hP hi hl]
 constructor
 .rintro ⟨c,hc⟩
  refine#[c*i,?_];have:=J2 (c*i) hc<|ud hP v;have e:(λj=>(u j-c*(i*rest P v j))-c*i*pr P v j)=λj=>u j-c*i*v j:=by funext j;unfold rest;grind
  rw[e]at this;exact this
 .rintro ⟨c,hc⟩
  refine#[c*rest P v h,?_];have:=WM c hc<|ud hP v;have e:(λj=>(u j-c*v j)+c*pr P v j)=λj=>u j-c*rest P v h*(i*rest P v j):=by funext j;unfold rest at hi ⊢;grind
  rw[e]at this;exact this
theorem qG(hv:Mem P v)(u:Vec F):Mem P u↔∃c,Mem P λj=>u j-c*v j:=by
 constructor
 .intro h;exact#[0,by have:=J2 0 h hv;exact this]
 .rintro ⟨c,hc⟩
  have:=WM c hc hv;have e:(λj=>(u j-c*v j)+c*v j)=u:=by funext j;grind
  rw[e]at this;exact this
def JE(P:Pt F):List (Vec F)->Vec F->Prop
 |[],u=>Mem P u
 |v::vs,u=>∃c,JE P vs λj=>u j-c*v j
theorem Vl{P P':Pt F}{v:Vec F}(h:∀u,Mem P' u↔∃c,Mem P λj=>u j-c*v j):∀(vs:List (Vec F))(u:Vec F),JE P' vs u↔JE P (v::vs) u
 |[],u=>h u
 |w::vs,u=>by
  constructor
  .rintro ⟨d,hd⟩
   obtain⟨c,hc⟩:=(Vl h vs _).mp hd;refine#[c,d,?_];have e:(λj=>u j-c*v j-d*w j)=λj=>u j-d*w j-c*v j:=by funext j;grind
   show JE P vs λj=>u j-c*v j-d*w j
   rw[e];exact hc
  .rintro ⟨c,d,hc⟩
   refine#[d,(Vl h vs _).mpr #[c,?_]];have e:(λj=>u j-d*w j-c*v j)=λj=>u j-c*v j-d*w j:=by funext j;grind
   show JE P vs λj=>u j-d*w j-c*v j
   rw[e];exact hc
theorem vn{P Q:Pt F}(hQ:Rf Q)(u:Vec F):JE P (Q.map (·.2)) u↔∃q,Mem Q q/\Mem P λj=>u j-q j:=by
 constructor
 .have gen:∀(ws:List (Vec F))(u:Vec F),(∀w∈ws,Mem Q w)->JE P ws u->∃q,Mem Q q/\Mem P λj=>u j-q j:=by
   intro ws
   induction ws with
   |nil=>intro u _ h;exact#[λ_=>0,WZ,by
    have e:(λj=>u j-0)=u:=by funext j;grind
    rw[e];exact h]
   |cons w ws ih=>
    rintro u hw ⟨c,h⟩
    obtain⟨q,hq,hp⟩:=ih _ (λx hx=>hw x<|ai _ hx) h
    refine#[λj=>q j+c*w j,WM c hq<|hw w<|am ..,?_]
    have e:(λj=>u j-(q j+c*w j))=λj=>u j-c*w j-q j:=by funext j;grind
    rw[e];exact hp
  exact gen _ u λw hw=>by obtain⟨a,ha,rfl⟩:=aO.mp hw;exact XX hQ ha
 .rintro ⟨q,hq,hp⟩
  have gen:∀(R:Pt F)(u:Vec F),(Mem P λj=>u j-pr R q j)->JE P (R.map (·.2)) u:=by
   intro R
   induction R with
   |nil=>
    intro u h;have e:(λj=>u j-pr [] q j)=u:=by funext j;show u j-0=u j;grind
    rw[e]at h;exact h
   |cons a R ih=>
    intro u h;refine#[q a.1,ih _ ?_];have e:(λj=>u j-q a.1*a.2 j-pr R q j)=λj=>u j-pr (a::R) q j:=by funext j;show _=u j-(q a.1*a.2 j+pr R q j);grind
    show Mem P λj=>u j-q a.1*a.2 j-pr R q j
    rw[e];exact h
  refine gen Q u ?_;have e:(λj=>u j-pr Q q j)=λj=>u j-q j:=by funext j;rw[<-hq j]
  rw[e];exact hp
variable{F:Type}[mn F][DecidableEq F]
def Supp(n:Nat)(v:Vec F):Prop:=∀j,n<=j->v j=0
structure Pn(n:Nat)(P:Pt F):Prop where
 rf:Rf P
 lt:∀a∈P,a.1<n
 sp:∀a∈P,Supp n a.2
theorem Pn.nil{n:Nat}:Pn n ([]:Pt F):=#[Rf.nil,λ_ h=>(by cases h),λ_ h=>(by cases h)]
theorem Za9(h:Pn n P)(v:Vec F):Supp n (pr P v):=λj hj=>Xl λb hb=>by rw[h.sp b hb j hj];grind
noncomputable def hdV(n:Nat)(v:Vec F):Option Nat:=(aL n).find? λj=>ae<|v j≠0
theorem qR{n:Nat}{v:Vec F}(hs:Supp n v)(h:hdV n v=ag)(j:Nat):v j=0:=by
 by_cases c:j<n
 .have:=mR.mp h j (aR.mpr c)
  simpa using this
 .exact hs j (by lia)
def GP{n:Nat}{v:Vec F}{k:Nat}(h:hdV n v=aa k):k<n/\v k≠0/\∀j,j<k->v j=0:=by
 unfold hdV at h;rw[kG]at h;obtain⟨h1,h2,h3⟩:=h;refine#[aR.mp h2,by simpa using h1,λj hj=>?_]
 have:=h3 j hj
 simpa using this
def ye{n:Nat}{v:Vec F}{k:Nat}(hk:k<n)(h1:v k≠0)(h2:∀j,j<k->v j=0):hdV n v=aa k:=by
 unfold hdV;rw[kG];exact#[by simpa using h1,aR.mpr hk,λj hj=>by simpa using h2 j hj]
structure Fld(inv:F->F):Prop where
 inv:∀a,a≠0->inv a*a=1
 one0:(1:F)≠0
section
variable{inv:F->F}{n:Nat}
noncomputable def more(inv:F->F)(n:Nat)(P:Pt F)(v:Vec F):Pt F:=match hdV n (rest P v)with
 |none=>P
 |some h=>wid P h λj=>inv (rest P v h)*rest P v j
structure Grow(n:Nat)(P:Pt F)(v:Vec F)(P':Pt F):Prop where
 pn:Pn n P'
 mem:∀u,Mem P' u↔∃c,Mem P λj=>u j-c*v j
 same:Mem P v->P'=P
 len:¬Mem P v->P'.length=P.length+1
theorem X6(f:Fld inv){P:Pt F}{v:Vec F}(hP:Pn n P)(hv:Supp n v):Grow n P v (more inv n P v):=by
 have hs:Supp n (rest P v):=λj hj=>by unfold rest;rw[hv j hj,Za9 hP v j hj];grind
 cases q:hdV n (rest P v)with
 |none=>
  have e:more inv n P v=P:=by unfold more;rw[q]
  have hm:=Ul.mp<|qR hs q;rw[e];exact#[hP,qG hm,λ_=>rfl,λh=>T7 hm h]
 |some h=>
  have e:more inv n P v=wid P h λj=>inv (rest P v h)*rest P v j:=by unfold more;rw[q]
  obtain⟨h1,h2,h3⟩:=GP q;have hi:=f.inv _ h2;have L:=xj hP.rf hi h3;rw[e];refine#[#[ZdA f.one0 hP.rf L,λa ha=>?_,λa ha=>?_],uX hP.rf hi h3,λhm=>T7 (Ul.mpr hm h) h2,λ_=>ZbY ..]
  .rcases aB.mp ((Yv _ _).mem_iff.mp ha)with e|e
   .rw[e];exact h1
   .obtain⟨b,hb,rfl⟩:=aO.mp e
    exact hP.lt b hb
  .rcases aB.mp ((Yv _ _).mem_iff.mp ha)with e|e
   .rw[e];intro j hj
    show inv (rest P v h)*rest P v j=0;rw[hs j hj];grind
   .obtain⟨b,hb,rfl⟩:=aO.mp e
    intro j hj;show b.2 j-b.2 h*(inv (rest P v h)*rest P v j)=0;rw[hP.sp b hb j hj,hs j hj];grind
noncomputable def Uo(inv:F->F)(n:Nat)(P:Pt F)(vs:List (Vec F)):Pt F:=vs.foldl (more inv n) P
theorem zf(f:Fld inv):∀(vs:List (Vec F)){P:Pt F},Pn n P->(∀v∈vs,Supp n v)->Pn n (Uo inv n P vs)/\∀u,Mem (Uo inv n P vs) u↔JE P vs u
 |[],P,hP,_=>#[hP,λu=>Iff.rfl]
 |v::vs,P,hP,hv=>by
  have g:=X6 f hP<|hv v<|am ..;obtain⟨a,b⟩:=zf f vs g.pn λw hw=>hv w<|ai _ hw
  exact#[a,λu=>(b u).trans<|Vl g.mem vs u]
noncomputable def join(inv:F->F)(n:Nat)(P Q:Pt F):Pt F:=Uo inv n P (Q.map (·.2))
def zI(f:Fld inv){P Q:Pt F}(hP:Pn n P)(hQ:Pn n Q)(u:Vec F):Mem (join inv n P Q) u↔∃q,Mem Q q/\Mem P λj=>u j-q j:=
 ((zf f _ hP λv hv=>by obtain⟨a,ha,rfl⟩:=aO.mp hv;exact hQ.sp a ha).2 u).trans (vn hQ.rf u)
def Zfi(f:Fld inv){P Q:Pt F}(hP:Pn n P)(hQ:Pn n Q)(h:∀v,Mem P v↔Mem Q v):P=Q:=uniq f.one0 hP.rf hQ.rf h
theorem sub_self(u:Vec F):(λj=>u j-u j)=λ_=>0:=by funext j;grind
def yK(f:Fld inv){P Q:Pt F}(hP:Pn n P)(hQ:Pn n Q){u:Vec F}(h:Mem Q u):Mem (join inv n P Q) u:=
 (zI f hP hQ u).mpr #[u,h,by rw[sub_self];exact WZ]
theorem z6(f:Fld inv){P Q R:Pt F}(hP:Pn n P)(hQ:Pn n Q)(h1:∀u,Mem P u->Mem R u)(h2:∀u,Mem Q u->Mem R u){u:Vec F}(h:Mem (join inv n P Q) u):Mem R u:=by
 obtain⟨q,a,b⟩:=(zI f hP hQ u).mp h;have:=WM 1 (h1 _ b)<|h2 _ a;have e:(λj=>u j-q j+1*q j)=u:=by funext j;grind
 rw[e]at this;exact this
noncomputable def YL(P:Pt F)(j:Nat):Bool:=(P.map (·.1)).contains j
noncomputable def free(n:Nat)(P:Pt F):List Nat:=(aL n).filter λj=>!YL P j
noncomputable def av:Pt F->Nat->Vec F
 |[],f,j=>if j=f then 1 else 0
 |a::P,f,j=>if j=a.1 then-a.2 f else av P f j
def Xm :YL P j=aj↔∃a∈P,a.1=j:=by
 unfold YL;rw[cM,aO]
def yy{P:Pt F}{f j:Nat}(h:YL P j=ak):av P f j=if j=f then 1 else 0:=by
 induction P with
 |nil=>rfl
 |cons a P ih=>
  have h1:¬∃b∈a::P,b.1=j:=λz=>by rw[Xm.mpr z]at h;cases h
  show(if j=a.1 then-a.2 f else av P f j)=_
  rw[T8 λz=>h1 #[a,am ..,z.symm]]
  exact ih (by
   cases q:YL P j with
   |false=>rfl
   |true=>obtain⟨b,hb,e⟩:=Xm.mp q;exact T7 #[b,ai _ hb,e] h1)
def Uq :j∈free n P↔j<n/\YL P j=ak:=by
 unfold free;rw[bM,aR];simp
theorem Zbu{P:Pt F}(hP:Pn n P){f:Nat}(hf:f<n):Supp n (av P f):=λj hj=>by
 rw[yy (by
  cases q:YL P j with
  |false=>rfl
  |true=>obtain⟨b,hb,e⟩:=Xm.mp q;have:=hP.lt b hb;lia),T8 (by lia)]
noncomputable def perp(inv:F->F)(n:Nat)(P:Pt F):Pt F:=Uo inv n []<|(free n P).map<|av P
theorem vp(f:Fld inv){P:Pt F}(hP:Pn n P):(perp inv n P).length+P.length=n:=by
 have gen:∀(L:List Nat)(A:Pt F)(D:List Nat),Pn n A->(∀k∈L,k∈free n P)->L.Nodup->(∀k∈L,k∉D)->(∀u,Mem A u->∀k∈free n P,k∉D->u k=0)->(Uo inv n A<|L.map<|av P).length=A.length+L.length:=by
  intro L
  induction L with
  |nil=>intro A D _ _ _ _ _;rfl
  |cons k L ih=>
   intro A D hA hL hn hD hz;rw[dP]at hn;have hk:=hL k<|am ..;have g:=X6 f hA<|Zbu hP (Uq.mp hk).1;have nm:¬Mem A (av P k):=λh=>by
    have:=hz _ h k hk<|hD k<|am ..;rw[yy (Uq.mp hk).2,T9 rfl]at this;exact f.one0 this
   have:=ih (more inv n A<|av P k) (k::D) g.pn (λj hj=>hL j<|ai _ hj) hn.2 (λj hj=>by
    rw[aB]
    rintro (z|z)
    .exact hn.1<|z▸hj
    .exact hD j (ai _ hj) z) λu hu j hj hjD=>by
     obtain⟨c,hc⟩:=(g.mem u).mp hu;rw[aB]at hjD;have h1:=hz _ hc j hj λz=>hjD<|.inr z
     rw[yy (Uq.mp hj).2,T8 λz=>hjD<|.inl z]at h1
     grind
   show(Uo inv n (more inv n A<|av P k)<|L.map<|av P).length=_;rw[this,g.len nm,aP];lia
 have h1:=gen (free n P) [] [] Pn.nil (λ_ h=>h) (l5 _ nZ) (λ_ _ h=>by cases h) λu hu k _ _=>hu k
 have h2:=Q8 (l5 _ List.pairwise_lt_range) hP.rf.heads λx=>by
  rw[bM,aR,Xm,aO]
  constructor
  .rintro ⟨_,a,ha,e⟩;exact#[a,ha,e]
  .rintro ⟨a,ha,e⟩;exact#[by rw[<-e];exact hP.lt a ha,a,ha,e]
 have h3:((aL n).filter<|YL P).length+(free n P).length=n:=by
  have gen:∀L:List Nat,(L.filter<|YL P).length+(L.filter λj=>!YL P j).length=L.length:=by
   intro L
   induction L with
   |nil=>rfl
   |cons k L ih=>
    rw[fR,fR];cases YL P k<;>simp<;>lia
  have:=gen<|aL n;rw[br]at this;exact this
 rw[h2,aw]at h3;have h4:(perp inv n P).length=(free n P).length:=by
  have e:(perp inv n P).length=0+(free n P).length:=h1;lia
 lia
end
end La
namespace Rw
open La
open Ev (ltI YA Zi)
section
variable{p:Nat}[NeZero p]
noncomputable def ph(p:Nat)[NeZero p](a:Int):Fin p:=Fin.ofNat p (a%p).toNat
theorem ppos:(0:Int)<p:=by have:=NeZero.ne p;lia
theorem Yx(a:Int):((ph p a).val:Int)=a%p:=by
 have h:=ppos (p:=p);have h0:=gd a (by lia:(p:Int)≠0)
 have h1:=fj a h;show((((a%p).toNat)%p:Nat):Int)=a%p;rw[Nat.mod_eq_of_lt (by lia)]
 lia
theorem Wx{x y:Fin p}(h:(x.val:Int)=y.val):x=y:=Fin.ext (by lia)
def uS(a b:Int):ph p (a+b)=ph p a+ph p b:=Wx (by
 rw[Yx,Fin.val_add];show(a+b)%p=(((ph p a).val+(ph p b).val:Nat):Int)%p;rw[Int.natCast_add,Yx,Yx,<-Int.add_emod])
def jk(a b:Int):ph p (a*b)=ph p a*ph p b:=Wx (by
 rw[Yx,Fin.val_mul];show(a*b)%p=(((ph p a).val*(ph p b).val:Nat):Int)%p;rw[Int.natCast_mul,Yx,Yx,<-Int.mul_emod])
def vO(a:Int):ph p (a%p)=ph p a:=Wx (by rw[Yx,Yx,Int.emod_emod])
def WA:ph p 0=0:=Wx (by rw[Yx];simp)
theorem W9(a:Int):ph p (-a) = - ph p a:=by
 have h:ph p (-a+a)=ph p (-a)+ph p a:=uS _ _;rw[show -a+a=0 by lia,WA]at h
 grind
def yd{a b:Int}(ha:0<=a/\a<p)(hb:0<=b/\b<p)(h:ph p a=ph p b):a=b:=by
 have:=congrArg (λx:Fin p=>(x.val:Int)) h
 simp only[Yx]at this;rw[fF ha.1 ha.2,fF hb.1 hb.2]at this;exact this
theorem Ze7{a:Int}(ha:0<=a/\a<p):ph p a=0↔a=0:=by
 constructor
 .intro h;exact yd ha #[by lia,ppos] (by rw[h,WA])
 .rintro rfl;exact WA
end
abbrev Row:=List Int
def Zd(p n:Nat)(r:Row):Prop:=r.length=n/\∀a∈r,0<=a/\a<(p:Int)
noncomputable def gt(r:Row)(j:Nat):Int:=r.getD j 0
def Wi{p n:Nat}(h0:(0:Int)<p){r:Row}(h:Zd p n r)(j:Nat):0<=gt r j/\gt r j<p:=by
 unfold gt;rw[aN];cases q:r[j]? with|none=>exact#[Int.le_refl _,h0]|some a=>exact h.2 a<|dL q
def qW(h:r.length<=j):gt r j=0:=by unfold gt;rw[aN,bH h];rfl
def uf(hl:r.length=s.length)(h:∀j,gt r j=gt s j):r=s:=by
 apply gU hl;intro j h1 h2;have:=h j;unfold gt at this;rw[aN,aN,af h1,af h2]at this;exact this
noncomputable def hdI:Row->Option Nat
 |[]=>ag
 |a::r=>if a≠0 then aa 0 else(hdI r).map (· + 1)
theorem ZX:∀{r:Row}{k:Nat},hdI r=aa k->gt r k≠0/\k<r.length/\∀j,j<k->gt r j=0
 |[],k,h=>by cases h
 |a::r,k,h=>by
  unfold hdI at h;by_cases c:a≠0
  .rw[T9 c]at h;cases h;exact#[c,by simp,λj hj=>by lia]
  .rw[T8 c]at h
   cases q:hdI r with
   |none=>rw[q]at h;cases h
   |some m=>
    rw[q]at h;have e:m+1=k:=al h;subst e;obtain⟨h1,h2,h3⟩:=ZX q;refine#[h1,by simp;lia,λj hj=>?_]
    cases j with|zero=>exact nE.mp c|succ j=>exact h3 j (by lia)
theorem YE:∀{r:Row},hdI r=ag->∀j,gt r j=0
 |[],_,j=>qW<|cJ _
 |a::r,h,j=>by
  unfold hdI at h;by_cases c:a≠0
  .rw[T9 c]at h;cases h
  .rw[T8 c]at h
   have h':=lh.mp h;cases j with|zero=>exact nE.mp c|succ j=>exact YE h' j
section
variable{p n:Nat}[NeZero p]
noncomputable def toV(p:Nat)[NeZero p](r:Row):Vec (Fin p):=λj=>ph p<|gt r j
def YN{r s:Row}(hr:Zd p n r)(hs:Zd p n s)(h:toV p r=toV p s):r=s:=
 uf (by rw[hr.1,hs.1]) λj=>yd (Wi ppos hr j) (Wi ppos hs j)<|congrFun h j
def XD(hr:Zd p n r):Supp n (toV p r):=λj hj=>by unfold toV;rw[qW (by rw[hr.1];exact hj),WA]
def Z7{r:Row}(hr:Zd p n r){j:Nat}:toV p r j=0↔gt r j=0:=Ze7<|Wi ppos hr j
def zM(hr:Zd p n r):hdV n (toV p r)=hdI r:=by
 cases q:hdI r with
 |none=>
  cases q2:hdV n (toV p r)with|none=>rfl|some k=>exact T7 ((Z7 hr).mpr<|YE q k) (GP q2).2.1
 |some k=>
  obtain⟨a,b,c⟩:=ZX q;exact ye (by rw[<-hr.1];exact b) (λz=>a<|(Z7 hr).mp z) λj hj=>(Z7 hr).mpr<|c j hj
noncomputable def ZJ(p:Nat)(r o:Row)(k:Int):Row:=List.zipWith (λa b=>(a+k*b)%p) r o
noncomputable def XE(p:Nat)(r:Row)(k:Int):Row:=r.map λa=>k*a%p
theorem Zc8(hl:r.length=o.length)(h0:f 0 0=0)(j:Nat):gt (List.zipWith f r o) j=f (gt r j) (gt o j):=by
 unfold gt;simp only[aN];rw[List.getElem?_zipWith];by_cases c:j<r.length
 .rw[af c,af (by lia)];rfl
 .rw[bH (by lia),bH (by lia)];exact h0.symm
theorem Zr(hr:Zd p n r)(ho:Zd p n o):Zd p n (ZJ p r o k):=by
 refine#[by unfold ZJ;rw[List.length_zipWith,hr.1,ho.1];simp,λa ha=>?_]
 unfold ZJ at ha;rw[<-gO]at ha;obtain⟨⟨x,y⟩,_,rfl⟩:=aO.mp ha;exact#[gd _ (by have:=ppos (p:=p);lia),fj _ ppos]
def VZ(hr:Zd p n r)(ho:Zd p n o)(j:Nat):gt (ZJ p r o k) j=(gt r j+k*gt o j)%p:=by
 unfold ZJ;rw[Zc8 (by rw[hr.1,ho.1]) (by simp)]
def ZU(hr:Zd p n r)(ho:Zd p n o):toV p (ZJ p r o k)=λj=>toV p r j+ph p k*toV p o j:=by
 funext j
 unfold toV;rw[VZ hr ho,vO,uS,jk]
def qL(j:Nat):gt (XE p r k) j=k*gt r j%p:=by
 unfold XE gt;simp only[aN,aM];cases r[j]?<;>simp
theorem QN{r:Row}{k:Int}(hr:Zd p n r):Zd p n (XE p r k):=by
 refine#[by unfold XE;rw[aw,hr.1],λa ha=>?_]
 obtain⟨x,_,rfl⟩:=aO.mp ha;exact#[gd _ (by have:=ppos (p:=p);lia),fj _ ppos]
def wA :toV p (XE p r k)=λj=>ph p k*toV p r j:=by
 funext j
 unfold toV;rw[qL,vO,jk]
noncomputable def toP(p:Nat)[NeZero p](P:List Row):Pt (Fin p):=P.map λr=>((hdI r).getD 0,toV p r)
structure pZ(p n:Nat)[NeZero p](P:List Row):Prop where
 row:∀r∈P,Zd p n r
 pn:Pn n (toP p P)
theorem pZ.nil:pZ p n []:=#[λ_ h=>(by cases h),Pn.nil]
def Yc(h:r∈P):((hdI r).getD 0,toV p r)∈toP p P:=aO.mpr #[r,h,rfl]
def pZ.head(one0:(1:Fin p)≠0)(h:pZ p n P)(hr:r∈P):∃k,hdI r=aa k/\k<n/\toV p r k=1:=by
 have h1:=h.pn.rf.one _<|Yc hr;cases q:hdI r with
 |none=>
  rw[q]at h1;have:toV p r 0=1:=h1;have z:=(Z7<|h.row r hr).mpr<|YE q 0;rw[z]at this;exact T7 this.symm one0
 |some k=>
  rw[q]at h1;have h2:=h.pn.lt _<|Yc hr;rw[q]at h2;exact#[k,rfl,h2,h1]
def xP(hP:∀r∈P,Zd p n r)(hQ:∀r∈Q,Zd p n r)(h:toP p P=toP p Q):P=Q:=by
 induction P generalizing Q with
 |nil=>cases Q with|nil=>rfl|cons b Q=>cases h
 |cons a P ih=>cases Q with
  |nil=>cases h
  |cons b Q=>
   have h':=h;injection h' with e1 e2
   have e3:=congrArg Prod.snd e1;rw[YN (hP a<|am ..) (hQ b<|am ..) e3,ih (λr hr=>hP r<|ai _ hr) (λr hr=>hQ r<|ai _ hr) e2]
def ZbC(P:List Row):(toP p P).map (·.2)=P.map (toV p):=by unfold toP;rw[bn];rfl
def J0(P:List Row):(toP p P).length=P.length:=by unfold toP;rw[aw]
noncomputable def clr(p:Nat)(r o:Row)(h:Nat):Row:=ZJ p r o<|-(gt r h)
noncomputable def Zh(p:Nat)(P:List Row)(r:Row):Row:=P.foldl (λs o=>clr p s o<|(hdI o).getD 0) r
theorem JL(hr:Zd p n r)(ho:Zd p n o):toV p (clr p r o h)=λj=>toV p r j-toV p r h*toV p o j:=by
 unfold clr;rw[ZU hr ho]
 funext j
 rw[W9];show toV p r j+(- toV p r h)*toV p o j=_
 grind
theorem VO:∀{P:List Row}{r:Row},(∀o∈P,Zd p n o)->Rf (toP p P)->Zd p n r->Zd p n (Zh p P r)/\toV p (Zh p P r)=rest (toP p P) (toV p r)
 |[],r,_,_,hr=>#[hr,by funext j;show toV p r j=toV p r j-0;grind]
 |o::P,r,hP,hf,hr=>by
  have ho:=hP o<|am ..;have hc:Zd p n (clr p r o<|(hdI o).getD 0):=Zr hr ho;obtain⟨a,b⟩:=VO (λo h=>hP o<|ai _ h) hf.tail hc
  refine#[a,?_];show toV p (Zh p P<|clr p r o<|(hdI o).getD 0)=_;rw[b,JL hr ho];have z:∀j,pr (toP p P) (toV p o) j=0:=λj=>Xl λc hc=>by
   have:toV p o c.1=0:=by
    have h1:c∈toP p (o::P):=ai _ hc;have h2:((hdI o).getD 0,toV p o)∈toP p (o::P):=am ..;have h3:=(bm.mp hf.inc).1 c hc;exact hf.zer c h1 _ h2 (by simp only at h3 ⊢;lia)
   rw[this];grind
  funext j
  unfold rest;rw[Ju,z];show toV p r j-toV p r ((hdI o).getD 0)*toV p o j-(pr (toP p P) (toV p r) j-_*0)=toV p r j-(toV p r ((hdI o).getD 0)*toV p o j+pr (toP p P) (toV p r) j)
  grind
def uL(hP:pZ p n P)(hr:Zd p n r):hdI (Zh p P r)=ag↔Mem (toP p P) (toV p r):=by
 obtain⟨a,b⟩:=VO hP.row hP.pn.rf hr;rw[<-Ul,<-b]
 constructor
 .intro h j;exact(Z7 a).mpr<|YE h j
 .intro h
  cases q:hdI (Zh p P r)with|none=>rfl|some k=>exact T7 ((Z7 a).mp<|h k) (ZX q).1
end
noncomputable def Uy(p:Nat)(a:Int):Int:=if a=1 then 1 else if p=3 then 2 else if a=2 then 3 else if a=3 then 2 else 4
noncomputable def Q9(p:Nat)[NeZero p](x:Fin p):Fin p:=ph p<|Uy p x.val
class Base(p:Nat):Prop where
 b:p=2\/p=3\/p=5
instance(p:Nat)[h:Base p]:NeZero p:=⟨by rcases h.b with e|e|e<;>lia⟩
section
variable{p n:Nat}[Base p]
def fld2:∀a:Fin 2,a≠0->Q9 2 a*a=1:=by decide
def fld3:∀a:Fin 3,a≠0->Q9 3 a*a=1:=by decide
def fld5:∀a:Fin 5,a≠0->Q9 5 a*a=1:=by decide
def one2:(1:Fin 2)≠0:=by decide
def one3:(1:Fin 3)≠0:=by decide
def one5:(1:Fin 5)≠0:=by decide
def fld:Fld (Q9 p):=by
 rcases(inferInstance:Base p).b with e|e|e<;>subst e
 .exact#[fld2,one2]
 .exact#[fld3,one3]
 .exact#[fld5,one5]
def Za2{a:Int}(h:0<=a/\a<(p:Int)):((ph p a).val:Int)=a:=by rw[Yx,fF h.1 h.2]
noncomputable def lead(p:Nat)(s:Row)(h:Nat):Row:=XE p s<|Uy p<|gt s h
noncomputable def XO(p:Nat)(P:List Row)(r:Row):List Row:=match hdI (Zh p P r)with
 |none=>P
 |some h=>(Zi<|P.map (λo=>clr p o (lead p (Zh p P r) h) h)++[lead p (Zh p P r) h]).reverse
noncomputable def zo(h:Nat)(x:Row):List Row->List Row
 |[]=>[x]
 |y::P=>if h<(hdI y).getD 0 then x::y::P else y::zo h x P
theorem Vj(h:Nat)(x:Row):∀P:List Row,(zo h x P).Perm (x::P)
 |[]=>cr _
 |y::P=>by
  unfold zo;split
  .exact cr _
  .exact((Vj h x P).cons y).trans<|iY x y P
theorem zt{h:Nat}{x:Row}(hx:hdI x=aa h):∀P:List Row,toP p (zo h x P)=ins (h,toV p x) (toP p P)
 |[]=>by show[((hdI x).getD 0,toV p x)]=_;rw[hx];rfl
 |y::P=>by
  unfold zo;show toP p (if h<(hdI y).getD 0 then _ else _)=(if h<(hdI y).getD 0 then _ else _)
  split
  .show((hdI x).getD 0,toV p x)::_=_;rw[hx];rfl
  .show((hdI y).getD 0,toV p y)::toP p (zo h x P)=_;rw[zt hx P];rfl
theorem u7:∀{a b:Row}{h:Nat},a.length=b.length->(∀j,j<h->gt a j=gt b j)->gt b h<gt a h->h<a.length->ltI b a=aj
 |[],_,_,_,_,_,hl=>by simp at hl
 |x::a,[],_,e,_,_,_=>by simp at e
 |x::a,y::b,0,_,_,hlt,_=>by
  have:y<x:=hlt;unfold ltI;rw[T8 (by lia)]
  exact T5 this
 |x::a,y::b,h+1,e,hj,hlt,hl=>by
  have:x=y:=hj 0 (by lia)
  unfold ltI;rw[T9 this.symm];exact u7 (by simpa using e) (λj h'=>hj (j+1)<|by lia) hlt (by simpa using hl)
theorem uU{a b:Row}{h k:Nat}(ha:Zd p n a)(hb:Zd p n b)(h1:hdI a=aa h)(h2:hdI b=aa k)(hk:h<k):ltI b a=aj:=by
 obtain⟨a1,a2,a3⟩:=ZX h1;obtain⟨b1,b2,b3⟩:=ZX h2;refine u7 (by rw[ha.1,hb.1]) (λj hj=>by rw[a3 j hj,b3 j<|by lia]) ?_ a2
 rw[b3 h hk];have:=(Wi ppos ha h).1;lia
def pZ.falls{P:List Row}(hP:pZ p n P):P.Pairwise λa b=>ltI b a=aj:=by
 have inc:P.Pairwise λa b=>(hdI a).getD 0<(hdI b).getD 0:=by
  have:=hP.pn.rf.inc;unfold toP at this;rw[cS]at this;exact this
 refine kC (λ{a b} ha hb hab=>?_) inc
 obtain⟨h,e1,_⟩:=hP.head fld.one0 ha;obtain⟨k,e2,_⟩:=hP.head fld.one0 hb;rw[e1,e2]at hab;exact uU (hP.row a ha) (hP.row b hb) e1 e2 hab
def Vq{P:List Row}(h:P.Pairwise λa b=>ltI b a=aj):P.Nodup:=List.Pairwise.imp (λ{a b} hab e=>by
 rw[e]at hab;have:=Sd.VT hab;rw[hab]at this;cases this) h
def Za8{P Q:List Row}(hp:Q.Perm P)(h:Q.Pairwise λa b=>ltI b a=aj):(Zi P).reverse=Q:=by
 have hn:P.Nodup:=(hp.nodup_iff).mp<|Vq h;have e:Zi P=Q.reverse:=Sd.XF ((Sd.YF P).trans<|hp.symm.trans (dO Q).symm) (Sd.Xg hn)<|eB.mpr h;rw[e,List.reverse_reverse]
def Wn{P:List Row}{r:Row}(hP:pZ p n P)(hr:Zd p n r):pZ p n (XO p P r)/\toP p (XO p P r)=more (Q9 p) n (toP p P) (toV p r):=by
 obtain⟨s1,s2⟩:=VO hP.row hP.pn.rf hr;have eh:=zM s1;rw[s2]at eh;have g:=X6 fld hP.pn<|XD hr;unfold XO;cases q:hdI (Zh p P r)with
 |none=>
  rw[q]at eh;exact#[hP,by unfold more;rw[eh]]
 |some h=>
  rw[q]at eh;have em:more (Q9 p) n (toP p P) (toV p r)=wid (toP p P) h (toV p<|lead p (Zh p P r) h):=by
   unfold more;rw[eh];show wid _ h _=_
   congr 1
   unfold lead;rw[wA,s2]
   funext j
   congr 1
   unfold Q9;rw[<-s2];show ph p (Uy p<|(ph p<|gt (Zh p P r) h).val)=_;rw[Za2<|Wi ppos s1 h]
  have hl:Zd p n (lead p (Zh p P r) h):=QN s1;rw[em]at g;have mem:∀x∈wid (toP p P) h (toV p<|lead p (Zh p P r) h),hdV n x.2=aa x.1:=λx hx=>ye (g.pn.lt x hx) (by rw[g.pn.rf.one x hx];exact fld.one0)<|g.pn.rf.low x hx
  have hx:hdI (lead p (Zh p P r) h)=aa h:=by
   rw[<-zM hl];exact mem (h,toV p<|lead p (Zh p P r) h)<|(Yv _ _).mem_iff.mpr<|am ..
  have e1:toP p (P.map λo=>clr p o (lead p (Zh p P r) h) h)=(toP p P).map (off h<|toV p<|lead p (Zh p P r) h):=by
   unfold toP;rw[bn,bn];refine c9 λo ho=>?_
   have ho':=hP.row o ho;have hc:Zd p n (clr p o (lead p (Zh p P r) h) h):=Zr ho' hl;have ev:toV p (clr p o (lead p (Zh p P r) h) h)=(off h (toV p<|lead p (Zh p P r) h) ((hdI o).getD 0,toV p o)).2:=JL ho' hl;show((hdI<|clr p o (lead p (Zh p P r) h) h).getD 0,toV p<|clr p o (lead p (Zh p P r) h) h)=off h _ ((hdI o).getD 0,toV p o);have:=mem (off h (toV p<|lead p (Zh p P r) h) ((hdI o).getD 0,toV p o))<|(Yv _ _).mem_iff.mpr<|ai _<|aO.mpr #[_,Yc ho,rfl];rw[<-ev,zM hc]at this;rw[this,ev];rfl
  have e2:toP p (zo h (lead p (Zh p P r) h)<|P.map λo=>clr p o (lead p (Zh p P r) h) h)=wid (toP p P) h (toV p<|lead p (Zh p P r) h):=by
   rw[zt hx,e1];rfl
  have hQ:pZ p n (zo h (lead p (Zh p P r) h)<|P.map λo=>clr p o (lead p (Zh p P r) h) h):=by
   refine#[λx hx=>?_,by rw[e2];exact g.pn]
   rcases aB.mp ((Vj _ _ _).mem_iff.mp hx)with e|e
   .rw[e];exact hl
   .obtain⟨o,ho,rfl⟩:=aO.mp e
    exact Zr (hP.row o ho) hl
  have e3:=Za8 ((Vj h (lead p (Zh p P r) h)<|P.map λo=>clr p o (lead p (Zh p P r) h) h).trans (List.perm_append_singleton _ _).symm) hQ.falls
  show pZ p n (Zi _).reverse/\toP p (Zi _).reverse=_;rw[e3];exact#[hQ,by rw[e2,em]]
noncomputable def Yb(p:Nat)(P:List Row)(rs:List Row):List Row:=rs.foldl (XO p) P
theorem y6:∀{rs:List Row}{P:List Row},pZ p n P->(∀r∈rs,Zd p n r)->pZ p n (Yb p P rs)/\toP p (Yb p P rs)=Uo (Q9 p) n (toP p P) (rs.map<|toV p)
 |[],P,hP,_=>#[hP,rfl]
 |r::rs,P,hP,hr=>by
  obtain⟨a,b⟩:=Wn hP<|hr r<|am ..;obtain⟨c,d⟩:=y6 (rs:=rs) a λx hx=>hr x<|ai _ hx
  refine#[c,?_];show toP p (Yb p (XO p P r) rs)=_;rw[d,b];rfl
def V0{P Q:List Row}(hP:pZ p n P)(hQ:pZ p n Q):pZ p n (Yb p P Q)/\toP p (Yb p P Q)=join (Q9 p) n (toP p P) (toP p Q):=by
 obtain⟨a,b⟩:=y6 hP hQ.row;exact#[a,by rw[b];unfold join;rw[ZbC]]
noncomputable def ZC(P:List Row):List Nat:=P.map λr=>(hdI r).getD 0
def XW(P:List Row):(toP p P).map (·.1)=ZC P:=by unfold toP ZC;rw[bn];rfl
end
section
variable{p n:Nat}[Base p]
abbrev Mm(p:Nat)[NeZero p](P:List Row)(u:Vec (Fin p)):Prop:=Mem (toP p P) u
def eqP(hA:pZ p n A)(hB:pZ p n B)(h:∀u,Mm p A u↔Mm p B u):A=B:=xP hA.row hB.row<|Zfi fld hA.pn hB.pn h
def jf{P Q:List Row}(hP:pZ p n P)(hQ:pZ p n Q){u:Vec (Fin p)}(h:Mm p Q u):Mm p (Yb p P Q) u:=by
 unfold Mm;rw[(V0 hP hQ).2];exact yK fld hP.pn hQ.pn h
def qB{P Q R:List Row}(hP:pZ p n P)(hQ:pZ p n Q)(h1:∀u,Mm p P u->Mm p R u)(h2:∀u,Mm p Q u->Mm p R u){u:Vec (Fin p)}(h:Mm p (Yb p P Q) u):Mm p R u:=by
 unfold Mm at h;rw[(V0 hP hQ).2]at h;exact z6 fld hP.pn hQ.pn h1 h2 h
def pJ{P Q:List Row}(hP:pZ p n P)(hQ:pZ p n Q):pZ p n (Yb p P Q):=(V0 hP hQ).1
def jb{P Q:List Row}(hP:pZ p n P)(hQ:pZ p n Q)(h:∀u,Mm p P u->Mm p Q u):Yb p P Q=Q:=eqP (pJ hP hQ) hQ λu=>
 #[qB hP hQ h λ_ h=>h,jf hP hQ]
def ZaZ{P:List Row}(u:Vec (Fin p))(h:Mm p ([]:List Row) u):Mm p P u:=by
 have e:u=λ_=>0:=funext λj=>h j
 rw[e];exact WZ
def wZ{P:List Row}(hP:pZ p n P):Yb p [] P=P:=jb pZ.nil hP ZaZ
noncomputable def Xh(p:Nat)(P:List Row)(r:Row):Bool:=(hdI<|Zh p P r).isNone
def Z2(hP:pZ p n P)(hr:Zd p n r):Xh p P r=aj↔Mm p P (toV p r):=by
 unfold Mm;rw[<-uL hP hr];unfold Xh;cases hdI (Zh p P r)<;>simp
end
end Rw
namespace Pv
open Ev
open Rw
def Za{B β:Type}{a:B}{s:DS}{f:B->DS->PR β}:(PR.ok a s).bind f=f a s:=rfl
def QP(hf:F[f]?=aa fn)(hne:f≠tk)(hl:vs.length=fn.ps):Zo F tk (d+1) f vs s=(rvs (Zo F tk d) (muts fn.body) fn.body (ZS fn.ns vs) [] s).bind λg s=>match g with
  |.ret v=>.ok v s
  |.nx _ _=>.ok .non s
  |_=>.no:=by
 rw[Zo,T8 hne,hf];show(if vs.length=fn.ps then _ else _)=_
 rw[T9 hl]
 all_goals rfl
def v4(s:DS)(h:0<m):0<=(XM s m).1/\(XM s m).1<m:=by
 unfold XM;split
 .exact#[gd _ (by lia),fj _ h]
 .exact#[gd _ (by lia),fj _ h]
def Qd(s:DS)(h0:0<m)(h1:m<1073741824):∃v s',Zo F tk (d+1) tk [.drw,.int m] s=.ok (.int v) s'/\0<=v/\v<m:=by
 refine#[(XM s m).1,(XM s m).2,?_,v4 s h0];rw[Zo,T9 rfl];show(if 0<m/\m<1073741824 then _ else _)=_
 rw[T9 #[h0,h1]]
theorem zh{B:Type}{f:V->DS->PR (List V)}{s:DS}{e:B->V}{g:B->V}:∀{l:List B},(∀x∈l,f (e x) s=.ok [g x] s)->mapP f (l.map e) s=.ok (l.map g) s
 |[],_=>rfl
 |x::l,h=>by
  rw[aW,mapP,h x<|am ..];show(match mapP f (l.map e) s with|.ok zs s=>PR.ok ([g x]++zs) s|_=>.no)=_
  rw[zh λy hy=>h y<|ai _ hy];rfl
theorem VD{B:Type}{f:V->DS->PR (List V)}{s:DS}{e:B->V}{g:B->V}{q:B->Bool}:∀{l:List B},(∀x∈l,f (e x) s=.ok (if q x=aj then[g x]else[]) s)->mapP f (l.map e) s=.ok ((l.filter q).map g) s
 |[],_=>rfl
 |x::l,h=>by
  rw[aW,mapP,h x<|am ..];show(match mapP f (l.map e) s with|.ok zs s=>PR.ok ((if q x=aj then[g x]else[])++zs) s|_=>.no)=_
  rw[VD λy hy=>h y<|ai _ hy,fR]
  cases q x<;>rfl
theorem Vn{Q:V->Prop}(h:∀x s,∃y s',f x s=.ok [y] s'/\Q y):∀(l:List V)(s:DS),∃ys s',mapP f l s=.ok ys s'/\ys.length=l.length/\∀y∈ys,Q y
 |[],s=>#[[],s,rfl,rfl,λ_ h=>by cases h]
 |x::l,s=>by
  obtain⟨y,s1,e1,q1⟩:=h x s;obtain⟨ys,s2,e2,l2,q2⟩:=Vn h l s1;refine#[y::ys,s2,?_,by rw[aP,aP,l2],λz hz=>?_]
  .rw[mapP,e1]
   show(match mapP f l s1 with|.ok zs s=>PR.ok ([y]++zs) s|_=>.no)=_
   rw[e2];rfl
  .rcases aB.mp hz with rfl|hz
   .exact q1
   .exact q2 z hz
theorem Qk{Z B:Type}{body:V->Env->List Nat->DS->PR FlV}{s:DS}{os:List Nat}{O:Z->Option V->Env}{step:Z->B->Z}{e:B->V}(I:Z->Prop):∀{l:List B}{st:Z}{o:Option V},I st->(∀x∈l,∀st o,I st->I (step st x)/\∃o',body (e x) (O st o) os s=.ok (.nx (O (step st x) o') os) s)->∃o',I (l.foldl step st)/\Y2 body (l.map e) (O st o) os s=.ok (.nx (O (l.foldl step st) o') os) s
 |[],st,o,hI,_=>#[o,hI,rfl]
 |x::l,st,o,hI,h=>by
  obtain⟨h1,o1,e1⟩:=h x (am ..) st o hI;obtain⟨o2,h2,e2⟩:=Qk I h1 λy hy=>h y<|ai _ hy
  refine#[o2,h2,?_];rw[aW,Y2,e1];exact e2
noncomputable def WC:Option Nat->V
 |none=>.non
 |some k=>.int k
noncomputable def spV(p n:Nat):V:=.tup [.int p,.int n]
def Z1{a:Int}(h:-4294967296<a)(h':a<4294967296):fits a=aj:=by
 refine T5 ?_;have h1:a.natAbs<2^32:=by lia
 exact bu h1<|eP (by decide) (by decide)
def UF{B:Type}{xs:List B}{k:Nat}{x:B}(h:xs[k]?=aa x):at' xs (k:Int)=aa x:=by
 have hk:=(aX.mp h).1;unfold at' ixN;rw[T9 (by lia),T9 (by lia)]
 rw[show(k:Int).toNat=k by lia];exact h
def Ub{r:Row}{k:Nat}(hk:k<r.length):at' (r.map V.int) (k:Int)=aa (.int<|gt r k):=by
 refine UF ?_;rw[aM,af hk];unfold gt;rw[aN,af hk];rfl
theorem Yf{B:Type}{g:B->Bool}:∀l:List B,ZW (l.map λx=>.bl<|g x)=aa (l.map g)
 |[]=>rfl
 |x::l=>by rw[aW,ZW,Yf l];rfl
theorem UG{B:Type}{f:V->V->Option Bool}{e:B->V}{d:B->B->Bool}(hd:∀a b,d a b=aj↔a=b)(h:∀a b,f (e a) (e b)=aa (d a b)):∀a b:List B,∃c,Yq f (a.map e) (b.map e)=aa c/\(c=aj↔a=b)
 |[],[]=>#[aj,rfl,by simp]
 |[],_::_=>#[ak,rfl,by simp]
 |_::_,[]=>#[ak,rfl,by simp]
 |x::a,y::b=>by
  obtain⟨c,e1,e2⟩:=UG hd h a b;refine#[d x y&&c,?_,?_]
  .rw[aW,aW,Yq,h,e1]
  .rw[aF,hd,e2];simp
def Zap(k:Nat)(a b:Row):eqV (k+2) (Zb a) (Zb b)=aa (ae<|a=b):=by
 show Yq (eqV<|k+1) (a.map .int) (b.map .int)=_;obtain⟨c,e1,e2⟩:=UG (f:=eqV<|k+1) (e:=V.int) (λa b=>by simp) (λa b=>rfl) a b
 rw[e1,show c=ae (a=b) by rw[cf,e2];simp]
def jr(k:Nat)(a b:List Row):eqV (k+3) (Zf a) (Zf b)=aa (ae<|a=b):=by
 show Yq (eqV<|k+2) (a.map Zb) (b.map Zb)=_;obtain⟨c,e1,e2⟩:=UG (λa b=>by simp) (λa b=>Zap k a b) a b
 rw[e1,show c=ae (a=b) by rw[cf,e2];simp]
theorem Gd:∀(r o:Row),((r.map V.int).zip<|o.map V.int).map (λq=>V.tup [q.1,q.2])=(r.zip o).map λq=>V.tup [.int q.1,.int q.2]
 |[],_=>rfl
 |_::_,[]=>rfl
 |a::r,b::o=>by rw[aW,aW,b0,aW,b0,aW,Gd r o]
theorem Yn:∀r:Row,intsV (r.map V.int)=aa r
 |[]=>rfl
 |a::r=>by show(intsV<|r.map V.int).map (a :: ·)=_;rw[Yn r];rfl
theorem YC:∀P:List Row,Z4 (P.map Zb)=aa P
 |[]=>rfl
 |r::P=>by
  show(match intsV (r.map V.int),Z4 (P.map Zb)with|some a,aa b=>aa (a::b)|_,_=>ag)=_
  rw[Yn,YC P]
theorem Uw:∀r:Row,YJ (r.map V.int)=aj
 |[]=>rfl
 |a::r=>Uw r
def ZbI(n:Nat):ZZ 0 n=(aL n).map λ(k:Nat)=>V.int (k:Int):=by
 refine c9 λk _=>?_
 simp
def ZN{B:Type}{a:B}{s:DS}:po (aa a) s=.ok a s:=rfl
section
variable{C:Zz}{cap:List Nat}{nl:Nat}{t:List Nat}{it:W}{elt tst:E}{O:Env}{s:DS}{B:Type}
def Zx{l:List B}{e g:B->V}(hw:pvw C it O s=.ok (l.map e) s)(hl:l.length<=lim)(h:∀x∈l,∃Z,Zk t (e x) (Z5 cap nl O)=aa Z/\pv C elt Z s=.ok (g x) s)(ho:own nl t=aj:=by rfl):pv C (.comp1 cap nl t it [] elt) O s=.ok (.lst<|l.map g) s:=by
 rw[pv,T9 ho,hw,Za,zh λx hx=>by
  obtain⟨Z,e1,e2⟩:=h x hx;rw[e1,ZN,Za,pvt,Za];rw[e2];rfl]
 rw[Za,T9 (by rw[aw];exact hl)];rfl
def YO{l:List B}{e g:B->V}{q:B->Bool}(hw:pvw C it O s=.ok (l.map e) s)(hl:l.length<=lim)(h:∀x∈l,∃Z v,Zk t (e x) (Z5 cap nl O)=aa Z/\pv C tst Z s=.ok v s/\Zq v=aa (q x)/\(q x=aj->pv C elt Z s=.ok (g x) s))(ho:own nl t=aj:=by rfl):pv C (.comp1 cap nl t it [tst] elt) O s=.ok (.lst<|(l.filter q).map g) s:=by
 rw[pv,T9 ho,hw,Za,VD (q:=q) λx hx=>by
  obtain⟨Z,v,e1,e2,e3,e4⟩:=h x hx;rw[e1,ZN,Za,pvt,e2,Za,e3,ZN,Za];cases c:q x with
  |true=>
   rw[T9 rfl,pvt,Za,T9 rfl,T9 rfl,e4 c];rfl
  |false=>rw[T8 (by simp),Za,T8 (by simp),T8 (by simp)]]
 rw[Za,T9 (by rw[aw];exact cn (eC ..) hl)];rfl
def wv{Q:V->Prop}(hw:pvw C it O s=.ok (ZZ 0 k) s)(hl:k<=lim)(h:∀(x:V)(s:DS),∃Z y s',Zk t x (Z5 cap nl O)=aa Z/\pv C elt Z s=.ok y s'/\Q y)(ho:own nl t=aj:=by rfl) :
  ∃ys s',pv C (.comp1 cap nl t it [] elt) O s=.ok (.lst ys) s'/\ys.length=k/\∀y∈ys,Q y:=by
 obtain⟨ys,s',e1,e2,e3⟩:=Vn (f:=λx s=>(po (Zk t x<|Z5 cap nl O) s).bind λZ s=>(pvt C [] Z s).bind λb s=>if b then(pv C elt Z s).bind λy s=>.ok [y] s else .ok [] s) (λx s=>by
  obtain⟨Z,y,s',f1,f2,f3⟩:=h x s;refine#[y,s',?_,f3];rw[f1,ZN,Za,pvt,Za];rw[f2];rfl) (ZZ 0 k) s
 have hk:(ZZ 0 k).length=k:=by unfold ZZ;simp
 refine#[ys,s',?_,by rw[e2,hk],e3]
 rw[pv,T9 ho,hw,Za,e1,Za,T9 (by rw[e2,hk];exact hl)];rfl
end
def ZcU{xs:List V}{k:Nat}(h:k<=xs.length):Xp xs ag (aa (k:Int))=xs.take k:=by
 show(xs.drop 0).take ((if(k:Int)<0 then((k:Int)+xs.length).toNat else pc (k:Int).toNat xs.length)-0)=_
 rw[T8 (by lia),show pc (k:Int).toNat xs.length-0=k by lia];rfl
def zj{xs:List V}{i:Int}{k:Nat}(hi:i=k)(h:k<=xs.length):Xp xs (aa i) ag=xs.drop k:=by
 subst hi;show(xs.drop<|if(k:Int)<0 then((k:Int)+xs.length).toNat else pc (k:Int).toNat xs.length).take (xs.length-(if(k:Int)<0 then((k:Int)+xs.length).toNat else pc (k:Int).toNat xs.length))=_
 rw[T8 (by lia),show pc (k:Int).toNat xs.length=k by lia]
 exact cp (by rw[bo];lia)
def jj{xs:List V}:Xp xs (aa 1) ag=xs.tail:=by
 cases xs with|nil=>rfl|cons x xs=>exact zj rfl (by simp)
noncomputable def Zl(k:Nat):V:=.int k
def Jn(n:Nat):ZZ 0 n=(aL n).map Zl:=by rw[ZbI];rfl
def Ud(h0:0<=i)(h1:i<1000000):Y7 i=aj:=by
 unfold Y7;have e:(2:Int)^62=4611686018427387904:=by decide
 rw[e];exact T5 #[by lia,by lia]
def Zm(hf:F[f]?=aa fn)(hne:f≠tk)(hl:vs.length=fn.ps)(h:rvs (Zo F tk d) (muts fn.body) fn.body (ZS fn.ns vs) [] s=.ok (.ret v) s'):Zo F tk (d+1) f vs s=.ok v s':=by
 rw[QP hf hne hl,h];rfl
def Zj(h:rv C ms m O os s=.ok (.nx ρ' os') s'):rvs C ms (m::l) O os s=rvs C ms l ρ' os' s':=by rw[rvs,h];rfl
def Zn(h:rv C ms m O os s=.ok (.ret v) s'):rvs C ms (m::l) O os s=.ok (.ret v) s':=by rw[rvs,h];rfl
def ZM(h:pv C e O s=.ok v s'):rv C ms (.ret e) O os s=.ok (.ret v) s':=by rw[rv,h];rfl
def Vs{b:Bool}{t:E}{x y:List Sm}(h:Y5 C t O s=.ok b s'):rv C ms (.ite t x y) O os s=if b=aj then rvs C ms x O os s' else rvs C ms y O os s':=by rw[rv,h];rfl
def XV{v:V}{b:Bool}{t:E}(h:pv C t O s=.ok v s')(hb:Zq v=aa b):Y5 C t O s=.ok b s':=by unfold Y5;rw[h,Za,hb];rfl
def Zs{f:Nat}{as:List E}{vs:List V}{v:V}{s1:DS}(h:pvs C as O s=.ok vs s1)(hc:C f vs s1=.ok v s'):pv C (.call f as) O s=.ok v s':=by rw[pv,h];exact hc
def Ze:pvs C [] O s=.ok [] s:=by rw[pvs]
def Zc{e:E}{es:List E}{v:V}{vs:List V}{s1:DS}(h:pv C e O s=.ok v s1)(h2:pvs C es O s1=.ok vs s'):pvs C (e::es) O s=.ok (v::vs) s':=by rw[pvs,h,Za,h2];rfl
def Zg{i:Nat}{v:V}(h:O[i]?=aa (aa v)):pv C (.v i) O s=.ok v s:=by rw[pv,h];rfl
def Yp{i:Nat}{e:E}{v:V}(h:pv C e O s=.ok v s')(hm:(ms.contains i&&fresh e)=ak):rv C ms (.asg [i] e) O [] s=.ok (.nx (O.set i<|aa v) []) s':=by
 rw[rv];show(pv C e O s).bind _=_;rw[h,Za,T8 (by rw[hm];simp)];rfl
def jn{Z B:Type}{t:List Nat}{it:W}{b:List Sm}{L:List B}{e:B->V}{step:Z->B->Z}{O:Z->Option V->Env}{st:Z}{o:Option V}(I:Z->Prop)(hw:pvw C it (hide os<|O st o) s=.ok (L.map e) s)(hI:I st)(ht:(t.any os.contains)=ak)
  (h:∀x∈L,∀st o,I st->I (step st x)/\(os.isEmpty||(e x).flat)=aj/\∃ρ1 o',Zk t (e x) (O st o)=aa ρ1/\rvs C ms b ρ1 os s=.ok (.nx (O (step st x) o') os) s) :
  ∃o',I (L.foldl step st)/\rv C ms (.forr t it b) (O st o) os s=.ok (.nx (O (L.foldl step st) o') os) s:=by
 obtain⟨o',h1,h2⟩:=Qk (body:=λx O os s=>if(t.any os.contains)=aj then .no else(po (Zk t x O) s).bind λO s=>rvs C ms b O os s) (s:=s) (os:=os) (O:=O) (step:=step) (e:=e) I (l:=L) (st:=st) (o:=o) hI (λx hx st o hI=>by
  obtain⟨a,f,ρ1,o',b1,b2⟩:=h x hx st o hI;refine#[a,o',?_];rw[T8 (by rw[ht];simp),b1,ZN,Za,b2])
 refine#[o',h1,?_];rw[rv,hw,Za];exact h2
def YV{e:E}{n:Nat}(h:pv C e O s=.ok (.int n) s')(hn:n<1000000):pvw C (.rng1 e) O s=.ok ((aL n).map Zl) s':=by
 rw[pvw,h,Za];show(if Y7 (n:Int)=aj then PR.ok (ZZ 0 (n:Int).toNat) s' else .no)=_
 rw[T9 (Ud (by lia) (by lia)),dv,Jn]
def Jv{B:Type}{t:List Nat}{it:W}{b:List Sm}{L:List B}{e:B->V}(I:List B->Env->Prop)(hw:pvw C it (hide os O) s=.ok (L.map e) s)(hI:I L O)(ht:(t.any os.contains)=ak)
  (h:∀x l O,I (x::l) O->(os.isEmpty||(e x).flat)=aj/\∃ρ1 ρ',Zk t (e x) O=aa ρ1/\rvs C ms b ρ1 os s=.ok (.nx ρ' os) s/\I l ρ') :
  ∃ρ',I [] ρ'/\rv C ms (.forr t it b) O os s=.ok (.nx ρ' os) s:=by
 rw[rv,hw,Za];clear hw
 induction L generalizing O with
 |nil=>exact#[O,hI,rfl]
 |cons x L ih=>
  obtain⟨f,ρ1,ρ',b1,b2,b3⟩:=h x L O hI;obtain⟨ρ2,c1,c2⟩:=ih b3;refine#[ρ2,c1,?_];rw[aW,Y2,T8 (by rw[ht];simp),b1,ZN,Za,b2,Za]
  exact c2
def y4{Z B:Type}{t:List Nat}{it:W}{b:List Sm}{L:List B}{e:B->V}{step:Z->B->Z}{O:Z->Option V->Env}{st:Z}{o:Option V}(I:List B->Z->Prop)(hw:pvw C it (hide os<|O st o) s=.ok (L.map e) s)(hI:I L st)(ht:(t.any os.contains)=ak)
  (h:∀x l st o,I (x::l) st->I l (step st x)/\(os.isEmpty||(e x).flat)=aj/\∃ρ1 o',Zk t (e x) (O st o)=aa ρ1/\rvs C ms b ρ1 os s=.ok (.nx (O (step st x) o') os) s) :
  ∃o',I [] (L.foldl step st)/\rv C ms (.forr t it b) (O st o) os s=.ok (.nx (O (L.foldl step st) o') os) s:=by
 rw[rv,hw,Za];clear hw
 induction L generalizing st o with
 |nil=>exact#[o,hI,rfl]
 |cons x L ih=>
  obtain⟨a,f,ρ1,o',b1,b2⟩:=h x L st o hI;obtain⟨o2,c1,c2⟩:=ih (st:=step st x) (o:=o') a;refine#[o2,c1,?_];rw[aW,Y2,T8 (by rw[ht];simp),b1,ZN,Za,b2,Za]
  exact c2
def pvF:(∀a,fresh (.lst a)=aj)/\(∀a b,fresh (.bin .mul (.lst a) b)=aj)/\(∀b,Zq (.bl b)=aa b)/\(∀i,Zq (.int i)=aa (ae<|i≠0))/\(∀xs,Zq (.tup xs)=aa (!xs.isEmpty))/\(∀xs,Zq (.lst xs)=aa (!xs.isEmpty))/\(Zq .non=aa ak)/\(∀xs i,ixV (.tup xs) (.int i)=at' xs i)/\(∀xs i,ixV (.lst xs) (.int i)=at' xs i)/\(∀xs,Yu (.tup xs)=aa xs)/\(∀xs,Yu (.lst xs)=aa xs)/\(∀x,Xt .len [x]=(Yu x).map λxs=>.int xs.length)/\(∀x,Xt .tuple [x]=(Yu x).map .tup)/\(∀x,Xt .list [x]=(Yu x).map .lst)/\(∀xs,Xt .all [.lst xs]=(ZW xs).map λbs=>.bl<|bs.all id)/\(∀a b,Xt .max2 [.int a,.int b]=aa (.int (if b>a then b else a)))/\(∀a b,Xt .min2 [.int a,.int b]=aa (.int (if b<a then b else a)))/\(∀a,Xt .toInt [.int a]=aa (.int a))/\(∀a,Xt .toInt [.bl a]=aa (.int<|b2i a))/\(∀xs,Xt .sortedR [.lst xs]=(Z4 xs).bind λrs=>if Z0 rs=aj then aa (.lst<|(Zi rs).reverse.map Zb)else ag)/\(∀a b s,YZ .add (.int a) (.int b) s=.ok (.int<|a+b) s)/\(∀a b s,YZ .sub (.int a) (.int b) s=.ok (.int<|a-b) s)/\(∀a b s,YZ .mul (.int a) (.int b) s=if(fits a&&fits b)=aj then .ok (.int<|a*b) s else .no)/\(∀a b s,YZ .mod (.int a) (.int b) s=if 0<b then .ok (.int<|a%b) s else .no)/\(∀a b s,YZ .add (.tup a) (.tup b) s=if a.length+b.length<=lim then .ok (.tup<|a++b) s else .no)/\(∀a b s,YZ .mul (.tup a) (.int b) s=if 0<=b/\b<1000/\a.length<=1000 then .ok (.tup (aA b.toNat a).flatten) s else .no)/\(∀a b s,YZ .mul (.lst a) (.int b) s=if 0<=b/\b<1000/\a.length<=1000 then .ok (.lst (aA b.toNat a).flatten) s else .no)/\(∀a b s,YZ .add (.lst a) (.lst b) s=if a.length+b.length<=lim then .ok (.lst<|a++b) s else .no)/\(∀x y,Yl .eq x y=(eqV Zw x y).map .bl)/\(∀x y,Yl .ne x y=(eqV Zw x y).map λb=>.bl !b)/\(∀a b,Yl .lt (.int a) (.int b)=aa (.bl<|ae<|a<b))/\(∀a b,Yl .gt (.int a) (.int b)=aa (.bl<|ae<|b<a))/\(∀a b,Yl .le (.int a) (.int b)=aa (.bl<|ae<|a<=b))/\(∀a b,Yl .ge (.int a) (.int b)=aa (.bl<|ae<|b<=a))/\(∀x,Yl .is x .non=aa (.bl<|Vz x))/\(∀x,Yl .isn x .non=aa (.bl !(Vz x)))/\(∀a b,Yl .is (.bl a) (.bl b)=aa (.bl<|ae<|a=b))/\(∀a b,Yl .isn (.bl a) (.bl b)=aa (.bl !(ae<|a=b)))/\(∀x y,Yl .inn x y=(Vv x y).map .bl)/\(∀x y,Yl .nin x y=(Vv x y).map λb=>.bl !b)/\(Vz .non=aj)/\(∀b,Vz (.bl b)=ak)/\(∀b,Vz (.int b)=ak)/\(∀b,Vz (.tup b)=ak)/\(∀b,Vz (.lst b)=ak)/\(ofD .non=aa .non)/\(∀b,ofD (.bl b)=aa (.bl b))/\(∀b,ofD (.int b)=aa (.int b))/\(∀O,YM [] [] O=aa O)/\(∀i t x xs O,YM (i::t) (x::xs) O=YM t xs (O.set i<|aa x))/\(∀i x O,Zk [i] x O=aa (O.set i<|aa x))/\(∀i j t xs O,Zk (i::j::t) (.tup xs) O=YM (i::j::t) xs O)/\(∀i j t xs O,Zk (i::j::t) (.lst xs) O=YM (i::j::t) xs O)/\(∀k a b,eqV (k+1) (.int a) (.int b)=aa (ae<|a=b))/\(∀k a b,eqV (k+1) (.bl a) (.bl b)=aa (ae<|a=b))/\(∀k a b,eqV (k+1) (.tup a) (.tup b)=Yq (eqV k) a b)/\(∀k a b,eqV (k+1) (.lst a) (.lst b)=if a.length=b.length then Yq (eqV k) a b else aa ak):=
 #[λ_=>rfl,λ_ _=>rfl,λ_=>rfl,λ_=>rfl,λ_=>rfl,λ_=>rfl,rfl,λ_ _=>rfl,λ_ _=>rfl,λ_=>rfl,λ_=>rfl,λ_=>rfl,λ_=>rfl,λ_=>rfl,λ_=>rfl,λ_ _=>rfl,λ_ _=>rfl,λ_=>rfl,λ_=>rfl,λ_=>rfl,λ_ _ _=>rfl,λ_ _ _=>rfl,λ_ _ _=>rfl,λ_ _ _=>rfl,λ_ _ _=>rfl,λ_ _ _=>rfl,λ_ _ _=>rfl,λ_ _ _=>rfl,λ_ _=>rfl,λ_ _=>rfl,λ_ _=>rfl,λ_ _=>rfl,λ_ _=>rfl,λ_ _=>rfl,λ_=>rfl,λ_=>rfl,λ_ _=>rfl,λ_ _=>rfl,λ_ _=>rfl,λ_ _=>rfl,rfl,λ_=>rfl,λ_=>rfl,λ_=>rfl,λ_=>rfl,rfl,λ_=>rfl,λ_=>rfl,λ_=>rfl,λ_ _ _ _ _=>rfl,λ_ _ _=>rfl,λ_ _ _ _ _=>rfl,λ_ _ _ _ _=>rfl,λ_ _ _=>rfl,λ_ _ _=>rfl,λ_ _ _=>rfl,λ_ _ _=>rfl]
def pvE:=aT (aT (aT (aT (aT (aT pvF @Za)<|aT @ZN @Y5.eq_1)<|aT (aT @ZS.eq_1 @hide.eq_1)<|aT @Z5.eq_1 @Option.join.eq_1.{0})<|aT (aT (aT @lim.eq_1 @rvs.eq_1)<|aT @rvs.eq_2 @rv.eq_1)<|aT (aT @rv.eq_2 @rv.eq_3)<|aT @rv.eq_4 @rv.eq_5)<|aT (aT (aT (aT @rv.eq_6 @rv.eq_7)<|aT @rv.eq_8 @rv.eq_9)<|aT (aT @rv.eq_10 @rv.eq_11)<|aT @rv.eq_12 @rv.eq_13)<|aT (aT (aT @rv.eq_14 @rv.eq_15)<|aT @rv.eq_16 @rv.eq_17)<|aT (aT @rv.eq_18 @pvA.eq_1)<|aT @pvA.eq_2<|aT @pvs.eq_1 @pvs.eq_2)<|aT (aT (aT (aT (aT @pvo.eq_1 @pvo.eq_2)<|aT @pvt.eq_1 @pvt.eq_2)<|aT (aT @pvw.eq_1 @pvw.eq_2)<|aT @pvw.eq_3 @pvw.eq_4)<|aT (aT (aT @pvw.eq_5 @pvw.eq_6)<|aT @pvw.eq_7 @pv.eq_1)<|aT (aT @pv.eq_2 @pv.eq_3)<|aT @pv.eq_4<|aT @pv.eq_5 @pv.eq_6)<|aT (aT (aT (aT @pv.eq_7 @pv.eq_8)<|aT @pv.eq_9 @pv.eq_10)<|aT (aT @pv.eq_11 @pv.eq_12)<|aT @pv.eq_13 @pv.eq_14)<|aT (aT (aT @pv.eq_15 @pv.eq_16)<|aT @pv.eq_17 @pv.eq_18)<|aT (aT @pv.eq_19 @pv.eq_20)<|aT @pv.eq_21<|aT @pv.eq_22 @pv.eq_23
end Pv
namespace K91
open Ev Pv Rw La
noncomputable abbrev CV(d:Nat):Zz:=Zo fns 2 d
theorem Qh(C:Zz)(s:DS)(v:V):∀(r:Row)(k:Nat)(a b:Option V),∃a' b',Y2 (λx O os s=>if(([1,2]:List Nat).any os.contains)=aj then .no else(po (Zk [1,2] x O) s).bind λO s=>rvs C [] [.ite (.cmp .ne (.v 2)<|.c<|.int 0) [.ret<|.v 1] []] O os s)
   (((ZZ k r.length).zip<|r.map V.int).map λp=>V.tup [p.1,p.2]) [aa v,a,b] [] s=match hdI r with
    |some m=>.ok (.ret<|.int (k+m:Nat)) s
    |none=>.ok (.nx [aa v,a',b'] []) s
 |[],k,a,b=>#[a,b,rfl]
 |x::r,k,a,b=>by
  have er:ZZ k (x::r).length=.int k::ZZ (k+1:Nat) r.length:=by
   unfold ZZ;rw[aP,k7,aW,bn];refine List.cons_eq_cons.mpr #[by simp,?_]
   .refine c9 λj _=>?_
    show V.int ((k:Int)+((j+1:Nat):Int))=V.int (((k+1:Nat):Int)+(j:Int))
    congr 1
    lia
  obtain⟨a',b',ih⟩:=Qh C s v r (k+1) (aa<|.int k)<|aa<|.int x;refine#[a',b',?_];rw[er,aW,b0,aW,Y2];by_cases c:x=0
  .subst c
   have e0:hdI (0::r)=(hdI r).map (· + 1):=by rw[hdI,T8 (by simp)]
   have e1:(if(([1,2]:List Nat).any ([]:List Nat).contains)=aj then(.no:PR FlV)else(po (Zk [1,2] (V.tup [.int k,.int 0]) [aa v,a,b]) s).bind λO s=>rvs C [] [.ite (.cmp .ne (.v 2)<|.c<|.int 0) [.ret<|.v 1] []] O [] s)=.ok (.nx [aa v,aa<|.int k,aa<|.int 0] []) s:=by
    simp[pvE,Zw]
   rw[e1,Za,e0];show Y2 _ _ [aa v,aa<|.int k,aa<|.int 0] [] s=_;rw[ih];cases hdI r with|none=>rfl|some m=>show PR.ok (FlV.ret<|.int ((k+1+m:Nat):Int)) s=PR.ok (FlV.ret<|.int ((k+(m+1):Nat):Int)) s;congr 3;lia
  .have e0:hdI (x::r)=aa 0:=by rw[hdI,T9 c]
   have e1:(if(([1,2]:List Nat).any ([]:List Nat).contains)=aj then(.no:PR FlV)else(po (Zk [1,2] (V.tup [.int k,.int x]) [aa v,a,b]) s).bind λO s=>rvs C [] [.ite (.cmp .ne (.v 2)<|.c<|.int 0) [.ret<|.v 1] []] O [] s)=.ok (.ret<|.int k) s:=by
    simp[pvE,Zw,c]
   rw[e1,Za,e0];rfl
def JZ(d:Nat)(r:Row)(s:DS):CV (d+1) 16 [Zb r] s=.ok (WC<|hdI r) s:=by
 rw[CV,QP rfl (by decide) rfl]
 obtain⟨a,b,e⟩:=Qh (Zo fns 2 d) s (Zb r) r 0 ag ag;show((rv _ [] (.forr [1,2] (.enum<|.v 0) _) [aa<|Zb r,ag,ag] [] s).bind _).bind _=_;have e2:rv (Zo fns 2 d) [] (.forr [1,2] (.enum<|.v 0) [.ite (.cmp .ne (.v 2)<|.c<|.int 0) [.ret<|.v 1] []]) [aa<|Zb r,ag,ag] [] s=match hdI r with
    |some m=>.ok (.ret<|.int (m:Nat)) s
    |none=>.ok (.nx [aa<|Zb r,a,b] []) s:=by
  rw[rv];have ew:pvw (Zo fns 2 d) (.enum<|.v 0) (hide [] [aa<|Zb r,ag,ag]) s=.ok (((ZZ 0 r.length).zip<|r.map V.int).map λp=>V.tup [p.1,p.2]) s:=by
   simp[pvE,Zb]
  rw[ew,Za];simp only[Nat.zero_add,Int.natCast_zero]at e;exact e
 rw[e2];cases hdI r with|none=>rfl|some m=>rfl
section
variable{p n:Nat}[Base p]
def WB:(p:Int)<=5/\(2:Int)<=p:=by rcases(inferInstance:Base p).b with e|e|e<;>subst e<;>decide
theorem yr(d:Nat){r o:Row}{k:Int}(s:DS)(hn:n<=6)(hr:Zd p n r)(ho:Zd p n o)(hk:-1000<k/\k<1000):CV (d+1) 28 [.int p,Zb r,Zb o,.int k] s=.ok (Zb<|ZJ p r o k) s:=by
 rw[CV,QP rfl (by decide) rfl]
 have hp:=WB (p:=p);have hc:=Zx (C:=Zo fns 2 d) (cap:=[3,0]) (nl:=2) (t:=[0,1]) (it:=.zip (.v 1)<|.v 2) (elt:=.bin .mod (.bin .add (.v 0)<|.bin .mul (.v 2)<|.v 1)<|.v 3) (O:=[aa<|.int p,aa<|Zb r,aa<|Zb o,aa<|.int k]) (s:=s) (l:=r.zip o) (e:=λq=>V.tup [.int q.1,.int q.2]) (g:=λq=>V.int<|(q.1+k*q.2)%p)
  (by simp[pvE,Zb,Gd]) (by rw[fm,hr.1,ho.1];unfold lim;lia) (λq hq=>by
   have h2:=ho.2 q.2 (hZ hq).2;refine#[_,rfl,?_];have f1:=Z1 (a:=k) (by lia) (by lia)
   have f2:=Z1 (a:=q.2) (by lia) (by lia)
   have hp0:0<p:=by lia
   simp[pvE,f1,f2,hp0])
 have e:(r.zip o).map (λq=>V.int<|(q.1+k*q.2)%p)=(ZJ p r o k).map V.int:=by
  unfold ZJ;rw[<-gO,bn];rfl
 simp[WT,pvE,hc,e];rfl
theorem x8(d:Nat){r o:Row}{h:Nat}(s:DS)(hn:n<=6)(hr:Zd p n r)(ho:Zd p n o)(hh:h<n):CV (d+2) 29 [.int p,Zb r,Zb o,.int h] s=.ok (Zb<|clr p r o h) s:=by
 rw[CV,QP rfl (by decide) rfl]
 have hg:=Wi ppos hr h;have hp:=WB (p:=p);have e:=yr d (k:=-(gt r h)) s hn hr ho #[by lia,by lia]
 have e2:=Ub (by rw[hr.1];exact hh)
 simp only[CV]at e;simp[QD,pvE,Zb,e2];simp only[Zb]at e;rw[e];simp[pvE,clr]
theorem Ze3(d:Nat){r:Row}{k:Int}(s:DS)(hn:n<=6)(hr:Zd p n r)(hk:-1000<k/\k<1000):CV (d+1) 31 [.int p,Zb r,.int k] s=.ok (Zb<|XE p r k) s:=by
 rw[CV,QP (fn:=JN) rfl (by decide) rfl]
 have hp:=WB (p:=p);have hc:=Zx (C:=Zo fns 2 d) (cap:=[2,0]) (nl:=1) (t:=[0]) (it:=.of<|.v 1) (elt:=.bin .mod (.bin .mul (.v 1)<|.v 0)<|.v 2) (O:=[aa<|.int p,aa<|Zb r,aa<|.int k]) (s:=s) (l:=r) (e:=V.int) (g:=λq=>V.int<|k*q%p)
  (by simp[pvE,Zb]) (by rw[hr.1];unfold lim;lia) (λq hq=>by
   have h2:=hr.2 q hq;refine#[_,rfl,?_];have f1:=Z1 (a:=k) (by lia) (by lia)
   have f2:=Z1 (a:=q) (by lia) (by lia)
   have hp0:0<p:=by lia
   simp[pvE,f1,f2,hp0])
 simp[JN,pvE,hc];simp[Zb,XE]
def Jq(C:Zz)(m:Nat){q a k:Int}(s:DS)(hq:0<q)(f1:fits a=aj)(f2:fits k=aj):YW (Y5 C<|.cmp .ne (.bin .mod (.bin .mul (.v 2)<|.v 1)<|.v 0)<|.c<|.int 1) (rvs C [] [.aug 2 .add<|.c<|.int 1]) (m+1) [aa<|.int q,aa<|.int a,aa<|.int k] [] s =
  if k*a%q=1 then .ok (.nx [aa<|.int q,aa<|.int a,aa<|.int k] []) s else YW (Y5 C<|.cmp .ne (.bin .mod (.bin .mul (.v 2)<|.v 1)<|.v 0)<|.c<|.int 1) (rvs C [] [.aug 2 .add<|.c<|.int 1]) m [aa<|.int q,aa<|.int a,aa<|.int<|k+1] [] s:=by
 rw[YW];by_cases c:k*a%q=1<;>simp[pvE,f1,f2,hq,Zw,c,Zer]
theorem Zbj(d:Nat){a:Int}(s:DS)(ha:0<a/\a<p):CV (d+1) 32 [.int p,.int a] s=.ok (.int<|Uy p a) s:=by
 rw[CV,QP (fn:=Qn) rfl (by decide) rfl]
 generalize Zo fns 2 d=C;have fs:∀k:Int,0<=k->k<=5->fits k=aj:=λk h0 h1=>Z1 (by lia) (by lia)
 have hp:=WB (p:=p);have fa:=fs a (by lia) (by lia)
 have key:YW (Y5 C<|.cmp .ne (.bin .mod (.bin .mul (.v 2)<|.v 1)<|.v 0)<|.c<|.int 1) (rvs C [] [.aug 2 .add<|.c<|.int 1]) (996+1+1+1+1) [aa<|.int p,aa<|.int a,aa<|.int 1] [] s=.ok (.nx [aa<|.int p,aa<|.int a,aa<|.int<|Uy p a] []) s:=by
  rw[Jq C _ s (by lia) fa (fs 1 (by lia) (by lia)),Jq C _ s (by lia) fa (fs (1+1) (by lia) (by lia)),Jq C _ s (by lia) fa (fs (1+1+1) (by lia) (by lia)),Jq C _ s (by lia) fa<|fs (1+1+1+1) (by lia) (by lia)]
  rcases(inferInstance:Base p).b with e|e|e<;>subst e
  .have:a=1:=by lia
   subst this;rfl
  .have:a=1\/a=2:=by lia
   rcases this with e|e<;>subst e<;>rfl
  .have:a=1\/a=2\/a=3\/a=4:=by lia
   rcases this with e|e|e|e<;>subst e<;>rfl
 have e:rv C [] (.whl (.cmp .ne (.bin .mod (.bin .mul (.v 2)<|.v 1)<|.v 0)<|.c<|.int 1) [.aug 2 .add<|.c<|.int 1]) [aa<|.int p,aa<|.int a,aa<|.int 1] [] s=.ok (.nx [aa<|.int p,aa<|.int a,aa<|.int<|Uy p a] []) s:=by
  rw[rv];exact key
 show((rvs C [] (.asg [2] (.c<|.int 1) :: .whl _ _ :: .ret (.v 2)::[]) [aa<|.int p,aa<|.int a,ag] [] s).bind _)=_;have e1:rv C [] (.asg [2]<|.c<|.int 1) [aa<|.int p,aa<|.int a,ag] [] s=.ok (.nx [aa<|.int p,aa<|.int a,aa<|.int 1] []) s:=by simp[pvE]
 rw[rvs,e1,Za];show((rvs C [] (.whl _ _ :: .ret (.v 2)::[]) [aa<|.int p,aa<|.int a,aa<|.int 1] [] s).bind _)=_;rw[rvs,e,Za];simp[pvE]
end
section
variable{p n:Nat}[Base p]
def X7(C:Zz)(ms:List Nat){i j:Nat}{O:Env}{os:List Nat}{s:DS}{e:E}(h:pvA C e O os s=.ok (spV p n) s)(ho:os.contains i=ak/\os.contains j=ak):rv C ms (.asg [i,j] e) O os s=.ok (.nx ((O.set i<|aa<|.int p).set j<|aa<|.int n) os) s:=by
 rw[rv,h,Za,T8 (by simpa using ho)]
 .rfl
 .simp
def va(d:Nat){P:List Row}{r:Row}(s:DS)(hn:n<=6)(hP:pZ p n P)(hr:Zd p n r):CV (d+3) 30 [spV p n,Zf P,Zb r] s=.ok (Zb<|Zh p P r) s:=by
 refine Zm rfl (by decide) rfl ?_
 show rvs (CV<|d+2) [] (.asg [3,4] (.v 0) :: .asg [5] (.v 2) :: .forr [6] (.of<|.v 1) [.asg [5]<|.call 29 [(.v 3),(.v 5),(.v 6),(.call 16 [(.v 6)])]] :: .ret (.v 5)::[]) [aa<|spV p n,aa<|Zf P,aa<|Zb r,ag,ag,ag,ag] [] s=_;rw[Zj<|X7 (p:=p) (n:=n) _ _ (by simp[pvE]) (by simp)]
 rw[Zj (ρ':=[aa<|spV p n,aa<|Zf P,aa<|Zb r,aa<|.int p,aa<|.int n,aa<|Zb r,ag]) (os':=[]) (s':=s) (by simp[pvE])]
 obtain⟨o',hI,e⟩:=jn (C:=CV<|d+2) (ms:=[]) (t:=[6]) (it:=.of<|.v 1) (b:=[.asg [5]<|.call 29 [(.v 3),(.v 5),(.v 6),(.call 16 [(.v 6)])]]) (L:=P) (e:=Zb) (step:=λst o=>clr p st o<|(hdI o).getD 0) (O:=λst o=>[aa<|spV p n,aa<|Zf P,aa<|Zb r,aa<|.int p,aa<|.int n,aa<|Zb st,o]) (os:=[]) (s:=s) (Zd p n) (by simp[pvE,Zf]) hr rfl (λx hx st o hst=>by
  have hx':=hP.row x hx;obtain⟨k,hk,hkn,_⟩:=hP.head fld.one0 hx;refine#[Zr hst hx',rfl,_,aa<|Zb x,rfl,?_];have e1:=JZ (d+1) x s;have e2:=x8 d s hn hst hx' hkn;rw[hk]at e1;simp only[WC]at e1;have e3:=e1;simp[pvE,e3,e2,hk])
 rw[Zj e];exact Zn<|ZM (by simp[pvE,Zh])
theorem dsum{P:List Row}(hP:pZ p n P):P.length<=n:=by
 have:=vp fld hP.pn;rw[J0]at this;lia
theorem j9(d:Nat){P:List Row}{r:Row}(s:DS)(hn:n<=6)(hP:pZ p n P)(hr:Zd p n r):CV (d+4) 33 [spV p n,Zf P,Zb r] s=.ok (Zf<|XO p P r) s:=by
 refine Zm (fn:=X3) rfl (by decide) rfl ?_
 show rvs (CV<|d+3) [] X3.body [aa<|spV p n,aa<|Zf P,aa<|Zb r,ag,ag,ag,ag,ag,ag] [] s=_
 dsimp only[X3]
 obtain⟨l1,l2⟩:=VO hP.row hP.pn.rf hr;have hw:=(Wn hP hr).1;rw[Zj<|X7 (p:=p) (n:=n) _ _ (by simp[pvE]) (by simp)]
 have e1:=va d s hn hP hr;rw[Zj (ρ':=[aa<|spV p n,aa<|Zf P,aa<|Zb r,aa<|.int p,aa<|.int n,aa<|Zb<|Zh p P r,ag,ag,ag]) (os':=[]) (s':=s) (by simp[pvE,e1])]
 have e2:=JZ (d+2) (Zh p P r) s;rw[Zj (ρ':=[aa<|spV p n,aa<|Zf P,aa<|Zb r,aa<|.int p,aa<|.int n,aa<|Zb<|Zh p P r,aa<|WC<|hdI<|Zh p P r,ag,ag]) (os':=[]) (s':=s) (by simp[pvE,e2])]
 cases q:hdI (Zh p P r)with
 |none=>
  refine Zn ?_;have:XO p P r=P:=by unfold XO;rw[q]
  simp[pvE,WC,this]
 |some h=>
  obtain⟨h1,h2,h3⟩:=ZX q;rw[l1.1]at h2;have hg:=Wi ppos l1 h;have hp:=WB (p:=p);have hwid:XO p P r=(Zi<|P.map (λo=>clr p o (lead p (Zh p P r) h) h)++[lead p (Zh p P r) h]).reverse:=by unfold XO;rw[q]
  rw[Zj (ρ':=[aa<|spV p n,aa<|Zf P,aa<|Zb r,aa<|.int p,aa<|.int n,aa<|Zb<|Zh p P r,aa<|.int h,ag,ag]) (os':=[]) (s':=s) (by simp[pvE,WC])]
  have e3:=Zbj (p:=p) (d+2) (a:=gt (Zh p P r) h) s #[by lia,hg.2]
  have hi:-1000<Uy p (gt (Zh p P r) h)/\Uy p (gt (Zh p P r) h)<1000:=by
   unfold Uy
   repeat' split
   all_goals lia
  have e4:=Ze3 (p:=p) (d+2) s hn l1 hi;have e5:=Ub (r:=Zh p P r) (k:=h) (by rw[l1.1];exact h2)
  have hl:Zd p n (lead p (Zh p P r) h):=QN l1;rw[Zj (ρ':=[aa<|spV p n,aa<|Zf P,aa<|Zb r,aa<|.int p,aa<|.int n,aa<|Zb<|Zh p P r,aa<|.int h,aa<|Zb<|lead p (Zh p P r) h,ag]) (os':=[]) (s':=s) (by
   have e6:pv (CV<|d+3) (.call 31 [(.v 3),(.v 5),(.call 32 [(.v 3),(.ix (.v 5)<|.v 6)])]) [aa<|spV p n,aa<|Zf P,aa<|Zb r,aa<|.int p,aa<|.int n,aa<|Zb<|Zh p P r,aa<|.int h,ag,ag] s=.ok (Zb<|lead p (Zh p P r) h) s:=by
    refine Zs (vs:=[.int p,Zb<|Zh p P r,.int<|Uy p<|gt (Zh p P r) h]) (s1:=s) ?_ e4;have e7:pv (CV<|d+3) (.call 32 [(.v 3),(.ix (.v 5)<|.v 6)]) [aa<|spV p n,aa<|Zf P,aa<|Zb r,aa<|.int p,aa<|.int n,aa<|Zb<|Zh p P r,aa<|.int h,ag,ag] s=.ok (.int<|Uy p<|gt (Zh p P r) h) s:=by
     refine Zs (vs:=[.int p,.int<|gt (Zh p P r) h]) (s1:=s) ?_ e3;simp[pvE,Zb,e5]
    exact Zc (Zg rfl)<|Zc (Zg rfl)<|Zc e7 Ze
   rw[rv];show(pv _ _ _ _).bind _=_;rw[e6];rfl)]
  have hc:=Zx (C:=CV<|d+3) (cap:=[3,7,6]) (nl:=1) (t:=[0]) (it:=.of<|.v 1) (elt:=.call 29 [(.v 1),(.v 0),(.v 2),(.v 3)]) (O:=[aa<|spV p n,aa<|Zf P,aa<|Zb r,aa<|.int p,aa<|.int n,aa<|Zb<|Zh p P r,aa<|.int h,aa<|Zb<|lead p (Zh p P r) h,ag]) (s:=s) (l:=P) (e:=Zb) (g:=λo=>Zb<|clr p o (lead p (Zh p P r) h) h)
   (by simp[pvE,Zf]) (by have:=dsum hP;unfold lim;lia) (λo ho=>#[_,rfl,by
    have:=x8 (p:=p) (d+1) (h:=h) s hn (hP.row o ho) hl h2;simp[pvE,this]])
  rw[Zj (ρ':=[aa<|spV p n,aa<|Zf P,aa<|Zb r,aa<|.int p,aa<|.int n,aa<|Zb<|Zh p P r,aa<|.int h,aa<|Zb<|lead p (Zh p P r) h,aa<|.lst<|P.map λo=>Zb<|clr p o (lead p (Zh p P r) h) h]) (os':=[]) (s':=s) (by simp[pvE,hc])]
  refine Zn<|ZM ?_;have ea:(P.map λo=>Zb<|clr p o (lead p (Zh p P r) h) h)++[Zb<|lead p (Zh p P r) h]=((P.map λo=>clr p o (lead p (Zh p P r) h) h)++[lead p (Zh p P r) h]).map Zb:=by rw[bK,bn];rfl
  have hs:Z0 ((P.map λo=>clr p o (lead p (Zh p P r) h) h)++[lead p (Zh p P r) h])=aj:=by
   have hlen:((P.map λo=>clr p o (lead p (Zh p P r) h) h)++[lead p (Zh p P r) h]).length=P.length+1:=by simp
   have hnd:((P.map λo=>clr p o (lead p (Zh p P r) h) h)++[lead p (Zh p P r) h]).Nodup:=by
    have h5:=Vq hw.falls;rw[hwid]at h5;exact((Sd.YF _).nodup_iff).mp<|((dO _).nodup_iff).mp h5
   have hd:=dsum hP;unfold Z0;rw[T5 (by rw[hlen];lia),T5 hnd]
   rw[aF];refine#[rfl,aY.mpr λx hx=>?_]
   have:x.length=n:=by
    rcases cW.mp hx with z|z
    .obtain⟨o,ho,rfl⟩:=aO.mp z
     exact(Zr (hP.row o ho) hl).1
    .rw[bg.mp z];exact hl.1
   cases x with|nil=>simp at this;lia|cons _ _=>rfl
  have hlen2:P.length+1<=16777216:=by have:=dsum hP;lia
  simp[pvE,hlen2];rw[ea,YC];simp[pvE,hs,hwid,Zf,n5]
def V8(d:Nat){P R:List Row}{v:V}(s:DS)(hn:n<=6)(hP:pZ p n P)(hR:∀r∈R,Zd p n r)(hv:Yu v=aa (R.map Zb)):CV (d+5) 34 [spV p n,Zf P,v] s=.ok (Zf<|Yb p P R) s:=by
 refine Zm (fn:=Z8) rfl (by decide) rfl ?_
 show rvs (CV<|d+4) [] Z8.body [aa<|spV p n,aa<|Zf P,aa v,ag,ag] [] s=_
 dsimp only[Z8]
 rw[Zj (ρ':=[aa<|spV p n,aa<|Zf P,aa v,aa<|Zf P,ag]) (os':=[]) (s':=s) (by simp[pvE])]
 obtain⟨o',hI,e⟩:=jn (C:=CV<|d+4) (ms:=[]) (t:=[4]) (it:=.of<|.v 2) (b:=[.asg [3]<|.call 33 [(.v 0),(.v 3),(.v 4)]]) (L:=R) (e:=Zb) (step:=XO p) (O:=λst o=>[aa<|spV p n,aa<|Zf P,aa v,aa<|Zf st,o]) (st:=P) (o:=ag) (os:=[]) (s:=s) (pZ p n) (by show pvw (CV<|d+4) (.of<|.v 2) [aa<|spV p n,aa<|Zf P,aa v,aa<|Zf P,ag] s=_;rw[pvw,pv];show po (Yu v) s=_;rw[hv];rfl) hP rfl (λx hx st o hst=>by
  have hx':=hR x hx;refine#[(Wn hst hx').1,rfl,_,aa<|Zb x,rfl,?_];have e2:=j9 d s hn hst hx';simp[pvE,e2])
 rw[Zj e];exact Zn<|ZM (by simp[pvE,Yb])
end
end K91
namespace Rw
open La
open Ev (ltI YA Zi)
end Rw
namespace Rw
open Ev (ltP Y4 Yt)
open La
section
variable{p n:Nat}[Base p]
def xE(hW:pZ p n W)(hr:Zd p n r)(h:∀i,gt r i=0):Xh p W r=aj:=by
 rw[Z2 hW hr];have e:toV p r=λ_=>0:=by funext k;exact(Z7 hr).mpr<|h k
 rw[e];exact WZ
def x9(hW:pZ p n W)(hr:r∈W):Xh p W r=aj:=by
 rw[Z2 hW<|hW.row r hr];exact XX hW.pn.rf<|Yc hr
end
noncomputable def rise(hs:List Nat):Bool:=(hs.zip hs.tail).all λq=>ae<|q.1<q.2
theorem V6:∀{hs:List Nat},rise hs=aj↔hs.Pairwise (· < ·)
 |[]=>by simp[rise]
 |[a]=>by simp[rise]
 |a::b::l=>by
  have ih:=V6 (hs:=b::l);unfold rise at ih ⊢;rw[o9,b0,fv,aF,T0];rw[o9]at ih
  constructor
  .intro#[h1,h2]
   have h3:=ih.mp h2;refine bm.mpr #[λx hx=>?_,h3]
   rcases aB.mp hx with rfl|hx
   .exact h1
   .exact c0 h1<|(bm.mp h3).1 x hx
  .intro h
   obtain⟨h1,h2⟩:=bm.mp h;exact#[h1 b<|am ..,ih.mpr h2]
noncomputable def W8(R:List Row)(i k:Nat):Bool:=ae (gt (R.getD i []) k=1)&&(R.take i++R.drop (i+1)).all λr=>ae<|gt r k=0
noncomputable def VB(R:List Row):Bool:=(R.all λr=>(hdI r).isSome)&&(rise (ZC R)&&(aL R.length).all λi=>W8 R i<|(ZC R).getD i 0)
section
variable{p n:Nat}[Base p]
def QZ{R:List Row}{i:Nat}(hi:i<R.length):R.getD i []=R[i]:=by rw[aN,af hi];rfl
def V9(hi:i<R.length):(ZC R).getD i 0=(hdI R[i]).getD 0:=by
 unfold ZC;rw[aN,aM,af hi];rfl
def Zc9{R:List Row}{i j:Nat}(hj:j<R.length)(h:j≠i):R[j]∈R.take i++R.drop (i+1):=by
 by_cases c:j<i
 .refine dJ _ ?_
  have hl:j<(R.take i).length:=by rw[bz];omega
  rw[<-fD];exact aU hl
 .refine bG _ ?_
  have hl:j-(i+1)<(R.drop<|i+1).length:=by rw[bo];omega
  have e:(R.drop<|i+1)[j-(i+1)]=R[j]:=by rw[fE];congr 1;omega
  rw[<-e];exact aU hl
def Qo{R:List Row}{i:Nat}{r:Row}(h:r∈R.take i++R.drop (i+1)):∃j,∃(hj:j<R.length),j≠i/\R[j]=r:=by
 rcases cW.mp h with z|z
 .obtain⟨j,hj,e⟩:=b9 z
  rw[bz]at hj;exact#[j,by omega,by omega,by rw[<-e,fD]]
 .obtain⟨j,hj,e⟩:=b9 z
  rw[bo]at hj;exact#[i+1+j,by omega,by omega,by rw[<-e,fE]]
def Q3:ph p 1=1:=by
 rcases(inferInstance:Base p).b with e|e|e<;>subst e<;>rfl
def VS(hr:Zd p n r):toV p r k=1↔gt r k=1:=by
 have hb:=(inferInstance:Base p).b
 constructor
 .intro h
  refine yd (Wi ppos hr k) #[by omega,by omega] ?_
  rw[Q3];exact h
 .intro h
  unfold toV;rw[h,Q3]
def X9{R:List Row}(hR:∀r∈R,Zd p n r):VB R=aj↔pZ p n R:=by
 unfold VB;simp only[aF,aY,aR]
 constructor
 .intro#[h1,h2,h3]
  have hd:∀i (hi:i<R.length),∃k,hdI R[i]=aa k/\gt R[i] k=1/\∀j (hj:j<R.length),j≠i->gt R[j] k=0:=λi hi=>by
   obtain⟨k,hk⟩:=bO.mp<|h1 _<|aU hi;have a:=h3 i hi;unfold W8 at a;rw[V9 hi,QZ hi,hk,aF,T0,aY]at a;exact#[k,hk,a.1,λj hj ne=>T6<|a.2 _<|Zc9 hj ne]
  have inc:=V6.mp h2;have memP:∀a∈toP p R,∃i,∃(hi:i<R.length),a=((hdI R[i]).getD 0,toV p R[i]):=λa ha=>by
   obtain⟨r,hr,rfl⟩:=aO.mp ha;obtain⟨i,hi,rfl⟩:=b9 hr;exact#[i,hi,rfl]
  refine#[hR,#[#[?_,λa ha j hj=>?_,λa ha=>?_,λa ha b hb ne=>?_],λa ha=>?_,λa ha=>?_]]
  .rw[<-XW (p:=p)]at inc
   exact cS.mp inc
  .obtain⟨i,hi,rfl⟩:=memP a ha
   obtain⟨k,hk,_,_⟩:=hd i hi;rw[hk]at hj;exact(Z7<|hR _<|aU hi).mpr<|(ZX hk).2.2 j hj
  .obtain⟨i,hi,rfl⟩:=memP a ha
   obtain⟨k,hk,h,_⟩:=hd i hi;rw[hk];exact(VS<|hR _<|aU hi).mpr h
  .obtain⟨i,hi,rfl⟩:=memP a ha
   obtain⟨j,hj,rfl⟩:=memP b hb;obtain⟨k,hk,_,h⟩:=hd i hi;rw[hk];refine(Z7<|hR _<|aU hj).mpr<|h j hj λe=>?_
   subst e;exact ne rfl
  .obtain⟨i,hi,rfl⟩:=memP a ha
   obtain⟨k,hk,_,_⟩:=hd i hi;rw[hk,<-(hR _<|aU hi).1];exact(ZX hk).2.1
  .obtain⟨i,hi,rfl⟩:=memP a ha
   exact XD<|hR _<|aU hi
 .intro hP
  have hk:∀r∈R,∃k,hdI r=aa k/\k<n/\toV p r k=1:=λr hr=>hP.head fld.one0 hr
  refine#[λr hr=>?_,V6.mpr ?_,λi hi=>?_]
  .obtain⟨k,e,_⟩:=hk r hr
   rw[e];rfl
  .rw[<-XW (p:=p)];exact hP.pn.rf.heads
  .obtain⟨k,e,_,h1⟩:=hk _ (aU hi)
   unfold W8;rw[V9 hi,QZ hi,e,aF,T0,aY];refine#[(VS<|hR _<|aU hi).mp h1,λr hr=>?_]
   obtain⟨j,hj,ne,rfl⟩:=Qo hr;refine T5 ?_;obtain⟨k2,e2,_,_⟩:=hk _<|aU hj;have hh:((hdI R[i]).getD 0,toV p R[i]).1≠((hdI R[j]).getD 0,toV p R[j]).1:=by
    have inc:(ZC R).Pairwise (· < ·):=by rw[<-XW (p:=p)];exact hP.pn.rf.heads
    have pw:=bF.mp inc;have li:(ZC R).length=R.length:=by unfold ZC;rw[aw]
    have gi:∀m (hm:m<R.length),(ZC R)[m]'(by omega)=(hdI R[m]).getD 0:=λm hm=>by unfold ZC;rw[List.getElem_map]
    intro z;have z:=z;rcases Nat.lt_or_gt_of_ne ne with c|c
    .have:=pw j i (by omega) (by omega) c
     rw[gi j hj,gi i hi]at this;omega
    .have:=pw i j (by omega) (by omega) c
     rw[gi j hj,gi i hi]at this;omega
   have:=hP.pn.rf.zer _ (Yc<|aU hi) _ (Yc<|aU hj) hh;rw[e]at this;exact(Z7<|hR _<|aU hj).mp this
end
end Rw
namespace Ab
open Ev Pv
mutual
noncomputable def okV:V->Bool
 |.tup xs=>Wo xs
 |.lst xs=>Wo xs
 |.drw=>ak
 |.scr _=>ak
 |.dct (aa _)=>ak
 |.dow _=>ak
 |_=>aj
noncomputable def Wo:List V->Bool
 |[]=>aj
 |x::xs=>okV x&&Wo xs
end
end Ab
namespace K91
open Ev Pv Rw La
open Ab (okV Wo)
theorem JV:∀{xs:List V},Wo xs=aj->∀x∈xs,okV x=aj
 |[],_,x,h=>by cases h
 |y::xs,h,x,m=>by
  obtain⟨h1,h2⟩:=(aF _ _).mp h;rcases aB.mp m with rfl|m
  .exact h1
  .exact JV h2 x m
noncomputable def isW(x:V)(lo hi:Int):Bool:=match x with
 |.int i=>ae (lo<=i)&&ae (i<=hi)
 |_=>ak
def ZdT{x:V}{lo hi:Int}(h:∀i,x≠.int i):isW x lo hi=ak:=by
 cases x with|int i=>exact T7 rfl<|h i|_=>rfl
def Zc6{x:V}(hx:okV x=aj):(∃i,x=.int i)\/(∃b,x=.bl b)\/Z9 x [.int]=aa ak/\∀i,x≠.int i:=by
 cases x with
 |int i=>exact .inl #[i,rfl]
 |bl b=>exact .inr<|.inl #[b,rfl]
 |drw=>cases hx
 |scr _=>cases hx
 |dow _=>cases hx
 |dct o=>cases o with|none=>exact .inr<|.inr #[rfl,nofun]|some _=>cases hx
 |_=>exact .inr<|.inr #[rfl,nofun]
def Jk{x:V}(hx:okV x=aj):(∃xs,x=.tup xs)\/Z9 x [.tuple]=aa ak/\∀xs,x≠.tup xs:=by
 cases x with
 |tup xs=>exact .inl #[xs,rfl]
 |drw=>cases hx
 |scr _=>cases hx
 |dow _=>cases hx
 |dct o=>cases o with|none=>exact .inr #[rfl,nofun]|some _=>cases hx
 |_=>exact .inr #[rfl,nofun]
def je(d:Nat){x:V}{lo hi:Int}(s:DS)(hx:okV x=aj):CV (d+1) 20 [x,.int lo,.int hi] s=.ok (.bl<|isW x lo hi) s:=by
 refine Zm rfl (by decide) rfl ?_
 rcases Zc6 hx with⟨i,rfl⟩|⟨b,rfl⟩|⟨ha,no⟩
 .by_cases h:lo<=i
  .simp[YI,pvE,isW,Z9,YD,h]
  .simp[YI,pvE,isW,Z9,YD,h]
 .simp[YI,pvE,isW,Z9,YD]
 .rw[ZdT no]
  simp[YI,pvE,ha]
noncomputable def ZO(p n:Nat)(x:V):Bool:=match x with
 |.tup xs=>ae (xs.length=n)&&xs.all λv=>isW v 0<|(p:Int)-1
 |_=>ak
def Zdx{p n:Nat}{x:V}(h:∀xs,x≠.tup xs):ZO p n x=ak:=by
 cases x with|tup xs=>exact T7 rfl<|h xs|_=>rfl
theorem WX{p:Nat}:∀{xs:List V},(xs.all λv=>isW v 0<|(p:Int)-1)=aj->∃r:Row,xs=r.map .int/\∀a∈r,0<=a/\a<(p:Int)
 |[],_=>#[[],rfl,λ_ h=>by cases h]
 |x::xs,h=>by
  rw[fv,aF]at h;obtain⟨r,rfl,hr⟩:=WX h.2;cases x with
  |int i=>
   have:=h.1;simp only[isW,aF,T0]at this;refine#[i::r,rfl,λa ha=>?_]
   rcases aB.mp ha with rfl|ha
   .lia
   .exact hr a ha
  |_=>cases h.1
def uD{p n:Nat}{x:V}(h:ZO p n x=aj):∃r:Row,x=Zb r/\Zd p n r:=by
 cases x with
 |tup xs=>
  unfold ZO at h;rw[aF,T0]at h;obtain⟨r,rfl,hr⟩:=WX h.2;exact#[r,rfl,by simpa using h.1,hr]
 |_=>cases h
def Zcy{p n:Nat}{r:Row}(hr:Zd p n r):ZO p n (Zb r)=aj:=by
 unfold ZO Zb;rw[aF,T0,aw];refine#[hr.1,aY.mpr λv hv=>?_]
 obtain⟨a,ha,rfl⟩:=aO.mp hv;have:=hr.2 a ha;simp only[isW,aF,T0];lia
theorem xR:∀r:Row,Wo (r.map .int)=aj
 |[]=>rfl
 |a::r=>xR r
def ZdW(r:Row):okV (Zb r)=aj:=xR r
section
variable{p n:Nat}[Base p]
theorem xt(d:Nat){x:V}(s:DS)(hn:n<=6)(hx:okV x=aj):CV (d+2) 21 [spV p n,x] s=.ok (.bl<|ZO p n x) s:=by
 refine Zm rfl (by decide) rfl ?_
 dsimp only[GE]
 rw[Zj<|X7 (p:=p) (n:=n) _ _ (by simp[pvE]) (by simp)]
 rcases Jk hx with⟨xs,rfl⟩|⟨ha,no⟩
 ·
  by_cases hl:xs.length=n
  .rw[Zj (ρ':=[aa<|spV p n,aa<|.tup xs,aa<|.int p,aa<|.int n]) (os':=[]) (s':=s) (by simp[pvE,Z9,YD,Zw,hl])]
   refine Zn<|ZM ?_;have hc:=Zx (C:=CV<|d+1) (cap:=[2]) (nl:=1) (t:=[0]) (it:=.of<|.v 1) (elt:=.call 20 [(.v 0),(.c<|.int 0),(.bin .sub (.v 1)<|.c<|.int 1)]) (O:=[aa<|spV p n,aa<|.tup xs,aa<|.int p,aa<|.int n]) (s:=s) (l:=xs) (e:=id) (g:=λv=>V.bl<|isW v 0<|(p:Int)-1)
    (by simp[pvE]) (by unfold lim;lia) (λv hv=>#[_,rfl,by
     have e:=je d (lo:=0) (hi:=(p:Int)-1) s<|JV hx v hv;simp[pvE,e]])
   have ht:=Yf (g:=λv:V=>isW v 0<|(p:Int)-1) xs
   simp[pvE,hc,ht,ZO,hl]
  .refine Zn ?_
   simp[pvE,Z9,YD,Zw,ZO,hl];lia
 .rw[Zdx no]
  exact Zn (by simp[pvE,ha])
theorem vG(d:Nat){hs:List Nat}(s:DS)(hl:hs.length<=1000):CV (d+1) 17 [.lst<|hs.map Zl] s=.ok (.bl<|rise hs) s:=by
 refine Zm rfl (by decide) rfl ?_
 have ez:∀(a b:List Nat),((a.map Zl).zip<|b.map Zl).map (λq=>V.tup [q.1,q.2])=(a.zip b).map λq=>V.tup [Zl q.1,Zl q.2]:=by
  intro a
  induction a with
  |nil=>intro b;rfl
  |cons x a ih=>intro b;cases b with|nil=>rfl|cons y b=>simp only[aW,b0];rw[ih]
 have hc:=Zx (C:=CV d) (cap:=[]) (nl:=2) (t:=[0,1]) (it:=.zip (.v 0)<|.sl (.v 0) (aa<|.c<|.int 1) ag) (elt:=.cmp .lt (.v 0)<|.v 1) (O:=[aa<|.lst<|hs.map Zl]) (s:=s) (l:=hs.zip hs.tail) (g:=λq=>V.bl<|ae<|q.1<q.2)
  (by
   have e1:Xp (hs.map Zl) (aa 1) ag=hs.tail.map Zl:=by rw[jj,pk]
   simp[pvE,slV,e1];rw[<-pk,ez]) (by rw[fm];unfold lim;lia) (λq hq=>#[_,rfl,by simp[pvE,Zl]])
 have ht:=Yf (g:=λq:Nat×Nat=>ae<|q.1<q.2)<|hs.zip hs.tail
 simp[Vr,pvE,hc,ht,rise]
theorem yL(d:Nat){R:List Row}{k:Nat}(s:DS)(hl:R.length<=1000)(hk:∀r∈R,k<r.length):CV (d+1) 18 [Zf R,.int k] s=.ok (.bl<|R.all λr=>ae<|gt r k=0) s:=by
 refine Zm rfl (by decide) rfl ?_
 have hc:=Zx (C:=CV d) (cap:=[1]) (nl:=1) (t:=[0]) (it:=.of<|.v 0) (elt:=.cmp .eq (.ix (.v 0)<|.v 1)<|.c<|.int 0) (O:=[aa<|Zf R,aa<|.int k]) (s:=s) (l:=R) (e:=Zb) (g:=λr=>V.bl<|ae<|gt r k=0)
  (by simp[pvE,Zf]) (by unfold lim;lia) (λr hr=>#[_,rfl,by
   have:=Ub<|hk r hr;simp[pvE,Zb,this,Zw]])
 have ht:=Yf (g:=λr:Row=>ae<|gt r k=0) R
 simp[WO,pvE,hc,ht]
theorem JH(d:Nat){R:List Row}{i k:Nat}(s:DS)(hR:∀r∈R,Zd p n r)(hl:R.length<=1000)(hi:i<R.length)(hk:k<n):CV (d+2) 19 [Zf R,Zl i,Zl k] s=.ok (.bl<|W8 R i k) s:=by
 refine Zm rfl (by decide) rfl ?_
 show rvs (CV<|d+1) [] XA.body [aa<|Zf R,aa<|.int i,aa<|.int k] [] s=_;have hrow:=hR _<|aU hi;have e1:at' (R.map Zb) (i:Int)=aa (Zb R[i]):=UF (by rw[aM,af hi];rfl)
 have e2:=Ub (by rw[hrow.1];exact hk)
 have e3:=yL d (R:=R.take i++R.drop (i+1)) s (by rw[bc,bz,bo];lia) (λr hr=>by
  obtain⟨j,hj,ne,rfl⟩:=Qo hr;rw[(hR _<|aU hj).1];exact hk)
 have c1:Xp (R.map Zb) ag (aa (i:Int))=(R.take i).map Zb:=by rw[ZcU (by rw[aw];lia),List.map_take]
 have c2:Xp (R.map Zb) (aa<|(i:Int)+1) ag=(R.drop<|i+1).map Zb:=by rw[zj (k:=i+1) (by lia) (by rw[aw];lia),List.map_drop]
 have g0:pv (CV<|d+1) (.ix (.ix (.v 0)<|.v 1)<|.v 2) [aa<|Zf R,aa<|.int i,aa<|.int k] s=.ok (.int<|gt R[i] k) s:=by
  rw[pv,pv,Zg rfl,Za,Zg rfl,Za];show((po (at' (R.map Zb) (i:Int)) s).bind _)=_;rw[e1,ZN,Za,Zg rfl,Za];show po (at' (R[i].map V.int) (k:Int)) s=_;rw[e2];rfl
 have g1:pv (CV<|d+1) (.cmp .eq (.ix (.ix (.v 0)<|.v 1)<|.v 2)<|.c<|.int 1) [aa<|Zf R,aa<|.int i,aa<|.int k] s=.ok (.bl<|ae<|gt R[i] k=1) s:=by
  rw[pv,g0,Za];simp[pvE,ofD,Zw]
 have g2:pv (CV<|d+1) (.bin .add (.sl (.v 0) ag<|aa<|.v 1)<|.sl (.v 0) (aa<|.bin .add (.v 1)<|.c<|.int 1) ag) [aa<|Zf R,aa<|.int i,aa<|.int k] s=.ok (Zf<|R.take i++R.drop (i+1)) s:=by
  have c3:(R.take i).length+(R.drop<|i+1).length<=16777216:=by rw[bz,bo];lia
  rw[bz,bo]at c3;simp[pvE,Zf,slV,c1,c2,c3]
 have g3:=Zs (Zc g2<|Zc (Zg (i:=2) rfl) Ze) e3;refine Zn<|ZM ?_;rw[pv,g1,Za];unfold W8;rw[QZ hi];cases ae (gt R[i] k=1)with|true=>exact g3|false=>rfl
theorem y9:∀R:List Row,Wc .non (R.map λr=>WC<|hdI r)=aa (!(R.all λr=>(hdI r).isSome))
 |[]=>rfl
 |r::R=>by
  show(match eqV Zw (WC<|hdI r) .non,Wc .non (R.map λr=>WC<|hdI r)with|some a,aa b=>aa (a||b)|_,_=>ag)=_
  rw[y9 R,fv];cases hdI r with|none=>simp[WC,eqV,Zw]|some k=>simp[WC,eqV,Zw]
def vI{R:List Row}(h:(R.all λr=>(hdI r).isSome)=aj):R.map (λr=>WC<|hdI r)=(ZC R).map Zl:=by
 unfold ZC;rw[bn];refine c9 λr hr=>?_
 obtain⟨k,hk⟩:=bO.mp<|aY.mp h r hr;show WC (hdI r)=Zl ((hdI r).getD 0);rw[hk];rfl
theorem qx(d:Nat){R:List Row}(s:DS)(hn:n<=6)(hR:∀r∈R,Zd p n r)(hl:R.length<=1000):rvs (CV<|d+2) [] (W7.body.drop 1) [aa<|spV p n,aa<|Zf R,ag] [] s=.ok (.ret<|.bl<|VB R) s:=by
 show rvs _ _ (.asg [2] (.comp1 [] 1 [0] (.of<|.v 1) []<|.call 16 [(.v 0)]) ::
  .ite (.or (.cmp .inn (.c .non)<|.v 2)<|.not<|.call 17 [(.v 2)]) [.ret<|.c<|.bl ak] [] ::
  .ret (.blt .all [(.comp1 [1] 2 [0,1] (.enum<|.v 2) []<|.call 19 [(.v 2),(.v 0),(.v 1)])])::[]) _ _ _=_
 have hc2:=Zx (C:=CV<|d+2) (cap:=[]) (nl:=1) (t:=[0]) (it:=.of<|.v 1) (elt:=.call 16 [(.v 0)]) (O:=[aa<|spV p n,aa<|Zf R,ag]) (s:=s) (l:=R) (e:=Zb) (g:=λr=>WC<|hdI r)
  (by simp[pvE,Zf]) (by unfold lim;lia) (λx hx=>#[_,rfl,by
   have e:=JZ (d+1) x s;simp[pvE,e]])
 rw[Zj (ρ':=[aa<|spV p n,aa<|Zf R,aa<|.lst<|R.map λr=>WC<|hdI r]) (os':=[]) (s':=s) (by simp[pvE,hc2])]
 have hin:=y9 R;unfold VB;cases hh:R.all λr=>(hdI r).isSome with
 |false=>
  rw[hh]at hin;exact Zn (by simp[pvE,Vv,hin])
 |true=>
  rw[hh]at hin;rw[vI hh]at hin ⊢;have hln:(ZC R).length=R.length:=by unfold ZC;rw[aw]
  have e3:=vG (d+1) (hs:=ZC R) s (by lia)
  cases hr:rise (ZC R)with
  |false=>
   rw[hr]at e3;exact Zn (by simp[pvE,Vv,hin,e3])
  |true=>
  rw[hr]at e3;rw[Zj (ρ':=[aa<|spV p n,aa<|Zf R,aa<|.lst<|(ZC R).map Zl]) (os':=[]) (s':=s) (by simp[pvE,Vv,hin,e3])]
  refine Zn<|ZM ?_;have ew:((ZZ 0 (ZC R).length).zip<|(ZC R).map Zl).map (λq=>V.tup [q.1,q.2])=(aL R.length).map λi=>V.tup [Zl i,Zl<|(ZC R).getD i 0]:=by
   apply gU
   .simp[ZZ,hln]
   .intro i h1 h2
    have h3:i<R.length:=by simpa using h2
    have h4:i<(ZC R).length:=by lia
    simp[ZZ,Zl,h4]
  have hc3:=Zx (cap:=[1]) (nl:=2) (t:=[0,1]) (elt:=.call 19 [(.v 2),(.v 0),(.v 1)]) (l:=aL R.length)
   (by
    have:pvw (CV<|d+2) (.enum<|.v 2) [aa<|spV p n,aa<|Zf R,aa<|.lst<|(ZC R).map Zl] s=.ok (((ZZ 0 ((ZC R).map Zl).length).zip<|(ZC R).map Zl).map λq=>V.tup [q.1,q.2]) s:=by simp[pvE]
    rw[this,aw,ew]) (by rw[br];unfold lim;lia) (λi hi=>#[_,rfl,by
    have hi':=aR.mp hi;have hk:(ZC R).getD i 0<n:=by
     rw[V9 hi'];obtain⟨k,hk⟩:=bO.mp<|aY.mp hh _<|aU hi';rw[hk,<-(hR _<|aU hi').1];exact(ZX hk).2.1
    exact Zs (Zc (Zg rfl)<|Zc (Zg rfl)<|Zc (Zg rfl) Ze)<|JH d s hR hl hi' hk])
  have ht3:=Yf (g:=λi:Nat=>W8 R i<|(ZC R).getD i 0)<|aL R.length
  rw[pv,Zc hc3 Ze,Za];show po ((ZW _).map λbs=>V.bl<|bs.all id) s=_
  rw[ht3];show PR.ok (V.bl<|(iW _ _).all id) s=_;rw[iC];rfl
noncomputable def isP(p n:Nat)(x:V):Bool:=match x with
 |.tup xs=>xs.all (ZO p n)&&match Z4 xs with
  |some R=>VB R
  |none=>ak
 |_=>ak
theorem Vh:∀{xs:List V},xs.all (ZO p n)=aj->∃R:List Row,xs=R.map Zb/\∀r∈R,Zd p n r
 |[],_=>#[[],rfl,λ_ h=>by cases h]
 |x::xs,h=>by
  rw[fv,aF]at h;obtain⟨R,rfl,hR⟩:=Vh h.2;obtain⟨r,rfl,hr⟩:=uD h.1;refine#[r::R,rfl,λa ha=>?_]
  rcases aB.mp ha with rfl|ha
  .exact hr
  .exact hR a ha
def Za7{x:V}:isP p n x=aj↔∃P,x=Zf P/\pZ p n P:=by
 constructor
 .intro h
  cases x with
  |tup xs=>
   unfold isP at h;rw[aF]at h;obtain⟨R,rfl,hR⟩:=Vh h.1;have h2:=h.2;rw[YC]at h2;exact#[R,rfl,(X9 hR).mp h2]
  |_=>cases h
 .rintro ⟨P,rfl,hP⟩
  show(_&&_)=aj;rw[aF,YC];refine#[aY.mpr λv hv=>?_,(X9 hP.row).mpr hP]
  obtain⟨r,hr,rfl⟩:=aO.mp hv;exact Zcy<|hP.row r hr
def Zdj{x:V}(h:∀xs,x≠.tup xs):isP p n x=ak:=by
 cases x with|tup xs=>exact T7 rfl<|h xs|_=>rfl
theorem vJ(d:Nat){x:V}(s:DS)(hn:n<=6)(hx:okV x=aj)(hl:∀xs,x=.tup xs->xs.length<=1000):CV (d+3) 22 [spV p n,x] s=.ok (.bl<|isP p n x) s:=by
 refine Zm rfl (by decide) rfl ?_
 show rvs (CV<|d+2) [] (.ite (.or (.not<|.isi (.v 1) [.tuple])<|.not<|.blt .all [(.comp1 [0] 1 [0] (.of<|.v 1) []<|.call 21 [(.v 1),(.v 0)])]) [.ret<|.c<|.bl ak] []::W7.body.drop 1) [aa<|spV p n,aa x,ag] [] s=_;rcases Jk hx with⟨xs,rfl⟩|⟨ha,no⟩
 ·
  have hl:=hl xs rfl;have hc1:=Zx (C:=CV<|d+2) (cap:=[0]) (nl:=1) (t:=[0]) (it:=.of<|.v 1) (elt:=.call 21 [(.v 1),(.v 0)]) (O:=[aa<|spV p n,aa<|.tup xs,ag]) (s:=s) (l:=xs) (e:=id) (g:=λv=>V.bl<|ZO p n v)
   (by simp[pvE]) (by unfold lim;lia) (λv hv=>#[_,rfl,by
    have e:=xt (p:=p) d s hn<|JV hx v hv;simp[pvE,e]])
  have ht:=Yf (g:=λv:V=>ZO p n v) xs
  have hpt:Z9 (.tup xs) [.tuple]=aa aj:=rfl;cases ha:xs.all (ZO p n)with
  |false=>
   have hf:(xs.map λv=>ZO p n v).all id=ak:=by rw[iC];exact ha
   refine Zn ?_;simp[pvE,hpt,hc1,ht,isP,ha,hf]
  |true=>
   have hf:(xs.map λv=>ZO p n v).all id=aj:=by rw[iC];exact ha
   rw[Zj (ρ':=[aa<|spV p n,aa<|.tup xs,ag]) (os':=[]) (s':=s) (by simp[pvE,hpt,hc1,ht,hf])]
   obtain⟨R,rfl,hR⟩:=Vh ha;have e:=qx d s hn hR (by simpa using hl)
   have eb:isP p n (.tup<|R.map Zb)=VB R:=by
    show((R.map Zb).all (ZO p n)&&match Z4 (R.map Zb)with|some R=>VB R|none=>ak)=_
    rw[ha,YC];rfl
   rw[eb];exact e
 .rw[Zdj no]
  exact Zn (by simp[pvE,ha])
theorem JQ:∀P:List Row,Wo (P.map Zb)=aj
 |[]=>rfl
 |r::P=>by
  show(okV (Zb r)&&Wo (P.map Zb))=aj;rw[ZdW,JQ P];rfl
def Zas(P:List Row):okV (Zf P)=aj:=JQ P
def z9{P:List Row}(hP:pZ p n P):∀xs,Zf P=.tup xs->xs.length<=n:=λxs e=>by
 cases e;rw[aw];exact dsum hP
theorem ZbT(d:Nat){P:List Row}(s:DS)(hn:n<=6)(hP:pZ p n P):CV (d+3) 22 [spV p n,Zf P] s=.ok (.bl aj) s:=by
 have e:=vJ (p:=p) d s hn (Zas P) λxs z=>by have:=z9 hP xs z;lia
 rw[Za7.mpr #[P,rfl,hP]]at e;exact e
end
end K91
namespace Rw
open La
open Ev (ltP Y4 Yt)
section
variable{p n:Nat}[Base p]
variable{k:Nat}
theorem Wz{B:Type}[BEq B][LawfulBEq B]:∀{L A:List B},L.Nodup->(∀x∈L,x∈A)->L.length<=A.length
 |[],_,_,_=>cJ _
 |x::L,A,h,hs=>by
  rw[dP]at h;have h1:=Wz (L:=L) (A:=A.erase x) h.2 λy hy=>(List.mem_erase_of_ne (show y≠x from λe=>h.1<|by rw[<-e];exact hy)).mpr<|hs y<|ai _ hy
  have h2:=hs x<|am ..;have h3:=List.length_erase_of_mem h2;have h4:=lj h2;rw[aP];omega
end
noncomputable def VA(p:Nat)(L:List Row)(o:Row):List Row:=(aL p).flatMap λ(k:Nat)=>L.map λr=>ZJ p r o (k:Int)
noncomputable def xZ(p n:Nat)(P:List Row):List Row:=P.foldl (VA p) [aA n 0]
def vA(L:List Row)(o:Row):(VA p L o).length=L.length*p:=by
 unfold VA;rw[List.length_flatMap,show((aL p).map λ(k:Nat)=>(L.map λr=>ZJ p r o (k:Int)).length)=aA p L.length from gU (by simp) λi h1 h2=>by simp,List.sum_replicate_nat,nk]
def ju(P:List Row):(xZ p n P).length=p^P.length:=by
 unfold xZ
 suffices ∀(P L:List Row),(P.foldl (VA p) L).length=L.length*p^P.length by rw[this];simp
 intro P
 induction P with|nil=>intro L;simp|cons o P ih=>intro L;rw[dQ,ih,vA,aP,Nat.pow_succ,Nat.mul_assoc,nk p]
section
variable{p n:Nat}[Base p]
def Yg:Zd p n (aA n 0):=#[b8,λa ha=>by
 have:=(inferInstance:Base p).b;rw[kH ha];omega]
def WG(j:Nat):gt (aA n 0) j=0:=by
 unfold gt;rw[aN,cT];split<;>rfl
def wK(hL:∀r∈L,Zd p n r)(ho:Zd p n o):∀r∈VA p L o,Zd p n r:=λr hr=>by
 obtain⟨k,_,h⟩:=eW.mp hr;obtain⟨q,hq,rfl⟩:=aO.mp h;exact Zr (hL q hq) ho
def ZbP(hW:pZ p n W)(hr:Zd p n r)(ho:Zd p n o)(h1:Xh p W r=aj)(h2:Xh p W o=aj):Xh p W (ZJ p r o k)=aj:=by
 rw[Z2 hW<|Zr hr ho];rw[ZU hr ho];exact WM (ph p k) ((Z2 hW hr).mp h1)<|(Z2 hW ho).mp h2
theorem xn(hW:pZ p n W):∀{P L:List Row},(∀r∈P,r∈W)->(∀r∈L,Zd p n r/\Xh p W r=aj)->∀r∈P.foldl (VA p) L,Zd p n r/\Xh p W r=aj
 |[],_,_,h=>h
 |o::P,L,hP,h=>by
  have ho:=hP o<|am ..;refine xn hW (P:=P) (λr hr=>hP r<|ai _ hr) λr hr=>?_
  obtain⟨k,_,h3⟩:=eW.mp hr;obtain⟨q,hq,rfl⟩:=aO.mp h3;exact#[Zr (h q hq).1<|hW.row o ho,ZbP hW (h q hq).1 (hW.row o ho) (h q hq).2<|x9 hW ho]
theorem xK:∀{P L:List Row}{a r:Row},(∀o∈P,Zd p n o)->a∈L->Zd p n a->Zd p n r->hdI (Zh p P<|ZJ p r a<|-1)=ag->r∈P.foldl (VA p) L
 |[],L,a,r,_,ha,h1,h2,h=>by
  have e:r=a:=YN h2 h1 (by
   funext j
   have z:=(Z7<|Zr h2 h1).mpr<|YE h j;rw[ZU h2 h1,W9,Q3]at z
   grind)
  rw[e];exact ha
 |o::P,L,a,r,hP,ha,h1,h2,h=>by
  have ho:=hP o<|am ..
  let x:=ZJ p r a<|-1
  have hx:Zd p n x:=Zr h2 h1;have hk:=Wi ppos hx<|(hdI o).getD 0;have e:clr p x o ((hdI o).getD 0)=ZJ p r (ZJ p a o<|gt x<|(hdI o).getD 0) (-1):=YN (Zr hx ho) (Zr h2<|Zr h1 ho) (by
   rw[JL hx ho,ZU h2<|Zr h1 ho,ZU h1 ho]
   funext j
   show toV p (ZJ p r a<|-1) j-toV p x ((hdI o).getD 0)*toV p o j=toV p r j+ph p (-1)*(toV p a j+toV p x ((hdI o).getD 0)*toV p o j);rw[ZU h2 h1,W9,Q3]
   grind)
  refine xK (P:=P) (λq hq=>hP q<|ai _ hq) (eW.mpr #[(gt x<|(hdI o).getD 0).toNat,aR.mpr (by omega),aO.mpr #[a,ha,by rw[mm hk.1]]]) (Zr h1 ho) h2 ?_
  rw[<-e];exact h
theorem GX(hP:pZ p n P):r∈xZ p n P↔Zd p n r/\Xh p P r=aj:=by
 constructor
 .exact xn hP (λ_ h=>h) (λq hq=>by rw[bg.mp hq];exact#[Yg,xE hP Yg WG]) r
 .intro#[h1,h2]
  refine xK hP.row (bg.mpr rfl) Yg h1 ?_;have e:ZJ p r (aA n 0) (-1)=r:=YN (Zr h1 Yg) h1 (by
   rw[ZU h1 Yg]
   funext j
   rw[(Z7 Yg).mpr<|WG j]
   grind)
  rw[e];exact Option.isNone_iff_eq_none.mp h2
theorem Ge:∀{P L:List Row},(∀o∈P,Zd p n o/\gt o ((hdI o).getD 0)=1)->(P.Pairwise λo q=>gt o ((hdI q).getD 0)=0)->(∀r∈L,Zd p n r/\∀o∈P,gt r ((hdI o).getD 0)=0)->L.Nodup->(P.foldl (VA p) L).Nodup
 |[],_,_,_,_,h=>h
 |o::P,L,hP,hz,hL,h=>by
  obtain⟨ho,h1⟩:=hP o<|am ..;obtain⟨z1,z2⟩:=bm.mp hz;have hp:=(inferInstance:Base p).b;refine Ge (P:=P) (λq hq=>hP q<|ai _ hq) z2 (λr hr=>#[wK (λr hr=>(hL r hr).1) ho r hr,λq hq=>?_]) ?_
  .obtain⟨k,_,h3⟩:=eW.mp hr
   obtain⟨s,hs,rfl⟩:=aO.mp h3;rw[VZ (hL s hs).1 ho,(hL s hs).2 q<|ai _ hq,z1 q hq];simp
  .have at_:∀(k:Nat) r,k<p->r∈L->gt (ZJ p r o (k:Int)) ((hdI o).getD 0)=k:=λk r hk hr=>by
    rw[VZ (hL r hr).1 ho,(hL r hr).2 o<|am ..,h1,Int.zero_add,Int.mul_one,fF (by omega) (by omega)]
   refine List.pairwise_flatMap.mpr #[λk hk=>?_,?_]
   .refine cS.mpr (h.imp_of_mem λ{a b} ha hb ne e=>ne<|YN (hL a ha).1 (hL b hb).1 ?_)
    have q:=congrArg (toV p) e;rw[ZU (hL a ha).1 ho,ZU (hL b hb).1 ho]at q
    funext j
    have:=congrFun q j
    grind
   .refine nZ.imp_of_mem λ{a b} ha hb ne x hx y hy e=>ne ?_
    obtain⟨r,hr,rfl⟩:=aO.mp hx;obtain⟨q,hq,rfl⟩:=aO.mp hy;have:=at_ a r (aR.mp ha) hr;rw[e,at_ b q (aR.mp hb) hq]at this;omega
def Zai(hP:pZ p n P):(xZ p n P).Nodup:=by
 have rf:=hP.pn.rf;refine Ge (λo ho=>#[hP.row o ho,(VS<|hP.row o ho).mp<|rf.one _<|Yc ho]) ?_ (λr hr=>?_)<|dP.mpr #[by simp,oR]
 .exact(cS.mp rf.inc).imp_of_mem λ{a b} ha hb lt=>(Z7<|hP.row a ha).mp<|rf.zer _ (Yc hb) _ (Yc ha)<|eI lt
 .rw[bg.mp hr]
  exact#[Yg,λo _=>WG _]
end
open Pv (Yk)
def uM{F:List Row}{r x:Row}:x∈Yk F r↔x∈F\/x=r:=by
 unfold Yk;split
 .rename_i h
  have h:=cM.mp h;exact#[.inl,λz=>z.elim id λe=>e▸h]
 .simp
def Zbd{F:List Row}{r:Row}(h:F.Nodup):(Yk F r).Nodup:=by
 unfold Yk;split
 .exact h
 .rename_i q
  refine eO.mpr #[h,by simp,λa ha b hb e=>q ?_]
  rw[bg.mp hb]at e;exact cM.mpr<|e▸ha
theorem GD:∀{L F:List Row}{x:Row},x∈L.foldl Yk F↔x∈F\/x∈L
 |[],F,x=>by simp
 |r::L,F,x=>by
  rw[dQ,GD,uM,aB,or_assoc]
theorem wd:∀{L F:List Row},F.Nodup->(L.foldl Yk F).Nodup
 |[],F,h=>h
 |r::L,F,h=>wd (L:=L)<|Zbd h
noncomputable def Jc(p:Nat)(F:List Row)(r:Row):List Row:=F.flatMap λo=>(aL<|p-1).map λ(k:Nat)=>ZJ p o r<|(k:Int)+1
noncomputable def Vx(p:Nat)(F:List Row)(r:Row):List Row:=if F.contains r then F else(Jc p F r).foldl Yk F
noncomputable def ZF(p n:Nat)(R:List Row):List Row:=R.foldl (Vx p) [aA n 0]
section
variable{p n:Nat}[Base p]
structure HasK(p n:Nat)[NeZero p](F P:List Row):Prop where
 part:pZ p n P
 nd:F.Nodup
 mem:∀x,x∈F↔Zd p n x/\Xh p P x=aj
theorem JG{P:List Row}{r u:Row}(hP:pZ p n P)(hr:Zd p n r)(hu:Zd p n u):Xh p (XO p P r) u=aj↔∃k:Nat,k<p/\Xh p P (ZJ p u r<|-(k:Int))=aj:=by
 obtain⟨h1,h2⟩:=Wn hP hr;have g:=X6 (fld (p:=p)) hP.pn<|XD hr;rw[Z2 h1 hu,Mm,h2,g.mem]
 constructor
 .rintro ⟨c,hc⟩
  refine#[c.val,c.isLt,(Z2 hP<|Zr hu hr).mpr ?_];unfold Mm;rw[ZU hu hr];have e:ph p (-(c.val:Int)) = -c:=by
   rw[W9]
   congr 1
   exact Wx (by rw[Yx,fF (by omega) (by have:=c.isLt;omega)])
  rw[e];have e2:(λj=>toV p u j + -c*toV p r j)=λj=>toV p u j-c*toV p r j:=by funext j;grind
  rw[e2];exact hc
 .rintro ⟨k,_,hk⟩
  refine#[ph p (k:Int),?_];have:=(Z2 hP<|Zr hu hr).mp hk;unfold Mm at this;rw[ZU hu hr,W9]at this;have e2:(λj=>toV p u j-ph p (k:Int)*toV p r j)=λj=>toV p u j + -ph p (k:Int)*toV p r j:=by funext j;grind
  rw[e2];exact this
def ut{P:List Row}{r:Row}(hP:pZ p n P)(hr:Zd p n r)(h:Xh p P r=aj):XO p P r=P:=by
 obtain⟨h1,h2⟩:=Wn hP hr;exact xP h1.row hP.row<|h2.trans<|(X6 (fld (p:=p)) hP.pn<|XD hr).same<|(Z2 hP hr).mp h
def j5{P:List Row}{r:Row}(hP:pZ p n P)(hr:Zd p n r)(h:Xh p P r=ak):(XO p P r).length=P.length+1:=by
 obtain⟨h1,h2⟩:=Wn hP hr;have:=(X6 (fld (p:=p)) hP.pn<|XD hr).len λq=>by rw[(Z2 hP hr).mpr q]at h;cases h
 rw[<-h2,J0,J0]at this;exact this
theorem QO{u r:Row}{k:Int}(hu:Zd p n u)(hr:Zd p n r):ZJ p (ZJ p u r<|-k) r k=u:=by
 refine YN (Zr (Zr hu hr) hr) hu ?_;rw[ZU (Zr hu hr) hr,ZU hu hr,W9]
 funext j;grind
theorem QX{u r:Row}(hu:Zd p n u)(hr:Zd p n r):ZJ p u r 0=u:=by
 refine YN (Zr hu hr) hu ?_;rw[ZU hu hr,WA]
 funext j;grind
def HasK.step{F P:List Row}{r:Row}(h:HasK p n F P)(hr:Zd p n r):HasK p n (Vx p F r) (XO p P r):=by
 obtain⟨h1,h2⟩:=Wn h.part hr;unfold Vx;by_cases c:F.contains r=aj
 .rw[T9 c,ut h.part hr ((h.mem r).mp<|cM.mp c).2]
  exact h
 .rw[T8 c]
  refine#[h1,wd h.nd,λx=>?_]
  rw[GD];unfold Jc
  constructor
  .rintro (hx|hx)
   .obtain⟨a,b⟩:=(h.mem x).mp hx
    exact#[a,(JG h.part hr a).mpr #[0,by have:=(inferInstance:NeZero p).ne;omega,by rw[show(-((0:Nat):Int))=0 from rfl,QX a hr];exact b]]
   .obtain⟨o,ho,hx⟩:=eW.mp hx
    obtain⟨k,hk,rfl⟩:=aO.mp hx;have hk:=aR.mp hk;obtain⟨a,b⟩:=(h.mem o).mp ho;refine#[Zr a hr,(JG h.part hr<|Zr a hr).mpr #[k+1,by omega,?_]]
    have e:=QO (p:=p) (k:=-((k:Int)+1)) a hr;rw[Int.neg_neg]at e;rw[show(-((k+1:Nat):Int)) = -((k:Int)+1) by omega,e]
    exact b
  .rintro ⟨hx,hm⟩
   obtain⟨k,hk,hm⟩:=(JG h.part hr hx).mp hm;have ho:=(h.mem _).mpr #[Zr hx hr,hm];have e:=QO (p:=p) (k:=(k:Int)) hx hr;cases k with
   |zero=>
    refine .inl ?_;rw[show(-((0:Nat):Int))=0 from rfl,QX hx hr]at ho
    exact ho
   |succ k=>
    exact .inr (eW.mpr #[_,ho,aO.mpr #[k,aR.mpr (by omega),by rw[show((k:Int)+1)=((k+1:Nat):Int) by omega];exact e]])
theorem HasK.nil:HasK p n [aA n 0] []:=by
 refine#[pZ.nil,by simp,λx=>?_]
 rw[bg]
 constructor
 .rintro rfl
  exact#[Yg,xE pZ.nil Yg WG]
 .rintro ⟨hx,hm⟩
  refine uf (by rw[hx.1,b8]) λj=>?_
  rw[WG];unfold Xh Zh at hm;rw[List.foldl_nil]at hm;cases q:hdI x with|none=>exact YE q j|some k=>rw[q]at hm;cases hm
theorem HasK.all:∀{R F P:List Row},HasK p n F P->(∀r∈R,Zd p n r)->HasK p n (R.foldl (Vx p) F) (Yb p P R)
 |[],F,P,h,_=>h
 |r::R,F,P,h,hR=>HasK.all (R:=R) (h.step<|hR r<|am ..) λx hx=>hR x<|ai _ hx
def Xa{R:List Row}(hR:∀r∈R,Zd p n r):HasK p n (ZF p n R) (Yb p [] R):=HasK.nil.all hR
def HasK.len{F P:List Row}(h:HasK p n F P):F.length=p^P.length:=by
 rw[<-ju (p:=p) (n:=n) P];refine Nat.le_antisymm (Wz h.nd λx hx=>?_)<|Wz (Zai h.part) λx hx=>?_
 .exact(GX h.part).mpr<|(h.mem x).mp hx
 .exact(h.mem x).mpr<|(GX h.part).mp hx
end
noncomputable def y8(n j:Nat):Row:=(aL n).map λi=>if i=j then 1 else 0
noncomputable def units(n:Nat):List Row:=(aL n).map<|y8 n
def Zbz:∀n,n<=6->VB (units n)=aj:=by
 intro n h
 match n,h with
 |0,_|1,_|2,_|3,_|4,_|5,_|6,_=>decide +kernel
def vt(n:Nat):(units n).length=n:=by unfold units;rw[aw,br]
section
variable{p n:Nat}[Base p]
def Y1:∀r∈units n,Zd p n r:=λr hr=>by
 obtain⟨j,_,rfl⟩:=aO.mp hr;have h2:1<p:=by rcases(inferInstance:Base p).b with e|e|e<;>omega
 unfold y8;refine#[by rw[aw,br],λa ha=>?_]
 obtain⟨i,_,rfl⟩:=aO.mp ha;split<;>omega
def yA(hn:n<=6):pZ p n (units n):=(X9 Y1).mp<|Zbz n hn
def xi(hn:n<=6):(ZF p n<|units n).length=p^n:=by
 have h:=(Xa (p:=p) (n:=n) Y1).len;rw[wZ<|yA hn,vt]at h;exact h
def Zad(hn:n<=6){R:List Row}(hR:∀r∈R,Zd p n r)(h:(Yb p [] R).length<n):((ZF p n<|units n).filter λr=>!(ZF p n R).contains r)≠[]:=λe=>by
 have hU:=Xa (p:=p) (n:=n) Y1;have hl:=Wz hU.nd (A:=ZF p n R) λx hx=>by
  have:=lm.mp e x hx
  simpa using this
 rw[xi hn,(Xa hR).len]at hl;have h2:1<p:=by rcases(inferInstance:Base p).b with e|e|e<;>omega
 have:=l4 h2 h;omega
end
end Rw
namespace K91
open Ev Pv Rw La
def Zb4(h:Nat):(aA h [V.int 0]).flatten=(aA h (0:Int)).map V.int:=by
 induction h with|zero=>rfl|succ h ih=>rw[bN,cE,ih,bN];rfl
def Wy(r:Row):V.flat (Zb r)=aj:=Uw r
theorem QU:∀L:List Row,YJ (L.map Zb)=aj
 |[]=>rfl
 |r::L=>by
  show(V.flat (Zb r)&&YJ (L.map Zb))=aj;rw[Wy,QU L];rfl
section
variable{p n:Nat}[Base p]
def ix0{C:Zz}{i:Nat}{O:Env}{s:DS}(h:O[i]?=aa (aa<|spV p n)):pv C (.ix (.v i)<|.c<|.int 0) O s=.ok (.int p) s:=by
 rw[pv,Zg h,Za,pv,show ofD (V.int 0)=aa (V.int 0)from rfl];rfl
def ix1{C:Zz}{i:Nat}{O:Env}{s:DS}(h:O[i]?=aa (aa<|spV p n)):pv C (.ix (.v i)<|.c<|.int 1) O s=.ok (.int n) s:=by
 rw[pv,Zg h,Za,pv,show ofD (V.int 1)=aa (V.int 1)from rfl];rfl
def yT{C:Zz}{i:Nat}{O:Env}{s:DS}(hn:n<=6)(h:O[i]?=aa (aa<|spV p n)):pv C (.bin .mul (.tup [(.c<|.int 0)])<|.ix (.v i)<|.c<|.int 1) O s=.ok (Zb<|aA n 0) s:=by
 have g:pv C (.tup [(.c<|.int 0)]) O s=.ok (.tup [.int 0]) s:=by simp[pvE,ofD]
 rw[pv,g,Za,ix1 h,Za];show(if(0:Int)<=n/\(n:Int)<1000/\1<=1000 then PR.ok (V.tup (aA (n:Int).toNat [V.int 0]).flatten) s else .no)=_
 rw[T9 #[by omega,by omega,by omega],dv,Zb4];rfl
def UA{C:Zz}{i j:Nat}{O:Env}{s:DS}{r:Row}{k:Nat}(h:O[i]?=aa (aa<|Zb r))(hj:O[j]?=aa (aa<|Zl k))(hk:k<r.length):pv C (.ix (.v i)<|.v j) O s=.ok (.int<|gt r k) s:=by
 rw[pv,Zg h,Za,Zg hj,Za];show po (at' (r.map V.int) (k:Int)) s=_;rw[Ub hk];rfl
def uq(d:Nat){r o:Row}{k:Int}(s:DS)(hn:n<=6)(hr:Zd p n r)(ho:Zd p n o)(hk:-1000<k/\k<1000):CV (d+1) 7 [spV p n,Zb r,.int k,Zb o] s=.ok (Zb<|ZJ p r o k) s:=by
 have hp:=WB (p:=p);refine Zm rfl (by decide) rfl ?_
 show rvs (CV d) [] (.ret (.blt .tuple [(.comp1 [1,2,3,0] 1 [0] (.rng1<|.ix (.v 0)<|.c<|.int 1) []<|.bin .mod (.bin .add (.ix (.v 1)<|.v 0)<|.bin .mul (.v 2)<|.ix (.v 3)<|.v 0)<|.ix (.v 4)<|.c<|.int 0)])::[]) [aa<|spV p n,aa<|Zb r,aa<|.int k,aa<|Zb o] [] s=_;have hc:=Zx (C:=CV d) (cap:=[1,2,3,0]) (nl:=1) (t:=[0]) (it:=.rng1<|.ix (.v 0)<|.c<|.int 1) (elt:=.bin .mod (.bin .add (.ix (.v 1)<|.v 0)<|.bin .mul (.v 2)<|.ix (.v 3)<|.v 0)<|.ix (.v 4)<|.c<|.int 0) (O:=[aa<|spV p n,aa<|Zb r,aa<|.int k,aa<|Zb o]) (s:=s) (l:=aL n) (e:=Zl) (g:=λj=>V.int<|(gt r j+k*gt o j)%p)
  (YV (ix1 rfl)<|by omega) (by rw[br];unfold lim;omega) (λj hj=>by
   have hj:=aR.mp hj;have h2:=Wi (by omega) ho j
   refine#[[aa<|Zl j,aa<|Zb r,aa<|.int k,aa<|Zb o,aa<|spV p n],rfl,?_];have e1:=UA (C:=CV d) (i:=1) (j:=0) (O:=[aa<|Zl j,aa<|Zb r,aa<|.int k,aa<|Zb o,aa<|spV p n]) (s:=s) rfl rfl (by rw[hr.1];exact hj)
   have e2:=UA (C:=CV d) (i:=3) (j:=0) (O:=[aa<|Zl j,aa<|Zb r,aa<|.int k,aa<|Zb o,aa<|spV p n]) (s:=s) rfl rfl (by rw[ho.1];exact hj)
   have e3:pv (CV d) (.bin .mul (.v 2)<|.ix (.v 3)<|.v 0) [aa<|Zl j,aa<|Zb r,aa<|.int k,aa<|Zb o,aa<|spV p n] s=.ok (.int<|k*gt o j) s:=by
    rw[pv,Zg rfl,Za,e2,Za];show(if(fits k&&fits (gt o j))=aj then PR.ok (V.int<|k*gt o j) s else .no)=_
    rw[T9 (by rw[Z1 (by omega) (by omega),Z1 (by omega) (by omega)];rfl)]
   rw[pv,pv,e1,Za,e3,Za];show PR.bind (PR.ok (V.int<|gt r j+k*gt o j) s) _=_;rw[Za,ix0 rfl,Za];show(if(0:Int)<p then PR.ok (V.int<|(gt r j+k*gt o j)%p) s else .no)=_
   rw[T9 (by omega)])
 have e:((aL n).map λj=>V.int<|(gt r j+k*gt o j)%p)=(ZJ p r o k).map V.int:=by
  have hl:=(Zr (k:=k) hr ho).1;refine bR λi=>?_
  rw[aM,aM];by_cases hi:i<n
  .rw[cK hi,af (by rw[hl];exact hi)]
   have g:=VZ (k:=k) hr ho i;unfold gt at g;rw[aN,af<|by rw[hl];exact hi]at g
   simp only[oD,nS]at g ⊢;rw[g];rfl
  .rw[bH (by rw[br];omega),bH (by rw[hl];omega)];rfl
 refine Zn<|ZM ?_;rw[pv,Zc hc Ze,e];rfl
def jQ(d:Nat){F:List Row}{r o:Row}{v:V}{a5:Option V}{k:Nat}(s:DS)(hn:n<=6)(hr:Zd p n r)(ho:Zd p n o)(hk:k<1000)(hl:F.length<lim) :
  rvs (CV<|d+1) [2] [.dput (.v 2) (.call 7 [(.v 0),(.v 4),(.v 5),(.v 3)])<|.c<|.bl aj] [aa<|spV p n,aa v,aa<|.dow F,aa<|Zb r,aa<|Zb o,aa<|Zl k] [2] s=.ok (.nx [aa<|spV p n,aa v,aa<|.dow<|Yk F<|ZJ p o r (k:Int),aa<|Zb r,aa<|Zb o,aa<|Zl k] [2]) s:=by
 have e:pv (CV<|d+1) (.call 7 [(.v 0),(.v 4),(.v 5),(.v 3)]) [aa<|spV p n,aa v,aa<|.dow F,aa<|Zb r,aa<|Zb o,aa<|Zl k] s=.ok (Zb<|ZJ p o r (k:Int)) s:=
  Zs (Zc (Zg rfl)<|Zc (Zg rfl)<|Zc (Zg rfl)<|Zc (Zg rfl) Ze) (uq d s hn ho hr #[by omega,by omega])
 rw[Zj (ρ':=[aa<|spV p n,aa v,aa<|.dow<|Yk F<|ZJ p o r (k:Int),aa<|Zb r,aa<|Zb o,aa<|Zl k]) (os':=[2]) (s':=s) (by
  rw[rv,T9<|show([2]:List Nat).contains 2=aj from rfl,pv]
  show PR.bind (po (aa<|V.bl aj) s) _=_;rw[ZN,Za,T9 (show isT (.bl aj)=aj from rfl)]
  show PR.bind (po (aa F) s) _=_;rw[ZN,Za,e,Za];show PR.bind (po (intsV<|(ZJ p o r (k:Int)).map V.int) s) _=_;rw[Yn,ZN,Za,T9 hl];rfl),rvs]
def qj(d:Nat){F:List Row}{r o:Row}{v:V}{a5:Option V}(s:DS)(hn:n<=6)(hr:Zd p n r)(ho:Zd p n o)(hl:F.length+10<lim) :
  ∃b5,rvs (CV<|d+1) [2] [.forr [5] (.rng2 (.c<|.int 1)<|.ix (.v 0)<|.c<|.int 0) [.dput (.v 2) (.call 7 [(.v 0),(.v 4),(.v 5),(.v 3)])<|.c<|.bl aj]] [aa<|spV p n,aa v,aa<|.dow F,aa<|Zb r,aa<|Zb o,a5] [2] s
   = .ok (.nx [aa<|spV p n,aa v,aa<|.dow<|((aL<|p-1).map λ(k:Nat)=>ZJ p o r<|(k:Int)+1).foldl Yk F,aa<|Zb r,aa<|Zb o,b5] [2]) s:=by
 have hp:=WB (p:=p);obtain⟨b5,_,e5⟩:=y4 (C:=CV<|d+1) (ms:=[2]) (t:=[5]) (it:=.rng2 (.c<|.int 1)<|.ix (.v 0)<|.c<|.int 0) (b:=[.dput (.v 2) (.call 7 [(.v 0),(.v 4),(.v 5),(.v 3)])<|.c<|.bl aj]) (L:=aL<|p-1) (e:=λk=>Zl<|k+1) (step:=λ(F:List Row) (k:Nat)=>Yk F<|ZJ p o r<|(k:Int)+1) (O:=λF x=>[aa<|spV p n,aa v,aa<|.dow F,aa<|Zb r,aa<|Zb o,x]) (st:=F) (o:=a5) (os:=[2]) (s:=s)
  (λl F=>(∀k∈l,k<5)/\F.length+l.length<lim) (by
   show pvw (CV<|d+1) _ [aa<|spV p n,aa v,ag,aa<|Zb r,aa<|Zb o,a5] s=_;rw[pvw,show pv (CV<|d+1) (.c<|.int 1) [aa<|spV p n,aa v,ag,aa<|Zb r,aa<|Zb o,a5] s=.ok (.int 1) s by rw[pv];rfl,Za,ix0 rfl,Za]
   show(if(Y7 1&&Y7 (p:Int))=aj then PR.ok (ZZ 1 ((p:Int)-1).toNat) s else .no)=_
   rw[T9 (by rw[Ud (i:=1) (by omega) (by omega),Ud (i:=(p:Int)) (by omega) (by omega)];rfl),show((p:Int)-1).toNat=p-1 by omega]
   unfold ZZ Zl
   congr 1
   refine c9 λk _=>?_
   rw[Int.add_comm];rfl) #[λk hk=>by have:=aR.mp hk;omega,by rw[br];omega] rfl (λk l F x hI=>by
   obtain⟨h1,h2⟩:=hI;rw[aP]at h2;have hk:=h1 k<|am ..;have hl2:(Yk F<|ZJ p o r<|(k:Int)+1).length<=F.length+1:=by unfold Yk;split<;>simp
   refine#[#[λq hq=>h1 q<|ai _ hq,by omega],rfl,[aa<|spV p n,aa v,aa<|.dow F,aa<|Zb r,aa<|Zb o,aa<|Zl<|k+1],aa<|Zl<|k+1,rfl,?_]
   have:=jQ d (a5:=ag) (v:=v) (k:=k+1) s hn hr ho (F:=F) (by omega) (by omega)
   rw[this];rfl)
 refine#[b5,?_];rw[Zj e5,rvs,List.foldl_map]
def vg(F:List Row)(o r:Row):Jc p (o::F) r=((aL<|p-1).map λ(k:Nat)=>ZJ p o r<|(k:Int)+1)++Jc p F r:=rfl
theorem J8:∀(L F:List Row),(L.foldl Yk F).length<=F.length+L.length
 |[],F=>aH _
 |r::L,F=>by
  have h:=J8 L<|Yk F r;have hl2:(Yk F r).length<=F.length+1:=by unfold Yk;split<;>simp
  rw[dQ,aP];omega
theorem GQ(d:Nat){r:Row}{v:V}(s:DS)(hn:n<=6)(hr:Zd p n r):∀(L F:List Row){a4 a5:Option V},(∀o∈L,Zd p n o)->F.length+5*L.length+10<lim->
  ∃b4 b5,Y2 (λx O os s=>if(([4]:List Nat).any os.contains)=aj then .no else(po (Zk [4] x O) s).bind λO s=>rvs (CV<|d+1) [2] [.forr [5] (.rng2 (.c<|.int 1)<|.ix (.v 0)<|.c<|.int 0) [.dput (.v 2) (.call 7 [(.v 0),(.v 4),(.v 5),(.v 3)])<|.c<|.bl aj]] O os s) (L.map Zb) [aa<|spV p n,aa v,aa<|.dow F,aa<|Zb r,a4,a5] [2] s
   = .ok (.nx [aa<|spV p n,aa v,aa<|.dow<|(Jc p L r).foldl Yk F,aa<|Zb r,b4,b5] [2]) s
 |[],F,a4,a5,_,_=>#[a4,a5,rfl]
 |o::L,F,a4,a5,ho,hl=>by
  have hp:=WB (p:=p);rw[aP]at hl;obtain⟨b5,e⟩:=qj d (v:=v) (F:=F) (a5:=a5) s hn hr (ho o<|am ..) (by omega)
  have h1:=J8 ((aL<|p-1).map λ(k:Nat)=>ZJ p o r<|(k:Int)+1) F
  rw[aw,br]at h1;obtain⟨c4,c5,e2⟩:=GQ d (v:=v) s hn hr L (((aL<|p-1).map λ(k:Nat)=>ZJ p o r<|(k:Int)+1).foldl Yk F) (a4:=aa<|Zb o) (a5:=b5) (λx hx=>ho x<|ai _ hx) (by omega)
  refine#[c4,c5,?_];rw[aW,Y2,T8 (by decide),show Zk [4] (Zb o) [aa<|spV p n,aa v,aa<|.dow F,aa<|Zb r,a4,a5]=aa [aa<|spV p n,aa v,aa<|.dow F,aa<|Zb r,aa<|Zb o,a5]from rfl,ZN,Za,e,Za]
  rw[vg,nF];exact e2
def Zc1{C:Zz}{i j:Nat}{O:Env}{s:DS}{r:Row}{F:List Row}(h:O[i]?=aa (aa<|Zb r))(hj:O[j]?=aa (aa<|.dow F)):pv C (.cmp .nin (.v i)<|.v j) O s=.ok (.bl<|!F.contains r) s:=by
 rw[pv,Zg h,Za,Zg hj,Za];show po (((intsV<|r.map V.int).map λk=>F.contains k).map λb=>V.bl !b) s=_
 rw[Yn];rfl
def Um(d:Nat){R:List Row}{v:V}(s:DS)(hn:n<=6)(h1:1<=n)(hl:p^n<=1000)(hR:∀r∈R,Zd p n r)(hv:Yu v=aa (R.map Zb)):CV (d+2) 8 [spV p n,v] s=.ok (.lst<|(Zi<|ZF p n R).map Zb) s:=by
 have hp:=WB (p:=p);have big:∀{F P:List Row},HasK p n F P->F.length<=1000:=λ{F P} h=>by
  rw[h.len];refine cn (eP (by omega) ?_) hl
  exact dsum h.part
 refine Zm rfl (by decide) rfl ?_
 show rvs (CV<|d+1) [2] (.dnw 2 (.bin .mul (.tup [(.c<|.int 0)])<|.ix (.v 0)<|.c<|.int 1) ::
  .forr [3] (.of<|.v 1) [.ite (.cmp .nin (.v 3)<|.v 2) [.forF [4] (.blt .listD [(.v 2)]) [.forr [5] (.rng2 (.c<|.int 1)<|.ix (.v 0)<|.c<|.int 0) [.dput (.v 2) (.call 7 [(.v 0),(.v 4),(.v 5),(.v 3)])<|.c<|.bl aj]]] []] ::
  .ret (.blt .sortedD [(.v 2)])::[]) [aa<|spV p n,aa v,ag,ag,ag,ag] [] s=_
 rw[Zj (ρ':=[aa<|spV p n,aa v,aa<|.dow [aA n 0],ag,ag,ag]) (os':=[2]) (s':=s) (by
  rw[rv,yT hn rfl,Za];show PR.bind (po (intsV<|(aA n (0:Int)).map V.int) s) _=_;rw[Yn,ZN,Za,T9 (by show 2<6;omega)];rfl)]
 obtain⟨ρ',hI,e⟩:=Jv (C:=CV<|d+1) (ms:=[2]) (t:=[3]) (it:=.of<|.v 1) (b:=[.ite (.cmp .nin (.v 3)<|.v 2) [.forF [4] (.blt .listD [(.v 2)]) [.forr [5] (.rng2 (.c<|.int 1)<|.ix (.v 0)<|.c<|.int 0) [.dput (.v 2) (.call 7 [(.v 0),(.v 4),(.v 5),(.v 3)])<|.c<|.bl aj]]] []]) (L:=R) (e:=Zb) (O:=[aa<|spV p n,aa v,aa<|.dow [aA n 0],ag,ag,ag]) (os:=[2]) (s:=s)
  (λl O=>(∀r∈l,Zd p n r)/\∃F P a3 a4 a5,O=[aa<|spV p n,aa v,aa<|.dow F,a3,a4,a5]/\HasK p n F P/\l.foldl (Vx p) F=ZF p n R) (by
   show pvw (CV<|d+1) (.of<|.v 1) [aa<|spV p n,aa v,ag,ag,ag,ag] s=_;rw[pvw,Zg rfl,Za,hv];rfl) #[hR,_,_,ag,ag,ag,rfl,HasK.nil,rfl] rfl (λr l O hI=>by
   obtain⟨hr,F,P,a3,a4,a5,rfl,hF,hf⟩:=hI;have hr0:=hr r<|am ..;have hb:=big hF;refine#[by rw[Wy];rfl,[aa<|spV p n,aa v,aa<|.dow F,aa<|Zb r,a4,a5],?_]
   have et:=Zc1 (C:=CV<|d+1) (i:=3) (j:=2) (O:=[aa<|spV p n,aa v,aa<|.dow F,aa<|Zb r,a4,a5]) (s:=s) rfl rfl;have hfr:∀o∈F,Zd p n o:=λo ho=>((hF.mem o).mp ho).1
   by_cases c:F.contains r=aj
   .refine#[[aa<|spV p n,aa v,aa<|.dow F,aa<|Zb r,a4,a5],rfl,?_,λx hx=>hr x<|ai _ hx,F,P,_,_,_,rfl,hF,?_]
    .rw[Zj (ρ':=[aa<|spV p n,aa v,aa<|.dow F,aa<|Zb r,a4,a5]) (os':=[2]) (s':=s) (by rw[Vs<|XV et rfl,c,T8 (by decide),rvs]),rvs]
    .rw[dQ]at hf
     unfold Vx at hf;rw[T9 c]at hf;exact hf
   .have c:F.contains r=ak:=by simpa using c
    obtain⟨b4,b5,e2⟩:=GQ d (v:=v) (r:=r) s hn hr0 F F (a4:=a4) (a5:=a5) hfr (by unfold lim;omega)
    refine#[[aa<|spV p n,aa v,aa<|.dow<|(Jc p F r).foldl Yk F,aa<|Zb r,b4,b5],rfl,?_,λx hx=>hr x<|ai _ hx,(Jc p F r).foldl Yk F,XO p P r,_,_,_,rfl,?_,?_]
    .rw[Zj (ρ':=[aa<|spV p n,aa v,aa<|.dow<|(Jc p F r).foldl Yk F,aa<|Zb r,b4,b5]) (os':=[2]) (s':=s) (by
      rw[Vs<|XV et rfl,c,T9 (by decide),Zj (ρ':=[aa<|spV p n,aa v,aa<|.dow<|(Jc p F r).foldl Yk F,aa<|Zb r,b4,b5]) (os':=[2]) (s':=s) (by
       rw[rv];show PR.bind (match pv (CV<|d+1) (.blt .listD [(.v 2)]) [aa<|spV p n,aa v,ag,aa<|Zb r,a4,a5] s with
        |.ok v s=>.ok v s
        |.ex c s=>.ex c s
        |.no=>(pv (CV<|d+1) (.blt .listD [(.v 2)]) [aa<|spV p n,aa v,aa<|.dow F,aa<|Zb r,a4,a5] s).bind λw s=>if(w.flat||true&&Gz w)=aj then PR.ok w s else .no) _=_
       have g1:pv (CV<|d+1) (.blt .listD [(.v 2)]) [aa<|spV p n,aa v,ag,aa<|Zb r,a4,a5] s=.no:=by rw[pv,pvs,pv];rfl
       have g2:pv (CV<|d+1) (.blt .listD [(.v 2)]) [aa<|spV p n,aa v,aa<|.dow F,aa<|Zb r,a4,a5] s=.ok (.lst<|F.map Zb) s:=by rw[pv,Zc (Zg rfl) Ze];rfl
       rw[g1,g2];show PR.bind (if(ak||true&&YJ (F.map Zb))=aj then PR.ok (V.lst<|F.map Zb) s else .no) _=_
       rw[QU,T9 (show(ak||true&&aj)=aj from rfl),Za]
       exact e2),rvs]),rvs]
    .have:=hF.step hr0
     unfold Vx at this;rw[T8<|by rw[c];decide]at this
     exact this
    .rw[dQ]at hf
     unfold Vx at hf;rw[T8<|by rw[c];decide]at hf
     exact hf)
 obtain⟨_,F,P,a3,a4,a5,rfl,hF,hf⟩:=hI;rw[Zj e];refine Zn<|ZM ?_;have hf:F=ZF p n R:=hf;subst hf;rw[pv,Zc (Zg rfl) Ze,Za];have hb:=big hF;have ho:Z0 (ZF p n R)=aj:=by
  unfold Z0;rw[aF,aF];refine#[#[T5 (by omega),T5 hF.nd],aY.mpr λr hr=>?_]
  have:=((hF.mem r).mp hr).1.1;cases r with|nil=>simp at this;omega|cons _ _=>rfl
 show po (if Z0 (ZF p n R)=aj then aa (V.lst<|(Zi<|ZF p n R).map Zb)else ag) s=_
 rw[T9 ho];rfl
def wp(d:Nat)(s:DS)(hn:n<=6):CV (d+1) 10 [spV p n] s=.ok (.lst<|(units n).map Zb) s:=by
 refine Zm rfl (by decide) rfl ?_
 show rvs (CV d) [] (.ret (.comp1 [0] 1 [0] (.rng1<|.ix (.v 0)<|.c<|.int 1) []<|.blt .tuple [(.comp1 [0] 1 [0] (.rng1<|.ix (.v 1)<|.c<|.int 1) []<|.blt .toInt [(.cmp .eq (.v 0)<|.v 1)])])::[]) [aa<|spV p n] [] s=_;have hc:=Zx (C:=CV d) (cap:=[0]) (nl:=1) (t:=[0]) (it:=.rng1<|.ix (.v 0)<|.c<|.int 1) (elt:=.blt .tuple [(.comp1 [0] 1 [0] (.rng1<|.ix (.v 1)<|.c<|.int 1) []<|.blt .toInt [(.cmp .eq (.v 0)<|.v 1)])]) (O:=[aa<|spV p n]) (s:=s) (l:=aL n) (e:=Zl) (g:=λj=>Zb<|y8 n j)
  (YV (ix1 rfl)<|by omega) (by rw[br];unfold lim;omega) (λj hj=>by
   refine#[[aa<|Zl j,aa<|spV p n],rfl,?_];have hc:=Zx (C:=CV d) (cap:=[0]) (nl:=1) (t:=[0]) (it:=.rng1<|.ix (.v 1)<|.c<|.int 1) (elt:=.blt .toInt [(.cmp .eq (.v 0)<|.v 1)]) (O:=[aa<|Zl j,aa<|spV p n]) (s:=s) (l:=aL n) (e:=Zl) (g:=λi=>V.int (if i=j then 1 else 0))
    (YV (ix1 rfl)<|by omega) (by rw[br];unfold lim;omega) (λi hi=>by
     refine#[[aa<|Zl i,aa<|Zl j],rfl,?_];have e:pv (CV d) (.cmp .eq (.v 0)<|.v 1) [aa<|Zl i,aa<|Zl j] s=.ok (.bl<|ae<|(i:Int)=j) s:=by
      rw[pv,Zg rfl,Za,Zg rfl,Za];rfl
     rw[pv,Zc e Ze,Za];show PR.ok (V.int<|b2i<|ae<|(i:Int)=j) s=_;by_cases c:i=j
     .rw[T9 c,T5 (by omega)];rfl
     .rw[T8 c,T4 (by omega)];rfl)
   rw[pv,Zc hc Ze,Za];unfold y8 Zb;rw[bn];rfl)
 refine Zn<|ZM ?_;rw[hc];unfold units;rw[bn];rfl
end
open Ab (okV Wo)
section
variable{C:Zz}{O:Env}{s s1 s2:DS}{a b:E}{x y:V}{xs ys:List V}
def Xs{i:Int}:pv C (.c<|.int i) O s=.ok (.int i) s:=by rw[pv];rfl
def ZbM(h:pv C a O s=.ok x s):pv C (.tup [a]) O s=.ok (.tup [x]) s:=by
 rw[pv,Zc h Ze];rfl
end
section
variable{C:Zz}{O:Env}{s:DS}{a b:E}
def Zb0{c:Bool}(h1:pv C a O s=.ok (.bl ak) s)(h2:pv C b O s=.ok (.bl c) s):pv C (.or a b) O s=.ok (.bl c) s:=by rw[pv,h1];exact h2
def JO{c c':Bool}(h1:pv C a O s=.ok (.bl c) s)(h2:pv C b O s=.ok (.bl c') s):pv C (.and a b) O s=.ok (.bl<|c&&c') s:=by
 rw[pv,h1];cases c
 .rfl
 .exact h2
def XC{c:Bool}(h1:pv C a O s=.ok (.bl c) s):pv C (.not a) O s=.ok (.bl !c) s:=by rw[pv,h1];rfl
def xW{P Q:List Row}(h1:pv C a O s=.ok (Zf P) s)(h2:pv C b O s=.ok (Zf Q) s):pv C (.cmp .eq a b) O s=.ok (.bl<|ae<|P=Q) s:=by
 rw[pv,h1,Za,h2,Za];show po ((eqV Zw (Zf P)<|Zf Q).map V.bl) s=_;rw[Zw,jr];rfl
def Xd{f:Nat}{x y:E}{v w r:V}(h1:pv C x O s=.ok v s)(h2:pv C y O s=.ok w s)(h:C f [v,w] s=.ok r s):pv C (.call f [x,y]) O s=.ok r s:=Zs (Zc h1<|Zc h2 Ze) h
def guard{ms:List Nat}{t:E}{x l:List Sm}(h:pv C t O s=.ok (.bl ak) s):rvs C ms (.ite t x []::l) O [] s=rvs C ms l O [] s:=by
 rw[Zj<|(Vs<|XV h rfl).trans (by rw[T8 (by simp),rvs])]
def uA{P:List Row}(h1:pv C a O s=.ok (Zf P) s):pv C (.blt .len [a]) O s=.ok (.int P.length) s:=by
 rw[pv,Zc h1 Ze,Za];show po (aa<|V.int (P.map Zb).length) s=_;rw[aw];rfl
def Gq{x y:Int}(h1:pv C a O s=.ok (.int x) s)(h2:pv C b O s=.ok (.int y) s):pv C (.bin .add a b) O s=.ok (.int<|x+y) s:=by
 rw[pv,h1,Za,h2,Za];rfl
def vw{x y:List V}(h1:pv C a O s=.ok (.lst x) s)(h2:pv C b O s=.ok (.lst y) s)(h:x.length+y.length<=lim):pv C (.bin .add a b) O s=.ok (.lst<|x++y) s:=by
 rw[pv,h1,Za,h2,Za];show(if x.length+y.length<=lim then _ else _)=_
 rw[T9 h]
end
def Zba{C:Zz}{ms os:List Nat}{O:Env}{s:DS}{B:Type}{t:List Nat}{it:W}{b:List Sm}{L:List B}{e:B->V}(I:List B->Env->Prop){s0:DS}(hw:pvw C it (hide os O) s=.ok (L.map e) s0)(hI:I L O)(ht:(t.any os.contains)=ak)
  (h:∀x l O s,I (x::l) O->∃ρ1 ρ' s',Zk t (e x) O=aa ρ1/\rvs C ms b ρ1 os s=.ok (.nx ρ' os) s'/\I l ρ') :
  ∃ρ' s',I [] ρ'/\rv C ms (.forr t it b) O os s=.ok (.nx ρ' os) s':=by
 rw[rv,hw,Za];clear hw
 induction L generalizing O s0 with
 |nil=>exact#[O,s0,hI,rfl]
 |cons x L ih=>
  obtain⟨ρ1,ρ',s',b1,b2,b3⟩:=h x L O s0 hI;obtain⟨ρ2,s2,c1,c2⟩:=ih b3;refine#[ρ2,s2,c1,?_];rw[aW,Y2,T8 (by rw[ht];simp),b1,ZN,Za,b2,Za]
  exact c2
section
variable{p n:Nat}[Base p]
def Za3{C:Zz}{O:Env}{s:DS}{i:Nat}{x:V}(h:O[i]?=aa (aa x))(hx:okV x=aj):pv C (.not<|.isi (.v i) [.tuple]) O s=.ok (.bl (!match x with|.tup _=>aj|_=>ak)) s:=by
 have g:pv C (.isi (.v i) [.tuple]) O s=.ok (.bl (match x with|.tup _=>aj|_=>ak)) s:=by
  rw[pv,Zg h,Za];rcases Jk hx with⟨xs,rfl⟩|⟨ha,no⟩
  .rfl
  .rw[ha]
   cases x<;>first|rfl|exact T7 rfl<|no _
 exact XC g
def jD{C:Zz}{O:Env}{s:DS}{i:Nat}{x:V}{e:E}{ms:List Nat}{l:List Sm}(h:O[i]?=aa (aa x))(hx:okV x=aj)(he:pv C e O s=.ok (.int n) s):(∃xs,x=.tup xs/\xs.length=n/\rvs C ms (.ite (.or (.not<|.isi (.v i) [.tuple])<|.cmp .ne (.blt .len [(.v i)]) e) [.ret<|.c<|.bl ak] []::l) O [] s=rvs C ms l O [] s)\/
  ((∀xs,x=.tup xs->xs.length≠n)/\rvs C ms (.ite (.or (.not<|.isi (.v i) [.tuple])<|.cmp .ne (.blt .len [(.v i)]) e) [.ret<|.c<|.bl ak] []::l) O [] s=.ok (.ret<|.bl ak) s):=by
 have g:=Za3 (C:=C) (O:=O) (s:=s) h hx;have fin:pv C (.or (.not<|.isi (.v i) [.tuple])<|.cmp .ne (.blt .len [(.v i)]) e) O s=.ok (.bl aj) s->rvs C ms (.ite (.or (.not<|.isi (.v i) [.tuple])<|.cmp .ne (.blt .len [(.v i)]) e) [.ret<|.c<|.bl ak] []::l) O [] s=.ok (.ret<|.bl ak) s:=λq=>by
  refine Zn ?_;rw[Vs<|XV q rfl,T9 rfl];exact Zn<|ZM (by rw[pv];rfl)
 rcases Jk hx with⟨xs,rfl⟩|⟨_,no⟩
 .have e1:pv C (.cmp .ne (.blt .len [(.v i)]) e) O s=.ok (.bl !decide ((xs.length:Int)=n)) s:=by
   have:pv C (.blt .len [(.v i)]) O s=.ok (.int xs.length) s:=by rw[pv,Zc (Zg h) Ze];rfl
   rw[pv,this,Za,he,Za];rfl
  by_cases c:xs.length=n
  .refine .inl #[xs,rfl,c,guard<|Zb0 g ?_]
   rw[e1,T5 (by omega)];rfl
  .refine .inr #[λys z=>by cases z;exact c,fin<|Zb0 g ?_]
   rw[e1,T4 (by omega)];rfl
 .refine .inr #[λxs z=>T7 z<|no xs,fin ?_]
  rw[pv,g];cases x<;>first|rfl|exact T7 rfl<|no _
theorem Vp:∀{xs:List V},xs.all (ZO p n)=aj->∃R:List Row,xs=R.map Zb/\∀r∈R,Zd p n r
 |[],_=>#[[],rfl,λ_ h=>by cases h]
 |x::xs,h=>by
  rw[fv,aF]at h;obtain⟨R,rfl,hR⟩:=Vp h.2;obtain⟨r,rfl,hr⟩:=uD h.1;refine#[r::R,rfl,λy hy=>?_]
  rcases aB.mp hy with rfl|hy
  .exact hr
  .exact hR y hy
def uI{R:List Row}(hR:∀r∈R,Zd p n r):(R.map Zb).all (ZO p n)=aj:=aY.mpr λv hv=>by
 obtain⟨r,hr,rfl⟩:=aO.mp hv;exact Zcy<|hR r hr
noncomputable def VY(p n:Nat)(x:V):Bool:=match x with
 |.tup xs=>ae (xs.length=n)&&(xs.all (ZO p n)&&ae ((Yb p []<|(Z4 xs).getD []).length=n))
 |_=>ak
def ZaT{x:V}(h:∀xs,x=.tup xs->xs.length≠n):VY p n x=ak:=by
 cases x with|tup xs=>show(ae (xs.length=n)&&_)=ak;rw[T4<|h xs rfl];rfl|_=>rfl
def QB{R:List Row}(hl:R.length=n)(hR:∀r∈R,Zd p n r):VY p n (.tup<|R.map Zb)=ae ((Yb p [] R).length=n):=by
 show(ae ((R.map Zb).length=n)&&((R.map Zb).all (ZO p n)&&ae ((Yb p []<|(Z4<|R.map Zb).getD []).length=n)))=_;rw[aw,T5 hl,uI hR,YC];rfl
def qC(d:Nat){x:V}(s:DS)(hn:n<=6)(hx:okV x=aj):CV (d+6) 35 [spV p n,x] s=.ok (.bl<|VY p n x) s:=by
 refine Zm rfl (by decide) rfl ?_
 show rvs (CV<|d+5) [] (.asg [2,3] (.v 0) :: .ite (.or (.not<|.isi (.v 1) [.tuple])<|.cmp .ne (.blt .len [(.v 1)])<|.v 3) [.ret<|.c<|.bl ak] [] ::
  .ret (.and (.blt .all [(.comp1 [0] 1 [0] (.of<|.v 1) []<|.call 21 [(.v 1),(.v 0)])])<|.cmp .eq (.blt .len [(.call 34 [(.v 0),(.tup []),(.v 1)])])<|.v 3)::[]) [aa<|spV p n,aa x,ag,ag] [] s=_
 rw[Zj<|X7 (p:=p) (n:=n) _ _ (by simp[pvE]) (by simp)]
 show rvs (CV<|d+5) [] _ [aa<|spV p n,aa x,aa<|.int p,aa<|.int n] [] s=_;rcases jD (C:=CV<|d+5) (ms:=[]) (i:=1) (O:=[aa<|spV p n,aa x,aa<|.int p,aa<|.int n]) (s:=s) (n:=n) (e:=.v 3) (l:=.ret (.and (.blt .all [(.comp1 [0] 1 [0] (.of<|.v 1) []<|.call 21 [(.v 1),(.v 0)])])<|.cmp .eq (.blt .len [(.call 34 [(.v 0),(.tup []),(.v 1)])])<|.v 3)::[]) rfl hx (Zg rfl)with⟨xs,rfl,hl,e⟩|⟨no,e⟩
 .rw[e]
  refine Zn<|ZM ?_;have hc:=Zx (C:=CV<|d+5) (cap:=[0]) (nl:=1) (t:=[0]) (it:=.of<|.v 1) (elt:=.call 21 [(.v 1),(.v 0)]) (O:=[aa<|spV p n,aa<|.tup xs,aa<|.int p,aa<|.int n]) (s:=s) (l:=xs) (e:=id) (g:=λv=>V.bl<|ZO p n v)
   (by rw[pvw,Zg rfl,Za,List.map_id];rfl) (by unfold lim;omega) (λv hv=>#[[aa v,aa<|spV p n],rfl,Zs (Zc (Zg rfl)<|Zc (Zg rfl) Ze)<|xt (d+3) s hn<|JV hx v hv])
  have ha:pv (CV<|d+5) (.blt .all [(.comp1 [0] 1 [0] (.of<|.v 1) []<|.call 21 [(.v 1),(.v 0)])]) [aa<|spV p n,aa<|.tup xs,aa<|.int p,aa<|.int n] s=.ok (.bl<|xs.all<|ZO p n) s:=by
   rw[pv,Zc hc Ze,Za];show po ((ZW<|xs.map λv=>V.bl<|ZO p n v).map λbs=>V.bl<|bs.all id) s=_
   rw[Yf];show PR.ok (V.bl<|(xs.map<|ZO p n).all id) s=_;rw[iC];rfl
  cases q:xs.all (ZO p n)with
  |false=>
   rw[q]at ha;rw[pv,ha];show PR.ok (V.bl ak) s=_;have:VY p n (.tup xs)=ak:=by
    show(ae (xs.length=n)&&(xs.all (ZO p n)&&_))=ak;rw[q,lJ,oU]
   rw[this]
  |true=>
   rw[q]at ha;obtain⟨R,rfl,hR⟩:=Vp q;rw[aw]at hl;have hw:=V8 d (P:=[]) (R:=R) (v:=.tup<|R.map Zb) s hn pZ.nil hR rfl;have e2:pv (CV<|d+5) (.call 34 [(.v 0),(.tup []),(.v 1)]) [aa<|spV p n,aa<|.tup<|R.map Zb,aa<|.int p,aa<|.int n] s=.ok (Zf<|Yb p [] R) s:=
    Zs (Zc (Zg rfl)<|Zc (by rw[pv,pvs];rfl)<|Zc (Zg rfl) Ze) hw
   rw[QB hl hR,pv,ha];show pv (CV<|d+5) (.cmp .eq (.blt .len [(.call 34 [(.v 0),(.tup []),(.v 1)])])<|.v 3) _ s=_;rw[pv,uA e2,Za,Zg rfl,Za];show PR.ok (V.bl<|ae<|((Yb p [] R).length:Int)=n) s=_
   congr 2
   exact decide_eq_decide.mpr #[λz=>by omega,λz=>by omega]
 .rw[e,ZaT no]
def UJ(L:List Row):(Zi L).length=L.length:=by
 have ins:∀(x:Row)(l:List Row),(YA x l).length=l.length+1:=λx l=>by
  induction l with|nil=>rfl|cons y l ih=>unfold YA;split<;>simp[ih]
 induction L with|nil=>rfl|cons x L ih=>show(YA x<|Zi L).length=_;rw[ins,ih];rfl
end
end K91
namespace Rw
open La
noncomputable def Yy(r:Row):Nat:=(hdI r).getD r.length
noncomputable def ZA(E:List Row):List Nat:=(aL 6).filter ((E.filter λr=>(hdI r).isSome).map Yy).contains
noncomputable def Vu(E:List Row)(h:Nat)(r:Row):Bool:=(ae (gt r h=1)&&ae (Yy r=h))&&(ZA E).all λk=>ae (k=h)||decide (gt r k=0)
noncomputable def Zcv(E:List Row):List Row:=(ZA E).flatMap λh=>E.filter<|Vu E h
def yc{l:List Row}{q:Row->Bool}{r:Row}(hn:l.Nodup)(hr:r∈l)(h:∀x∈l,q x=aj↔x=r):l.filter q=[r]:=by
 have hm:∀x,x∈l.filter q↔x=r:=λx=>by
  rw[bM];exact#[λz=>(h x z.1).mp z.2,λe=>by subst e;exact#[hr,(h x hr).mpr rfl]]
 have hd:=hn.filter q;generalize l.filter q=m at hm hd
 match m,hm,hd with
 |[],hm,_=>exact T7 ((hm r).mpr rfl) (by simp)
 |[x],hm,_=>rw[(hm x).mp (by simp)]
 |x::y::m,hm,hd=>
  have e1:=(hm x).mp (by simp)
  have e2:=(hm y).mp (by simp)
  subst e1;subst e2;simp at hd
theorem QG{g:Row->List Row}:∀{l:List Row},(∀r∈l,g r=[r])->l.flatMap g=l
 |[],_=>rfl
 |r::l,h=>by
  rw[nG,h r<|am ..,QG λx hx=>h x<|ai _ hx];rfl
section
variable{p n:Nat}[Base p]
def Xx{r:Row}{k:Nat}(h:hdI r=aa k):Yy r=k:=by unfold Yy;rw[h];rfl
def ZbX{E F P:List Row}(hn:n<=6)(h:HasK p n F P)(hE:E.Perm F):Zcv E=P:=by
 have hF:∀x,x∈E↔Zd p n x/\Xh p P x=aj:=λx=>hE.mem_iff.trans<|h.mem x
 have hP:=h.part;have hp:∀r∈P,r∈E/\∃k,hdI r=aa k/\k<n/\gt r k=1:=λr hr=>by
  obtain⟨k,h1,h2,h3⟩:=hP.head (fld (p:=p)).one0 hr;exact#[(hF r).mpr #[hP.row r hr,x9 hP hr],k,h1,h2,(VS<|hP.row r hr).mp h3]
 have hpl:ZA E=ZC P:=by
  refine Q8 (List.pairwise_lt_range.filter _) ?_ λk=>?_
  .have:=hP.pn.rf.heads
   rw[XW]at this;exact this
  .unfold ZA
   rw[bM,aR,cM,aO];unfold ZC;rw[aO]
   constructor
   .rintro ⟨_,r,hr,rfl⟩
    obtain⟨hr,hs⟩:=bM.mp hr;obtain⟨k,hk⟩:=bO.mp hs;obtain⟨a,b⟩:=(hF r).mp hr;have hm:=(Z2 hP a).mp b;obtain⟨e1,_,e2⟩:=ZX hk;obtain⟨c,hc,ec⟩:=zk hP.pn.rf hm (k:=k) (λz=>e1<|(Z7 a).mp z) λj hj=>(Z7 a).mpr<|e2 j hj
    obtain⟨q,hq,rfl⟩:=aO.mp hc;exact#[q,hq,by rw[Xx hk];exact ec]
   .rintro ⟨r,hr,rfl⟩
    obtain⟨h1,k,h2,h3,_⟩:=hp r hr;exact#[by rw[h2];show k<6;omega,r,bM.mpr #[h1,by rw[h2];rfl],by rw[Xx h2,h2];rfl]
 have nd:E.Nodup:=hE.nodup_iff.mpr h.nd;unfold Zcv;have e:ZC P=P.map λr=>(hdI r).getD 0:=rfl
 rw[hpl,e,List.flatMap_map];refine QG λr hr=>?_
 obtain⟨h1,k,h2,h3,h4⟩:=hp r hr;show E.filter (Vu E<|(hdI r).getD 0)=[r];rw[h2];show E.filter (Vu E k)=[r];have ir:=hP.row r hr;have ra:=Yc (p:=p) hr;rw[h2]at ra;refine yc nd h1 λx hx=>?_
 unfold Vu;rw[aF,aF,T0,T0,aY,hpl]
 constructor
 .rintro ⟨⟨g1,g2⟩,g3⟩
  obtain⟨a,b⟩:=(hF x).mp hx;have hm:=(Z2 hP a).mp b;refine YN a ir ?_
  funext j
  have hj:toV p r j=pr (toP p P) (toV p r) j:=XX hP.pn.rf ra j;rw[hm j,hj];refine GW (λc hc=>?_) j
  obtain⟨q,hq,rfl⟩:=aO.mp hc;obtain⟨_,i,i2,i3,i4⟩:=hp q hq;rw[i2];show toV p x i=toV p r i;have hi:i∈ZC P:=aO.mpr #[q,hq,by rw[i2];rfl]
  rcases(ig _ _).mp (g3 i hi)with z|z
  .have z:=T6 z
   subst z;unfold toV;rw[g1,h4]
  .have z:=T6 z
   by_cases c:i=k
   .subst c;rw[g1]at z;cases z
   .have qa:=Yc (p:=p) hq
    rw[i2]at qa;have zz:toV p r i=0:=hP.pn.rf.zer _ qa _ ra λe=>c e
    rw[zz];exact(Z7 a).mpr z
 .rintro rfl
  refine#[#[h4,Xx h2],λi hi=>?_]
  obtain⟨q,hq,rfl⟩:=aO.mp hi;obtain⟨_,i,i2,i3,i4⟩:=hp q hq;rw[i2];show(ae (i=k)||decide (gt x i=0))=aj;by_cases c:i=k
  .rw[T5 c];rfl
  .have qa:=Yc (p:=p) hq
   rw[i2]at qa;have zz:toV p x i=0:=hP.pn.rf.zer _ qa _ ra λe=>c e
   rw[T5<|(Z7 ir).mp zz,Bool.or_true]
def wo{E F P:List Row}(hn:n<=6)(h:HasK p n F P)(hE:E.Perm F):∀k∈ZA E,k<n:=λk hk=>by
 obtain⟨_,hk⟩:=bM.mp hk;obtain⟨r,hr,rfl⟩:=aO.mp<|cM.mp hk;obtain⟨hr,hs⟩:=bM.mp hr;obtain⟨k,e⟩:=bO.mp hs;have:=((h.mem r).mp<|hE.mem_iff.mp hr).1.1;rw[Xx e];have:=(ZX e).2.1;omega
end
end Rw
namespace K91
open Ev Pv Rw La
open Ab (okV Wo)
theorem VC:∀r:Row,ZW (r.map V.int)=aa (r.map λa=>ae<|a≠0)
 |[]=>rfl
 |a::r=>by rw[aW,ZW,VC r];rfl
theorem uW:∀r:Row,(r.map λa=>ae<|a≠0).any id=(hdI r).isSome
 |[]=>rfl
 |a::r=>by
  rw[aW,fY,uW r,hdI];by_cases c:a=0
  .subst c
   rw[T8 (by simp)]
   cases hdI r<;>rfl
  .rw[T9 c,T5 c];rfl
def ZbE{C:Zz}{O:Env}{i:Nat}{r:Row}(s:DS)(h:O[i]?=aa (aa<|Zb r)):pv C (.blt .any [(.v i)]) O s=.ok (.bl (hdI r).isSome) s:=by
 rw[pv,Zc (Zg h) Ze,Za];show po ((ZW<|r.map V.int).map λbs=>V.bl<|bs.any id) s=_
 rw[VC];show PR.ok (V.bl _) s=_;rw[uW]
def wW(r:Row):(((aL r.length).filter λk=>ae<|gt r k≠0)++[r.length])[0]?=aa (Yy r):=by
 unfold Yy;cases q:hdI r with
 |none=>
  rw[lm.mpr λk _=>by simp[YE q k]];rfl
 |some k=>
  obtain⟨a,b,c⟩:=ZX q;have f:(aL r.length).find? (λj=>ae<|gt r j≠0)=aa k:=ye (v:=λj=>gt r j) b a c
  rw[<-List.head?_filter]at f;generalize (aL r.length).filter (λj=>ae<|gt r j≠0)=l at f
  cases l with|nil=>cases f|cons x l=>cases f;rfl
def GG(d:Nat){r:Row}(s:DS)(hl:r.length<=1000):CV (d+1) 4 [Zb r] s=.ok (Zl<|Yy r) s:=by
 refine Zm rfl (by decide) rfl ?_
 show rvs (CV d) [] Xw.body [aa<|Zb r] [] s=_
 dsimp only[Xw]
 have el:pv (CV d) (.blt .len [(.v 0)]) [aa<|Zb r] s=.ok (.int r.length) s:=by
  rw[pv,Zc (Zg rfl) Ze,Za];show po (aa<|V.int (r.map V.int).length) s=_;rw[aw];rfl
 have hc:=YO (C:=CV d) (cap:=[0]) (nl:=1) (t:=[0]) (it:=.rng1<|.blt .len [(.v 0)]) (tst:=.cmp .ne (.ix (.v 1)<|.v 0)<|.c<|.int 0) (elt:=.v 0) (O:=[aa<|Zb r]) (s:=s) (l:=aL r.length) (e:=Zl) (g:=Zl) (q:=λk=>ae<|gt r k≠0)
  (YV el<|by omega) (by rw[br];unfold lim;omega) (λk hk=>by
   have hk:=aR.mp hk;refine#[[aa<|Zl k,aa<|Zb r],.bl<|!decide (gt r k=0),rfl,?_,?_,λ_=>Zg rfl]
   .rw[pv,UA rfl rfl hk,Za,Xs,Za];rfl
   .simp[Zq])
 refine Zn<|ZM ?_;have e2:pv (CV d) (.lst [(.blt .len [(.v 0)])]) [aa<|Zb r] s=.ok (.lst [Zl r.length]) s:=by
  rw[pv,Zc el Ze,Za];rfl
 rw[pv,vw hc e2 (by
  have:=eC (λk=>ae<|gt r k≠0)<|aL r.length
  rw[br]at this;rw[aw,dB];unfold lim;omega),Za,Xs,Za]
 show po (at' _ ((0:Nat):Int)) s=_;rw[UF (x:=Zl<|Yy r) (by
  have:=wW r;rw[show[Zl r.length]=[r.length].map Zl from rfl,<-bK,aM,this];rfl)];rfl
theorem Uh:∀l:List Nat,(∀k∈l,k<6)->Wm (l.map Zl)=aa l
 |[],_=>rfl
 |k::l,h=>by
  have hk:=h k<|am ..;show(if 0<=(k:Int)/\(k:Int)<6 then(Wm<|l.map Zl).map ((k:Int).toNat :: ·)else ag)=_
  rw[T9 #[by omega,by omega],Uh l λx hx=>h x<|ai _ hx];rfl
def wq{q q':Nat->Bool}(l:List Nat)(h:∀k∈l,q' k = !q k):((l.filter q).map Zl).isEmpty=l.all q':=by
 induction l with
 |nil=>rfl
 |cons k l ih=>
  rw[fv,<-ih λx hx=>h x<|ai _ hx,h k<|am ..,fR]
  cases q k<;>rfl
def ZdB{C:Zz}{a:E}{O:Env}{s:DS}{xs:List V}(h:pv C a O s=.ok (.lst xs) s):pv C (.cmp .eq a<|.lst []) O s=.ok (.bl xs.isEmpty) s:=by
 have e2:pv C (.lst []) O s=.ok (.lst []) s:=by rw[pv,Ze];rfl
 rw[pv,h,Za,e2,Za];cases xs<;>rfl
theorem VG{q:Row->Bool}:∀(l F:List Row),l.foldl (λF r=>if q r=aj then F++[r]else F) F=F++l.filter q
 |[],F=>by simp
 |r::l,F=>by
  rw[dQ,VG l,fR];cases q r<;>simp
section
variable{p n:Nat}[Base p]
def wO(d:Nat){E F:List Row}{h:Nat}{r:Row}(s:DS)(hn:n<=6)(hr:Zd p n r)(hpl:∀k∈ZA E,k<n)(hh:h<n)(hl:F.length<lim) :
  rvs (CV<|d+1) [3] [.ite (.and (.cmp .eq (.ix (.v 5)<|.v 4)<|.c<|.int 1)<|.cmp .eq (.call 4 [(.v 5)])<|.v 4) [.ite (.cmp .eq (.comp1 [4,5] 1 [0] (.of<|.v 2) [(.and (.cmp .ne (.v 0)<|.v 1)<|.cmp .ne (.ix (.v 2)<|.v 0)<|.c<|.int 0)]<|.v 0)<|.lst []) [.ex<|.mt .append (.v 3) [(.v 5)]] []] []] [aa<|spV p n,aa<|.lst<|E.map Zb,aa<|.lst<|(ZA E).map Zl,aa<|.lst<|F.map Zb,aa<|Zl h,aa<|Zb r] [3] s
   = .ok (.nx [aa<|spV p n,aa<|.lst<|E.map Zb,aa<|.lst<|(ZA E).map Zl,aa<|.lst<|(if Vu E h r=aj then F++[r]else F).map Zb,aa<|Zl h,aa<|Zb r] [3]) s:=by
 generalize hρ:[aa<|spV p n,aa<|.lst<|E.map Zb,aa<|.lst<|(ZA E).map Zl,aa<|.lst<|F.map Zb,aa<|Zl h,aa<|Zb r]=O;have g4:O[4]?=aa (aa<|Zl h):=by rw[<-hρ];rfl
 have g5:O[5]?=aa (aa<|Zb r):=by rw[<-hρ];rfl
 have a1:pv (CV<|d+1) (.cmp .eq (.ix (.v 5)<|.v 4)<|.c<|.int 1) O s=.ok (.bl<|ae<|gt r h=1) s:=by
  rw[pv,UA g5 g4 (by rw[hr.1];exact hh),Za,Xs,Za];rfl
 have a2:pv (CV<|d+1) (.cmp .eq (.call 4 [(.v 5)])<|.v 4) O s=.ok (.bl<|ae<|Yy r=h) s:=by
  rw[pv,Zs (Zc (Zg g5) Ze) (GG d s (by rw[hr.1];omega)),Za,Zg g4,Za]
  show PR.ok (V.bl<|ae<|(Yy r:Int)=h) s=_
  congr 2
  exact decide_eq_decide.mpr #[λz=>by omega,λz=>by omega]
 have t1:=JO a1 a2;have hc:=YO (C:=CV<|d+1) (cap:=[4,5]) (nl:=1) (t:=[0]) (it:=.of<|.v 2) (tst:=.and (.cmp .ne (.v 0)<|.v 1)<|.cmp .ne (.ix (.v 2)<|.v 0)<|.c<|.int 0) (elt:=.v 0) (O:=O) (s:=s) (l:=ZA E) (e:=Zl) (g:=Zl) (q:=λk=>!decide (k=h) && !decide (gt r k=0))
  (by rw[pvw,Zg (v:=.lst<|(ZA E).map Zl) (by rw[<-hρ];rfl)];rfl) (by
   have:=eC ((E.filter λr=>(hdI r).isSome).map Yy).contains<|aL 6
   rw[br]at this;unfold ZA lim;omega) (λk hk=>by
   have hk:=hpl k hk;refine#[[aa<|Zl k,aa<|Zl h,aa<|Zb r],.bl<|!decide (k=h) && !decide (gt r k=0),by rw[<-hρ];rfl,?_,rfl,λ_=>Zg rfl]
   refine JO ?_ ?_
   .rw[pv,Zg rfl,Za,Zg rfl,Za]
    show PR.ok (V.bl<|!decide ((k:Int)=h)) s=_
    congr 3
    exact decide_eq_decide.mpr #[λz=>by omega,λz=>by omega]
   .rw[pv,UA rfl rfl (by rw[hr.1];exact hk),Za,Xs,Za];rfl)
 have t2:=ZdB hc;rw[wq (q':=λk=>ae (k=h)||decide (gt r k=0)) _ λk _=>by simp]at t2
 have ef:Vu E h r=((ae (gt r h=1)&&ae (Yy r=h))&&(ZA E).all λk=>ae (k=h)||decide (gt r k=0)):=rfl
 have stay:∀{t:Ev.E}{x:List Sm},pv (CV<|d+1) t O s=.ok (.bl ak) s->rvs (CV<|d+1) [3] [.ite t x []] O [3] s=.ok (.nx O [3]) s:=λ{t x} z=>by
  rw[Zj (ρ':=O) (os':=[3]) (s':=s) (by rw[Vs<|XV z rfl,T8 (by decide),rvs]),rvs]
 have into:∀{t:Ev.E}{x:List Sm}{R:PR FlV},pv (CV<|d+1) t O s=.ok (.bl aj) s->rvs (CV<|d+1) [3] x O [3] s=R->rvs (CV<|d+1) [3] [.ite t x []] O [3] s=R:=λ{t x R} z w=>by
  rw[rvs,Vs<|XV z rfl,T9 rfl,w];cases R with|ok f s=>cases f<;>simp[PR.bind,rvs]|_=>rfl
 cases q1:(ae (gt r h=1)&&ae (Yy r=h))with
 |false=>
  rw[q1]at t1;rw[ef,q1,lJ,T8 (by decide),hρ]
  exact stay t1
 |true=>
  rw[q1]at t1;rw[ef,q1,Bool.true_and];refine into t1 ?_;cases q2:(ZA E).all λk=>ae (k=h)||decide (gt r k=0)with
  |false=>
   rw[q2]at t2;rw[T8 (by decide),hρ]
   exact stay t2
  |true=>
   rw[q2]at t2;rw[T9 rfl];refine into t2 ?_;rw[Zj (ρ':=O.set 3<|aa<|.lst<|(F++[r]).map Zb) (os':=[3]) (s':=s) (by
    rw[rv,T9<|show([3]:List Nat).contains 3=aj from rfl,show WU O[3]?=aa (F.map Zb) by rw[<-hρ];rfl,ZN,Za,Zg g5,Za,T9 #[Wy r,by rw[aw];exact hl],bK];rfl),rvs,<-hρ]
   rfl
def jy(d:Nat){E F P:List Row}(s:DS)(hn:n<=6)(hK:HasK p n F P)(hE:E.Perm F)(hl:E.length<=1000):CV (d+2) 5 [spV p n,.lst<|E.map Zb] s=.ok (Zf P) s:=by
 have hpl:=wo hn hK hE;have hR:∀r∈E,Zd p n r:=λr hr=>((hK.mem r).mp<|hE.mem_iff.mp hr).1
 have hF:=ZbX hn hK hE;refine Zm rfl (by decide) rfl ?_
 show rvs (CV<|d+1) [3] XS.body [aa<|spV p n,aa<|.lst<|E.map Zb,ag,ag,ag,ag] [] s=_
 dsimp only[XS]
 have hc:=YO (C:=CV<|d+1) (cap:=[]) (nl:=1) (t:=[0]) (it:=.of<|.v 1) (tst:=.blt .any [(.v 0)]) (elt:=.call 4 [(.v 0)]) (O:=[aa<|spV p n,aa<|.lst<|E.map Zb,ag,ag,ag,ag]) (s:=s) (l:=E) (e:=Zb) (g:=λr=>Zl<|Yy r) (q:=λr=>(hdI r).isSome)
  (by rw[pvw,Zg rfl];rfl) (by unfold lim;omega) (λr hr=>#[[aa<|Zb r],.bl (hdI r).isSome,rfl,ZbE s rfl,rfl,λ_=>Zs (Zc (Zg rfl) Ze)<|GG d s (by rw[(hR r hr).1];omega)])
 have e1:pv (CV<|d+1) (.blt .sortedS [(.comp1 [] 1 [0] (.of<|.v 1) [(.blt .any [(.v 0)])]<|.call 4 [(.v 0)])]) [aa<|spV p n,aa<|.lst<|E.map Zb,ag,ag,ag,ag] s=.ok (.lst<|(ZA E).map Zl) s:=by
  rw[pv,Zc hc Ze,Za,show(E.filter λr=>(hdI r).isSome).map (λr=>Zl<|Yy r)=((E.filter λr=>(hdI r).isSome).map Yy).map Zl by rw[bn];rfl]
  show po ((Wm _).map λks=>V.lst (((aL 6).filter ks.contains).map λk:Nat=>.int k)) s=_
  rw[Uh _ λk hk=>by
   obtain⟨r,hr,rfl⟩:=aO.mp hk;obtain⟨hr,hs⟩:=bM.mp hr;obtain⟨k,e⟩:=bO.mp hs;rw[Xx e];have:=(ZX e).2.1;have:=(hR r hr).1;omega]
  rfl
 rw[Zj<|Yp e1 rfl];show rvs _ _ _ [aa<|spV p n,aa<|.lst<|E.map Zb,aa<|.lst<|(ZA E).map Zl,ag,ag,ag] [] s=_;rw[Zj (ρ':=[aa<|spV p n,aa<|.lst<|E.map Zb,aa<|.lst<|(ZA E).map Zl,aa<|.lst<|([]:List Row).map Zb,ag,ag]) (os':=[3]) (s':=s) (by
  rw[rv];show PR.bind (pv _ (.lst []) _ s) _=_;rw[pv,Ze];rfl)]
 have lP:P.length<=1000:=by have:=hK.part;have:=dsum this;omega
 obtain⟨ρ',hI,e⟩:=Jv (C:=CV<|d+1) (ms:=[3]) (os:=[3]) (t:=[4]) (it:=.of<|.v 2) (b:=[.forr [5] (.of<|.v 1) [.ite (.and (.cmp .eq (.ix (.v 5)<|.v 4)<|.c<|.int 1)<|.cmp .eq (.call 4 [(.v 5)])<|.v 4) [.ite (.cmp .eq (.comp1 [4,5] 1 [0] (.of<|.v 2) [(.and (.cmp .ne (.v 0)<|.v 1)<|.cmp .ne (.ix (.v 2)<|.v 0)<|.c<|.int 0)]<|.v 0)<|.lst []) [.ex<|.mt .append (.v 3) [(.v 5)]] []] []]]) (L:=ZA E) (e:=Zl) (O:=[aa<|spV p n,aa<|.lst<|E.map Zb,aa<|.lst<|(ZA E).map Zl,aa<|.lst<|([]:List Row).map Zb,ag,ag]) (s:=s)
  (λl O=>(∀k∈l,k<n)/\∃F a4 a5,O=[aa<|spV p n,aa<|.lst<|E.map Zb,aa<|.lst<|(ZA E).map Zl,aa<|.lst<|F.map Zb,a4,a5]/\F++(l.flatMap λh=>E.filter<|Vu E h)=P) (by
   show pvw (CV<|d+1) (.of<|.v 2) [aa<|spV p n,aa<|.lst<|E.map Zb,aa<|.lst<|(ZA E).map Zl,ag,ag,ag] s=_;rw[pvw,Zg rfl];rfl) #[hpl,[],ag,ag,rfl,hF] rfl (λh l O hI=>by
   obtain⟨hh,F,a4,a5,rfl,hf⟩:=hI;have h0:=hh h<|am ..;have lF:F.length<=1000:=by have:=congrArg fH hf;rw[bc]at this;omega
   obtain⟨b5,_,e5⟩:=y4 (C:=CV<|d+1) (ms:=[3]) (os:=[3]) (t:=[5]) (it:=.of<|.v 1) (b:=[.ite (.and (.cmp .eq (.ix (.v 5)<|.v 4)<|.c<|.int 1)<|.cmp .eq (.call 4 [(.v 5)])<|.v 4) [.ite (.cmp .eq (.comp1 [4,5] 1 [0] (.of<|.v 2) [(.and (.cmp .ne (.v 0)<|.v 1)<|.cmp .ne (.ix (.v 2)<|.v 0)<|.c<|.int 0)]<|.v 0)<|.lst []) [.ex<|.mt .append (.v 3) [(.v 5)]] []] []]) (L:=E) (e:=Zb) (step:=λF r=>if Vu E h r=aj then F++[r]else F) (O:=λF x=>[aa<|spV p n,aa<|.lst<|E.map Zb,aa<|.lst<|(ZA E).map Zl,aa<|.lst<|F.map Zb,aa<|Zl h,x]) (st:=F) (o:=a5) (s:=s)
    (λl F=>(∀r∈l,Zd p n r)/\F.length+l.length<lim) (by
     show pvw (CV<|d+1) (.of<|.v 1) [aa<|spV p n,aa<|.lst<|E.map Zb,aa<|.lst<|(ZA E).map Zl,ag,aa<|Zl h,a5] s=_;rw[pvw,Zg rfl];rfl) #[hR,by unfold lim;omega] rfl (λr l F x hI=>by
     obtain⟨i1,i2⟩:=hI;rw[aP]at i2;refine#[#[λq hq=>i1 q<|ai _ hq,?_],by rw[Wy];rfl,[aa<|spV p n,aa<|.lst<|E.map Zb,aa<|.lst<|(ZA E).map Zl,aa<|.lst<|F.map Zb,aa<|Zl h,aa<|Zb r],aa<|Zb r,rfl,wO d s hn (i1 r<|am ..) hpl h0 (by omega)]
     split
     .rw[bc,dB];omega
     .omega)
   rw[VG]at e5;refine#[rfl,[aa<|spV p n,aa<|.lst<|E.map Zb,aa<|.lst<|(ZA E).map Zl,aa<|.lst<|F.map Zb,aa<|Zl h,a5],_,rfl,by rw[Zj e5,rvs],λk hk=>hh k<|ai _ hk,_,_,_,rfl,?_]
   rw[nG,<-bq]at hf;exact hf)
 obtain⟨_,F,a4,a5,rfl,hf⟩:=hI;rw[List.flatMap_nil,bS]at hf;subst hf;rw[Zj e];refine Zn<|ZM ?_;rw[pv,Zc (Zg rfl) Ze];rfl
end
end K91
namespace Ab
open Ev Pv
end Ab
namespace Lv
open Ev Pv
noncomputable def Uf:Fn:=#[2,2,[.ite (.cmp .lt (.v 1)<|.blt .len [(.v 0)]) [.ret<|.ix (.v 0)<|.v 1] [],.ret<|.c<|.int 0]]
noncomputable def VP(c:Nat):Fn:=#[2,3,[.asg [2]<|.call c [(.v 0),(.v 1)],.ite (.cmp .ge (.v 2)<|.bin .pow (.c<|.int 10)<|.c<|.int 18) [.ret<|.lst [(.bin .sub (.v 2)<|.bin .pow (.c<|.int 10)<|.c<|.int 18),(.c<|.bl aj)]] [],.ret<|.lst [(.bin .mod (.v 2)<|.c<|.int 2147483647),(.c<|.bl ak)]]]
noncomputable def JT(nn:Nat)(M:Int)(st:Nat)(B:List Sm)(r:E):Fn:=#[1,nn,[.forr [1] (.rng1<|.blt .max2 [(.c<|.int 1),(.blt .min2 [(.blt .len [(.v 0)]),(.c<|.int M)])]) [.cel 2 st [(.v 0),(.v 1)] B],.ret r]]
def Zae(ht:ca≠tk)(hC:F[ca]?=aa Uf)(d:Nat)(k0:0<=k):∃c,Zo F tk (d+1) ca [.scr ns,.int k] s=.ok (.int c) s:=by
 by_cases c:k<ns.length
 .have hk:k.toNat<ns.length:=by lia
  refine#[ns[k.toNat],?_];simp[Zo,ht,hC,Uf,rvs,rv,pvs,Pv.pv.eq_1,Pv.pv.eq_2,pv,Y5,PR.bind,po,ZS,Yl,int2,Xt,blt1,Yu,Zq,ixV,at',ixN,k0,c,hk,ofD]
 .refine#[0,?_]
  simp[Zo,ht,hC,Uf,rvs,rv,pvs,pv,Y5,PR.bind,po,ZS,Yl,int2,Xt,blt1,Yu,Zq,ixV,at',ixN,k0,c,ofD]
def jR(ht:ca≠tk)(hts:st≠tk)(hC:F[ca]?=aa Uf)(hS:F[st]?=aa (VP ca))(d:Nat)(k0:0<=k):∃v d0,Zo F tk (d+2) st [.scr ns,.int k] s=.ok v s/\UK v=aa d0/\okS d0.1 d0.2=aj:=by
 obtain⟨c,e⟩:=Zae ht hC (s:=s) (ns:=ns) d k0;rw[show d+2=(d+1)+1 from rfl,Zo,T8 hts,hS]
 generalize Zo F tk (d+1)=C at e ⊢;by_cases h:10^18<=c
 .have h':(1000000000000000000:Int)<=c:=by simpa using h
  have o:okS (c-1000000000000000000) aj=aj:=by simp[okS];lia
  refine#[.lst [.int<|c-1000000000000000000,.bl aj],(c-1000000000000000000,aj),?_,by simp[UK,o],o]
  simp[VP,rvs,rv,pvA,pvs,pv,Y5,PR.bind,po,ZS,Yl,int2,Zq,ofD,YZ,Pv.UO,e,h',muts,xJ,lim]
 .have h':¬(1000000000000000000:Int)<=c:=by simpa using h
  have o:okS (c%2147483647) ak=aj:=by simp[okS];lia
  refine#[.lst [.int<|c%2147483647,.bl ak],(c%2147483647,ak),?_,by simp[UK,o],o]
  simp[VP,rvs,rv,pvA,pvs,pv,Y5,PR.bind,po,ZS,Yl,int2,Zq,ofD,YZ,Pv.UO,e,h',muts,xJ,lim]
theorem G0(P:Env->Prop):∀(xs:List V),(∀x∈xs,∀O s,P O->∃ρ' s',P ρ'/\body x O [] s=.ok (.nx ρ' []) s')->∀O s,P O->∃ρ' s',P ρ'/\Y2 body xs O [] s=.ok (.nx ρ' []) s'
 |[],_,O,s,h=>#[O,s,h,rfl]
 |x::xs,hb,O,s,h=>by
  obtain⟨ρ1,s1,h1,e1⟩:=hb x (am ..) O s h;obtain⟨ρ2,s2,h2,e2⟩:=G0 P xs (λy hy=>hb y<|ai _ hy) ρ1 s1 h1
  refine#[ρ2,s2,h2,?_];rw[Y2,e1];exact e2
def hide_nil :hide [] O=O:=by
 unfold hide;apply bR
 intro i;rw[g8];cases O[i]?<;>rfl
def jB(h0:O[0]?=aa (aa<|.scr ns))(h1:O[1]?=aa (aa<|.int k))(hl:O.length=nn+3):(Ww 2 O).set 2 (aa .drw)=aa (.scr ns)::aa (.int k)::aa .drw::aA nn ag:=by
 match O,h0,h1,hl with
 |a::b::l,h0,h1,hl=>
  cases h0;cases h1;have:l.length=nn+1:=by simpa using hl
  unfold Ww;simp[Vt,V.flat,this,bN]
def law_ofR{r:E}(d:Nat)(ht:ca≠tk)(hts:st≠tk)(htl:L≠tk)(hC:F[ca]?=aa Uf)(hS:F[st]?=aa (VP ca))(hL:F[L]?=aa (JT (nn+3) M st B r))(hM:M<2^62)(hr:∀O s,pv (Zo F tk<|d+2) r O s=.ok (.bl aj) s)
  (hv:∀(o:Option V)(k:Nat)(s:DS),∃O os s',rvs (Zo F tk<|d+2) (muts B) B (o::aa (.int k)::aa .drw::aA nn ag) [] s=.ok (.nx O os) s'/\O[0]?=aa o/\O.length=nn+3)(ns:List Int)(s:DS) :
  ∃S,Zo F tk (d+3) L [.scr ns] s=.ok (.bl aj) S:=by
 rw[show d+3=(d+2)+1 from rfl,Zo,T8 htl,hL]
 have hst:=λk (k0:0<=k) s=>jR ht hts hC hS (s:=s) (ns:=ns) (k:=k) d k0
 generalize Zo F tk (d+2)=C at hv hst hr ⊢;have hR:=hr;clear hr;have hr:∃m,pvw C (.rng1<|.blt .max2 [(.c<|.int 1),(.blt .min2 [(.blt .len [(.v 0)]),(.c<|.int M)])]) (ZS (nn+3) [.scr ns]) s=.ok (ZZ 0 m) s:=by
  have e:pv C (.blt .max2 [(.c<|.int 1),(.blt .min2 [(.blt .len [(.v 0)]),(.c<|.int M)])]) (ZS (nn+3) [.scr ns]) s=.ok (.int<|if(if M<(ns.length:Int)then M else(ns.length:Int))>1 then(if M<(ns.length:Int)then M else(ns.length:Int))else 1) s:=by
   simp[pv,pvs,PR.bind,po,ZS,ofD,Xt,blt1,blt2,Yu]
  rw[pvw,e];refine#[_,(T9 ?_ :)];unfold Y7;refine T5 ?_;split<;>split<;>lia
 obtain⟨m,hr⟩:=hr;have hm:muts (JT (nn+3) M st B r).body=muts B:=by simp[JT,muts,xJ]
 simp only[hm];show ∃S,(if 1=1 then _ else _)=_
 rw[T9 rfl];unfold JT;simp only;rw[rvs,rv,hide_nil,hr]
 let body:V->Env->List Nat->DS->PR FlV:=λx O os s=>if([1].any os.contains)=aj then .no else(po (Zk [1] x O) s).bind λO s=>rvs C (muts B) [.cel 2 st [(.v 0),(.v 1)] B] O os s
 have hb:∀x∈ZZ 0 m,∀O s,(O[0]?=aa (aa<|.scr ns)/\O.length=nn+3)->∃ρ' s',(ρ'[0]?=aa (aa<|.scr ns)/\ρ'.length=nn+3)/\body x O [] s=.ok (.nx ρ' []) s':=by
  intro x hx O s #[h0,hl];unfold ZZ at hx;obtain⟨k,_,rfl⟩:=aO.mp hx;rw[Int.zero_add];obtain⟨v,d0,e1,e2,e3⟩:=hst (k:Int) (by lia) s
  obtain⟨ρ2,os2,s2,e4,h2,l2⟩:=hv (aa<|.scr ns) k d0;have q0:(O.set 1<|aa<|.int (k:Int))[0]?=aa (aa<|.scr ns):=by rw[bp (by decide)];exact h0
  have q1:(O.set 1<|aa<|.int (k:Int))[1]?=aa (aa<|.int (k:Int)):=bY (by lia)
  have ql:(O.set 1<|aa<|V.int (k:Int)).length=nn+3:=by rw[bZ];exact hl
  have a:pvs C [(.v 0),(.v 1)] (O.set 1<|aa<|.int (k:Int)) s=.ok [.scr ns,.int (k:Int)] s:=by
   simp only[pvs,pv,q0,q1,PR.bind,po,Option.join];rfl
  refine#[ρ2.map Vt,s,#[by rw[aM,h2];rfl,by rw[aw];exact l2],?_]
  show(rvs C (muts B) [.cel 2 st [(.v 0),(.v 1)] B] (O.set 1<|aa<|.int (k:Int)) [] s)=_;rw[rvs,rv,T9 (by rfl),a]
  show PR.bind (PR.bind (C st [.scr ns,.int (k:Int)] s) _) _=_;rw[e1];show PR.bind (PR.bind (po (UK v) s) _) _=_;rw[e2];simp only[po,PR.bind,jB q0 q1 ql,e4,rvs]
 obtain⟨O,s',h,e⟩:=G0 (body:=body) (λO=>O[0]?=aa (aa<|.scr ns)/\O.length=nn+3) (ZZ 0 m) hb (ZS (nn+3) [.scr ns]) s #[rfl,by simp[ZS]]
 refine#[s',?_];show PR.bind (PR.bind (Y2 body (ZZ 0 m) _ _ s) _) _=_;rw[e];show PR.bind (rvs C (muts B) [.ret r] O [] s') _=_;rw[rvs,rv,hR];rfl
end Lv
namespace K91
open Ev Pv Rw La
open Ab (okV Wo)
noncomputable def UZ:List (Nat×Nat):=[(2,1),(2,2),(2,3),(2,4),(3,1),(3,2),(3,3),(5,1),(5,2),(2,3),(2,4),(3,3)]
noncomputable def Zb5:List (Nat×Nat):=[(2,5),(2,6),(3,4),(5,3)]
noncomputable def Vg:List (Nat×Nat):=UZ++Zb5
def ZaD:∀q∈Vg,(q.1=2\/q.1=3\/q.1=5)/\1<=q.2/\q.2<=6/\q.1^q.2<=1000:=by decide
def vd(d:Nat){m:Int}(s:DS):∃q s',CV (d+2) 3 [.drw,.int m] s=.ok (spV q.1 q.2) s'/\q∈Vg:=by
 let L:=if m>27 then Vg else UZ
 have hL:12<=L.length/\L.length<=16/\∀q∈L,q∈Vg:=by
  by_cases c:m>27
  .simp only[L,T9 c];exact#[by decide,by decide,λq hq=>hq]
  .simp only[L,T8 c];exact#[by decide,by decide,λq hq=>dJ _ hq]
 obtain⟨v,s',f1,f2,f3⟩:=Qd (F:=fns) (tk:=2) (d:=d) (m:=L.length) s (by omega) (by omega)
 obtain⟨k,rfl⟩:∃k:Nat,v=k:=#[v.toNat,by omega]
 have hk:k<L.length:=by omega
 refine#[L[k],s',Zm rfl (by decide) rfl ?_,hL.2.2 _<|aU hk]
 show rvs (CV<|d+1) [] Xn.body [aa .drw,aa<|.int m,ag] [] s=_
 dsimp only[Xn]
 rw[Zj (ρ':=[aa .drw,aa<|.int m,aa<|.lst<|UZ.map λq=>spV q.1 q.2]) (os':=[]) (s':=s) (by simp[pvE,UZ,spV])]
 have e0:pv (CV<|d+1) (.cmp .gt (.v 1)<|.c<|.int 27) [aa .drw,aa<|.int m,aa<|.lst<|UZ.map λq=>spV q.1 q.2] s=.ok (.bl<|ae<|27<m) s:=by
  rw[pv,Zg rfl,Za,Xs,Za];rfl
 rw[Zj (ρ':=[aa .drw,aa<|.int m,aa<|.lst<|L.map λq=>spV q.1 q.2]) (os':=[]) (s':=s) (by
  rw[Vs<|XV e0 rfl];by_cases c:m>27
  .simp only[L,T9 c]
   rw[T5 c,T9 rfl];rw[Zj (ρ':=[aa .drw,aa<|.int m,aa<|.lst<|Vg.map λq=>spV q.1 q.2]) (os':=[]) (s':=s) (by simp[pvE,Vg,UZ,Zb5,spV]),rvs]
  .simp only[L,T8 c]
   rw[T4 c,T8 (by decide),rvs])]
 refine Zn<|ZM ?_;have e1:pv (CV<|d+1) (.blt .len [(.v 2)]) [aa .drw,aa<|.int m,aa<|.lst<|L.map λq=>spV q.1 q.2] s=.ok (.int L.length) s:=by
  rw[pv,Zc (Zg rfl) Ze,Za];show po (aa<|V.int (L.map λq=>spV q.1 q.2).length) s=_
  rw[aw];rfl
 rw[pv,Zg rfl,Za,Zs (Zc (Zg rfl)<|Zc e1 Ze) f1,Za];show po (at' (L.map λq=>spV q.1 q.2) (k:Int)) s'=_
 rw[UF (by rw[aM,af hk];rfl)];rfl
def yE{C:Zz}{cap:List Nat}{nl:Nat}{t:List Nat}{it:W}{elt:E}{O:Env}{s s0:DS}{k:Nat}{Q:V->Prop}(hw:pvw C it O s=.ok (ZZ 0 k) s0)(hl:k<=lim)(h:∀(x:V)(s:DS),∃Z y s',Zk t x (Z5 cap nl O)=aa Z/\pv C elt Z s=.ok y s'/\Q y)(ho:own nl t=aj:=by rfl) :
  ∃ys s',pv C (.comp1 cap nl t it [] elt) O s=.ok (.lst ys) s'/\ys.length=k/\∀y∈ys,Q y:=by
 obtain⟨ys,s',e1,e2,e3⟩:=Vn (Q:=Q) (f:=λx s=>(po (Zk t x<|Z5 cap nl O) s).bind λZ s=>(pvt C [] Z s).bind λb s=>if b then(pv C elt Z s).bind λy s=>.ok [y] s else .ok [] s) (λx s=>by
  obtain⟨Z,y,s',f1,f2,f3⟩:=h x s;refine#[y,s',?_,f3];rw[f1,ZN,Za,pvt,Za];show(pv C elt Z s).bind _=_;rw[f2];rfl) (ZZ 0 k) s0
 have hk:(ZZ 0 k).length=k:=by unfold ZZ;simp
 refine#[ys,s',?_,by rw[e2,hk],e3]
 rw[pv,T9 ho,hw,Za,e1,Za,T9 (by rw[e2,hk];exact hl)];rfl
theorem Qe{p n:Nat}:∀{ys:List V},(∀y∈ys,∃r:Row,y=Zb r/\Zd p n r)->∃R:List Row,ys=R.map Zb/\∀r∈R,Zd p n r
 |[],_=>#[[],rfl,λ_ h=>by cases h]
 |y::ys,h=>by
  obtain⟨R,rfl,hR⟩:=Qe λz hz=>h z<|ai _ hz
  obtain⟨r,rfl,hr⟩:=h y<|am ..;refine#[r::R,rfl,λx hx=>?_]
  rcases aB.mp hx with rfl|hx
  .exact hr
  .exact hR x hx
theorem GM{p:Nat}:∀{ys:List V},(∀y∈ys,∃a:Int,y=.int a/\0<=a/\a<(p:Int))->∃r:Row,ys=r.map V.int/\∀a∈r,0<=a/\a<(p:Int)
 |[],_=>#[[],rfl,λ_ h=>by cases h]
 |y::ys,h=>by
  obtain⟨r,rfl,hr⟩:=GM λz hz=>h z<|ai _ hz
  obtain⟨a,rfl,h3⟩:=h y<|am ..;refine#[a::r,rfl,λx hx=>?_]
  rcases aB.mp hx with rfl|hx
  .exact h3
  .exact hr x hx
section
variable{p n:Nat}[Base p]
theorem X8:∀L:List Row,(Zi L).Perm L
 |[]=>cr _
 |x::L=>by
  have ins:∀(x:Row)(l:List Row),(YA x l).Perm (x::l):=λx l=>by
   induction l with
   |nil=>exact cr _
   |cons y l ih=>
    unfold YA;split
    .exact cr _
    .exact(ih.cons y).trans<|iY ..
  exact(ins x<|Zi L).trans<|(X8 L).cons x
def Zaf(d:Nat)(s:DS)(hn:n<=6):∃r s',CV (d+2) 6 [.drw,spV p n] s=.ok (Zb r) s'/\Zd p n r:=by
 have hp:=WB (p:=p);obtain⟨v,s1,f1,f2,f3⟩:=Qd (F:=fns) (tk:=2) (d:=d) (m:=(n:Int)+1) s (by omega) (by omega)
 obtain⟨w,s2,g1,g2,g3⟩:=Qd (F:=fns) (tk:=2) (d:=d) (m:=3) s1 (by omega) (by omega)
 obtain⟨k,hk,e0⟩:∃k:Nat,k<=n/\pv (CV<|d+1) (.bin .mul (.call 2 [(.v 0),(.bin .add (.ix (.v 1)<|.c<|.int 1)<|.c<|.int 1)])<|.blt .toInt [(.cmp .eq (.call 2 [(.v 0),(.c<|.int 3)])<|.c<|.int 0)]) [aa .drw,aa<|spV p n,ag] s=.ok (Zl k) s2:=by
  have h1:pv (CV<|d+1) (.bin .add (.ix (.v 1)<|.c<|.int 1)<|.c<|.int 1) [aa .drw,aa<|spV p n,ag] s=.ok (.int<|(n:Int)+1) s:=Gq (ix1 rfl) Xs;have h2:pv (CV<|d+1) (.call 2 [(.v 0),(.bin .add (.ix (.v 1)<|.c<|.int 1)<|.c<|.int 1)]) [aa .drw,aa<|spV p n,ag] s=.ok (.int v) s1:=Zs (Zc (Zg rfl)<|Zc h1 Ze) f1;have h3:pv (CV<|d+1) (.call 2 [(.v 0),(.c<|.int 3)]) [aa .drw,aa<|spV p n,ag] s1=.ok (.int w) s2:=Zs (Zc (Zg rfl)<|Zc Xs Ze) g1;have h4:pv (CV<|d+1) (.blt .toInt [(.cmp .eq (.call 2 [(.v 0),(.c<|.int 3)])<|.c<|.int 0)]) [aa .drw,aa<|spV p n,ag] s1=.ok (.int<|b2i<|ae<|w=0) s2:=by
   have:pv (CV<|d+1) (.cmp .eq (.call 2 [(.v 0),(.c<|.int 3)])<|.c<|.int 0) [aa .drw,aa<|spV p n,ag] s1=.ok (.bl<|ae<|w=0) s2:=by
    rw[pv,h3,Za,Xs,Za];rfl
   rw[pv,Zc this Ze];rfl
  by_cases c:w=0
  .refine#[v.toNat,by omega,?_]
   rw[pv,h2,Za,h4,Za,T5 c];show(if(fits v&&fits 1)=aj then PR.ok (V.int<|v*1) s2 else .no)=_
   rw[T9 (by rw[Z1 (by omega) (by omega)];rfl)]
   unfold Zl;rw[show v*1=((v.toNat:Nat):Int) by omega]
  .refine#[0,by omega,?_]
   rw[pv,h2,Za,h4,Za,T4 c];show(if(fits v&&fits 0)=aj then PR.ok (V.int<|v*0) s2 else .no)=_
   rw[T9 (by rw[Z1 (by omega) (by omega)];rfl),Int.mul_zero];rfl
 obtain⟨ys,s3,e1,e2,e3⟩:=wv (C:=CV<|d+1) (cap:=[0,1]) (nl:=1) (t:=[0]) (it:=.rng1<|.bin .sub (.ix (.v 1)<|.c<|.int 1)<|.v 2) (elt:=.call 2 [(.v 1),(.ix (.v 2)<|.c<|.int 0)]) (O:=[aa .drw,aa<|spV p n,aa<|Zl k]) (s:=s2) (k:=n-k) (Q:=λy=>∃a:Int,y=.int a/\0<=a/\a<(p:Int))
  (by
   rw[Jn];refine YV ?_ (by omega)
   rw[pv,ix1 rfl,Za,Zg rfl,Za];show PR.ok (V.int<|(n:Int)-(k:Int)) s2=_;rw[show(n:Int)-(k:Int)=((n-k:Nat):Int) by omega]) (by unfold lim;omega) (λx s=>by
   obtain⟨v,s',f1,f2,f3⟩:=Qd (F:=fns) (tk:=2) (d:=d) (m:=p) s (by omega) (by omega)
   exact#[[aa x,aa .drw,aa<|spV p n],.int v,s',rfl,Zs (Zc (Zg rfl)<|Zc (ix0 rfl) Ze) f1,v,rfl,f2,f3])
 obtain⟨r,rfl,hr⟩:=GM e3;rw[aw]at e2;refine#[aA k 0++r,s3,Zm rfl (by decide) rfl ?_,by rw[bc,b8,e2];omega,λa ha=>?_]
 .show rvs (CV<|d+1) [] Wq.body [aa .drw,aa<|spV p n,ag] [] s=_
  dsimp only[Wq]
  rw[Zj<|Yp e0 rfl];show rvs _ _ _ [aa .drw,aa<|spV p n,aa<|Zl k] [] s2=_;refine Zn<|ZM ?_;have g:pv (CV<|d+1) (.tup [(.c<|.int 0)]) [aa .drw,aa<|spV p n,aa<|Zl k] s2=.ok (.tup [.int 0]) s2:=ZbM Xs;have g2:pv (CV<|d+1) (.bin .mul (.tup [(.c<|.int 0)])<|.v 2) [aa .drw,aa<|spV p n,aa<|Zl k] s2=.ok (.tup<|(aA k (0:Int)).map V.int) s2:=by
   rw[pv,g,Za,Zg rfl,Za];show(if(0:Int)<=k/\(k:Int)<1000/\1<=1000 then PR.ok (V.tup (aA (k:Int).toNat [V.int 0]).flatten) s2 else .no)=_
   rw[T9 #[by omega,by omega,by omega],dv,Zb4]
  have g3:pv (CV<|d+1) (.blt .tuple [(.comp1 [0,1] 1 [0] (.rng1<|.bin .sub (.ix (.v 1)<|.c<|.int 1)<|.v 2) []<|.call 2 [(.v 1),(.ix (.v 2)<|.c<|.int 0)])]) [aa .drw,aa<|spV p n,aa<|Zl k] s2=.ok (.tup<|r.map V.int) s3:=by
   rw[pv,Zc e1 Ze];rfl
  rw[pv,g2,Za,g3,Za];show(if((aA k (0:Int)).map V.int).length+(r.map V.int).length<=lim then PR.ok (V.tup<|(aA k (0:Int)).map V.int++r.map V.int) s3 else .no)=_
  rw[T9 (by rw[aw,aw,b8];unfold lim;omega),<-bK];rfl
 .rcases cW.mp ha with ha|ha
  .rw[kH ha];omega
  .exact hr a ha
def jq(d:Nat)(s:DS)(hn:n<=6)(h1:1<=n)(hp:p^n<=1000):∃P s',CV (d+3) 9 [.drw,spV p n] s=.ok (Zf P) s'/\pZ p n P:=by
 obtain⟨v,s1,f1,f2,f3⟩:=Qd (F:=fns) (tk:=2) (d:=d+1) (m:=(n:Int)+1) s (by omega) (by omega)
 obtain⟨k,rfl⟩:∃k:Nat,v=k:=#[v.toNat,by omega]
 obtain⟨ys,s2,e1,e2,e3⟩:=yE (C:=CV<|d+2) (cap:=[0,1]) (nl:=1) (t:=[0]) (it:=.rng1<|.call 2 [(.v 0),(.bin .add (.ix (.v 1)<|.c<|.int 1)<|.c<|.int 1)]) (elt:=.call 6 [(.v 1),(.v 2)]) (O:=[aa .drw,aa<|spV p n,ag]) (s:=s) (s0:=s1) (k:=k) (Q:=λy=>∃r:Row,y=Zb r/\Zd p n r)
  (by
   rw[Jn];exact YV (Zs (Zc (Zg rfl)<|Zc (Gq (ix1 rfl) Xs) Ze) f1)<|by omega) (by unfold lim;omega) (λx s=>by
   obtain⟨r,s',g1,g2⟩:=Zaf (p:=p) (n:=n) d s hn;exact#[[aa x,aa .drw,aa<|spV p n],Zb r,s',rfl,Zs (Zc (Zg rfl)<|Zc (Zg rfl) Ze) g1,r,rfl,g2])
 obtain⟨R,rfl,hR⟩:=Qe e3;have hK:=Xa hR;have hl:(Zi<|ZF p n R).length<=1000:=by
  rw[UJ,hK.len];have:=WB (p:=p);exact cn (eP (by omega)<|dsum hK.part) hp
 refine#[Yb p [] R,s2,Zm rfl (by decide) rfl ?_,hK.part]
 show rvs (CV<|d+2) [] XN.body [aa .drw,aa<|spV p n,ag] [] s=_
 dsimp only[XN]
 rw[Zj<|Yp e1 rfl];show rvs _ _ _ [aa .drw,aa<|spV p n,aa<|.lst<|R.map Zb] [] s2=_;exact Zn<|ZM<|Xd (Zg rfl) (Xd (Zg rfl) (Zg rfl)<|Um d s2 hn h1 hp hR rfl)<|jy d s2 hn hK (X8 _) hl
end
theorem GC:∀L:List Row,Ws (L.map λr=>V.tup [Zb r,.bl aj])=aa L
 |[]=>rfl
 |r::L=>by
  show((intsV<|r.map V.int).bind λa=>(Ws<|L.map λr=>V.tup [Zb r,.bl aj]).map (a :: ·))=_
  rw[Yn,GC L];rfl
section
variable{p n:Nat}[Base p]
def wX(d:Nat){R every:List Row}{a5 a6 a7:Option V}(s:DS)(hn:n<=6)(h1:1<=n)(hp:p^n<=1000)(hR:∀r∈R,Zd p n r)(hl:R.length<n)(hw:(Yb p [] R).length=R.length)(he:every.Perm (ZF p n R)) :
  ∃r b6 b7 s',Zd p n r/\(Yb p []<|R++[r]).length=R.length+1/\rvs (CV<|d+2) [] [.asg [6]<|.blt .dictP [(.comp1 [] 1 [0] (.of<|.v 3) []<|.tup [(.v 0),(.c<|.bl aj)])],
   .asg [7] (.comp1 [6] 1 [0] (.of<|.v 4) [(.cmp .nin (.v 0)<|.v 1)]<|.v 0),
   .asg [2] (.bin .add (.v 2)<|.tup [(.ix (.v 7)<|.call 2 [(.v 0),(.blt .len [(.v 7)])])]),
   .asg [3] (.call 8 [(.v 1),(.v 2)])] [aa .drw,aa<|spV p n,aa<|.tup<|R.map Zb,aa<|.lst<|every.map Zb,aa<|.lst<|(Zi<|ZF p n<|units n).map Zb,a5,a6,a7] [] s
   = .ok (.nx [aa .drw,aa<|spV p n,aa<|.tup<|(R++[r]).map Zb,aa<|.lst<|(Zi<|ZF p n<|R++[r]).map Zb,aa<|.lst<|(Zi<|ZF p n<|units n).map Zb,a5,b6,b7] []) s':=by
 have hpp:=WB (p:=p);have hK:=Xa hR;have hU:=Xa (p:=p) (n:=n) Y1;have le:every.length<=1000:=by
  rw[he.length_eq,hK.len];exact cn (eP (by omega)<|by omega) hp
 have lu:(ZF p n<|units n).length<=1000:=by rw[xi hn];exact hp
 have hc:=Zx (C:=CV<|d+2) (cap:=[]) (nl:=1) (t:=[0]) (it:=.of<|.v 3) (elt:=.tup [(.v 0),(.c<|.bl aj)]) (O:=[aa .drw,aa<|spV p n,aa<|.tup<|R.map Zb,aa<|.lst<|every.map Zb,aa<|.lst<|(Zi<|ZF p n<|units n).map Zb,a5,a6,a7]) (s:=s) (l:=every) (e:=Zb) (g:=λr=>V.tup [Zb r,.bl aj])
  (by rw[pvw,Zg rfl];rfl) (by unfold lim;omega) (λr _=>#[[aa<|Zb r],rfl,by
   have g:pv (CV<|d+2) (.c<|.bl aj) [aa<|Zb r] s=.ok (.bl aj) s:=by rw[pv];rfl
   rw[pv,Zc (Zg rfl)<|Zc g Ze,Za,T9 (by show 2<=lim;unfold lim;omega)]])
 have hd:pv (CV<|d+2) (.blt .dictP [(.comp1 [] 1 [0] (.of<|.v 3) []<|.tup [(.v 0),(.c<|.bl aj)])]) [aa .drw,aa<|spV p n,aa<|.tup<|R.map Zb,aa<|.lst<|every.map Zb,aa<|.lst<|(Zi<|ZF p n<|units n).map Zb,a5,a6,a7] s=.ok (.dct<|aa every) s:=by
  rw[pv,Zc hc Ze,Za];show po ((Ws<|every.map λr=>V.tup [Zb r,.bl aj]).bind λks=>if Uz ks=aj then aa (V.dct<|aa ks)else ag) s=_
  rw[GC];show po (if Uz every=aj then aa (V.dct<|aa every)else ag) s=_
  rw[T9 (by
   unfold Uz;rw[aF];exact#[T5 (by unfold lim;omega),T5<|he.nodup_iff.mpr hK.nd])];rfl
 rw[Zj<|Yp hd rfl];show ∃r b6 b7 s',_/\_/\rvs _ _ _ [aa .drw,aa<|spV p n,aa<|.tup<|R.map Zb,aa<|.lst<|every.map Zb,aa<|.lst<|(Zi<|ZF p n<|units n).map Zb,a5,aa<|.dct<|aa every,a7] [] s=_
 let S:=(Zi<|ZF p n<|units n).filter λr=>!every.contains r
 have hc2:=YO (C:=CV<|d+2) (cap:=[6]) (nl:=1) (t:=[0]) (it:=.of<|.v 4) (tst:=.cmp .nin (.v 0)<|.v 1) (elt:=.v 0) (O:=[aa .drw,aa<|spV p n,aa<|.tup<|R.map Zb,aa<|.lst<|every.map Zb,aa<|.lst<|(Zi<|ZF p n<|units n).map Zb,a5,aa<|.dct<|aa every,a7]) (s:=s) (l:=Zi<|ZF p n<|units n) (e:=Zb) (g:=Zb) (q:=λr=>!every.contains r)
  (by rw[pvw,Zg rfl];rfl) (by rw[UJ];unfold lim;omega) (λr _=>#[[aa<|Zb r,aa<|.dct<|aa every],.bl<|!every.contains r,rfl,by
   rw[pv,Zg rfl,Za,Zg rfl,Za];show po (((intsV<|r.map V.int).map λk=>every.contains k).map λb=>V.bl !b) s=_
   rw[Yn];rfl,rfl,λ_=>Zg rfl])
 rw[Zj<|Yp hc2 rfl];show ∃r b6 b7 s',_/\_/\rvs _ _ _ [aa .drw,aa<|spV p n,aa<|.tup<|R.map Zb,aa<|.lst<|every.map Zb,aa<|.lst<|(Zi<|ZF p n<|units n).map Zb,a5,aa<|.dct<|aa every,aa<|.lst<|S.map Zb] [] s=_;have hS:∀r,r∈S↔r∈ZF p n (units n)/\r∉ZF p n R:=λr=>by
  show r∈List.filter _ _↔_;rw[bM,(X8 _).mem_iff];refine and_congr_right λ_=>?_
  rw[<-he.mem_iff];simp
 have ne:0<S.length:=by
  have h:=Zad hn hR (by omega)
  obtain⟨x,hx⟩:=List.exists_mem_of_ne_nil _ h;rw[bM]at hx;exact lj<|(hS x).mpr #[hx.1,by simpa using hx.2]
 have lS:S.length<=1000:=cn (eC ..) (by rw[UJ];exact lu)
 have el:pv (CV<|d+2) (.blt .len [(.v 7)]) [aa .drw,aa<|spV p n,aa<|.tup<|R.map Zb,aa<|.lst<|every.map Zb,aa<|.lst<|(Zi<|ZF p n<|units n).map Zb,a5,aa<|.dct<|aa every,aa<|.lst<|S.map Zb] s=.ok (.int S.length) s:=by
  rw[pv,Zc (Zg rfl) Ze,Za];show po (aa<|V.int (S.map Zb).length) s=_;rw[aw];rfl
 obtain⟨v,s1,f1,f2,f3⟩:=Qd (F:=fns) (tk:=2) (d:=d+1) (m:=S.length) s (by omega) (by omega)
 obtain⟨k,rfl⟩:∃k:Nat,v=k:=#[v.toNat,by omega]
 have hk:k<S.length:=by omega
 obtain⟨m1,m2⟩:=(hS _).mp<|aU hk;have hr:Zd p n S[k]:=((hU.mem _).mp m1).1;have hm:Xh p (Yb p [] R) S[k]=ak:=by
  cases q:Xh p (Yb p [] R) S[k]with|false=>rfl|true=>exact T7 ((hK.mem _).mpr #[hr,q]) m2
 have hR2:∀r∈R++[S[k]],Zd p n r:=λr h=>by
  rcases cW.mp h with h|h
  .exact hR r h
  .rw[bg.mp h];exact hr
 have ex:pv (CV<|d+2) (.ix (.v 7)<|.call 2 [(.v 0),(.blt .len [(.v 7)])]) [aa .drw,aa<|spV p n,aa<|.tup<|R.map Zb,aa<|.lst<|every.map Zb,aa<|.lst<|(Zi<|ZF p n<|units n).map Zb,a5,aa<|.dct<|aa every,aa<|.lst<|S.map Zb] s=.ok (Zb S[k]) s1:=by
  rw[pv,Zg rfl,Za,Zs (Zc (Zg rfl)<|Zc el Ze) f1,Za];show po (at' (S.map Zb) (k:Int)) s1=_;rw[UF (by rw[aM,af hk];rfl)];rfl
 have et:pv (CV<|d+2) (.bin .add (.v 2)<|.tup [(.ix (.v 7)<|.call 2 [(.v 0),(.blt .len [(.v 7)])])]) [aa .drw,aa<|spV p n,aa<|.tup<|R.map Zb,aa<|.lst<|every.map Zb,aa<|.lst<|(Zi<|ZF p n<|units n).map Zb,a5,aa<|.dct<|aa every,aa<|.lst<|S.map Zb] s=.ok (.tup<|(R++[S[k]]).map Zb) s1:=by
  have g:pv (CV<|d+2) (.tup [(.ix (.v 7)<|.call 2 [(.v 0),(.blt .len [(.v 7)])])]) [aa .drw,aa<|spV p n,aa<|.tup<|R.map Zb,aa<|.lst<|every.map Zb,aa<|.lst<|(Zi<|ZF p n<|units n).map Zb,a5,aa<|.dct<|aa every,aa<|.lst<|S.map Zb] s=.ok (.tup [Zb S[k]]) s1:=by
   rw[pv,Zc ex Ze,Za,T9 (by show 1<=lim;unfold lim;omega)]
  rw[pv,Zg rfl,Za,g,Za];show(if(R.map Zb).length+1<=lim then PR.ok (V.tup<|R.map Zb++[Zb S[k]]) s1 else .no)=_
  rw[T9 (by rw[aw];unfold lim;omega),bK];rfl
 refine#[S[k],aa<|.dct<|aa every,aa<|.lst<|S.map Zb,s1,hr,?_,?_]
 .have:Yb p [] (R++[S[k]])=XO p (Yb p [] R) S[k]:=by unfold Yb;rw[nF];rfl
  rw[this,j5 hK.part hr hm,hw]
 .rw[Zj<|Yp et rfl]
  show rvs _ _ _ [aa .drw,aa<|spV p n,aa<|.tup<|(R++[S[k]]).map Zb,aa<|.lst<|every.map Zb,aa<|.lst<|(Zi<|ZF p n<|units n).map Zb,a5,aa<|.dct<|aa every,aa<|.lst<|S.map Zb] [] s1=_;have e9:pv (CV<|d+2) (.call 8 [(.v 1),(.v 2)]) [aa .drw,aa<|spV p n,aa<|.tup<|(R++[S[k]]).map Zb,aa<|.lst<|every.map Zb,aa<|.lst<|(Zi<|ZF p n<|units n).map Zb,a5,aa<|.dct<|aa every,aa<|.lst<|S.map Zb] s1=.ok (.lst<|(Zi<|ZF p n<|R++[S[k]]).map Zb) s1:=Xd (Zg rfl) (Zg rfl)<|Um d s1 hn h1 hp hR2 rfl;rw[Zj<|Yp e9 rfl,rvs];rfl
def vP(d:Nat)(s:DS)(hn:n<=6)(h1:1<=n)(hp:p^n<=1000):∃R s',CV (d+3) 11 [.drw,spV p n] s=.ok (.tup<|R.map Zb) s'/\R.length=n/\(∀r∈R,Zd p n r)/\(Yb p [] R).length=n:=by
 have e0:pv (CV<|d+2) (.tup []) [aa .drw,aa<|spV p n,ag,ag,ag,ag,ag,ag] s=.ok (.tup []) s:=by rw[pv,pvs];rfl
 have e1:pv (CV<|d+2) (.lst [(.bin .mul (.tup [(.c<|.int 0)])<|.ix (.v 1)<|.c<|.int 1)]) [aa .drw,aa<|spV p n,aa<|.tup [],ag,ag,ag,ag,ag] s=.ok (.lst<|[aA n 0].map Zb) s:=by
  rw[pv,Zc (yT hn rfl) Ze];rfl
 have e2:pv (CV<|d+2) (.call 8 [(.v 1),(.call 10 [(.v 1)])]) [aa .drw,aa<|spV p n,aa<|.tup [],aa<|.lst<|[aA n 0].map Zb,ag,ag,ag,ag] s=.ok (.lst<|(Zi<|ZF p n<|units n).map Zb) s:=
  Xd (Zg rfl) (Zs (Zc (Zg rfl) Ze)<|wp (d+1) s hn) (Um d s hn h1 hp Y1 rfl)
 obtain⟨ρ',s',hI,e⟩:=Zba (C:=CV<|d+2) (ms:=[]) (os:=[]) (t:=[5]) (it:=.rng1<|.ix (.v 1)<|.c<|.int 1) (b:=[.asg [6]<|.blt .dictP [(.comp1 [] 1 [0] (.of<|.v 3) []<|.tup [(.v 0),(.c<|.bl aj)])],
   .asg [7] (.comp1 [6] 1 [0] (.of<|.v 4) [(.cmp .nin (.v 0)<|.v 1)]<|.v 0),
   .asg [2] (.bin .add (.v 2)<|.tup [(.ix (.v 7)<|.call 2 [(.v 0),(.blt .len [(.v 7)])])]),
   .asg [3] (.call 8 [(.v 1),(.v 2)])]) (L:=aL n) (e:=Zl) (O:=[aa .drw,aa<|spV p n,aa<|.tup [],aa<|.lst<|[aA n 0].map Zb,aa<|.lst<|(Zi<|ZF p n<|units n).map Zb,ag,ag,ag]) (s:=s) (s0:=s)
  (λl O=>∃R every a5 a6 a7,O=[aa .drw,aa<|spV p n,aa<|.tup<|R.map Zb,aa<|.lst<|every.map Zb,aa<|.lst<|(Zi<|ZF p n<|units n).map Zb,a5,a6,a7]/\R.length+l.length=n/\(∀r∈R,Zd p n r)/\(Yb p [] R).length=R.length/\every.Perm (ZF p n R))
  (by
   show pvw (CV<|d+2) _ [aa .drw,aa<|spV p n,aa<|.tup [],aa<|.lst<|[aA n 0].map Zb,aa<|.lst<|(Zi<|ZF p n<|units n).map Zb,ag,ag,ag] s=_;exact YV (ix1 rfl)<|by omega) #[[],[aA n 0],ag,ag,ag,rfl,by rw[br];simp,(λ_ h=>by cases h),rfl,cr _] rfl (λk l O s hI=>by
   obtain⟨R,every,a5,a6,a7,rfl,hl,hR,hw,he⟩:=hI;rw[aP]at hl;obtain⟨r,b6,b7,s',hr,hw',e⟩:=wX d (a5:=aa<|Zl k) (a6:=a6) (a7:=a7) s hn h1 hp hR (by omega) hw he
   refine#[_,_,s',rfl,e,R++[r],Zi<|ZF p n<|R++[r],_,_,_,rfl,by rw[bc,dB];omega,λx hx=>?_,by rw[hw',bc];rfl,X8 _]
   rcases cW.mp hx with hx|hx
   .exact hR x hx
   .rw[bg.mp hx];exact hr)
 obtain⟨R,every,a5,a6,a7,rfl,hl,hR,hw,he⟩:=hI;refine#[R,s',Zm rfl (by decide) rfl ?_,hl,hR,by rw[hw];exact hl]
 show rvs (CV<|d+2) [] XH.body [aa .drw,aa<|spV p n,ag,ag,ag,ag,ag,ag] [] s=_
 dsimp only[XH]
 rw[Zj<|Yp e0 rfl];show rvs _ _ _ [aa .drw,aa<|spV p n,aa<|.tup [],ag,ag,ag,ag,ag] [] s=_;rw[Zj<|Yp e1 rfl];show rvs _ _ _ [aa .drw,aa<|spV p n,aa<|.tup [],aa<|.lst<|[aA n 0].map Zb,ag,ag,ag,ag] [] s=_;rw[Zj<|Yp e2 rfl];show rvs _ _ _ [aa .drw,aa<|spV p n,aa<|.tup [],aa<|.lst<|[aA n 0].map Zb,aa<|.lst<|(Zi<|ZF p n<|units n).map Zb,ag,ag,ag] [] s=_;rw[Zj e];exact Zn<|ZM<|Zg rfl
end
end K91
namespace Rw
open PySem (Str)
open PySem.Builtin.Str PySem.StrLaws
noncomputable def VH(c:Nat):Nat->List Nat->List Nat
 |_,[]=>[]
 |i,a::l=>if a=c then i::VH c (i+1) l else VH c (i+1) l
theorem V5(x:bx)(c limit:Nat):∀(l:List Nat)(i:Nat)(acc:Array Nat)(free:Nat),free<=i->acc.size+l.length<=limit->i<=x.cps.toList.length->l=x.cps.toList.drop i->(iQ (ow i<|l.length+1) (acc,free)<|occBody x ⟨#[c]⟩ x.length limit).run.fst.toList=acc.toList++VH c i l
 |[],i,acc,free,hf,hs,hi,hl=>by
  have n:¬(i+(⟨#[c]⟩:bx).length<=x.length/\subAt x ⟨#[c]⟩ i=aj):=λh=>by
   have:=(subAt_one x c i).mp h;have h2:=(aX.mp this).1;have:(x.cps.toList.drop i).length=0:=by rw[<-hl];rfl
   rw[bo]at this;omega
  show(iQ [i] (acc,free)<|occBody x ⟨#[c]⟩ x.length limit).run.fst.toList=_;rw[fk];unfold occBody;rw[T8 λh=>n #[h.1.2,h.2]]
  show acc.toList=acc.toList++[];rw[bS]
 |a::l,i,acc,free,hf,hs,hi,hl=>by
  rw[aP]at hs;have hlt:i<x.cps.toList.length:=by
   have:(x.cps.toList.drop i).length=l.length+1:=by rw[<-hl];rfl
   rw[bo]at this;omega
  have hd:=bE hlt;rw[<-hl]at hd;obtain⟨ha,hl'⟩:=pz hd;have key:(i+(⟨#[c]⟩:bx).length<=x.length/\subAt x ⟨#[c]⟩ i=aj)↔a=c:=by
   rw[subAt_one,af hlt,<-ha,nr]
  show(iQ (i::ow (i+1) (l.length+1)) (acc,free)<|occBody x ⟨#[c]⟩ x.length limit).run.fst.toList=_;rw[fk];unfold occBody VH;by_cases h:a=c
  .have k:=key.mpr h
   rw[T9 #[#[#[by show acc.size<limit;omega,hf],k.1],k.2],T9 h]
   have:=V5 x c limit l (i+1) (acc.push i) (i+1) (aH _) (by rw[dy];omega) hlt hl'
   show(iQ (ow (i+1)<|l.length+1) (acc.push i,i+1)<|occBody x ⟨#[c]⟩ x.length limit).run.fst.toList=_;rw[this,dM,bq];rfl
  .rw[T8 λz=>h<|key.mp #[z.1.2,z.2],T8 h]
   exact V5 x c limit l (i+1) acc free (by omega) (by omega) hlt hl'
def ZbG(x:bx)(c:Nat):occurrences x ⟨#[c]⟩ 0 x.length (x.length+1)=VH c 0 x.cps.toList:=by
 rw[occ_eq];have hx:x.length=x.cps.toList.length:=by simp[oP]
 have:=V5 x c (x.length+1) x.cps.toList 0 #[] 0 (aH _) (by rw[hx];simp) (cJ _) rfl
 rw[hx]at this ⊢;exact this
noncomputable def Y8(c:Nat):List Nat->List (List Nat)
 |[]=>[[]]
 |a::l=>if a=c then[]::Y8 c l else match Y8 c l with
  |p::ps=>(a::p)::ps
  |[]=>[[a]]
noncomputable def Zcg(h:List Nat):List (List Nat)->List (List Nat)
 |p::ps=>(h++p)::ps
 |[]=>[h]
theorem yu(c:Nat):∀l,∃p ps,Y8 c l=p::ps
 |[]=>#[_,_,rfl]
 |a::l=>by
  obtain⟨p,ps,e⟩:=yu c l;unfold Y8;split
  .exact#[_,_,rfl]
  .rw[e];exact#[_,_,rfl]
theorem Va(c:Nat)(L:List Nat):∀(l:List Nat)(s i:Nat),s<=i->i<=L.length->l=L.drop i->((s::(VH c i l).map (· + 1)).zip<|VH c i l++[L.length]).map (λq=>(L.drop q.1).take<|q.2-q.1)=Zcg ((L.drop s).take<|i-s) (Y8 c l)
 |[],s,i,h1,h2,h3=>by
  have:i=L.length:=by
   have:(L.drop i).length=0:=by rw[<-h3];rfl
   rw[bo]at this;omega
  subst this;show[(L.drop s).take<|L.length-s]=[(L.drop s).take (L.length-s)++[]];rw[bS]
 |a::l,s,i,h1,h2,h3=>by
  have hlt:i<L.length:=by
   have:(L.drop i).length=l.length+1:=by rw[<-h3];rfl
   rw[bo]at this;omega
  have hd:=bE hlt;rw[<-h3]at hd;obtain⟨ha,hl'⟩:=pz hd;obtain⟨p,ps,e⟩:=yu c l;unfold VH Y8;by_cases h:a=c
  .rw[T9 h,T9 h]
   have:=Va c L l (i+1) (i+1) (aH _) hlt hl';rw[Nat.sub_self,List.take_zero,e]at this;show(L.drop s).take (i-s)::(((i+1)::(VH c (i+1) l).map (· + 1)).zip<|VH c (i+1) l++[L.length]).map _=((L.drop s).take (i-s)++[])::Y8 c l
   rw[this,bS,e];rfl
  .rw[T8 h,T8 h]
   have:=Va c L l s (i+1) (by omega) hlt hl'
   rw[this,e];show((L.drop s).take (i+1-s)++p)::ps=((L.drop s).take (i-s)++a::p)::ps;have q:(L.drop s).take (i+1-s)=(L.drop s).take (i-s)++[a]:=by
    rw[show i+1-s=(i-s)+1 by omega,kn,gl,show s+(i-s)=i by omega,af hlt,<-ha];rfl
   rw[q,bq];rfl
noncomputable def Us(c:Nat):List (List Nat)->List Nat
 |[]=>[]
 |[t]=>t
 |t::u::r=>t++c::Us c (u::r)
theorem we(c:Nat)(l:List Nat):∀t:List Nat,(∀a∈t,a≠c)->Y8 c (t++c::l)=t::Y8 c l
 |[],_=>by
  show Y8 c (c::l)=_;rw[Y8,T9 rfl]
 |a::t,h=>by
  show Y8 c (a::(t++c::l))=_;rw[Y8,T8<|h a<|am ..,we c l t λb hb=>h b<|ai _ hb]
theorem xx(c:Nat):∀t:List Nat,(∀a∈t,a≠c)->Y8 c t=[t]
 |[],_=>rfl
 |a::t,h=>by
  unfold Y8;rw[T8<|h a<|am ..,xx c t λb hb=>h b<|ai _ hb]
theorem Gr(c:Nat):∀ts:List (List Nat),ts≠[]->(∀t∈ts,∀a∈t,a≠c)->Y8 c (Us c ts)=ts
 |[],h,_=>T7 rfl h
 |[t],_,h=>xx c t<|h t (by simp)
 |t::u::r,_,h=>by
  show Y8 c (t++c::Us c (u::r))=_;rw[we c _ t (h t (by simp)),Gr c (u::r) (by simp) λx hx=>h x<|ai _ hx]
noncomputable def txt(l:List Nat):bx:=⟨l.toArray⟩
def ZaB{a b:List Nat}(h:txt a=txt b):a=b:=by
 have:=congrArg (λs:bx=>s.cps.toList) h
 simpa[txt]using this
def Zei(x:bx):x=txt x.cps.toList:=l6 (by simp[txt])
def VU(l:List Nat):(txt l).length=l.length:=by simp[txt,oP]
def jw(c:Nat)(ts:List (List Nat)):ee ⟨#[c]⟩ (ts.map txt)=txt (Us c ts):=by
 show glued _ _=_;rw[glued_eq_join]
 induction ts with
 |nil=>rfl
 |cons t r ih=>
  cases r with
  |nil=>rfl
  |cons u r=>
   show txt t++⟨#[c]⟩++bx.join ⟨#[c]⟩ ((u::r).map txt)=_;rw[ih];refine l6 ?_;rw[fJ,fJ];show t.toArray++#[c]++(Us c (u::r)).toArray=(t++c::Us c (u::r)).toArray;simp
def wF(ts:List (List Nat)):ee ⟨#[]⟩ (ts.map txt)=txt ts.flatten:=by
 show glued _ _=_;rw[glued_eq_join]
 induction ts with
 |nil=>rfl
 |cons t r ih=>
  cases r with
  |nil=>show txt t=txt ([t].flatten);simp
  |cons u r=>
   show txt t++⟨#[]⟩++bx.join ⟨#[]⟩ ((u::r).map txt)=_;rw[ih];refine l6 ?_;rw[fJ,fJ];show t.toArray++#[]++((u::r).flatten).toArray=((t::u::r).flatten).toArray;simp
def qg(x:bx):1<=strKind x:=by unfold strKind;split;omega;split<;>omega
def wP(c:Nat)(hc:c<256){l:List Nat}(hl:l≠[]):ga (txt l) ⟨#[c]⟩=(Y8 c l).map txt:=by
 have e0:(ae ((txt l).length<(⟨#[c]⟩:bx).length)||decide (strKind (txt l)<strKind ⟨#[c]⟩))=ak:=by
  have h1:(⟨#[c]⟩:bx).length=1:=rfl;have h2:strKind ⟨#[c]⟩=1:=by unfold strKind;rw[T9 (by simp[hc])]
  have h3:=qg<|txt l;have h4:=List.length_pos_iff.mpr hl;rw[h1,h2,VU,T4 (by omega),T4 (by omega)];rfl
 have e1:(txt l).cps.toList=l:=by simp[txt]
 have e2:=Va c l l 0 0 (aH _) (cJ _) rfl;obtain⟨p,ps,e3⟩:=yu c l;have e4:partsBetween (txt l) (VH c 0 l) 1=(Y8 c l).map txt:=by
  unfold partsBetween;rw[VU];have:(λ(q:Nat×Nat)=>strSub (txt l) q.1 q.2)=λq=>txt ((l.drop q.1).take<|q.2-q.1):=funext λq=>by
   rw[Zei<|strSub (txt l) q.1 q.2,strSub_toList,e1]
  show iW (λ(q:Nat×Nat)=>strSub (txt l) q.1 q.2) _=_
  rw[this];have:=congrArg (iW txt) e2;rw[bn]at this;refine Eq.trans this ?_;rw[e3];rfl
 unfold ga;rw[T8 (by rw[e0];exact aG),ZbG,e1]
 split
 .rename_i h
  have hp:VH c 0 l=[]:=by simpa using h
  rw[hp]at e2;have:[(l.drop 0).take<|l.length-0]=Zcg [] (Y8 c l):=e2;rw[e3]at this ⊢;have this:[(l.drop 0).take<|l.length-0]=p::ps:=this;rw[Nat.sub_zero,gE,fN]at this;rw[<-this];rfl
 .exact e4
def qh(l:List Nat):Pv.V3 (txt l)=l.map λc=>.str ⟨#[c]⟩:=by simp[Pv.V3,txt]
end Rw
namespace K91
open Ev Pv Rw La
open Ab (okV Wo)
open PySem (Str)
def jU(d:Nat)(a:Int)(s:DS):CV (d+1) 25 [.int a,.int a] s=.ok (.bl aj) s:=by
 refine Zm rfl (by decide) rfl ?_
 simp[YT,pvE,Z9,YD,Yl,eqV,Zw]
def G4(d:Nat){B:Type}{f:B->V}{l:List B}(s:DS)(hl:l.length<=1000)(h:∀x∈l,CV d 25 [f x,f x] s=.ok (.bl aj) s):CV (d+1) 25 [.tup<|l.map f,.tup<|l.map f] s=.ok (.bl aj) s:=by
 refine Zm rfl (by decide) rfl ?_
 dsimp only[YT]
 refine Zn ?_;have hz:((l.map f).zip<|l.map f).map (λq=>V.tup [q.1,q.2])=l.map λx=>V.tup [f x,f x]:=by
  clear h hl
  induction l with|nil=>rfl|cons x l ih=>rw[aW,b0,aW,ih];rfl
 have hc:=Zx (cap:=[]) (nl:=2) (t:=[0,1]) (it:=.zip (.v 0)<|.v 1) (elt:=.call 25 [(.v 0),(.v 1)]) (O:=[aa<|.tup<|l.map f,aa<|.tup<|l.map f])
  (by
   rw[pvw,Zg rfl,Za,Zg rfl,Za];show PR.ok (((l.map f).zip<|l.map f).map λq=>V.tup [q.1,q.2]) s=_
   rw[hz]) (by unfold lim;omega) (λx hx=>#[_,rfl,Zs (Zc (Zg rfl)<|Zc (Zg rfl) Ze)<|h x hx])
 have ht:=Yf (g:=λ_:B=>aj) l
 have ha:(l.map λ_=>aj).all id=aj:=by induction l<;>simp
 simp[pvE,Z9,YD,Yl,eqV,Zw,hc,ht,ha]
def GB(d:Nat)(x:bx)(s:DS):CV (d+1) 25 [.str x,.str x] s=.ok (.bl aj) s:=by
 refine Zm rfl (by decide) rfl ?_
 simp[YT,pvE,Z9,YD,Yl,eqV,Zw]
def Qj(d:Nat){R:List Row}(s:DS)(hl:R.length<=1000)(hr:∀r∈R,r.length<=1000):CV (d+3) 25 [.tup<|R.map Zb,.tup<|R.map Zb] s=.ok (.bl aj) s:=
 G4 (d+2) (f:=Zb) s hl λr h=>G4 (d+1) (f:=V.int) s (hr r h) λa _=>jU d a s
noncomputable def sg(a:Int):bx:=⟨#[a.toNat+48]⟩
noncomputable def Ye(r:Row):List Nat:=r.map λa=>a.toNat+48
noncomputable def ZY(R:List Row):List Nat:=Us 47<|R.map Ye
noncomputable def Gu:bx:=az "01234"
def xY:az "/" = ⟨#[47]⟩:=by decide +kernel
def ui:az "" = ⟨#[]⟩:=by decide +kernel
def Zaa:az "none" = txt [110,111,110,101]:=by decide +kernel
def vT:∀a:Fin 5,zQ .ix (.str Gu) (.int (a.val:Int))=aa (.str<|sg a.val):=by
 intro a;have:∀a:Fin 5,at' Gu.cps.toList (a.val:Int)=aa (a.val+48):=by decide +kernel
 show(if Gu.length<=1000 then(at' Gu.cps.toList (a.val:Int)).map λc=>V.str ⟨#[c]⟩else ag)=_
 rw[T9 (by decide +kernel),this a];rfl
def yq:∀a:Fin 5,zQ .find (.str Gu) (.str<|sg a.val)=aa (.int (a.val:Int)):=by
 intro a;have:∀a:Fin 5,lO Gu (sg a.val)=(a.val:Int):=by decide +kernel
 show(if Gu.length<=1000 then aa (V.int<|lO Gu<|sg a.val)else ag)=_
 rw[T9 (by decide +kernel),this a]
def vc:∀a:Fin 5,blt1 .strI (.int (a.val:Int))=aa (.str<|sg a.val):=by
 intro a;have:∀a:Fin 5,az (mW (a.val:Int))=sg a.val:=by decide +kernel
 show(if 0<=(a.val:Int)/\(a.val:Int)<10 then aa (V.str<|mW (a.val:Int))else ag)=_
 rw[T9 (by omega),this a]
def five{p:Nat}[Base p]{a:Int}(h:0<=a/\a<(p:Int)):∃b:Fin 5,a=(b.val:Int):=by
 have:=WB (p:=p);exact#[#[a.toNat,by omega],by show a=(a.toNat:Int);omega]
theorem Gm:∀ts:List bx,U4 (ts.map .str)=aa ts
 |[]=>rfl
 |x::ts=>by
  show(U4<|ts.map .str).map (x :: ·)=_
  rw[Gm ts];rfl
section
variable{C:Zz}{b:E}{O:Env}{s:DS}
def Wf{x:bx}:pv C (.c<|.str x) O s=.ok (.str x) s:=by rw[pv];rfl
def WS{z:bx}{ts:List bx}(h:pv C b O s=.ok (.lst<|ts.map .str) s)(hs:(Z3 ts&&Z3 [z])=aj):pv C (.sop .join (.c<|.str z) b) O s=.ok (.str<|ee z ts) s:=by
 rw[pv,Wf,Za,h,Za];show po ((U4<|ts.map .str).bind λts=>if(Z3 ts&&Z3 [z])=aj then aa (V.str<|ee z ts)else ag) s=_
 rw[Gm];show po (if(Z3 ts&&Z3 [z])=aj then aa (V.str<|ee z ts)else ag) s=_
 rw[T9 hs];rfl
end
section
variable{p n:Nat}[Base p]
def zx{ts:List bx}{z:bx}(h1:ts.length<=1000)(h2:∀t∈ts,t.length<=1000)(hz:z.length<=1000):(Z3 ts&&Z3 [z])=aj:=by
 unfold Z3;simp only[aF,T0,aY];exact#[#[h1,h2],by show 1<=1000;omega,λx hx=>by rw[bg.mp hx];exact hz]
def ww(r:Row):(r.map λa=>[a.toNat+48]).flatten=Ye r:=by
 unfold Ye
 induction r with|nil=>rfl|cons a r ih=>rw[aW,cE,ih];rfl
def GS{r:Row}:ee ⟨#[]⟩ (r.map sg)=txt (Ye r):=by
 rw[<-ww,<-wF,bn];rfl
def GV{r:Row}(hn:n<=6)(hr:Zd p n r):(Z3 (r.map sg)&&Z3 [az ""])=aj:=zx (by rw[aw,hr.1];omega) (λt ht=>by
 obtain⟨a,_,rfl⟩:=aO.mp ht;show 1<=1000;omega) (by rw[ui];show 0<=1000;omega)
def vR(d:Nat){r:Row}(s:DS)(hn:n<=6)(hr:Zd p n r):CV (d+1) 12 [Zb r] s=.ok (.str<|txt<|Ye r) s:=by
 refine Zm rfl (by decide) rfl ?_
 show rvs (CV d) [] Wk.body [aa<|Zb r] [] s=_
 dsimp only[Wk]
 have hc:=Zx (C:=CV d) (cap:=[]) (nl:=1) (t:=[0]) (it:=.of<|.v 0) (elt:=.sop .ix (.c<|.str<|az "01234")<|.v 0) (O:=[aa<|Zb r]) (s:=s) (l:=r) (e:=V.int) (g:=λa=>.str<|sg a)
  (by rw[pvw,Zg rfl];rfl) (by rw[hr.1];unfold lim;omega) (λa ha=>#[[aa<|.int a],rfl,by
   obtain⟨b,rfl⟩:=five (p:=p)<|hr.2 a ha;rw[pv,Wf,Za,Zg rfl,Za];exact congrArg (λo=>po o s)<|vT b])
 refine Zn<|ZM ?_;have hc:pv (CV d) (.comp1 [] 1 [0] (.of<|.v 0) []<|.sop .ix (.c<|.str<|az "01234")<|.v 0) [aa<|Zb r] s=.ok (.lst<|(r.map sg).map .str) s:=by rw[hc,bn];rfl
 rw[WS hc<|GV hn hr,ui,GS]
def UD{R:List Row}(hn:n<=6)(hR:∀r∈R,Zd p n r)(hl:R.length<=1000):(Z3 (R.map λr=>txt<|Ye r)&&Z3 [az "/"])=aj:=zx (by rw[aw];exact hl) (λt ht=>by
 obtain⟨r,hr,rfl⟩:=aO.mp ht;rw[VU];unfold Ye;rw[aw,(hR r hr).1];omega) (by rw[xY];show 1<=1000;omega)
def Qw{R:List Row}:ee ⟨#[47]⟩ (R.map λr=>txt<|Ye r)=txt (ZY R):=by
 unfold ZY;rw[<-jw,bn];rfl
def UY(d:Nat){R:List Row}(s:DS)(hn:n<=6)(hR:∀r∈R,Zd p n r)(hl:R.length<=1000):CV (d+2) 13 [.tup<|R.map Zb] s=.ok (.str<|txt<|ZY R) s:=by
 refine Zm rfl (by decide) rfl ?_
 show rvs (CV<|d+1) [] XU.body [aa<|.tup<|R.map Zb] [] s=_
 dsimp only[XU]
 have hc:=Zx (C:=CV<|d+1) (cap:=[]) (nl:=1) (t:=[0]) (it:=.of<|.v 0) (elt:=.call 12 [(.v 0)]) (O:=[aa<|.tup<|R.map Zb]) (s:=s) (l:=R) (e:=Zb) (g:=λr=>.str<|txt<|Ye r)
  (by rw[pvw,Zg rfl];rfl) (by unfold lim;omega) (λr hr=>#[[aa<|Zb r],rfl,Zs (Zc (Zg rfl) Ze)<|vR d s hn<|hR r hr])
 refine Zn<|ZM ?_;have hc:pv (CV<|d+1) (.comp1 [] 1 [0] (.of<|.v 0) []<|.call 12 [(.v 0)]) [aa<|.tup<|R.map Zb] s=.ok (.lst<|(R.map λr=>txt<|Ye r).map .str) s:=by rw[hc,bn];rfl
 rw[WS hc<|UD hn hR hl,xY,Qw]
noncomputable def YH(P:List Row):bx:=if P=[]then az "none" else txt (ZY P)
def QH(d:Nat){P:List Row}(s:DS)(hn:n<=6)(hR:∀r∈P,Zd p n r)(hl:P.length<=1000):CV (d+3) 14 [Zf P] s=.ok (.str<|YH P) s:=by
 refine Zm rfl (by decide) rfl ?_
 show rvs (CV<|d+2) [] Xv.body [aa<|Zf P] [] s=_
 dsimp only[Xv]
 refine Zn<|ZM ?_;rw[pv,Zg rfl,Za];show(po (aa<|!(P.map Zb).isEmpty) s).bind _=_;rw[ZN,Za];unfold YH;cases P with
 |nil=>
  show pv (CV<|d+2) (.c<|.str<|az "none") [aa<|Zf []] s=PR.ok (.str<|az "none") s;exact Wf
 |cons r P=>
  show pv (CV<|d+2) (.call 13 [(.v 0)]) [aa<|Zf (r::P)] s=_;rw[T8 (by simp)]
  exact Zs (Zc (Zg rfl) Ze)<|UY d s hn hR hl
def Qz(d:Nat){R:List Row}(s:DS)(hn:n<=6)(hR:∀r∈R,Zd p n r)(hl:R.length<=1000):CV (d+3) 24 [.tup<|R.map Zb] s=.ok (.str<|txt<|ZY R) s:=by
 refine Zm rfl (by decide) rfl ?_
 show rvs (CV<|d+2) [] XT.body [aa<|.tup<|R.map Zb] [] s=_
 dsimp only[XT]
 exact Zn<|ZM<|Zs (Zc (Zg rfl) Ze)<|UY d s hn hR hl
def Wg(d:Nat){R:List Row}(s:DS)(hn:n<=6)(hR:∀r∈R,Zd p n r)(hl:R.length<=1000):CV (d+1) 26 [.tup<|R.map Zb] s=.ok (.str<|txt<|ZY R) s:=by
 refine Zm rfl (by decide) rfl ?_
 show rvs (CV d) [] Yo.body [aa<|.tup<|R.map Zb] [] s=_
 dsimp only[Yo]
 have hc:=Zx (C:=CV d) (cap:=[]) (nl:=1) (t:=[0]) (it:=.of<|.v 0) (elt:=.sop .join (.c<|.str<|az "")<|.comp1 [] 1 [0] (.of<|.v 0) []<|.blt .strI [(.v 0)]) (O:=[aa<|.tup<|R.map Zb]) (s:=s) (l:=R) (e:=Zb) (g:=λr=>.str<|txt<|Ye r)
  (by rw[pvw,Zg rfl];rfl) (by unfold lim;omega) (λr hr=>#[[aa<|Zb r],rfl,by
   have hr':=hR r hr;have h2:=Zx (C:=CV d) (cap:=[]) (nl:=1) (t:=[0]) (it:=.of<|.v 0) (elt:=.blt .strI [(.v 0)]) (O:=[aa<|Zb r]) (s:=s) (l:=r) (e:=V.int) (g:=λa=>.str<|sg a)
    (by rw[pvw,Zg rfl];rfl) (by rw[hr'.1];unfold lim;omega) (λa ha=>#[[aa<|.int a],rfl,by
     obtain⟨b,rfl⟩:=five (p:=p)<|hr'.2 a ha;rw[pv,Zc (Zg rfl) Ze,Za];exact congrArg (λo=>po o s)<|vc b])
   have h2:pv (CV d) (.comp1 [] 1 [0] (.of<|.v 0) []<|.blt .strI [(.v 0)]) [aa<|Zb r] s=.ok (.lst<|(r.map sg).map .str) s:=by rw[h2,bn];rfl
   rw[WS h2<|GV hn hr',ui,GS]])
 refine Zn<|ZM ?_;have hc:pv (CV d) (.comp1 [] 1 [0] (.of<|.v 0) []<|.sop .join (.c<|.str<|az "")<|.comp1 [] 1 [0] (.of<|.v 0) []<|.blt .strI [(.v 0)]) [aa<|.tup<|R.map Zb] s=.ok (.lst<|(R.map λr=>txt<|Ye r).map .str) s:=by rw[hc,bn];rfl
 rw[WS hc<|UD hn hR hl,xY,Qw]
def US(d:Nat){P:List Row}(s:DS)(hn:n<=6)(hR:∀r∈P,Zd p n r)(hl:P.length<=1000):CV (d+2) 27 [Zf P] s=.ok (.str<|YH P) s:=by
 refine Zm rfl (by decide) rfl ?_
 show rvs (CV<|d+1) [] Yr.body [aa<|Zf P] [] s=_
 dsimp only[Yr]
 have t0:pv (CV<|d+1) (.tup []) [aa<|Zf P] s=.ok (Zf []) s:=by rw[pv,Ze];rfl
 have e:=xW (C:=CV<|d+1) (a:=.v 0) (O:=[aa<|Zf P]) (s:=s) (P:=P) (Zg rfl) t0;unfold YH;by_cases c:P=[]
 .subst c
  refine Zn ?_;rw[Vs<|XV e rfl,T5 rfl,T9 rfl,T9 rfl];exact Zn<|ZM Wf
 .rw[T4 c]at e
  rw[guard e,T8 c];exact Zn<|ZM<|Zs (Zc (Zg rfl) Ze)<|Wg d s hn hR hl
def WE{r:Row}(hr:Zd p n r):∀c∈Ye r,48<=c/\c<=52:=λc hc=>by
 obtain⟨a,ha,rfl⟩:=aO.mp hc;have:=hr.2 a ha;have hp:=WB (p:=p);omega
theorem Ql:∀{R:List Row},(∀r∈R,Zd p n r)->∀c∈ZY R,c<=52
 |[],_,c,hc=>by cases hc
 |[r],h,c,hc=>(WE (h r<|by simp) c hc).2
 |r::q::R,h,c,hc=>by
  have hc:c∈Ye r++47::ZY (q::R):=hc;rcases cW.mp hc with z|z
  .exact(WE (h r<|by simp) c z).2
  .rcases aB.mp z with rfl|z
   .omega
   .exact Ql (λx hx=>h x<|ai _ hx) c z
def uN{R:List Row}(h1:1<=n)(hR:∀r∈R,Zd p n r)(hne:R≠[]):ZY R≠[]:=by
 cases R with
 |nil=>exact T7 rfl hne
 |cons r R=>
  have hl:=(hR r<|am ..).1;have hx:Ye r≠[]:=λz=>by
   have:=congrArg fH z;unfold Ye at this;rw[aw,hl]at this;have:n=0:=this;omega
  cases R with
  |nil=>exact hx
  |cons q R=>
   show Ye r++47::_≠[];simp
def jg{R:List Row}(hR:∀r∈R,Zd p n r):txt (ZY R)≠az "none":=λz=>by
 rw[Zaa]at z;have:=ZaB z;have h:=Ql hR 110 (by rw[this];simp)
 omega
def yH{R:List Row}(h1:1<=n)(hR:∀r∈R,Zd p n r)(hne:R≠[]):ga (txt<|ZY R) ⟨#[47]⟩=R.map λr=>txt (Ye r):=by
 rw[wP 47 (by omega)<|uN h1 hR hne]
 unfold ZY;rw[Gr 47 _ (λz=>hne<|List.map_eq_nil_iff.mp z) λt ht a ha=>by
  obtain⟨r,hr,rfl⟩:=aO.mp ht;have:=WE (hR r hr) a ha;omega,bn];rfl
def U5(d:Nat){R:List Row}(s:DS)(h1:1<=n)(hn:n<=6)(hR:∀r∈R,Zd p n r)(hne:R≠[])(hl:R.length<=1000)(hx:(ZY R).length<=1000000):CV (d+1) 15 [.str<|txt<|ZY R] s=.ok (.tup<|R.map Zb) s:=by
 refine Zm rfl (by decide) rfl ?_
 show rvs (CV d) [] XG.body [aa<|.str<|txt<|ZY R] [] s=_
 dsimp only[XG]
 have e1:pv (CV d) (.isi (.v 0) [.str]) [aa<|.str<|txt<|ZY R] s=.ok (.bl aj) s:=by rw[pv,Zg rfl];rfl
 rw[guard<|XC (c:=aj) e1];have e2:pv (CV d) (.sop .split (.v 0)<|.c<|.str<|az "/") [aa<|.str<|txt<|ZY R] s=.ok (.lst<|(R.map λr=>txt<|Ye r).map .str) s:=by
  rw[pv,Zg rfl,Za,Wf,Za,xY];show po (if(⟨#[47]⟩:bx).length=1/\(txt<|ZY R).length<=1000000 then aa (V.lst<|(ga (txt<|ZY R) ⟨#[47]⟩).map .str)else ag) s=_
  rw[T9 #[rfl,by rw[VU];exact hx],yH h1 hR hne];rfl
 have hc:=Zx (C:=CV d) (cap:=[]) (nl:=1) (t:=[0]) (it:=.of<|.sop .split (.v 0)<|.c<|.str<|az "/") (elt:=.blt .tuple [(.comp1 [] 1 [0] (.sgn<|.v 0) []<|.sop .find (.c<|.str<|az "01234")<|.v 0)]) (O:=[aa<|.str<|txt<|ZY R]) (s:=s) (l:=R) (e:=λr=>.str<|txt<|Ye r) (g:=Zb)
  (by
   rw[pvw,e2,Za];show PR.ok ((R.map λr=>txt<|Ye r).map V.str) s=_
   rw[bn];rfl) (by unfold lim;omega) (λr hr=>#[[aa<|.str<|txt<|Ye r],rfl,by
   have hr':=hR r hr;have h2:=Zx (C:=CV d) (cap:=[]) (nl:=1) (t:=[0]) (it:=.sgn<|.v 0) (elt:=.sop .find (.c<|.str<|az "01234")<|.v 0) (O:=[aa<|.str<|txt<|Ye r]) (s:=s) (l:=r) (e:=λa=>.str<|sg a) (g:=V.int)
    (by
     rw[pvw,Zg rfl,Za];show po (if(txt<|Ye r).cps.all (· < 128)=aj then aa (V3<|txt<|Ye r)else ag) s=_
     rw[T9 (by
      rw[<-Array.all_toList];show(Ye r).toArray.toList.all _=aj;rw[aY];intro c hc;have:=(WE hr' c<|by simpa using hc).2
      simp;omega),qh]
     unfold Ye;rw[bn];rfl) (by rw[hr'.1];unfold lim;omega) (λa ha=>#[[aa<|.str<|sg a],rfl,by
     obtain⟨b,rfl⟩:=five (p:=p)<|hr'.2 a ha;rw[pv,Wf,Za,Zg rfl,Za];exact congrArg (λo=>po o s)<|yq b])
   rw[pv,Zc h2 Ze];rfl])
 refine Zn<|ZM ?_;rw[pv,Zc hc Ze];rfl
theorem Vc:∀{R:List Row},(∀r∈R,Zd p n r)->(ZY R).length<=R.length*(n+1)
 |[],_=>cJ _
 |[r],h=>by
  show(Ye r).length<=_;unfold Ye;rw[aw,(h r<|by simp).1,dB];omega
 |r::q::R,h=>by
  have:=Vc (R:=q::R) λx hx=>h x<|ai _ hx
  show(Ye r++47::ZY (q::R)).length<=_;rw[bc,aP];unfold Ye;rw[aw,(h r<|by simp).1,aP,Nat.succ_mul];omega
def Qv(d:Nat){P:List Row}(s:DS)(h1:1<=n)(hn:n<=6)(hP:pZ p n P):CV (d+4) 23 [spV p n,.str<|YH P] s=.ok (Zf P) s:=by
 have lP:=dsum hP;refine Zm rfl (by decide) rfl ?_
 show rvs (CV<|d+3) [] Xy.body [aa<|spV p n,aa<|.str<|YH P,ag] [] s=_
 dsimp only[Xy]
 have e1:pv (CV<|d+3) (.cmp .eq (.v 1)<|.c<|.str<|az "none") [aa<|spV p n,aa<|.str<|YH P,ag] s=.ok (.bl<|ae<|YH P=az "none") s:=by
  rw[pv,Zg rfl,Za,Wf,Za];rfl
 have e2:pv (CV<|d+3) (.ite (.cmp .eq (.v 1)<|.c<|.str<|az "none") (.tup [])<|.call 15 [(.v 1)]) [aa<|spV p n,aa<|.str<|YH P,ag] s=.ok (Zf P) s:=by
  rw[pv,e1,Za];show(po (aa<|ae<|YH P=az "none") s).bind _=_;rw[ZN,Za];by_cases c:P=[]
  .subst c
   rw[show ae (YH []=az "none")=aj from T5 rfl,T9 rfl,pv,Ze];rfl
  .have hx:YH P=txt (ZY P):=by unfold YH;rw[T8 c]
   rw[hx,T4<|jg hP.row,T8 (by simp)]
   refine Zs (Zc (Zg rfl) Ze)<|U5 (d+2) s h1 hn hP.row c (by omega) ?_
   have:=Vc hP.row;have:P.length*(n+1)<=6*7:=fI (by omega) (by omega)
   omega
 rw[Zj<|Yp e2 rfl];show rvs _ _ _ [aa<|spV p n,aa<|.str<|YH P,aa<|Zf P] [] s=_;rw[guard<|XC (c:=aj)<|Xd (Zg rfl) (Zg rfl)<|ZbT d s hn hP];exact Zn<|ZM<|Zg rfl
def vo(d:Nat){R:List Row}(s:DS)(h1:1<=n)(hn:n<=6)(hl:R.length=n)(hR:∀r∈R,Zd p n r)(hw:(Yb p [] R).length=n):CV (d+7) 36 [spV p n,.str<|txt<|ZY R] s=.ok (.tup<|R.map Zb) s:=by
 refine Zm rfl (by decide) rfl ?_
 show rvs (CV<|d+6) [] XR.body [aa<|spV p n,aa<|.str<|txt<|ZY R,ag] [] s=_
 dsimp only[XR]
 have hx:=Vc hR;have:R.length*(n+1)<=6*7:=fI (by omega) (by omega)
 rw[Zj<|Yp (Zs (Zc (Zg rfl) Ze)<|U5 (d+5) s h1 hn hR (λz=>by rw[z]at hl;simp at hl;omega) (by omega)<|by omega) rfl]
 show rvs _ _ _ [aa<|spV p n,aa<|.str<|txt<|ZY R,aa<|.tup<|R.map Zb] [] s=_;have e:=qC d (p:=p) (n:=n) (x:=.tup<|R.map Zb) s hn<|JQ R;rw[QB hl hR,T5 hw]at e;rw[guard<|XC (c:=aj)<|Xd (Zg rfl) (Zg rfl) e];exact Zn<|ZM<|Zg rfl
end
noncomputable def xI:List Sm:=[.ite (.not<|.call 25 [(.call 14 [(.v 4)]),(.call 27 [(.v 4)])]) [.ret<|.c<|.bl ak] [],
  .ite (.not<|.call 25 [(.call 24 [(.v 5)]),(.call 26 [(.v 5)])]) [.ret<|.c<|.bl ak] [],
  .ite (.not<|.call 25 [(.call 23 [(.v 3),(.call 27 [(.v 4)])]),(.v 4)]) [.ret<|.c<|.bl ak] [],
  .ite (.not<|.call 25 [(.call 36 [(.v 3),(.call 26 [(.v 5)])]),(.v 5)]) [.ret<|.c<|.bl ak] []]
noncomputable def zn:List Sm:=[.asg [3]<|.call 3 [(.v 2),(.c<|.int 125)],
  .par [4,5] [(.call 9 [(.v 2),(.v 3)]),(.call 11 [(.v 2),(.v 3)])],
  .forr [6] (.rng1<|.c<|.int 2) xI]
def vz(d:Nat){p n:Nat}[Base p]{o:Option V}{k:Nat}{P R:List Row}{a6:Option V}(s:DS)(h1:1<=n)(hn:n<=6)(hP:pZ p n P)(hl:R.length=n)(hR:∀r∈R,Zd p n r)(hw:(Yb p [] R).length=n) :
  rvs (CV<|d+7) [] xI [o,aa<|.int k,aa .drw,aa<|spV p n,aa<|Zf P,aa<|.tup<|R.map Zb,a6] [] s=.ok (.nx [o,aa<|.int k,aa .drw,aa<|spV p n,aa<|Zf P,aa<|.tup<|R.map Zb,a6] []) s:=by
 have lP:=dsum hP;have c1:∀{f:Nat}{v w:V}{i:Nat},([o,aa<|.int k,aa .drw,aa<|spV p n,aa<|Zf P,aa<|.tup<|R.map Zb,a6]:Env)[i]?=aa (aa v)->CV (d+7) f [v] s=.ok w s->pv (CV<|d+7) (.call f [(.v i)]) [o,aa<|.int k,aa .drw,aa<|spV p n,aa<|Zf P,aa<|.tup<|R.map Zb,a6] s=.ok w s:=λh e=>Zs (Zc (Zg h) Ze) e
 have t1:=c1 (i:=4) rfl<|QH (d+4) s hn hP.row (by omega)
 have t2:=c1 (i:=4) rfl<|US (d+5) s hn hP.row (by omega)
 have t3:=c1 (i:=5) rfl<|Qz (d+4) s hn hR (by omega)
 have t4:=c1 (i:=5) rfl<|Wg (d+6) s hn hR (by omega)
 have u1:=Xd (C:=CV<|d+7) (x:=.v 3) (y:=.call 27 [(.v 4)]) (Zg rfl) t2<|Qv (d+3) s h1 hn hP;have u2:=Xd (C:=CV<|d+7) (x:=.v 3) (y:=.call 26 [(.v 5)]) (Zg rfl) t4<|vo d s h1 hn hl hR hw;unfold xI;rw[guard<|XC (c:=aj)<|Xd t1 t2<|GB (d+6) _ s];rw[guard<|XC (c:=aj)<|Xd t3 t4<|GB (d+6) _ s];rw[guard<|XC (c:=aj)<|Xd u1 (Zg rfl)<|Qj (d+4) s (R:=P) (by omega) λr hr=>by rw[(hP.row r hr).1];omega]
 rw[guard (XC (c:=aj)<|Xd u2 (Zg rfl)<|Qj (d+4) s (R:=R) (by omega) λr hr=>by rw[(hR r hr).1];omega),rvs]
def qi(d:Nat)(o:Option V)(k:Nat)(s:DS):∃O os s',rvs (CV<|d+7) (muts zn) zn (o::aa (.int k)::aa .drw::aA 4 ag) [] s=.ok (.nx O os) s'/\O[0]?=aa o/\O.length=4+3:=by
 show ∃O os s',rvs (CV<|d+7) [] zn [o,aa<|.int k,aa .drw,ag,ag,ag,ag] [] s=.ok (.nx O os) s'/\O[0]?=aa o/\O.length=7;obtain⟨⟨p,n⟩,s1,e1,hq⟩:=vd (d+5) (m:=125) s;obtain⟨hb,h1,hn,hp⟩:=ZaD _ hq
 haveI:Base p:=⟨hb⟩
 have hn:n<=6:=hn;have h1:1<=n:=h1;have hp:p^n<=1000:=hp;obtain⟨P,s2,e2,hP⟩:=jq (d+4) (p:=p) (n:=n) s1 hn h1 hp;obtain⟨R,s3,e3,r1,r2,r3⟩:=vP (d+4) (p:=p) (n:=n) s2 hn h1 hp;unfold zn;rw[Zj<|Yp (Zs (Zc (Zg rfl)<|Zc Xs Ze) e1) rfl];rw[Zj (ρ':=[o,aa<|.int k,aa .drw,aa<|spV p n,aa<|Zf P,aa<|.tup<|R.map Zb,ag]) (os':=[]) (s':=s3) (by
  rw[rv];show(pvs _ _ [o,aa<|.int k,aa .drw,aa<|spV p n,ag,ag,ag] _).bind _=_;rw[Zc (Zs (Zc (Zg rfl)<|Zc (Zg rfl) Ze) e2)<|Zc (Zs (Zc (Zg rfl)<|Zc (Zg rfl) Ze) e3) Ze,Za];rfl)]
 obtain⟨ρ',hI,e⟩:=Jv (C:=CV<|d+7) (ms:=[]) (os:=[]) (t:=[6]) (it:=.rng1<|.c<|.int 2) (b:=xI) (L:=aL 2) (e:=Zl) (O:=[o,aa<|.int k,aa .drw,aa<|spV p n,aa<|Zf P,aa<|.tup<|R.map Zb,ag]) (s:=s3)
  (λl O=>∃a6,O=[o,aa<|.int k,aa .drw,aa<|spV p n,aa<|Zf P,aa<|.tup<|R.map Zb,a6]) (by rw[Lv.hide_nil];exact YV (n:=2) Xs<|by omega) #[ag,rfl] rfl (λx l O hI=>by
   obtain⟨a6,rfl⟩:=hI;exact#[rfl,_,_,rfl,vz d s3 h1 hn hP r1 r2 r3,_,rfl])
 obtain⟨a6,rfl⟩:=hI;rw[Zj e];exact#[_,_,s3,by rw[rvs],rfl,rfl]
def jG(d:Nat)(O:Env)(s:DS):pv (CV<|d+7) (.and (.cmp .eq (.call 14 [(.tup [])])<|.c<|.str<|az "none")<|.and (.cmp .eq (.call 23 [(.tup [(.c<|.int 3),(.c<|.int 2)]),(.c<|.str<|az "01")])<|.tup [(.tup [(.c<|.int 0),(.c<|.int 1)])])<|.cmp .eq (.call 24 [(.tup [(.tup [(.c<|.int 2)])])])<|.c<|.str<|az "2") O s=.ok (.bl aj) s:=by
 haveI:Base 3:=⟨.inr<|.inl rfl⟩
 have t0:pv (CV<|d+7) (.tup []) O s=.ok (Zf []) s:=by rw[pv,Ze];rfl
 have s3:pv (CV<|d+7) (.tup [(.c<|.int 3),(.c<|.int 2)]) O s=.ok (spV 3 2) s:=by simp[pvE,ofD,spV]
 have r0:∀r∈[[(0:Int),1]],Zd 3 2 r:=λr hr=>by
  rw[bg.mp hr];exact#[rfl,λa ha=>by simp at ha;omega]
 have hP:pZ 3 2 [[0,1]]:=(X9 r0).mp (by decide)
 have e1:=QH (d+4) (p:=3) (n:=2) (P:=[]) s (by omega) (λ_ h=>by cases h) (by simp)
 have e2:=Qv (d+3) (p:=3) (n:=2) s (by omega) (by omega) hP
 have e3:=Qz (d+4) (p:=3) (n:=1) (R:=[[2]]) s (by omega) (λr hr=>by
  rw[bg.mp hr];exact#[rfl,λa ha=>by simp at ha;omega]) (by simp)
 have x1:YH [[0,1]]=az "01":=by decide +kernel
 have x2:txt (ZY [[2]])=az "2":=by decide +kernel
 rw[x1]at e2;rw[x2]at e3;have p1:pv (CV<|d+7) (.tup [(.tup [(.c<|.int 0),(.c<|.int 1)])]) O s=.ok (Zf [[0,1]]) s:=by simp[pvE,ofD,Zf,Zb]
 have p2:pv (CV<|d+7) (.tup [(.tup [(.c<|.int 2)])]) O s=.ok (.tup<|[[2]].map Zb) s:=by simp[pvE,ofD,Zb]
 refine JO (c:=aj) (c':=aj) ?_<|JO (c:=aj) (c':=aj) ?_ ?_
 .rw[pv,Zs (Zc t0 Ze) e1,Za,Wf,Za]
  show PR.ok (V.bl<|ae<|az "none" = az "none") s=_;rw[T5 rfl]
 .have:=xW (Xd s3 Wf e2) p1
  rw[T5 rfl]at this;exact this
 .rw[pv,Zs (Zc p2 Ze) e3,Za,Wf,Za]
  show PR.ok (V.bl<|ae<|az "2" = az "2") s=_;rw[T5 rfl]
def law_ok(ns:List Int)(s:DS):∃S,CV 65 37 [.scr ns] s=.ok (.bl aj) S:=
 Lv.law_ofR (B:=zn) 62 (ca:=0) (st:=1) (nn:=4) (M:=8) (by decide) (by decide) (by decide) rfl rfl rfl (by decide) (λO s=>jG 57 O s) (λo k s=>qi 57 o k s) ns s
end K91
namespace K91
open PySem PySem.Spec PyProof.Rows L2 Sd Gn
open Sd (G8 xV u6 u5 Zcw vV v8 yV xO qU uk xy Qf qp vX uF qd yF xg y3 xA xM QA xm wc QJ qD)
def Zfj(s:fG):bx:=match s with|.FunctionDef x _ _ _ _ _ _ _ _ _=>x|_=>""
def top(i:Nat):fG:=PySem.Challenge.pw_fewspaces_k91_texts_written_and_read.main.body.getD i<|.Pass #[0,0,0,0]
noncomputable abbrev R(i m k:Nat):FR:=#[Zfj<|top i,top i,((ZD<|top i).names.map (·.1)).take m,k]
noncomputable abbrev r0:=R 32 2 2
noncomputable abbrev r1:=R 33 3 2
noncomputable abbrev r2:=R 34 4 2
noncomputable abbrev r3:=R 35 3 2
noncomputable abbrev r4:=R 39 1 1
abbrev r5:FR:=#["_law_form",top 40,["_law_space_here","_law_every","_law_places","_law_found","_law_head_here","_law_row_here"],2]
noncomputable abbrev r6:=R 37 3 2
noncomputable abbrev r7:=R 36 4 4
noncomputable abbrev r8:=R 38 6 2
noncomputable abbrev r9:=R 41 3 2
noncomputable abbrev r10:=R 42 1 1
noncomputable abbrev r11:=R 45 8 2
noncomputable abbrev r12:=R 27 1 1
noncomputable abbrev r13:=R 26 1 1
noncomputable abbrev r14:=R 24 1 1
noncomputable abbrev r15:=R 30 1 1
noncomputable abbrev r16:=R 6 3 1
noncomputable abbrev r17:=R 5 1 1
noncomputable abbrev r18:=R 11 2 2
noncomputable abbrev r19:=R 15 3 3
noncomputable abbrev r20:=R 4 3 3
noncomputable abbrev r21:=R 13 4 2
noncomputable abbrev r22:=R 14 3 2
noncomputable abbrev r23:=R 28 3 2
noncomputable abbrev r24:=R 25 1 1
noncomputable abbrev r25:=R 48 2 2
noncomputable abbrev r26:=R 46 1 1
noncomputable abbrev r27:=R 47 1 1
noncomputable abbrev r28:=R 8 4 4
noncomputable abbrev r29:=R 10 4 4
noncomputable abbrev r30:=R 18 7 3
noncomputable abbrev r31:=R 7 3 3
noncomputable abbrev r32:=R 9 3 2
noncomputable abbrev r33:=R 17 9 3
noncomputable abbrev r34:=R 16 5 3
noncomputable abbrev r35:=R 20 4 2
noncomputable abbrev r36:=R 29 3 2
abbrev r37:FR:=#["law",top 49,["_law_script","_law_k","_law_state_here","_law_space_here","_law_part_here","_law_turn_here","_law_number"],1]
noncomputable abbrev fs:List FR:=[r0,r1,r2,r3,r4,r5,r6,r7,r8,r9,r10,r11,r12,r13,r14,r15,r16,r17,r18,r19,r20,r21,r22,r23,r24,r25,r26,r27,r28,r29,r30,r31,r32,r33,r34,r35,r36,r37]
abbrev zs:List bx:=["all","any","bool","dict","enumerate","int","isinstance","len","list","max","min","range","set","sorted","str","tuple","zip"]
abbrev gs:List (bx×Gv):=[("FIGURES",.str "01234"),("LEAST_PART",.str "none")]
noncomputable abbrev jE{X xw C e}(i:Ev.E):=Sd.CE X xw C e i
noncomputable abbrev jF{X xw C e}(i:Ev.E):=Sd.CF X xw C e i
noncomputable abbrev jT{X xw C e}(i:Ev.E):=Sd.CT X xw C e i
noncomputable abbrev jS{X xw a C b e}(i:Ev.Sm):=Sd.CS X xw a C b e i
def okl:OkL fs zs gs fns tk sn 0 fs fns:=by
 repeat'(first|exact c8|refine#[#[rfl,rfl,by decide +kernel,?_],?_]|intro P w K mg base f fd d T h hn cdv A outer s H E hr hu)
 all_goals
 (repeat'(first
 |(with_reducible show aE _ _=_);(first|exact xV|exact G8|exact yV|exact v8|exact u6|exact u5|exact xO|exact Zcw|exact vV)
 |(with_reducible show Cx.mg _ _=_);(exact Top.no (by assumption) (by kernel_rfl!))
 |(with_reducible show _=_);first|exact Zd9 _|kernel_rfl!
 |(with_reducible show Gl _ _);show _=_;kernel_rfl!
 |show Sd.CSs _ _ _ _ _ _ [.cel _ _ _ _];refine Zeo (by assumption) (by assumption) (by assumption) ?_ ?_ (by assumption) (by kernel_rfl!) rfl rfl (by kernel_rfl!) (by first|exact xV|exact G8|exact yV|exact v8|exact u6|exact u5|exact xO|exact Zcw|exact vV) rfl (by kernel_rfl!) (by first|exact Or.inl (by kernel_rfl!)|exact nR (by kernel_rfl!)|exact nR (Or.inl (by kernel_rfl!))|exact nR (nR (by kernel_rfl!))) (by first|exact .inl rfl|exact .inr<|by kernel_rfl!) (by kernel_rfl!) (by kernel_rfl!) (by kernel_rfl!)
 |show Sd.CSs _ _ _ _ _ _ _;first|apply Zdy|apply Zbl
 |show Sd.CA _ _ _ _ _;first|apply ZcW|apply Zax
 |show jF (.blt .sortedS _);apply yM
 |show jF (.blt .listD _);apply jX (wR rfl)
 |show jF (.blt .sortedD _);apply ZbK (G9 rfl)
 |show jF (.lst _);apply Zej
 |show jF (.comp1 _ _ _ _ _ _);refine uw rfl (by first|assumption|exact T6<|by kernel_rfl!) (v9<|by kernel_rfl!) ?_ (λ_ _ _ _=>#[?_,?_,?_]) (hs:=by intro _;kernel_rfl!)
 |show Sd.CE _ _ _ (.BoolOp _ [_] _) _;apply Zdm
 |show jE (.dix _ ak);apply ZaL
 |show jE (.dix _ aj);apply Zac
 |show jE (.v _);apply ZfR
 |show jE (.c _);first|apply ZdN|exact Zex (by assumption) (by kernel_rfl!) rfl rfl|apply Ze6|apply Zdp|apply Zdb
 |show jE (.call _ _);refine Zen (by assumption) (by assumption) (by assumption) ?_ (by kernel_rfl!) rfl (by kernel_rfl!) (by first|exact xV|exact G8|exact yV|exact v8|exact u6|exact u5|exact xO|exact Zcw|exact vV) rfl
 |show jE (.ix _ _);apply ZeW
 |show jE (.blt .len _);apply Wv xg
 |show jE (.blt .tuple _);apply VN QA
 |show jE (.blt .all _);apply Wv (xm rfl)
 |show jE (.blt .any _);apply Wv (wc rfl)
 |show jE (.blt .toInt _);apply VN xM
 |show jE (.blt .max2 _);apply Wv (y3 rfl)
 |show jE (.blt .min2 _);apply Wv (xA rfl)
 |show jE (.blt .dictP _);apply VN (QJ rfl (by assumption))
 |show jE (.blt .strI _);apply VN Zbs
 |show jE (.blt _ _);apply z7
 |show jE (.sop .join _ _);apply Zbt
 |show jE (.sop .find _ _);apply ZbU
 |show jE (.sop .split _ _);apply jV
 |show jE (.sop .ix _ _);apply ZdD
 |show jE (.bin _ _ _);first|apply Zdr|apply Zeb|apply ZdF|apply Zdk|apply Za1|apply Zea
 |show jE (.tup _);apply Zdo
 |show jE (.neg _);apply Zd6
 |show jE (.not _);apply Zds
 |show jE (.cmp .eq _ _);apply Xj (qU (by assumption))
 |show jE (.cmp .ne _ _);apply Xj (uk (by assumption))
 |show jE (.cmp .lt _ _);apply Xj (xy (by assumption))
 |show jE (.cmp .le _ _);apply Xj (Qf (by assumption))
 |show jE (.cmp .gt _ _);apply Xj (qp (by assumption))
 |show jE (.cmp .ge _ _);apply Xj (vX (by assumption))
 |show jE (.cmp .is _ _);apply Xj (uF (by assumption))
 |show jE (.cmp .inn _ _);apply Xj (qd (by assumption))
 |show jE (.cmp .nin _ _);apply Xj (yF (by assumption))
 |show jE (.chain _ _ _ _ _);first|apply J6 (Qf<|by assumption) (Qf (by assumption))|apply J6 (Qf<|by assumption) (xy (by assumption))
 |show jE (.ite _ _ _);apply Zc4
 |show jE (.sl _ _ _);apply Ze8
 |show jE (.isi _ _);first|apply Vf (T:="int") (t:=.int)|apply Vf (T:="bool") (t:=.bool)|apply Vf (T:="str") (t:=.str)|apply Vf (T:="tuple") (t:=.tuple)|apply Vf (T:="list") (t:=.list)|apply Vf (T:="dict") (t:=.dict)|apply ZbL (T:="list") (U:="tuple") (t:=.list) (u:=.tuple)
 |(first|show jE (.callF _ _)|show jE (.lst _)|show jE (.comp1 _ _ _ _ _ _)|show jE (.comp2 _ _ _ _ _ _ _ _ _)|show jE (.blt .list _)|show jE (.blt .sorted _)|show jE (.blt .listD _)|show jE (.blt .sortedD _)|show jE (.blt .sortedS _)|show jE (.blt .sortedT _)|show jE (.blt .sortedU _));refine CF.ce ?_
 |show jE _;apply ZdO
 |show Sd.CO _ _ _ _ _;first|apply Zao|apply ZbD
 |show jS (.ret _);first|apply Zc3|apply ZaG
 |show jS (.dnw _ _);apply ZcT
 |show jS (.dput _ _ _);apply ZaI
 |show jS (.forF _ _ _);apply Za5 lz
 |show jS (.dset _ _);apply ZaH
 |show jS (.par _ _);apply ZdY
 |show jS (.asg _<|.comp1 _ _ _ _ _ _);refine jP rfl (by assumption) (v9<|by kernel_rfl!) ?_ (λ_ _ _ _=>#[?_,?_,?_]) (hsw:=by kernel_rfl!) (hy:=by kernel_rfl!) (hx:=by first|exact Or.inl (by kernel_rfl!)|exact nR (by kernel_rfl!)|exact nR (Or.inl (by kernel_rfl!))|exact nR (nR (by kernel_rfl!))) (hf:=by first|exact .inl rfl|exact .inr<|by kernel_rfl!) (hs:=by intro _;kernel_rfl!)
 |show jS (.asg [_] _);first|refine ZaK ?_ ?_ (hf:=by kernel_rfl!) (hs:=by kernel_rfl!) (hw:=by kernel_rfl!) (h1:=by kernel_rfl!)|apply ZaS
 |show jS (.asg _ _);apply ZdU
 |show jS (.ex<|.mt .append _ _);apply vi
 |show jS (.ite _ _ _);apply Zfm
 |show jS (.forr _ _ _);apply ZcG lz
 |show jS (.whl _ _);apply uB lz
 |show jS (.aug _ _ _);apply Zdd qD
 |show jS _;apply uz
 |show jT (.not _);apply Zd4
 |show jT (.cmp .eq _ _);apply Xq (qU (by assumption))
 |show jT (.cmp .ne _ _);apply Xq (uk (by assumption))
 |show jT (.cmp .lt _ _);apply Xq (xy (by assumption))
 |show jT (.cmp .le _ _);apply Xq (Qf (by assumption))
 |show jT (.cmp .gt _ _);apply Xq (qp (by assumption))
 |show jT (.cmp .ge _ _);apply Xq (vX (by assumption))
 |show jT (.cmp .is _ _);apply Xq (uF (by assumption))
 |show jT (.cmp .inn _ _);apply Xq (qd (by assumption))
 |show jT (.cmp .nin _ _);apply Xq (yF (by assumption))
 |show jT (.and _ _);refine CWh.ct<|uZ ?_ ?_
 |show jT (.or _ _);refine CWh.ct<|Zcr ?_ ?_
 |show jT _;apply Zdh
 |show Sd.CWh _ _ _ _ _;first|apply uZ|apply j7|apply Zcr|apply Zc0
 |show Sd.CTs _ _ _ _ _;first|apply j6|apply ZaU
 |show Sd.CW _ _ _ _ _ _;first|apply Zdw|apply Zbn|apply ZbR|apply Zel|apply Zaz|apply Zfb
 |show Sd.CG _ _ _;first|apply Zam|apply ZdI
 |show Sd.CGs _ _ _;first|apply Zau|apply qH
 |(first|exact Or.inl (by kernel_rfl!)|exact nR (by kernel_rfl!)|exact nR (Or.inl (by kernel_rfl!))|exact nR (nR (by kernel_rfl!)))
 |assumption
 |exact T6 (by kernel_rfl!)
 |decide
 |(intro _;kernel_rfl!)
 |(intro _ _;kernel_rfl!)
 |(intro m h;cases h)))
end K91
namespace PySem.W.Fast
def tw12746797327041617500:=0
def tw1953887524700594474:=0
def tw5992998296141123489:=0
def tw5084232159861230076:=0
def tw7096512574830355662:=0
def tw17060781712907720351:=0
def tw14233669808108819808:=0
def tw692747837160448203:=0
def tw9194177179286432214:=0
def tw13834659715819340445:=0
def tw5508246677395500264:=0
def tw1959843365798394791:=0
def tw16735144199047099468:=0
def tw16590374725700233943:=0
def tw6634273739419442152:=0
def tw2173658130798270429:=0
def tw15508817044475823756:=0
def tw17822212902122354677:=0
def tw11925286417799723590:=0
def tw5793129989240062898:=0
def tw8592672076363861839:=0
def tw2236204849467834352:=0
def tw15187246181831533125:=0
def tw1789770855962078734:=0
def tw14333460448858664931:=0
def tw5794394723809585391:=0
def tw12915174394449476881:=0
def tw16250710986593014595:=0
def tw16286542992773584863:=0
def tw5347605065701393127:=0
def tw16987782651849329022:=0
def tw15322064039714303962:=0
def tw1962540855725619141:=0
def tw9989856363016173450:=0
def tw10377044799877877139:=0
def tw11931816529181914109:=0
def tw11037121812289722426:=0
def tw8555405703150543763:=0
def tw16601274241711753568:=0
def tw14778058853379642318:=0
def tw8264443491141403024:=0
def tw7997857869693948163:=0
def tw8502799820126945623:=0
def tw11836082210669279877:=0
def tw13347632573293259888:=0
def tw3697454433662647447:=0
def tw7989205196241844524:=0
def tw2520259673494205443:=0
def tw11258501366170551093:=0
def tw9257429157847243869:=0
def tw514237817209816843:=0
def tw6039044565349057853:=0
def tw4369806214897590071:=0
def tw1550510350277750414:=0
def tw8134974588274223911:=0
def tw10704895797583384715:=0
def tw10781272041876069270:=0
def tw5536685815656207275:=0
def tw9128164765771792957:=0
def tw11995537968435713760:=0
def tw16311183129639285768:=0
def tw8876156248740626648:=0
def tw2980671489267740224:=0
def tw15865224721763547373:=0
def tw632977010872563962:=0
def tw10496953043339279428:=0
def tw13043698314717398961:=0
def tw9087413555462996555:=0
def tw16991985134378717245:=0
def tw3601486468634130706:=0
def tw3994579449003508734:=0
def tw11510357792697849484:=0
def tw2719420137618233024:=0
def tw3841198111184137688:=0
def tw4129171349733984643:=0
def tw12332106461463756147:=0
def tw16146994700744910626:=0
def tw12916351836145882599:=0
def tw14132582793866688017:=0
def tw9279104216858556639:=0
def tw6169596073440742615:=0
def tw5421752333266406598:=0
def tw756203511115438603:=0
def tw7560529731465103705:=0
def tw4597331102148134237:=0
def tw3458391431673315153:=0
def tw12188757492616302262:=0
def tw14405105919571504312:=0
def tw7714754654506624497:=0
def tw8259199227765726743:=0
def tw5595662846788741979:=0
def tw6111394170447245997:=0
def tw17271763527005767495:=0
def tw5073053256718194015:=0
def tw13414054499017900809:=0
def tw13950046855493489801:=0
def tw16660270475754456712:=0
def tw7670455224138250650:=0
def tw17099737792813571474:=0
def tw17533290309150090829:=0
def tw10607776493887964075:=0
def tw2611269758581379031:=0
def tw885246130529443665:=0
def tw8173778712294357652:=0
def tw3530642145756197185:=0
def tw8193609424144641005:=0
def tw4960576902926651527:=0
def tw14370839620605262922:=0
def tw10497777037192536221:=0
def tw5002738542683569746:=0
def tw6799630023313444528:=0
def tw17464265218915682545:=0
def tw3475096579815961505:=0
def tw4025163985045929036:=0
def tw394102761133833845:=0
def tw14671915042243041777:=0
def tw13129710865556206051:=0
def tw15033097254579678958:=0
def tw16451870859928672959:=0
def tw5553906544929410960:=0
def tw12713456643930593667:=0
def tw6907953768358392235:=0
def tw17679189639232096439:=0
def tw9312191490566404249:=0
def tw9124457974865049949:=0
def tw4107368817523315923:=0
def tw2583152459016418824:=0
def tw15308162413878613236:=0
def tw9162020729847596970:=0
def tw17251553839239977117:=0
def tw9926479241322628361:=0
def tw10575583178843632066:=0
def tw13754084810343458543:=0
def tw7623758471085385916:=0
def tw4691423603670566758:=0
def tw4969299554415651414:=0
def tw18019171812668186937:=0
def tw635378199117905815:=0
def tw9713345279118139872:=0
def tw7767637678394052046:=0
def tw3869803836757115409:=0
def tw9225549923270894636:=0
def tw5174758517317371052:=0
def tw6462521224833641360:=0
def tw7076934951784165957:=0
def tw430632281473033536:=0
def tw16986685369080879104:=0
def tw2426161927645194738:=0
def tw12499162255656299001:=0
def tw2352408640346006920:=0
def tw13148996801423616675:=0
def tw14965652782917156515:=0
def tw6415474767051158035:=0
def tw2385359208154895178:=0
def tw3448521669539096489:=0
def tw15369358371008610673:=0
def tw17759495862461184792:=0
def tw6938735224835684264:=0
def tw6190231083090981416:=0
def tw235878995057532421:=0
def tw6375332471791215698:=0
def tw7532757907261444208:=0
def tw743399753827779947:=0
def tw12880641098893477231:=0
def tw9174756563758318532:=0
def tw9089685373543623199:=0
def tw425244436543025822:=0
def tw8347007243321515225:=0
def tw12480288465911862684:=0
def tw2095650460108514726:=0
def tw13714336678488166532:=0
def tw9239014507074239580:=0
def tw4819615763936963366:=0
def tw14487537213184646653:=0
def tw8464771251779902858:=0
def tw3218984937880066058:=0
def tw16140346540302677697:=0
def tw15779291938833481962:=0
def tw64277369797381596:=0
def tw16206434808436293910:=0
def tw4798896992393943316:=0
def tw6703852775566684328:=0
def tw4777221604178443298:=0
def tw16674576662739782910:=0
def tw9191584055550397580:=0
def tw15994340885879392299:=0
def tw3393610544792411704:=0
def tw6968137338901467154:=0
def tw2126904354107368408:=0
def tw15223570434461543369:=0
def tw7032082981065971561:=0
def tw10661760205879582992:=0
def tw9662100708920317170:=0
def tw16081997876407334468:=0
def tw17955736074086346697:=0
def tw14594588504209593713:=0
def tw11869367648414061115:=0
def tw4796755802129575882:=0
def tw8540042586005088695:=0
def tw5806288398199631679:=0
def tw12095296622259211680:=0
def tw9192290427398010609:=0
def tw13439548092630747153:=0
def tw4719065062071118286:=0
def tw7281277740752542428:=0
def tw13153307386589605943:=0
def tw2210042346469085777:=0
def tw10632987455115931756:=0
def tw15865667680572906205:=0
def tw18114633587426005874:=0
def tw1477410556117266606:=0
def tw13971151669339559121:=0
def tw7906881538327916009:=0
def tw5319819065061099080:=0
def tw14643740836702809895:=0
def tw1062117231649425510:=0
def tw13752022273493397433:=0
def tw7327875405972751497:=0
def tw4237322425881900394:=0
def tw15651454963920246127:=0
def tw11498670789428129831:=0
def tw17608788398993243442:=0
def tw12618031123628538583:=0
def tw13560788184940362013:=0
def tw1047646829677596403:=0
def tw5192048164215006900:=0
def tw5402774450640330583:=0
def tw7444822003183352271:=0
def tw14108179725498847046:=0
def tw12781202885611680040:=0
def tw4110482986905454496:=0
def tw7417409227497380512:=0
def tw7304655703112553236:=0
def tw6213028897767357295:=0
def tw4620913856100020010:=0
def tw15729920803013815777:=0
def tw13753021523096643982:=0
def tw18255099085949043412:=0
def tw11594833139026609456:=0
def tw9273210302335362614:=0
def tw15181911538229693694:=0
def tw15000553738747440657:=0
def tw18069858546455392002:=0
def tw5640192728422091152:=0
def tw7123040199788700018:=0
def tw14917995360535924121:=0
def tw9212994165360492530:=0
def tw13203481593178005500:=0
end PySem.W.Fast
open PySem PySem.W PyProof.Rows Gn
set_option maxRecDepth 100000 in
set_option maxHeartbeats 0 in
theorem PySem.Challenge.cw_fewspaces_k91_texts_written_and_read_holds : PySem.Challenge.rw_fewspaces_k91_texts_written_and_read.Holds := by
  w_on; o_law; k_head; (case hw => w_witness2)
  k_fill
  refine Gn.walk (l := PySem.Challenge.rw_fewspaces_k91_texts_written_and_read) (F := K91.fns) (tk := K91.tk) (L := 37) (fun ns s => K91.law_ok ns s) rfl rfl (fun w h Y => PySem.W.kIn_of Y) ?F
  case F =>
    intro w mg fa h KX G hmg;refine' Gn.ZcR (fs := K91.fs) (zs := K91.zs) (gs := K91.gs) (sn := K91.sn) KX G hmg rfl K91.okl rfl (by decide) ?A ?Z ?Y
    case A => repeat' (first|exact FnsAt.nil|refine' FnsAt.cons ?h1 ?h2 ?h3 ?h4 ?h5 ?_; (case h1 => k_is); (case h2 => k_is); (case h3 => k_is); (case h4 => k_is); (case h5 => first|exact bd1 fun _ _ _ _ _ _ _ => rfl|exact bd2 fun _ _ _ _ _ _ _ _ => rfl|exact bd3 fun _ _ _ _ _ _ _ _ _ => rfl|exact bd4 fun _ _ _ _ _ _ _ _ _ _ => rfl|exact bd5 fun _ _ _ _ _ _ _ _ _ _ _ => rfl|exact bd6 fun _ _ _ _ _ _ _ _ _ _ _ _ => rfl))
    case Z => repeat' (first|exact ZsAt.nil|refine' ZsAt.cons ?h1 ?_; (case h1 => k_is))
    case Y => repeat' (first|exact GsAt.nil|refine' GsAt.cons ?h1 ?_; (case h1 => k_is)|refine' GsAt.str ?h1 ?_; (case h1 => k_is))
