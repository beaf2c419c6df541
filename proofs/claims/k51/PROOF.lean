import PyProof.Rows.All
import Wide.All
import OpenK.AllK
import PySem.Challenge.RW_fewspaces_k51_parts_that_miss_one_anothe
set_option Elab.async false
set_option linter.all false
set_option compiler.extract_closed false
set_option maxRecDepth 100000
set_option maxHeartbeats 0
local macro_rules
|`(#[$x,$y])=>`(⟨$x,$y⟩)
|`(#[$x,$y,$z,*])=>`(⟨$x,$y,$z,*⟩)
|`(#[0])=>`(by lia)
|`(#[1])=>`(by decide)
|`(#[2])=>`(by simp)
|`(#[3])=>`(by omega)
|`(#[4])=>`(by assumption)
|`(#[5])=>`(by kernel_rfl!)
|`(#[7])=>`(by rfl)
set_option hygiene false in
local macro_rules|`(tactic|left)=>`(tactic|rintro Z H Q ⟨U,l,S,st,lr,h⟩)
set_option hygiene false in
local macro_rules|`(tactic|right)=>`(tactic|rintro D Z H ⟨U,H0,W,l,os,S,st,en,h⟩)
set_option hygiene false in
local macro_rules
|`(#[8])=>`(aS prog w)
|`(#[9])=>`(aS X.prog X.w)
|`(#[10])=>`(Ze rfl)
|`(#[11])=>`(("__debug__" : bn))
|`(#[12])=>`(Zm p P r)
|`(#[13])=>`([.ret<|.c<|.bl aj])
|`(#[14])=>`(.sl (.v 2) ai<|aa<|.v 3)
|`(#[15])=>`(List Int)
|`(#[16])=>`(CV<|d+1)
|`(#[17])=>`(cxC X N scope cl s H fp)
|`(#[18])=>`(lead p #[12] h)
|`(#[19])=>`(("__classdict__" : bn))
|`(#[20])=>`(by decide +kernel)
|`(#[21])=>`(.Call (.Name x p) (e::es) [] pos)
|`(#[22])=>`((aj,c6 e X.env))
|`(#[23])=>`([(.v 0),(.v 1)])
|`(#[24])=>`(aa<|.lst [Zd A,Zd B,Zd [],Zd P])
|`(#[25])=>`(.ref s.heap.objs.size)
|`(#[26])=>`(aa<|.bin .add (.v 3)<|.n 1)
|`(#[27])=>`(by unfold lim;omega)
|`(#[28])=>`(.blt .len [(.v 1)])
noncomputable section
abbrev T9:=@if_pos
abbrev T8:=@if_neg
abbrev T7:=@absurd
abbrev T6:=@of_decide_eq_true
abbrev T5:=@decide_eq_true
abbrev T4:=@decide_eq_false
abbrev T0:=@decide_eq_true_eq
open Option renaming some->aa,none->ai,map_eq_some_iff->bI,isSome_iff_exists->bS,bind_eq_some_iff->bW,ne_none_iff_exists'->kT,isSome_map->lK,getD_some->ml,map_eq_none_iff->mU,isSome_some->oD,getD_none->pL,map_some->rT
open PySem renaming wpAny_bind->ae,Value->aw,wpAny_pure->ax,Shared->ay,Addr->aE,starEach->aG,model->aS,wpAny->aW,sizeLine->ba,Str->bn,Program->bv,wpAny_newObj_type->bw,mainGlobals->bC,World->bO,wpAny_holding->bP,Heap->bZ,Around->b9,wpAny_call_entry->cx,wpAny_callSpecial?_slot->cC,assignEach->cI,compareOp->cO,FuncData->cP,eval->c6,wpAny_field->c8,sysModules->de,sizeLine_eq->dz,Builtin->dG,wpAny_mono->dH,cLine->dL,cellsFrom->dN,wpAny_Call_Name_kw->dR,bootBuiltins->dW,foldedSetIterable->dZ,mem_of_lookup->d3,Scope->d4,codeAny_builtin->d5,tupleKind->d6,backTo->d7,swapsWithSole->eg,swappedStores->ei,wpAny_truthy_bool->eA,Stmt->eE,NameKind->eF,assign->eL,behindInMarks->eM,wpAny_isInstance->eO,wpAny_rule->eQ,wpAny_seqItems->eU,wpAny_setField_rec->eV,swapsWith->fe,wpAny_passesOwn->fg,binaryOp->fk,wpAny_pyIter_list->fq,rawInt->fC,Obj->fH,wpAny_setField->fN,wpAny_of_eq->fQ,wpAny_typeNameOfWhole_keyiter->fR,codeAny_mono->fS,wpAny_typeOf->fT,wpAny_execs_nil->fZ,builtinLookup_eq_fast->gp,Pos->gu,wpAny_loadPart_at->gz,codeAny_call_builtin->gE,wpAny_execs_cons->gG,codeAny->gH,DictEntry->gL,wpAny_askSetting->gM,wpAny_standAt->gW,wpAny_attempt->gZ,wpAny_typeNameOf_keyiter->g8,intKind->hV,call_meets->io,tupleKind_room_in1->ip,wpAny_pyIter_tuple->iq,sliceBounds->iB,wpAny_setState_of->iM,closureFor->iU,intKind_is->iV,plainId_quiet->i7,wpAny_loadName_local->i9,wpAny_updateSeq_pair->kg,pyNext->kl,wpAny_loadPart'->kx,typeLookup_type->kz,wpAny_loadName_cell->kA,codeAmong->kG,wpAny_Name->kJ,wpAny_load->kL,wpAny_newFunctionEnv_cells->kN,IsPart->kO,typeLookup->kS,firstArgMember->kZ,isSubtype_type->lq,wpAny_binaryOp_repeat_ref->lC,holding->lE,getItem->lH,wpAny_sequenceKey->lI,wpAny_pyIter_slot->lS,wpAny_onRaise->l6,wpAny_newList->l9,wpAny_eqBool_int->mf,noFill_tuple_add->mh,checkBuiltinCall->mD,wpAny_pyNext_list_item->mJ,typeIs_int->mM,IsPair->mQ,richCompare_meets_room->mT,letOwnedTupleGo->mW,pushCells_keeps->mX,wpAny_isTrue_Compare1->m5,wpAny_pyNext_list_end->m7,codeAny_call_function->m8,wpAny_notOrdered_dict->ni,wpAny_isOneOf_keyiter->nk,bindArgs->nt,ZipApart->nB,isSubtype_stop->nD,PassesOwn->nL,BindsTo->nM,callerA->nN,wpAny_loadName_free->nO,wpAny_setEntries_of->nV,assignInOrder->nZ,seq_tuple_add->n4,evalPart_none->n6,wpAny_handled->n8,builtinsNs->oo,pyIter->ot,wpAny_call->ox,wpAny_dictSet_heap->oK,Sem->oO,standAt->oQ,wpAny_assign_Name->oR,rule->oU,concat_meets->oX,seqIndex_neg->oY,valueAt->oZ,atKey->o0,wpAny_pyIter_enum->pb,wpAny_dictEntries->pz,wpAny_storeSet_of->pB,Arguments->pI,reduceHash->pN,TriplesOk->pO,seqSlot_of->pP,pushCells->pT,preSum->pV,seqIndex_of->rn,wpAny_alloc->rA,wpAny_throw->rB,IsZip->rC,wpAny_letGo->rE,unsupported->rF,GenState->rZ,Operator->sd,Result->se,call->sh,Meets->si,newTuple->sk,getAttr?->sB,entryFor->sC,ret->sN,Tok->sW,again->sZ,bindL->tj,bindC->tm,hashInt->tu,truthy->tw,setItem->tx,Keyword->tD,DefRec->tG,newExc->tH,ItemsOf->tI,CmpOp->tJ
open Decidable renaming decide->af
open List renaming getElem?_eq_getElem->ag,mem_cons_self->ak,mem_cons_of_mem->al,mem_cons->az,length_map->aA,replicate->aB,size_toArray->aC,getD_eq_getElem?_getD->aD,getElem?_eq_some_iff->aK,mem_map->aN,range->aP,getElem?_map->aQ,length_cons->aT,mem_range->aV,length_append->aX,map_cons->aY,getElem_mem->aZ,all_eq_true->a8,mem_singleton->bc,getElem?_set_ne->bf,getElem?_set_self->bg,pairwise_cons->br,mem_append_right->bu,not_mem_nil->bx,length_set->bG,length_range->bH,append_assoc->bK,length_drop->bL,getElem?_eq_none->bM,pairwise_iff_getElem->bQ,length_replicate->bR,length_take->bT,lookup_cons->bU,map_append->bV,mem_filter->bX,replicate_succ->bY,map_map->cg,ext_getElem?->ck,mem_append->cp,drop_eq_getElem_cons->cq,mem_of_mem_drop->cw,append_nil->cz,getElem?_append_right->cA,contains_iff_mem->cB,filterMap_cons->cD,getElem_of_mem->cE,getElem?_append_left->cF,take_of_length_le->cG,getElem?_take->cL,zip_cons_cons->cM,take_append_drop->cR,getElem?_range->cT,getElem?_replicate->cX,mem_of_getElem?->c7,flatten_cons->dk,pairwise_map->dq,toArray->du,mem_append_left->dy,mem_of_mem_take->dB,nodup_cons->dD,foldl_cons->dE,map_congr_left->dJ,reverse_perm->eC,mem_map_of_mem->eG,drop_length->eN,mem_reverse->eP,getElem?_drop->eW,length_singleton->eX,pairwise_reverse->eZ,find?_cons->fj,reverse_cons->fm,pairwise_append->fv,nodup_append->fw,any_cons->fE,mem_flatMap->fO,length_take_of_le->fW,of_mem_zip->gf,length_zip->gh,length_filter_le->gq,getElem_take->gw,getElem_drop->gy,any_eq_true->gI,take_length->gK,filter_cons->gO,getElem?_zip_eq_some->gQ,extract_eq_take_drop->gS,length_reverse->gV,all_cons->gY,eq_of_mem_replicate->g9,nil_append->hU,length->iz,length_eq_zero_iff->iC,getElem?_inj->iK,map_uncurry_zip_eq_zipWith->iP,ext_getElem->iX,isEmpty_toArray->kc,getElem?_mapIdx->ke,drop_append_of_le_length->ki,take_append_of_le_length->kj,forIn_cons->ko,mem_zipIdx_iff_getElem?->kr,take->kH,drop_zero->kY,drop_drop->k7,drop_left->k9,take_left->lg,zip_nil_right->ln,take_sublist->lG,take_add_one->lQ,zip_nil_left->lR,contains->l4,find?_range_eq_some->me,zipIdx_cons->mm,pairwise_singleton->mw,map_toArray->mB,any_eq_not_all_not->mH,range_succ_eq_map->mO,all_map->mP,drop_of_length_le->mS,length_pos_of_mem->mV,getElem?_reverse->ng,nodup_nil->ny,forIn_nil->nC,mem_iff_getElem->nF,map->nG,reverse_append->nS,mem_filterMap->ou,filterMap_map->oA,contains_cons->oE,find?_toArray->oF,find?_eq_none->oM,getElem?_set->o4,drop_sublist->pc,flatMap_cons->pG,drop_append->pX,countP_cons->pY,nodup_range->re,map_reverse->rh,zipIdx_nil->rM,take_take->sr,tail_cons->sL,map_tail->sT,map_take->sU,map_drop->sV,drop->tq
open Bool renaming false->aj,true->am,and_eq_true->aF,false_ne_true->aR,eq_iff_iff->cy,false_eq_true->cK,or_eq_true->hZ,false_or->i5,not_true->i6,not_eq_true'->lT,false_and->nr,not_false->sA
open PySem.W renaming Frag->ao,katRev->bF,hideAll_none->dv,CodeHd->dP,kia_one->dQ,fnOf->eK,hideAll->fc,envX->fX,kla_obj->gn,kitOne->gA,keepIn->gB,nsIn->gN,hideAll_get->gU,kat_len->h9,of_hideAll->im,cellsFrom_some->iE,mg_of->i8,codeIn->kM,KdlSrc->lu,katRev->l8,OpenLaw->mZ,noTabs->nI,callWith_K->oy,codeRec_of->oz,kitx_list->oV,kitx_dict->oW,looks_findIn->pD,plainGet->pH,kat_nil->rR,kat_len->rY,findIn->sG,exmOne->sH,kla_fn->sI,tabObj->sJ,tabIn->sR,WalkO->sS
open PySem.Heap renaming get?_push_of_some->aq,lt_size->aH,get?_push_size->aI,size_push->cY,get?_update_self->dO,SameBut->eI,ExtBut->fP,get?_push_ne->iL,size_update->mv,get?_update_other->mL,get?_update_ne->nU
open Option.some renaming inj->au
open Array renaming length_toList->aJ,getElem?_eq_getElem->bp,getElem?_toList->bq,perm_iff_toList_perm->bD,toList_append->cu,size_push->eD,toList_push->fz,size_extract_of_le->fF,getElem?_eq_none->iH,size_append->iI,toList_inj->iW,toList_extract->kh,toList_setIfInBounds->k8,append_empty->lv,toList->mI,toList_reverse->nE,append_assoc->oq,size_reverse->oH,toList_map->rg,range->rJ
open Nat renaming le_refl->aM,ne_of_lt->a9,lt_of_lt_of_le->bo,lt_irrefl->bB,le_trans->cc,add_sub_cancel_left->cn,lt_succ_of_lt->cH,pow_le_pow_right->dC,lt_trans->dF,zero_le->dM,le_add_right->dS,le_of_not_lt->d9,add_assoc->ek,lt_of_succ_lt->eB,ne_of_gt->eJ,lt_succ_self->fM,lt_of_le_of_ne->fU,le_of_lt->gF,min_eq_left->h8,add_comm->iG,sub_succ_lt_self->kf,lt_of_add_lt_add_left->lD,le_succ->lO,max_eq_right->mn,exists_eq_add_of_le->mq,exists_eq_add_of_lt->mr,not_lt_of_le->mE,le_of_eq->mR,le_sub_of_add_le'->m9,mul_le_mul->nz,add_sub_cancel'->nQ,lt_min->oG,add_sub_cancel->oI,mul_comm->o6,min_self->o7,zero_add->pA,min_le_right->pK,lt_of_not_le->pW,max_eq_left->rP
open PyProof.Rows renaming wpS_bind->aO,wpS_pure->aU,arrOf->bh,pendingOf->bi,SortSt->cf,Keyed->cr,slot_tuple_getitem->cQ,wpS_forRange->cV,callWith_type1->dg,envOfC->d8,wpS_mono->fu,seqObj->fG,wpS_modify->fV,SortKind->gj,failedOf->gD,elem'->gR,setPending->iu,wpS_get->iJ,callWith_builtin1->iS,AllBare->iY,IntsAre->iZ,entry_tuple_getitem->kB,assignInOrder_cons->kK,slicePart_none->kP,args_tuple_getitem->kR,list_sort_rev->lh,subscriptTail_builtinR->mK,entry_list_sort->mY,wpS->nq,slot_list_sort->nH,tupleItemsOf_->n5,listUpdate_at->oa,size_push'->oJ,IsTup->oP,assignInOrder_nil->oS,plain_sorted->pf,entry_sorted->pi,seqEpoch_at->rG,kind_sorted->rH,minRun'->rX,Subscript_->sf,setArr->sw
open And renaming intro->bj
open PySem.Value renaming none->bz,bool->bJ,ref->cW,int->fI,builtin->md,type->on,isStrOf->sP
open PySem.NameKind renaming free->bN,cell->db
open Pure renaming pure->cS
open PySem.Heap.SameBut renaming update->cU,refl->o8
open List.Perm renaming refl->cZ,swap->lj,of_eq->rQ
open PySem.Builtin.Slice renaming slicePlaces->c9,sliceAdjust->gP,sliceApplied->kQ
open Sum renaming inl->da,inr->nK
open Int renaming toNat_natCast->dm,emod_eq_of_lt->fB,emod_lt_of_pos->fY,emod_nonneg->ig,toNat_of_nonneg->kC,ofNat->kI,natCast_nonneg->lz,zero_add->pF,natCast_add->rO
open PySem.Obj renaming data_mapFields->dA,mapSeq->eR,isFreed_of_fields->eY,cls_mapFields->gv,mapFields->oh,putSet->sE
open PySem.Around renaming under_plainId->dU,frames_deeper->nv
open PySem.AutoSeq1 renaming wpAny_loadPart'->ee,sub_tuple_tuple->ej,wpAny_loadPart'->g7,idx_int->mi
open PySem.F renaming slot_tuple_iterator_next->eS,plainAttrs_list->fK,args_tuple_add_2->gX,entry_tuple_add->iA,slot_tuple_add->iF,typeOf_object_class->iQ,slot_int_rmul->kn,args_tuple_iterator_next_1->ku,slot_zip_next->kw,slot_dict_keyiterator_next->ky,entry_tuple_iterator_next->kD,args_tuple_mul_2->kW,entry_tuple_mul->lL,slot_list_append->lZ,type_list_append->l0,slot_tuple_mul->mj,plain_list_iadd->mz,slot_list_index->mF,type_list_index->mG,args_int_rmul_2->o5,args_zip_next_1->o9,args_tuple_lt_2->pj,entry_int_rmul->pQ,entry_zip_next->pU,entry_tuple_lt->rj,slot_dict_iter->rm,fills_int_mul->rK,slot_tuple_lt->rS,plain_set_new->rV,slot_set_iter->rW
open PySem.Builtin.SmallTypes renaming nextOf->fb
open PySem.SetTable renaming insertAt->fA,grown->sD,below->sF
open True renaming intro->fD
open LawfulBEq renaming eq_of_beq->fJ
open PySem.Builtin.Tuple renaming tupleItemsOf->gC,tupleHashOf->iN,tupleCompareSizes->iO,tupleTooMany->kU
open PyProof.Rows.F renaming plain_set_update_loop->iD,entry_set_update_loop->mC
open PyProof.Rows.IsTup renaming new->iR
open PySem.SeqAt renaming EqAt->iT
open PySem.SeqAt.EqAt renaming same->km,of_refs->kX,bool_bool->lx,int_str->oj,str_int->om,int_int->oC
open ForInStep renaming yield->kq
open PySem.Builtin.List renaming listLengthHint->kF
open Break renaming runK->k6
open PySem.Str renaming ofString->ly,ofString->pe
open List.Pairwise renaming nil->lJ,imp_of_mem->l7,filter->nJ
open PySem.SeqAt.RcAt renaming tuples->lN,lists_lengths->lW,lists->pR
open PySem.PassesOwn renaming leaving->lV
open PySem.Builtin.Dict renaming updateFrom->my,showsAll->nj
open ForIn renaming forIn->nA
open PySem.Builtin.Int renaming intBits->nP
open Lean.Grind renaming CommRing->nY
open PySem.P renaming truthy_int->ow
open PySem.Heap.IsSliceOf renaming new->oB
open PySem.Code renaming quiet_builtin->oN,compLoop->sQ
open PySem.pickOrder renaming go->pC
open Classical renaming not_not->pE
open Or renaming inr->pS
open PySem.Walks renaming list->sj
open PyProof.Rows.SortSt renaming mk'->sm
open PySem.Value.type renaming inj->sK
open Min renaming min->sO
namespace L2
open PySem PySem.Spec PyProof.Rows
abbrev Key:=Sum Int bn
noncomputable def JG:Key->aw->Bool
 |.inl k,v=>aw.isInt k v
 |.inr x,v=>sP x v
noncomputable def Zif(w:bO):Key->Int
 |.inl k=>tu k
 |.inr x=>hashStr w x
def ZV:∀{k:Key}{v:aw},JG k v=am->(∃i t,k=da i/\v=fI i t)\/(∃x t,k=nK x/\v=aw.str x t)
 |.inl i,v,h=>by
  obtain⟨t,e⟩:=aw.isInt_shape h;exact .inl #[i,t,rfl,e]
 |.inr x,v,h=>by
  obtain⟨t,e⟩:=aw.isStrOf_shape h;exact .inr #[x,t,rfl,e]
def uA(i:Int)(t:sW):JG (.inl i) (.int i t)=am:=by simp[JG,aw.isInt]
def qT(x:bn)(t:sW):JG (.inr x) (.str x t)=am:=by simp[JG,sP]
def ZfR(a b:Int):af ((da a:Key)=da b)=(a == b):=by
 by_cases e:a=b
 .subst e;simp
 .have h:¬(da a:Key)=da b:=λq=>e (da.inj q)
  rw[T4 h];exact(beq_eq_false_iff_ne.mpr e).symm
def Zfd(a b:bn):af ((nK a:Key)=nK b)=af (a=b):=by
 by_cases e:a=b
 .subst e;simp
 .have h:¬(nK a:Key)=nK b:=λq=>e (nK.inj q)
  rw[T4 h,T4 e]
def ZfO(a:Int)(b:bn):af ((da a:Key)=nK b)=aj:=T4 (λq=>nomatch q)
def ZgK(a:bn)(b:Int):af ((nK a:Key)=da b)=aj:=T4 (λq=>nomatch q)
def ZQ(prog:bv)(w:bO):PySem.KeyKind prog w Key where
 is:=JG
 hash:=Zif w
 inj:=λv a b ha hb=>by
  rcases ZV ha with⟨i,t,rfl,rfl⟩|⟨x,t,rfl,rfl⟩
  .rcases ZV hb with⟨j,u,rfl,e⟩|⟨y,u,rfl,e⟩
   .injection e with e1 _;rw[e1]
   .exact nomatch e
  .rcases ZV hb with⟨j,u,rfl,e⟩|⟨y,u,rfl,e⟩
   .exact nomatch e
   .injection e with e1 _;rw[e1]
 byValue:=λk v h=>by
  rcases ZV h with⟨i,t,rfl,rfl⟩|⟨x,t,rfl,rfl⟩<;>rfl
 pyHash:=λhv h=>by
  rcases ZV hv with⟨i,t,rfl,rfl⟩|⟨x,t,rfl,rfl⟩
  .exact wpAny_pyHash_int h
  .exact wpAny_pyHash_str h
 eqBool:=λhu hv h=>by
  rcases ZV hu with⟨i,t,rfl,rfl⟩|⟨x,t,rfl,rfl⟩
  .rcases ZV hv with⟨j,u,rfl,rfl⟩|⟨y,u,rfl,rfl⟩
   .rw[ZfR]at h;exact mf h
   .rw[ZfO]at h;exact oj i t y u _ _ _ _ h
  .rcases ZV hv with⟨j,u,rfl,rfl⟩|⟨y,u,rfl,rfl⟩
   .rw[ZgK]at h;exact om x t j u _ _ _ _ h
   .rw[Zfd]at h;exact wpAny_eqBool_str h
 «strs»:=λk x t v h=>by
  rcases ZV h with⟨i,u,rfl,e⟩|⟨y,u,rfl,e⟩
  .exact nomatch e
  .injection e with e1 _
   subst e1;cases v<;>rfl
def yG(prog:bv)(w:bO)(i:Int)(t:sW):(ZQ prog w).is (.inl i) (.int i t)=am:=uA i t
def yH(prog:bv)(w:bO)(x:bn)(t:sW):(ZQ prog w).is (.inr x) (.str x t)=am:=qT x t
inductive V where
 |non|bl (b:Bool)|int (i:Int)|str (x:bn)|ref (a:aE)|ty (n:String)
 deriving DecidableEq
def Zx:V->aw->Prop
 |.non,u=>u=bz
 |.bl b,u=>u=bJ b
 |.int i,u=>∃t,u=fI i t
 |.str x,u=>∃t,u=aw.str x t
 |.ref a,u=>u=cW a
 |.ty n,u=>u=on n
abbrev Vals:List V->List aw->Prop:=Paired Zx
theorem Vals.length{xs:List V}{us:List aw}(r:Vals xs us):xs.length=us.length:=Paired.length r
theorem Vals.get:∀{xs:List V}{us:List aw}{i:Nat}{x:V},Vals xs us->xs[i]?=aa x->∃u,us[i]?=aa u/\Zx x u
 |_,_,_,_,.nil,e=>by simp at e
 |_,_,0,_,.cons r _,e=>by simp at e;subst e;exact#[_,rfl,r]
 |_,_,i+1,x,.cons _ t,e=>by
  obtain⟨u,h1,h2⟩:=Vals.get t (by simpa using e)
  exact#[u,by simpa using h1,h2]
theorem Vals.set(r:Zx x u):∀{xs:List V}{us:List aw}(i:Nat),Vals xs us->Vals (xs.set i x) (us.set i u)
 |_,_,_,.nil=>.nil
 |_,_,0,.cons _ t=>.cons r t
 |_,_,i+1,.cons q t=>.cons q<|Vals.set r i t
theorem Vals.append:∀{xs ys:List V}{us ws:List aw},Vals xs us->Vals ys ws->Vals (xs++ys) (us++ws)
 |_,_,_,_,.nil,s=>s
 |_,_,_,_,.cons r t,s=>.cons r<|Vals.append t s
theorem Vals.take:∀{xs:List V}{us:List aw}(n:Nat),Vals xs us->Vals (xs.take n) (us.take n)
 |_,_,0,_=>.nil
 |_,_,_+1,.nil=>.nil
 |_,_,n+1,.cons r t=>.cons r<|Vals.take n t
theorem Vals.drop:∀{xs:List V}{us:List aw}(n:Nat),Vals xs us->Vals (xs.drop n) (us.drop n)
 |_,_,0,r=>r
 |_,_,_+1,.nil=>.nil
 |_,_,n+1,.cons _ t=>Vals.drop n t
def Zcl:Option V->Option aw->Prop
 |some v,aa u=>Zx v u
 |none,ai=>True
 |_,_=>False
def KV{κ:Type}:List (κ×V)->List (κ×aw)->Prop:=Paired λ(p:κ×V) (q:κ×aw)=>p.1=q.1/\Zx p.2 q.2
noncomputable def kV:Key->V
 |.inl i=>.int i
 |.inr x=>.str x
inductive HO where
 |lst (xs:List V)
 |tup (xs:List V)
 |dK (kvs:List (Key×V))|dT (kvs:List (List Key×V))
 |own (x:aE)
 |frz (o:fH) (u:HO)
 |tbl (ps:Array aw)
abbrev Hp:=aE->Option HO
noncomputable def upd(H:Hp)(a:aE)(o:HO):Hp:=λb=>if b=a then aa o else H b
def Zl :upd H a o a=aa o:=by unfold upd;rw[T9 rfl]
def Zj(h:b≠a):upd H a o b=H b:=by unfold upd;rw[T8 h]
def Zeo{H:Hp}{a b:aE}{o u:HO}(h:H a=aa o)(h':H b=aa u)(d:o≠u):a≠b:=by
 intro e;subst e;rw[h]at h';exact d<|au h'
def Ye{H:Hp}{a b:aE}{o:HO}(h:H a=aa o)(h':H b=ai):a≠b:=by
 intro e;subst e;rw[h]at h';cases h'
section
variable(P:bv)(w:bO)
def ZZ(H:Hp)(h:bZ)(a:aE):HO->Prop
 |.lst xs=>xs.length<=ba/\∃(its:List aw)(n:Nat),Vals xs its/\h.get? a=aa {cls:=.type "list",data:=.seq its.toArray n}
 |.tup xs=>xs.length<=ba/\∃its:List aw,Vals xs its/\oP h a its.toArray
 |.dK kvs=>kvs.length<=ba/\(a == de)=aj/\∃vs,KV kvs vs/\h.DictOf (ZQ P w) a vs
 |.dT kvs=>kvs.length<=ba/\(a == de)=aj/\∃xs:List (List Key×aE×aw),
   Paired (λ(p:List Key×V) (q:List Key×aE×aw)=>p.1=q.1/\H q.2.1=aa (.tup<|p.1.map kV)/\Zx p.2 q.2.2) kvs xs/\
   ∃o es ep,h.get? a=aa o/\o.ExactDict/\o.data=.dict es ep/\es.toList=xs.map (entryOfKey<|d6<|ZQ P w)/\(xs.map (·.1)).Nodup
 |.own _=>∃o,h.get? a=aa o
 |.frz o u=>h.get? a=aa o/\ZZ H h a u
 |.tbl ps=>h.get? a=aa {cls:=.none,data:=.fields ps}
def HOk(H:Hp)(h:bZ):Prop:=∀a o,H a=aa o->ZZ P w H h a o
end
theorem ZZ.lt(x:ZZ P w H h a o):a<h.objs.size:=by
 cases o with|lst xs=>obtain⟨_,_,_,_,e⟩:=x;exact aH e|tup xs=>obtain⟨_,_,_,p⟩:=x;exact p.lt|dK kvs=>obtain⟨_,_,_,_,o,_,_,e,_⟩:=x;exact aH e|dT kvs=>obtain⟨_,_,_,_,o,_,_,e,_⟩:=x;exact aH e|own y=>obtain⟨_,e⟩:=x;exact aH e|frz ob u=>obtain⟨e,_⟩:=x;exact aH e|tbl ps=>exact aH (x)
theorem Paired.mapP{B β:Type}{F G:B->β->Prop}:∀{l₁:List B}{l₂:List β},Paired F l₁ l₂->(∀a b,F a b->G a b)->Paired G l₁ l₂
 |_,_,.nil,_=>.nil
 |_,_,.cons r t,f=>.cons (f _ _ r)<|Paired.mapP t f
def ZZ.stay(x:ZZ P w H h a o)(k:∀b u,(b=a\/H b=aa (.own a))->h.get? b=aa u->h'.get? b=aa u)
  (ho:∀b,H b=aa (.own a)->H' b=aa (.own a))(ht:∀b xs,H b=aa (.tup xs)->H' b=aa (.tup xs)):ZZ P w H' h' a o:=by
 induction o with
 |lst xs=>obtain⟨z,its,n,r,e⟩:=x;exact#[z,its,n,r,k _ _ (.inl rfl) e]
 |tup xs=>obtain⟨z,its,r,ob,e,c⟩:=x;exact#[z,its,r,ob,k _ _ (.inl rfl) e,c]
 |dK kvs=>obtain⟨z,y,vs,r,ob,es,ep,e,c⟩:=x;exact#[z,y,vs,r,ob,es,ep,k _ _ (.inl rfl) e,c]
 |dT kvs=>
  obtain⟨z,y,xs,r,ob,es,ep,e,c⟩:=x;exact#[z,y,xs,Paired.mapP r λp q z=>#[z.1,ht _ _ z.2.1,z.2.2],ob,es,ep,k _ _ (.inl rfl) e,c]
 |own y=>obtain⟨ob,e⟩:=x;exact#[ob,k _ _ (.inl rfl) e]
 |frz ob u ih=>obtain⟨e,q⟩:=x;exact#[k _ _ (.inl rfl) e,ih q]
 |tbl ps=>
  have e:=x;exact k a _ (.inl rfl) e
theorem HOk.lt(x:HOk P w H h)(e:H a=aa o):a<h.objs.size:=(x a o e).lt
def HOk.fresh(x:HOk P w H h)(e:h.objs.size<=a):H a=ai:=by
 cases q:H a with|none=>rfl|some u=>exact T7 (bo (x.lt q) e)<|bB _
def HOk.kept(x:HOk P w H h)(k:∀b u,h.get? b=aa u->h'.get? b=aa u):HOk P w H h':=λa o e=>
 (x a o e).stay (λb u _ q=>k b u q) (λ_ q=>q) λ_ _ q=>q
def HOk.laid(x:HOk P w H h)(k:∀b u,h.get? b=aa u->h'.get? b=aa u)(hp:h.objs.size<=a)(new:ZZ P w (upd H a o) h' a o):HOk P w (upd H a o) h':=λb u e=>by
 have hn:=x.fresh hp;by_cases hb:b=a
 .subst hb;rw[Zl]at e;cases e;exact new
 .rw[Zj hb]at e
  exact(x b u e).stay (λc v _ q=>k c v q) (λc q=>by rw[Zj<|Ye q hn];exact q) λc xs q=>by rw[Zj<|Ye q hn];exact q
def Rd(H:Hp)(a:aE)(u:HO):Prop:=H a=aa u\/∃o,H a=aa (.frz o u)
def Rd.ok(r:Rd H a u)(x:HOk P w H h):ZZ P w H h a u:=by
 rcases r with r|⟨o,r⟩
 .exact x a u r
 .obtain⟨_,q⟩:=x a _ r
  exact q
def Mut:Option HO->Prop
 |some (.lst _)=>True
 |some (.dK _)=>True
 |some (.dT _)=>True
 |_=>False
def HOk.write(ok:HOk P w H h)(mu:Mut (H x))(he:e=x\/H e=aa (.own x))(k:∀b u,b≠e->h.get? b=aa u->h'.get? b=aa u)(heo:∃u,h'.get? e=aa u)
  (new:ZZ P w (upd H x o') h' x o'):HOk P w (upd H x o') h':=λb u q=>by
 have nown:∀c y,H c=aa (.own y)->c≠x:=λc y r z=>by subst z;rw[r]at mu;exact mu
 have ntup:∀c xs,H c=aa (.tup xs)->c≠x:=λc xs r z=>by subst z;rw[r]at mu;exact mu
 by_cases hb:b=x
 .subst hb;rw[Zl]at q;cases q;exact new
 .rw[Zj hb]at q
  by_cases hbe:b=e
  .have q':H b=aa (.own x):=by
    rcases he with z|z
    .exact T7 (hbe.trans z) hb
    .rw[hbe];exact z
   rw[q]at q';cases q';obtain⟨v,hv⟩:=heo;exact#[v,by rw[hbe];exact hv]
  .refine(ok b u q).stay (λc v hc r=>k c v ?_ r) (λc r=>by rw[Zj<|nown c b r];exact r) λc xs r=>by rw[Zj<|ntup c xs r];exact r
   rcases hc with rfl|hc
   .exact hbe
   .rintro rfl
    rcases he with z|z
    .exact nown c b hc z
    .rw[hc]at z;cases z;exact hb rfl
structure Un(fs ex:List aE)(H H':Hp)(h h':bZ):Prop where
 keep:∀b o,h.get? b=aa o->H b=ai->b∉fs->b∉ex->h'.get? b=aa o
 slot:∀b o,h.get? b=aa o->H b=ai->b∈fs->b∉ex->∃sl,h'.get? b=aa {o with slots:=sl}
 free:∀b o,h.get? b=aa o->H b=ai->b∉ex->H' b=ai
 there:∀b o,h.get? b=aa o->b∉ex->∃o',h'.get? b=aa o'
 tups:∀b xs,H b=aa (.tup xs)->H' b=aa (.tup xs)
 frzs:∀b o u,H b=aa (.frz o u)->H' b=aa (.frz o u)
 tbls:∀b ps,H b=aa (.tbl ps)->∃more,H' b=aa (.tbl<|ps++more)
def Un.any(u:Un fs ex H H1 h h1)(q:h.get? b=aa ob)(n:H b=ai)(hx:b∉ex):∃sl,h1.get? b=aa {ob with slots:=sl}:=by
 by_cases hb:b∈fs
 .exact u.slot b ob q n hb hx
 .exact#[ob.slots,u.keep b ob q n hb hx]
def Un.kept(k:∀b u,h.get? b=aa u->h'.get? b=aa u):Un fs ex H H h h':=
 #[λb ob q _ _ _=>k b ob q,λb ob q _ _ _=>#[ob.slots,k b ob q],λ_ _ _ n _=>n,λb ob q _=>#[ob,k b ob q],λ_ _ q=>q,λ_ _ _ q=>q,λ_ ps q=>#[#[],by rw[q];simp]]
def Un.refl:Un fs ex H H h h:=Un.kept λ_ _ q=>q
def Un.laid(k:∀b u,h.get? b=aa u->h'.get? b=aa u)(hp:h.objs.size<=a)(hn:H a=ai):Un fs ex H (upd H a o) h h' where
 keep:=λb u q _ _ _=>k b u q
 slot:=λb u q _ _ _=>#[u.slots,k b u q]
 free:=λb u q n _=>by rw[Zj<|a9<|bo (aH q) hp];exact n
 there:=λb u q _=>#[u,k b u q]
 tups:=λb xs q=>by rw[Zj<|Ye q hn];exact q
 frzs:=λb u xs q=>by rw[Zj<|Ye q hn];exact q
 tbls:=λb ps q=>#[#[],by rw[Zj<|Ye q hn,q];simp]
def Un.write(mu:Mut (H x))(he:e=x\/H e=aa (.own x))(k:∀b u,b≠e->h.get? b=aa u->h'.get? b=aa u)(heo:∃u,h'.get? e=aa u):Un fs ex H (upd H x o) h h':=by
 have hx:∀b,H b=ai->b≠x:=λb n z=>by subst z;rw[n]at mu;exact mu
 have hb:∀b,H b=ai->b≠e:=λb n z=>by
  subst z;rcases he with r|r
  .exact hx b n r
  .rw[n]at r;cases r
 have hm:∀b u,H b=aa u->¬Mut (aa u)->b≠x:=λb u q nm z=>by subst z;rw[q]at mu;exact nm mu
 refine#[λb u q n _ _=>k b u (hb b n) q,λb u q n _ _=>#[u.slots,k b u (hb b n) q],λb u q n _=>by rw[Zj<|hx b n];exact n,λb u q _=>?_,
  λb xs q=>by rw[Zj<|hm b _ q λz=>z];exact q,λb u xs q=>by rw[Zj<|hm b _ q λz=>z];exact q,λb ps q=>#[#[],by rw[Zj<|hm b _ q λz=>z,q];simp]]
 by_cases hbe:b=e
 .subst hbe;exact heo
 .exact#[u,k b u hbe q]
noncomputable def trk(h:bZ)(H:Hp):List aE:=(aP h.objs.size).filter λa=>(H a).isSome
def Q6(h:bZ)(H:Hp):bZ:=fc h<|trk h H
def qy(h:bZ)(H:Hp):(Q6 h H).objs.size=h.objs.size:=PySem.W.hideAll_size _ _
def ZaI(e:h.get? b=aa o)(n:H b=ai):(Q6 h H).get? b=aa o:=
 gU _ e λhm=>by
  have q:=(bX.mp hm).2;rw[n]at q;simp at q
def ZcG(e:(Q6 h H).get? b=aa o):h.get? b=aa o/\H b=ai:=by
 have e':=im (trk h H) e;refine#[e',?_];cases q:H b with
 |none=>rfl
 |some x=>
  have hm:b∈trk h H:=bX.mpr #[aV.mpr<|aH e',by simp[q]]
  have z:(Q6 h H).get? b=ai:=dv (trk h H) hm;rw[z]at e;cases e
structure Mod(K:ao)(mg:bn->Option aw)(base:bZ):Prop where
 kin:K.In base
 glob:base.Ns bC mg
 blt:∃mb,base.Ns oo mb/\∀x:bn,x≠"__name__"->mb x=dW x
 nolimit:base.NoLimit
structure Cx where
 prog:bv
 w:bO
 K:ao
 mg:bn->Option aw
 base:bZ
 A:b9
 N:List bn
 s₀:ay
 H₀:Hp
 env:Env
 outer:List Env
 stack:List Env
 ex:List aE
 fn:bn->Bool
 calm:Bool
 pn:List (aE×fH)
 xe:aw->ay->Prop
noncomputable def frs(l:List Env):List aE:=l.filterMap (·.frame)
abbrev Cx.fs(X:Cx):List aE:=frs X.outer
def Vis(sc:d4)(x:bn):Prop:=sc.names.lookup x=aa .local\/sc.names.lookup x=aa .cell\/sc.names.lookup x=aa .free
def Loc(sc:d4)(x:bn):Prop:=sc.names.lookup x=aa .local\/sc.names.lookup x=aa .cell
def Look(env:Env)(h:bZ)(m:bn->Option aw)(x:bn)(u:aw):Prop:=
 (env.kindOf x=aa .local/\m x=aa u)\/((env.kindOf x=aa .cell\/env.kindOf x=aa .free)/\∃c,env.cells.lookup x=aa c/\h.IsCell c (aa u))
structure Cx.Ok(X:Cx):Prop where
 mod:Mod X.K X.mg X.base
 kind:X.env.scope.kind=.function
 glob:X.env.globals=bC
 blt:X.env.builtins=oo
 above:X.s₀.heap.objs.size<=X.env.locals
 inj:∀x y c,X.env.cells.lookup x=aa c->X.env.cells.lookup y=aa c->x=y
 has:∀x,(X.env.kindOf x=aa .cell\/X.env.kindOf x=aa .free)->∃c,X.env.cells.lookup x=aa c
 cab:∀x c,X.fn x=am->X.env.cells.lookup x=aa c->X.s₀.heap.objs.size<=c
 hd:X.calm=am->X.A.handled=ai
 frames:X.A.frames=aa X.stack
 stk:X.stack=X.outer\/(X.stack=X.env::X.outer/\X.env.frame=aa X.env.locals)
 exf:∀b∈X.ex,b≠X.env.locals/\∀x c,X.env.cells.lookup x=aa c->c≠b
 bs:∀b o,X.base.get? b=aa o->X.s₀.heap.get? b=aa o/\X.H₀ b=ai
 bsz:X.base.objs.size<=X.s₀.heap.objs.size
 noex:∀b o,X.base.get? b=aa o->b∉X.ex
 exfs:∀b∈X.ex,b∉X.fs
 funs:X.s₀.heap.FunFrames X.base X.outer
 frf:∀b∈X.fs,X.H₀ b=ai
structure Inv(X:Cx)(pq:List (aE×fH))(Z:List (Option V))(H:Hp)(s:ay):Prop where
 ok:X.Ok
 os:s.os=X.s₀.os
 bare:iY s.gens
 base:Un X.fs X.ex X.H₀ H X.s₀.heap s.heap
 loc:∃m,s.heap.Ns X.env.locals m/\∀(i:Nat)(x:bn)(v:V),X.N[i]?=aa x->Z[i]?=aa (aa v)->Vis X.env.scope x->∃u,Zx v u/\Look X.env s.heap m x u
 cell:∀x c,X.env.cells.lookup x=aa c->∃v,s.heap.IsCell c v
 free:H X.env.locals=ai
 freeC:∀x c,X.env.cells.lookup x=aa c->H c=ai
 pin:∀p∈X.pn++pq,s.heap.get? p.1=aa p.2/\H p.1=ai/\p.1≠X.env.locals/\p.1∉X.fs/\∀v,p.2.data≠.cell v
 hok:HOk X.prog X.w H s.heap
 len:Z.length=X.N.length
section
variable{X:Cx}{pq:List (aE×fH)}{Z:List (Option V)}{H H':Hp}{s:ay}{h':bZ}
def Cx.Ok.nofr(ok:X.Ok)(e:X.base.get? b=aa o):b∉X.fs:=λhb=>by
 have:=(ok.funs.mem hb).1;rw[e]at this;cases this
theorem Inv.bs(I:Inv X pq Z H s):∀b o,X.base.get? b=aa o->s.heap.get? b=aa o/\H b=ai:=λb o e=>
 #[I.base.keep b o (I.ok.bs b o e).1 (I.ok.bs b o e).2 (I.ok.nofr e)<|I.ok.noex b o e,I.base.free b o (I.ok.bs b o e).1 (I.ok.bs b o e).2<|I.ok.noex b o e]
def Inv.bk(I:Inv X pq Z H s):∀b o,X.base.get? b=aa o->s.heap.get? b=aa o:=λb o e=>(I.bs b o e).1
theorem Inv.mod(I:Inv X pq Z H s):Mod X.K X.mg X.base:=I.ok.mod
def Inv.kIn(I:Inv X pq Z H s):X.K.In s.heap:=I.ok.mod.kin.keeps I.bk
theorem Inv.lt(I:Inv X pq Z H s):X.env.locals<s.heap.objs.size:=let #[_,hn,_]:=I.loc;hn.lt
def Inv.sz(I:Inv X pq Z H s):X.s₀.heap.objs.size<=s.heap.objs.size:=cc I.ok.above<|gF I.lt
def Inv.nofs(I:Inv X pq Z H s)(h:s.heap.objs.size<=a):a∉X.fs:=λhb=>by
 obtain⟨_,o,ho,_⟩:=I.ok.funs.mem hb;exact T7 (bo (aH ho)<|cc I.sz h)<|bB _
def Inv.cne(I:Inv X pq Z H s):∀x c,X.env.cells.lookup x=aa c->c≠X.env.locals:=λx c e z=>by
 obtain⟨v,o,ho,hd⟩:=I.cell x c e;obtain⟨m,⟨o',es,ep,ho',hd',_⟩,_⟩:=I.loc;rw[z,ho']at ho;cases ho;rw[hd']at hd;cases hd
theorem Inv.funs(I:Inv X pq Z H s):s.heap.FunFrames X.base X.outer:=by
 have all:∀(l:List Env),(∀b∈frs l,b∈X.fs)->X.s₀.heap.FunFrames X.base l->s.heap.FunFrames X.base l:=by
  intro l
  induction l with
  |nil=>intro _ _;trivial
  |cons env r ih=>
   intro hs hl;obtain⟨hk,⟨L,o,hf,hn,ho,hd⟩,hr⟩:=hl;have hL:=hs L (by unfold frs;rw[cD,hf];exact ak)
   obtain⟨sl,e⟩:=I.base.slot L o ho (I.ok.frf L hL) hL λz=>I.ok.exfs L z hL
   exact#[hk,#[L,_,hf,hn,e,hd],ih (λb hb=>hs b<|by unfold frs;rw[cD,hf];exact al _ hb) hr]
 exact all X.outer (λ_ hb=>hb) I.ok.funs
theorem Inv.stack(I:Inv X pq Z H s):s.heap.FunFrames X.base X.stack:=by
 rcases I.ok.stk with e|⟨e,hf⟩
 .rw[e];exact I.funs
 .rw[e]
  obtain⟨m,hn,_⟩:=I.loc;refine .cons (by rw[I.ok.kind];decide) hf hn ?_ I.funs
  exact bZ.get?_none_of_le<|cc I.ok.bsz I.ok.above
def Inv.stkSub(I:Inv X pq Z H s):∀b∈frs X.stack,b∈X.env.locals::X.fs:=λb hb=>by
 rcases I.ok.stk with e|⟨e,hf⟩
 .rw[e]at hb;exact al _ hb
 .rw[e]at hb
  unfold frs at hb;rw[cD,hf]at hb;exact hb
def Inv.stkFree(I:Inv X pq Z H s):∀b∈frs X.stack,H b=ai:=λb hb=>by
 rcases az.mp (I.stkSub b hb)with e|hb
 .rw[e];exact I.free
 .obtain⟨_,o,ho,_⟩:=I.ok.funs.mem hb
  exact I.base.free b o ho (I.ok.frf b hb) λz=>I.ok.exfs b z hb
def Inv.step{g':Array rZ}{t':Nat}{d':Drawn}{ch:List aE}(I:Inv X pq Z H s)
  (hch:∀b∈ch,(b∈X.ex\/X.s₀.heap.objs.size<=b)/\b≠X.env.locals/\(∀x c,X.env.cells.lookup x=aa c->c≠b)/\∀p∈X.pn++pq,p.1≠b)
  (keep:∀b o,b≠X.env.locals->b∉X.fs->b∉ch->s.heap.get? b=aa o->H b=ai->h'.get? b=aa o)
  (slot:∀b o,b≠X.env.locals->b∈X.fs->b∉ch->s.heap.get? b=aa o->H b=ai->∃sl,h'.get? b=aa {o with slots:=sl})(free:∀b o,b∉ch->s.heap.get? b=aa o->H b=ai->H' b=ai)
  (there:∀b o,b∉ch->s.heap.get? b=aa o->∃o',h'.get? b=aa o')
  (tups:∀b xs,H b=aa (.tup xs)->H' b=aa (.tup xs))(frzs:∀b o u,H b=aa (.frz o u)->H' b=aa (.frz o u))(tbls:∀b ps,H b=aa (.tbl ps)->∃more,H' b=aa (.tbl<|ps++more))
  (ns:∀m,s.heap.Ns X.env.locals m->h'.Ns X.env.locals m)(hok:HOk X.prog X.w H' h')(hg:iY g') :
  Inv X pq Z H' {s with heap:=h',gens:=g',drawn:=d',toks:=t' }:=by
 have neL:∀b o,X.s₀.heap.get? b=aa o->b≠X.env.locals:=λb o e=>a9<|bo (aH e) I.ok.above
 have neC:∀b o,X.s₀.heap.get? b=aa o->b∉X.ex->b∉ch:=λb o e hx hb=>by
  rcases(hch b hb).1 with z|z
  .exact hx z
  .exact T7 (bo (aH e) z)<|bB _
 have cellK:∀x c,X.env.cells.lookup x=aa c->∀v,s.heap.IsCell c v->h'.IsCell c v:=by
  rintro x c e v ⟨o,ho,hd⟩;have nch:=λz=>(hch c z).2.2.1 x c e rfl
  by_cases hc:c∈X.fs
  .obtain⟨sl,q⟩:=slot c o (I.cne x c e) hc nch ho (I.freeC x c e)
   exact#[_,q,hd]
  .exact#[o,keep c o (I.cne x c e) hc nch ho<|I.freeC x c e,hd]
 refine#[I.ok,I.os,hg,#[λb o e n hb hx=>?_,λb o e n hb hx=>?_,λb o e n hx=>?_,λb o e hx=>?_,λb xs e=>tups b xs<|I.base.tups b xs e,λb o xs e=>frzs b o xs<|I.base.frzs b o xs e,λb ps e=>?_],?_,λx c e=>?_,?_,λx c e=>?_,λp hp=>?_,hok,I.len]
 .exact keep b o (neL b o e) hb (neC b o e hx) (I.base.keep b o e n hb hx)<|I.base.free b o e n hx
 .obtain⟨sl,e1⟩:=I.base.slot b o e n hb hx
  obtain⟨sl',e2⟩:=slot b _ (neL b o e) hb (neC b o e hx) e1<|I.base.free b o e n hx;exact#[sl',e2]
 .obtain⟨o',e1⟩:=I.base.there b o e hx
  exact free b o' (neC b o e hx) e1<|I.base.free b o e n hx
 .obtain⟨o',e1⟩:=I.base.there b o e hx
  exact there b o' (neC b o e hx) e1
 .obtain⟨m1,e1⟩:=I.base.tbls b ps e
  obtain⟨m2,e2⟩:=tbls b _ e1;exact#[m1++m2,by rw[e2,oq]]
 .obtain⟨m,hn,hl⟩:=I.loc
  refine#[m,ns m hn,λi x v e1 e2 e3=>?_]
  obtain⟨u,r,l⟩:=hl i x v e1 e2 e3;refine#[u,r,?_];rcases l with l|⟨k,c,e,z⟩
  .exact .inl l
  .exact .inr #[k,c,e,cellK x c e _ z]
 .obtain⟨v,z⟩:=I.cell x c e
  exact#[v,cellK x c e v z]
 .obtain⟨m,⟨o,_,_,ho,_⟩,_⟩:=I.loc
  exact free _ o (λz=>(hch _ z).2.1 rfl) ho I.free
 .obtain⟨v,o,ho,hd⟩:=I.cell x c e
  exact free c o (λz=>(hch c z).2.2.1 x c e rfl) ho<|I.freeC x c e
 .obtain⟨e,n,ne,nf,d⟩:=I.pin p hp
  have nch:=λz=>(hch p.1 z).2.2.2 p hp rfl
  exact#[keep p.1 p.2 ne nf nch e n,free p.1 p.2 nch e n,ne,nf,d]
def Inv.un{t':Nat}(I:Inv X pq Z H s)(u:Un X.fs [] H H' s.heap h')(hok:HOk X.prog X.w H' h'):Inv X pq Z H' {s with heap:=h',toks:=t' }:=by
 obtain⟨m,⟨o,es,ep,ho,r⟩,_⟩:=id I.loc;obtain⟨sl,hL⟩:=u.any ho I.free #[2]
 exact I.step (g':=s.gens) (d':=s.drawn) (ch:=[]) (λ_ z=>nomatch z) (λb o _ hb _ e n=>u.keep b o e n hb<|by simp) (λb o _ hb _ e n=>u.slot b o e n hb<|by simp) (λb o _ e n=>u.free b o e n<|by simp) (λb o _ e=>u.there b o e<|by simp) u.tups u.frzs u.tbls (λm' hm=>by
  obtain⟨o',es',ep',ho',r'⟩:=hm;rw[ho]at ho';cases ho';exact#[_,es',ep',hL,r']) hok I.bare
def Inv.call{g':Array rZ}{t':Nat}{d':Drawn}{ch:List aE}(I:Inv X pq Z H s)(u:Un (frs X.stack) ch H H' s.heap h')(hok:HOk X.prog X.w H' h')(hg:iY g')
  (hch:∀b∈ch,(b∈X.ex\/X.s₀.heap.objs.size<=b)/\b≠X.env.locals/\(∀x c,X.env.cells.lookup x=aa c->c≠b)/\∀p∈X.pn++pq,p.1≠b) :
  Inv X pq Z H' {s with heap:=h',gens:=g',drawn:=d',toks:=t' }:=by
 obtain⟨m,⟨o,es,ep,ho,r⟩,_⟩:=id I.loc;obtain⟨sl,hL⟩:=u.any ho I.free λz=>(hch _ z).2.1 rfl
 exact I.step hch (λb o hL hb hc e n=>u.keep b o e n (λz=>(az.mp<|I.stkSub b z).elim hL hb) hc) (λb o _ _ hc e n=>u.any e n hc) (λb o hc e n=>u.free b o e n hc) (λb o hc e=>u.there b o e hc) u.tups u.frzs u.tbls (λm' hm=>by
  obtain⟨o',es',ep',ho',r'⟩:=hm;rw[ho]at ho';cases ho';exact#[_,es',ep',hL,r']) hok hg
def Inv.turned{t':Nat}{it:aE}(I:Inv X pq Z H s)(k:∀b o,b≠it->s.heap.get? b=aa o->h'.get? b=aa o)(hn:H it=ai)(hL:it≠X.env.locals)
  (h1:it∈X.ex\/X.s₀.heap.objs.size<=it)(h2:∀x c,X.env.cells.lookup x=aa c->c≠it)(h3:∀p∈X.pn++pq,p.1≠it):Inv X pq Z H {s with heap:=h',toks:=t' }:=by
 have nit:∀b u,H b=aa u->b≠it:=λb u e z=>by rw[z,hn]at e;cases e
 refine I.step (g':=s.gens) (d':=s.drawn) (ch:=[it]) (λb hb=>?_) (λb o _ _ hc e _=>k b o (λz=>hc<|by simp[z]) e) (λb o _ _ hc e _=>#[o.slots,k b o (λz=>hc<|by simp[z]) e]) (λ_ _ _ _ n=>n)
  (λb o hc e=>#[o,k b o (λz=>hc<|by simp[z]) e]) (λ_ _ e=>e) (λ_ _ _ e=>e) (λb ps e=>#[#[],by rw[e];simp]) (λm hm=>?_) (λb u e=>?_) I.bare
 .have e:b=it:=by simpa using hb
  subst e;exact#[h1,hL,h2,h3]
 .obtain⟨o,es,ep,ho,r⟩:=hm
  exact#[o,es,ep,k _ o (Ne.symm hL) ho,r]
 .refine(I.hok b u e).stay (λc v hc q=>k c v ?_ q) (λ_ q=>q) λ_ _ q=>q
  rcases hc with z|z
  .rw[z];exact nit b u e
  .exact nit c _ z
def Inv.tok(I:Inv X pq Z H s)(t:Nat):Inv X pq Z H {s with toks:=t}:=I.un (h':=s.heap) (t':=t) Un.refl I.hok
theorem Inv.kept(I:Inv X pq Z H s)(k:∀b u,s.heap.get? b=aa u->h'.get? b=aa u):Inv X pq Z H {s with heap:=h',toks:=t' }:=I.un (Un.kept k)<|I.hok.kept k
theorem Inv.laid(I:Inv X pq Z H s)(k:∀b u,s.heap.get? b=aa u->h'.get? b=aa u)(hp:s.heap.objs.size<=a)(new:ZZ X.prog X.w (upd H a o) h' a o) :
  Inv X pq Z (upd H a o) {s with heap:=h',toks:=t' }:=I.un (Un.laid k hp<|I.hok.fresh hp)<|I.hok.laid k hp new
theorem Inv.write(I:Inv X pq Z H s)(mu:Mut (H x))(he:e=x\/H e=aa (.own x))(k:∀b u,b≠e->s.heap.get? b=aa u->h'.get? b=aa u)(heo:∃u,h'.get? e=aa u)
  (new:ZZ X.prog X.w (upd H x o) h' x o):Inv X pq Z (upd H x o) {s with heap:=h',toks:=t' }:=I.un (Un.write mu he k heo)<|I.hok.write mu he k heo new
def Inv.pins_of(I:Inv X pq Z H s)(h:∀p∈pins',s.heap.get? p.1=aa p.2/\H p.1=ai/\p.1≠X.env.locals/\p.1∉X.fs/\∀v,p.2.data≠.cell v):Inv X pins' Z H s:=
 #[I.ok,I.os,I.bare,I.base,I.loc,I.cell,I.free,I.freeC,λp hp=>(cp.mp hp).elim (λz=>I.pin p<|dy _ z)<|h p,I.hok,I.len]
def Qf{N:List bn}(hN:N.Nodup){i j:Nat}{x:bn}(a:N[i]?=aa x)(b:N[j]?=aa x):i=j:=by
 obtain⟨h1,e1⟩:=aK.mp a;obtain⟨h2,e2⟩:=aK.mp b;exact(List.getElem_inj hN).mp<|e1.trans e2.symm
def JY{M:Model}{A:b9}{E:aw->ay->Prop}{i:Nat}{x:bn}{v:V}{u:aw}{Q:Unit->ay->Prop}(I:Inv X pq Z H s)(hN:X.N.Nodup)(hi:X.N[i]?=aa x)(hx:Loc X.env.scope x)(r:Zx v u)
  (h:∀s',Inv X pq (Z.set i<|aa v) H s'->(∃a,eI a s.heap s'.heap/\(a=X.env.locals\/X.env.cells.lookup x=aa a))->Q () s')(hf:X.fn x=am\/X.env.scope.names.lookup x=aa .local:=by first|exact .inl rfl|exact .inr rfl|assumption):aW M A (storeName X.env x u) Q E s:=by
 obtain⟨m,hn,hl⟩:=id I.loc;have hcls:(X.env.scope.kind == .class||(X.env.scope.kind == .module&&X.env.locals != X.env.globals))=aj:=by rw[I.ok.kind];rfl
 have hiσ:i<Z.length:=by rw[I.len];exact(aK.mp hi).1
 have cne:=I.cne;have tracked:∀{a:aE}{h':bZ},(∃o,s.heap.get? a=aa o/\H a=ai)->eI a s.heap h'->HOk X.prog X.w H h':=λ{a h'} ha hs b ob e=>by
  obtain⟨_,_,hfree⟩:=ha;refine(I.hok b ob e).stay (λc w' hc q=>(hs.2 c ?_).trans q) (λ_ q=>q) λ_ _ q=>q
  rintro rfl
  rcases hc with rfl|hc
  .rw[hfree]at e;cases e
  .rw[hfree]at hc;cases hc
 rcases hx with hk|hk
 .refine wpAny_storeName_local hk hn (λh' hn' hs=>?_) hcls
  obtain⟨oL,_,_,hoL,_⟩:=id hn;refine h _ #[I.ok,I.os,I.bare,#[λb o e n hb hx=>?_,λb o e n hb hx=>?_,I.base.free,λb o e hx=>?_,I.base.tups,I.base.frzs,I.base.tbls],#[_,hn',λj y v' e1 e2 e3=>?_],λy c e=>?_,I.free,I.freeC,λp hp=>?_,tracked #[oL,hoL,I.free] hs,by simpa using I.len] #[_,hs,.inl rfl]
  .exact(hs.2 b<|a9<|bo (aH e) I.ok.above).trans<|I.base.keep b o e n hb hx
  .obtain⟨sl,e1⟩:=I.base.slot b o e n hb hx
   exact#[sl,(hs.2 b<|a9<|bo (aH e) I.ok.above).trans e1]
  .obtain⟨o',e1⟩:=I.base.there b o e hx
   exact#[o',(hs.2 b<|a9<|bo (aH e) I.ok.above).trans e1]
  .by_cases hj:j=i
   .subst hj
    rw[hi]at e1;cases e1;rw[bg hiσ]at e2;cases e2;exact#[u,r,.inl #[hk,by simp]]
   .rw[bf<|Ne.symm hj]at e2
    obtain⟨u',r',q⟩:=hl j y v' e1 e2 e3;refine#[u',r',?_];rcases q with⟨k,e⟩|⟨k,c,e,z⟩
    .refine .inl #[k,?_]
     have:y≠x:=λe=>hj<|Qf hN e1<|e▸hi
     simp[this,e]
    .exact .inr #[k,c,e,z.sameBut hs<|cne y c e]
  .obtain⟨w',z⟩:=I.cell y c e
   exact#[w',z.sameBut hs<|cne y c e]
  .obtain⟨e,n,ne,nf,d⟩:=I.pin p hp
   exact#[(hs.2 p.1 ne).trans e,n,ne,nf,d]
 .have hfn:X.fn x=am:=by
   rcases hf with z|z
   .exact z
   .rw[z]at hk;cases hk
  obtain⟨c,hc⟩:=I.ok.has x<|.inl hk;obtain⟨w',z⟩:=I.cell x c hc;refine wpAny_storeName_cell I.ok.kind hk hc z λh' hc' hs=>?_
  obtain⟨oc,hoc,hocd⟩:=id z;refine h {s with heap:=h' } #[I.ok,I.os,I.bare,#[λb o e n hb hx=>?_,λb o e n hb hx=>?_,I.base.free,λb o e hx=>?_,I.base.tups,I.base.frzs,I.base.tbls],#[m,hn.sameBut hs<|Ne.symm<|cne x c hc,λj y v' e1 e2 e3=>?_],λy c' e=>?_,I.free,I.freeC,λp hp=>?_,tracked #[oc,hoc,I.freeC x c hc] hs,by simpa using I.len] #[c,hs,.inr hc]
  .exact(hs.2 b<|a9<|bo (aH e)<|I.ok.cab x c hfn hc).trans<|I.base.keep b o e n hb hx
  .obtain⟨sl,e1⟩:=I.base.slot b o e n hb hx
   exact#[sl,(hs.2 b<|a9<|bo (aH e)<|I.ok.cab x c hfn hc).trans e1]
  .obtain⟨o',e1⟩:=I.base.there b o e hx
   exact#[o',(hs.2 b<|a9<|bo (aH e)<|I.ok.cab x c hfn hc).trans e1]
  .by_cases hj:j=i
   .subst hj
    rw[hi]at e1;cases e1;rw[bg hiσ]at e2;cases e2;exact#[u,r,.inr #[.inl hk,c,hc,hc']]
   .rw[bf<|Ne.symm hj]at e2
    obtain⟨u',r',q⟩:=hl j y v' e1 e2 e3;refine#[u',r',?_];rcases q with q|⟨k,c',e,z'⟩
    .exact .inl q
    .refine .inr #[k,c',e,z'.sameBut hs ?_]
     rintro rfl
     exact hj<|Qf hN e1<|I.ok.inj _ _ _ e hc▸hi
  .by_cases hcc:c'=c
   .subst hcc;exact#[_,hc']
   .obtain⟨w2,z2⟩:=I.cell y c' e
    exact#[w2,z2.sameBut hs hcc]
  .obtain⟨e,n,ne,nf,d⟩:=I.pin p hp
   refine#[(hs.2 p.1 ?_).trans e,n,ne,nf,d];intro q;rw[q,hoc]at e;have q':=au e;exact d w' (by rw[<-q'];exact hocd)
def Xq{E:aw->ay->Prop}{Q:Unit->ay->Prop}(I:Inv X pq Z H s)(hN:X.N.Nodup)(hi:X.N[i]?=aa x)(hx:Loc X.env.scope x)(r:Zx v u)
  (h:∀s',Inv X pq (Z.set i<|aa v) H s'->Q () s')(hf:X.fn x=am\/X.env.scope.names.lookup x=aa .local:=by first|exact .inl rfl|exact .inr rfl|assumption):aW M A (storeName X.env x u) Q E s:=
 JY I hN hi hx r (λs' I' _=>h s' I') hf
def Inv.call'(I:Inv X pq Z H s)(ho:s'.os=s.os)(u:Un (frs X.stack) ch H H' s.heap s'.heap)(hok:HOk X.prog X.w H' s'.heap)(hg:iY s'.gens)
  (hch:∀b∈ch,(b∈X.ex\/X.s₀.heap.objs.size<=b)/\b≠X.env.locals/\(∀x c,X.env.cells.lookup x=aa c->c≠b)/\∀p∈X.pn++pq,p.1≠b):Inv X pq Z H' s':=by
 obtain⟨h',g',d',t',o'⟩:=s';have e:=ho;subst e;exact I.call (g':=g') (t':=t') (d':=d') u hok hg hch
end
abbrev XK:=aw->Option aE->Hp->Prop
abbrev St:=List<|Option V
abbrev VK:=V->Hp->Prop
abbrev TE:=St->Hp->VK->Prop
abbrev TT:=St->Hp->(Bool->Hp->Prop)->Prop
abbrev TA:=St->Hp->(List V->Hp->Prop)->Prop
structure Ends where
 nx:St->Hp->Prop
 rt:VK
 bk:St->Hp->Prop:=λ_ _=>False
 ct:St->Hp->Prop:=λ_ _=>False
abbrev TS:=Ends->St->Hp->Prop
def EP(X:Cx)(pq:List (aE×fH))(Z:St)(Q:VK)(u:aw)(s':ay):Prop:=∃v H',Inv X pq Z H' s'/\Zx v u/\Q v H'
def TP(X:Cx)(pq:List (aE×fH))(Z:St)(Q:Bool->Hp->Prop)(b:Bool)(s':ay):Prop:=∃H',Inv X pq Z H' s'/\Q b H'
def AP(X:Cx)(pq:List (aE×fH))(Z:St)(Q:List V->Hp->Prop)(us:List aw)(s':ay):Prop:=∃vs H',Inv X pq Z H' s'/\Vals vs us/\Q vs H'
def SP(X:Cx)(pq:List (aE×fH))(D:Ends)(f:Flow)(s':ay):Prop:=
 match f with
 |.next=>∃σ' H',Inv X pq σ' H' s'/\D.nx σ' H'
 |.brk=>∃σ' H',Inv X pq σ' H' s'/\D.bk σ' H'
 |.cont=>∃σ' H',Inv X pq σ' H' s'/\D.ct σ' H'
 |.ret u=>∃v σ' H',Inv X pq σ' H' s'/\Zx v u/\D.rt v H'
def PE(X:Cx)(e:Expr)(t:TE):Prop:=
 ∀pq s Z H Q,Inv X pq Z H s->t Z H Q->aW #[9] X.A (c6 e X.env) (EP X pq Z Q) X.xe s
def PT(X:Cx)(e:Expr)(t:TT):Prop:=
 ∀pq s Z H Q,Inv X pq Z H s->t Z H Q->aW #[9] X.A (isTrue e X.env<|c6 e X.env) (TP X pq Z Q) X.xe s
def PW(X:Cx)(e:Expr)(t:TT):Prop:=
 ∀(whole:oO aw)(pq:List (aE×fH))(s:ay)(Z:St)(H:Hp)(Q:Bool->Hp->Prop),Inv X pq Z H s->t Z H Q->aW #[9] X.A (isTrue e X.env whole) (TP X pq Z Q) X.xe s
def PW.pt(h:PW X e t):PT X e t:=h _
def PA(X:Cx)(es:List Expr)(t:TA):Prop:=
 ∀(pos:gu)(pq:List (aE×fH))(s:ay)(Z:St)(H:Hp)(Q:List V->Hp->Prop),Inv X pq Z H s->t Z H Q->aW #[9] X.A (spliced<|d7 pos<|aG es X.env) (AP X pq Z Q) X.xe s
def PS(X:Cx)(st:eE)(t:TS):Prop:=
 ∀pq s Z H D,Inv X pq Z H s->t D Z H->aW #[9] X.A (exec st X.env) (SP X pq D) X.xe s
def PSs(X:Cx)(st:List eE)(t:TS):Prop:=
 ∀pq s Z H D,Inv X pq Z H s->t D Z H->aW #[9] X.A (execs st X.env) (SP X pq D) X.xe s
def thn{B:Type}{t:oO B}{Q Q':B->ay->Prop}{M:Model}{A:b9}{E:aw->ay->Prop}{s:ay}(h:aW M A t Q E s)(hQ:∀a s,Q a s->Q' a s):aW M A t Q' E s:=dH h hQ λ_ _ x=>x
def zg(i:Nat):TE:=λZ H Q=>∃v,Z[i]?=aa (aa v)/\Q v H
def tC(v:V):TE:=λ_ H Q=>Q v H
def Yq(hN:X.N[i]?=aa x)(hv:Vis X.env.scope x)(hd:(x == #[11])=aj:=by decide)(hcd:(x == #[19])=aj:=by decide):PE X (.Name x pos) (zg i):=by
 intro pq s Z H Q I h;obtain⟨v,e,h⟩:=h;obtain⟨m,hn,hl⟩:=I.loc;obtain⟨u,r,l⟩:=hl i x v hN e hv;have fin:EP X pq Z Q u s:=#[v,H,I,r,h];rcases l with⟨hk,hm⟩|⟨hk,c,hc,hcell⟩
 .exact kJ (i9 I.ok.kind hk hn hm fin) hd
 .rcases hk with hk|hk
  .exact kJ (kA I.ok.kind hk hc hcell fin) hd
  .exact kJ (nO I.ok.kind hk hc hcell fin hcd) hd
def U8{i j pos}:PE X (.Constant (.int i) j pos) (tC<|.int i):=λ_ _ _ H _ I h=>wpAny_Constant_int #[.int i,H,I.tok _,#[_,rfl],h]
def zN{b j pos}:PE X (.Constant (.bool b) j pos) (tC<|.bl b):=λ_ _ _ H _ I h=>Constant_bool #[.bl b,H,I,rfl,h]
def xQ{j pos}:PE X (.Constant .none j pos) (tC .non):=λ_ _ _ H _ I h=>Constant_none #[.non,H,I,rfl,h]
def Gf{x j pos}:PE X (.Constant (.str x) j pos) (tC<|.str x):=λ_ _ _ H _ I h=>Calls.Constant_str #[.str x,H,I.tok _,#[_,rfl],h]
def Gl(X:Cx)(x:bn):Prop:=X.env.kindOf x=aa .globalImplicit
def Vb{E:aw->ay->Prop}{Q:aw->ay->Prop}(I:Inv X pq Z H s)(hg:Gl X x)(hm:X.mg x=aa u)(h:Q u s)
  (hd:(x == #[11])=aj:=by decide):aW #[9] X.A (c6 (.Name x pos) X.env) Q E s:=
 Calls.Name_function_global I.ok.kind hg (Calls.loadGlobal_global (by rw[I.ok.glob];exact I.mod.glob.keeps I.bk) hm h) hd
def Xj{E:aw->ay->Prop}{Q:aw->ay->Prop}(I:Inv X pq Z H s)(hg:Gl X x)(hm:X.mg x=ai)(hv:dW x=aa u)(h:Q u s)
  (hn:x≠"__name__":=by decide)(hd:(x == #[11])=aj:=by decide):aW #[9] X.A (c6 (.Name x pos) X.env) Q E s:=by
 obtain⟨mb,h1,h2⟩:=I.mod.blt;exact Calls.Name_function_global I.ok.kind hg (Calls.loadGlobal_builtin (by rw[I.ok.glob];exact I.mod.glob.keeps I.bk) hm (by rw[I.ok.blt];exact h1.keeps I.bk) ((h2 x hn).trans hv) h) hd
def ZcD(hg:Gl X x)(hm:X.mg x=aa u)(r:Zx v u)(hd:(x == #[11])=aj:=by decide):PE X (.Name x pos) (tC v):=
 λ_ _ _ H _ I h=>Vb I hg hm #[v,H,I,r,h] hd
def vM(hg:Gl X x)(hm:X.mg x=ai)(hv:dW x=aa u)(r:Zx v u)(hn:x≠"__name__":=by decide)(hd:(x == #[11])=aj:=by decide):PE X (.Name x pos) (tC v):=
 λ_ _ _ H _ I h=>Xj I hg hm hv #[v,H,I,r,h] hn hd
def PC(X:Cx)(op:tJ)(a b:Expr)(t:TE):Prop:=
 ∀pq s Z H Q,Inv X pq Z H s->t Z H Q->
  aW #[9] X.A (c6 a X.env) (λv s₁=>aW #[9] X.A (c6 b X.env) (λu s₂=>aW #[9] X.A (cO op v u) (EP X pq Z Q) X.xe s₂) X.xe s₁) X.xe s
def ZbE(b:Expr)(h:op≠.In)(h2:op≠.NotIn):eM op b=aj:=by
 have e1:(op == tJ.In)=aj:=by cases op<;>first|rfl|exact T7 rfl h
 have e2:(op == tJ.NotIn)=aj:=by cases op<;>first|rfl|exact T7 rfl h2
 cases b<;>simp[eM,e1,e2]
def ZhV(ta:TE):TE:=λZ H Q=>ta Z H λx H1=>Q (.bl<|af<|x=.non) H1
def Zx.none_iff(r:Zx x v):(v == bz)=af (x=.non):=by
 cases x with|non=>cases r;rfl|bl _=>cases r;rfl|int _=>obtain⟨t,rfl⟩:=r;rfl|str _=>obtain⟨t,rfl⟩:=r;rfl|ref _=>cases r;rfl|ty _=>cases r;rfl
def ZgS{j pos'}(ha:PE X a ta):PC X .Is a (.Constant .none j pos') (ZhV ta):=by
 intro pq s Z H Q I h;refine thn (ha pq s Z H _ I h) λv s1 #[x,H1,I1,r1,q1]=>?_
 exact Constant_none<|is_none_gen #[.bl _,H1,I1,by rw[r1.none_iff];rfl,q1]
def tB(t:TE):TT:=λZ H Q=>t Z H λx H1=>∃c,x=.bl c/\Q c H1
def Zgk{op:tJ}{t:TE}(h:PC X op a b t)(h1:eM op b=aj:=by first|exact ZbE _ #[1] #[1]|rfl):PT X (.Compare a [op] [b] pos) (tB t):=by
 intro pq s Z H Q I hw;refine m5 (thn (h pq s Z H _ I hw) λv s1 h1=>thn h1 λu s2 h2=>thn h2 λc s3 #[x,H1,I1,r1,q1]=>?_) h1
 obtain⟨d,rfl,q⟩:=q1;cases r1;exact eA #[H1,I1,q]
def Ze5{e:Expr}{t:TE}(h:PE X e t)(he:∀whole,isTrue e X.env whole=(do let v <-whole;oQ e.pos;lE [v] (tw v)):=by intro _;rfl):PT X e (tB t):=by
 intro pq s Z H Q I hw;refine isTrue_plain (thn (h pq s Z H _ I hw) λv s1 #[x,H1,I1,r1,q1]=>?_)<|he _
 obtain⟨d,rfl,q⟩:=q1;cases r1;exact eA #[H1,I1,q]
def ZiA(t u:TT):TT:=λZ H Q=>t Z H λc H1=>if c=am then u Z H1 Q else Q aj H1
def tOr(t u:TT):TT:=λZ H Q=>t Z H λc H1=>if c=am then Q am H1 else u Z H1 Q
def ZhF(t:TT):TT:=λZ H Q=>t Z H λc H1=>Q (!c) H1
def ZdB(ha:PT X a tA):PW X (.BoolOp .And [a] pos) tA:=by
 intro wh pq s Z H Q I h;refine isTrue_and<|thn (ha pq s Z H Q I h) λc s1 e=>?_
 cases c with|true=>exact isTrue_and_nil e|false=>exact e
def Zb2(ha:PT X a tA):PW X (.BoolOp .Or [a] pos) tA:=by
 intro wh pq s Z H Q I h;refine isTrue_or<|thn (ha pq s Z H Q I h) λc s1 e=>?_
 cases c with|false=>exact isTrue_or_nil e|true=>exact e
def Zga(ha:PT X a tA)(hb:PW X (.BoolOp .And (b::rest) pos) tB'):PW X (.BoolOp .And (a::b::rest) pos) (ZiA tA tB'):=by
 intro wh pq s Z H Q I h;refine isTrue_and<|thn (ha pq s Z H _ I h) λc s1 #[H1,I1,q1]=>?_
 cases c with|true=>exact hb wh pq s1 Z H1 Q I1 q1|false=>exact#[H1,I1,q1]
def Zet(ha:PT X a tA)(hb:PW X (.BoolOp .Or (b::rest) pos) tB'):PW X (.BoolOp .Or (a::b::rest) pos) (tOr tA tB'):=by
 intro wh pq s Z H Q I h;refine isTrue_or<|thn (ha pq s Z H _ I h) λc s1 #[H1,I1,q1]=>?_
 cases c with|true=>exact#[H1,I1,q1]|false=>exact hb wh pq s1 Z H1 Q I1 q1
def jG(ha:PT X a tA):PT X (.UnaryOp .Not a pos) (ZhF tA):=by
 intro pq s Z H Q I h;exact isTrue_not<|ha pq s Z H (λc H1=>Q (!c) H1) I h
def Zhm(ta tb:TE):TE:=λZ H Q=>ta Z H λx H1=>∃c,x=.bl c/\if c=am then tb Z H1 Q else Q (.bl aj) H1
def ZfL{op}{t:TE}(h:PE X a t):PE X (.BoolOp op [a] pos) t:=λpq s Z H Q I hw=>BoolOp_one<|h pq s Z H Q I hw
def ZgQ(ha:PE X a ta)(hb:PE X (.BoolOp .And (b::rest) pos) tb):PE X (.BoolOp .And (a::b::rest) pos) (Zhm ta tb):=by
 intro pq s Z H Q I h;refine BoolOp_and<|thn (ha pq s Z H _ I h) λv s1 #[x,H1,I1,r1,q1]=>?_
 obtain⟨c,rfl,q1⟩:=q1;cases r1;refine eA ?_;cases c with|true=>exact hb pq s1 Z H1 Q I1 q1|false=>exact#[.bl aj,H1,I1,rfl,q1]
def SqL(K:ao)(H:Hp)(a:aE)(xs:List V):Prop:=
 Rd H a (.lst xs)\/
  ∃(o:fH)(its:Array aw)(n:Nat),K.lookup a=aa o/\o.cls=.type "list"/\o.dict=ai/\o.data=.seq its n/\its.size<=ba/\Vals xs its.toList
def SqT(K:ao)(H:Hp)(a:aE)(xs:List V):Prop:=
 Rd H a (.tup xs)\/
  ∃(o:fH)(its:Array aw)(n:Nat),K.lookup a=aa o/\o.cls=.type "tuple"/\o.data=.seq its n/\its.size<=ba/\Vals xs its.toList
noncomputable def Zir:aw->Option V
 |.none=>aa .non
 |.bool b=>aa<|.bl b
 |.int i _=>aa<|.int i
 |.str x _=>aa<|.str x
 |.ref a=>aa<|.ref a
 |.type n=>aa<|.ty n
 |_=>ai
def Zx.abs(r:Zx x u):Zir u=aa x:=by
 cases x with|non=>cases r;rfl|bl _=>cases r;rfl|int _=>obtain⟨t,rfl⟩:=r;rfl|str _=>obtain⟨t,rfl⟩:=r;rfl|ref _=>cases r;rfl|ty _=>cases r;rfl
def Zx.inj{x y:V}{u:aw}(r:Zx x u)(q:Zx y u):x=y:=au<|r.abs.symm.trans q.abs
theorem Vals.inj:∀{xs ys:List V}{us:List aw},Vals xs us->Vals ys us->xs=ys
 |_,_,_,.nil,.nil=>rfl
 |_,_,_,.cons r t,.cons r' t'=>by rw[r.inj r',Vals.inj t t']
def SqL.of{K:ao}(h:H a=aa (.lst xs)):SqL K H a xs:=.inl<|.inl h
def SqT.of{K:ao}(h:H a=aa (.tup xs)):SqT K H a xs:=.inl<|.inl h
def Inv.list(I:Inv X pq Z H s)(h:SqL X.K H a xs):∃its:List aw,Vals xs its/\PlainL s.heap a its.toArray/\xs.length<=ba:=by
 rcases h with h|⟨o,its,n,hk,hc,hd,hs,hz,r⟩
 .obtain⟨z,its,n,r,e⟩:=h.ok I.hok
  exact#[its,r,#[_,n,e,rfl,rfl,rfl],z]
 .refine#[its.toList,r,#[o,n,I.kIn a o hk,hc,hd,by simpa using hs],?_]
  have e:=r.length;simp only[aJ]at e;lia
def Inv.tuple(I:Inv X pq Z H s)(h:SqT X.K H a xs):∃its:List aw,Vals xs its/\oP s.heap a its.toArray/\xs.length<=ba:=by
 rcases h with h|⟨o,its,n,hk,hc,hs,hz,r⟩
 .obtain⟨z,its,r,p⟩:=h.ok I.hok
  exact#[its,r,p,z]
 .refine#[its.toList,r,#[o,I.kIn a o hk,hc,n,by simpa using hs],?_]
  have e:=r.length;simp only[aJ]at e;lia
def Inv.list_inj(I:Inv X pq Z H s)(h:SqL X.K H a xs)(h':SqL X.K H a ys):xs=ys:=by
 obtain⟨its,r,⟨o,n,e,_,_,d⟩,_⟩:=I.list h;obtain⟨its',r',⟨o',n',e',_,_,d'⟩,_⟩:=I.list h';rw[e]at e';cases e';rw[d]at d';injection d' with d1 _
 have:its=its':=by simpa using congrArg mI d1
 subst this;exact r.inj r'
def Inv.tuple_inj(I:Inv X pq Z H s)(h:SqT X.K H a xs)(h':SqT X.K H a ys):xs=ys:=by
 obtain⟨its,r,⟨o,e,_,n,d⟩,_⟩:=I.tuple h;obtain⟨its',r',⟨o',e',_,n',d'⟩,_⟩:=I.tuple h';rw[e]at e';cases e';rw[d]at d';injection d' with d1 _
 have:its=its':=by simpa using congrArg mI d1
 subst this;exact r.inj r'
section
variable{X:Cx}{st:eE}{rest:List eE}{t u:TS}{e:Expr}{te:TE}{pos:gu}
def jr:TS:=λD Z H=>D.nx Z H
def zu(t u:TS):TS:=λD Z H=>t {D with nx:=u D} Z H
def GK:PSs X [] jr:=λ_ _ Z H _ I h=>fZ #[Z,H,I,h]
def Yo(h1:PS X st t)(h2:PSs X rest u):PSs X (st::rest) (zu t u):=by
 intro pq s Z H D I h;refine gG<|thn (h1 pq s Z H {D with nx:=u D} I h) λf s1 q=>?_
 cases f with
 |next=>
  obtain⟨σ',H',I',q⟩:=q;exact h2 pq s1 σ' H' D I' q
 |ret v=>exact q
 |brk=>exact q
 |cont=>exact q
def Vx(h1:PS X st t):PSs X [st] t:=by
 intro pq s Z H D I h;refine gG<|thn (h1 pq s Z H D I h) λf s1 q=>?_
 cases f with|next=>exact fZ q|ret v=>exact q|brk=>exact q|cont=>exact q
def Inv.quiet(I:Inv X pq Z H s):interactive X.env=aj:=by simp[interactive,I.ok.kind]
def ZeK(te:TE):TS:=λD Z H=>te Z H λ_ H1=>D.nx Z H1
def zh(he:PE X e te)(hs:fe e ai pos.line X.env=cS aj:=by rfl):PS X (.Expr e pos) (ZeK te):=by
 intro pq s Z H D I h;exact wpAny_Expr_any (thn (he pq s Z H _ I h)<|by rintro v s1 ⟨x,H1,I1,r1,q1⟩;exact #[Z,H1,I1,q1]) I.quiet hs
def Za5(te:TE):TS:=λD Z H=>te Z H D.rt
def VX(he:PE X e te):PS X (.Return (aa e) pos) (Za5 te):=by
 intro pq s Z H D I h;exact wpAny_Return_some<|thn (he pq s Z H _ I h)<|by rintro v s1 ⟨x,H1,I1,r1,q1⟩;exact #[x,Z,H1,I1,r1,q1]
def Zgc(c:TT)(t u:TS):TS:=λD Z H=>c Z H λb H1=>if b=am then t D Z H1 else u D Z H1
def Zaz{c:Expr}{a b:List eE}{tc:TT}(hc:PT X c tc)(ha:PSs X a t)(hb:PSs X b u):PS X (.If c a b pos) (Zgc tc t u):=by
 intro pq s Z H D I h;refine wpAny_If<|thn (hc pq s Z H _ I h) λd s1 #[H1,I1,q1]=>?_
 cases d with|true=>exact ha pq s1 Z H1 D I1 q1|false=>exact hb pq s1 Z H1 D I1 q1
end
abbrev TG:=V->St->Hp->(St->Hp->Prop)->Prop
abbrev TGs:=List V->St->Hp->(St->Hp->Prop)->Prop
def PG(X:Cx)(target:Expr)(t:TG):Prop:=
 ∀pq s Z H v u Q,Inv X pq Z H s->Zx v u->t v Z H Q->
  aW #[9] X.A (assign target X.env u) (λ_ s'=>∃σ' H',Inv X pq σ' H' s'/\Q σ' H') X.xe s
def PGs(X:Cx)(ts:List Expr)(t:TGs):Prop:=
 ∀pq s Z H vs us Q,Inv X pq Z H s->Vals vs us->t vs Z H Q->
  aW #[9] X.A (nZ ((cI ts X.env).map (·.2)) us) (λ_ s'=>∃σ' H',Inv X pq σ' H' s'/\Q σ' H') X.xe s
abbrev TSet:=V->V->V->Hp->(Hp->Prop)->Prop
def PSet(X:Cx)(t:TSet):Prop:=
 ∀pq s Z H o i v ov iv u Q,Inv X pq Z H s->Zx o ov->Zx i iv->Zx v u->t o i v H Q->
  aW #[9] X.A (tx ov iv u) (λ_ s'=>∃H',Inv X pq Z H' s'/\Q H') X.xe s
abbrev TIp:=V->V->Hp->VK->Prop
def PIp(X:Cx)(op:sd)(t:TIp):Prop:=
 ∀pq s Z H x y v u Q,Inv X pq Z H s->Zx x v->Zx y u->t x y H Q->
  aW #[9] X.A (inplaceOp op v u) (EP X pq Z Q) X.xe s
def QN(i:Nat):TG:=λv Z H Q=>Q (Z.set i<|aa v) H
def zc(hN:X.N.Nodup)(hi:X.N[i]?=aa x)(hx:Loc X.env.scope x)(hf:X.fn x=am\/X.env.scope.names.lookup x=aa .local:=by first|exact .inl rfl|exact .inr rfl|assumption):PG X (.Name x pos) (QN i):=by
 intro pq s Z H v u Q I r h;exact oR<|Xq I hN hi hx r (λs' I'=>#[_,H,I',h]) hf
def Zim:TGs:=λvs Z H Q=>vs=[]/\Q Z H
def Zha(t:TG)(u:TGs):TGs:=λvs Z H Q=>∃v r,vs=v::r/\t v Z H λσ' H'=>u r σ' H' Q
def Zcv:PGs X [] Zim:=by
 intro pq s Z H vs us Q I r h;obtain⟨e,h⟩:=h;subst e;cases r;exact oS #[Z,H,I,h]
def Za1{e:Expr}{es:List Expr}{t:TG}{u:TGs}(h1:PG X e t)(h2:PGs X es u)
  (hs:(cI (e::es) X.env).map (·.2)=assign e X.env::(cI es X.env).map (·.2):=by rfl):PGs X (e::es) (Zha t u):=by
 intro pq s Z H vs us Q I r h;obtain⟨v,vr,e1,h⟩:=h;subst e1;cases r with
 |cons r rr=>
  rw[hs];refine kK<|thn (h1 pq s Z H _ _ _ I r h) λ_ s1 #[σ1,H1,I1,q1]=>?_
  exact h2 pq s1 σ1 H1 _ _ Q I1 rr q1
def Zie(K:ao)(n:Nat)(t:TGs):TG:=λv Z H Q=>∃a xs,v=.ref a/\SqT K H a xs/\xs.length=n/\t xs Z H Q
def Zgq(hc:X.calm=am)(h:PGs X es t)
  (hn:(cI es X.env).length=n:=by rfl)(hst:(cI es X.env).findIdx? (·.1)=ai:=by rfl):PG X (.Tuple es k pos) (Zie X.K n t):=by
 intro pq s Z H v u Q I r hw;obtain⟨a,xs,e1,hq,hl,hw⟩:=hw;subst e1;cases r;obtain⟨its,rv,ht,hz⟩:=I.tuple hq;refine assign_Tuple_tuple (I.ok.hd hc) ht (by simp[hn,<-hl,rv.length]) hst λh' hx=>?_
 have I1:=I.kept (t':=s.toks) λb o e=>hx b o (a9<|aH e) e
 exact h pq _ Z H xs _ Q I1 (by simpa using rv) hw
def Ziw(to ti:TE)(t:TSet):TG:=λv Z H Q=>to Z H λo H1=>ti Z H1 λi H2=>t o i v H2 λH3=>Q Z H3
def Zgr{o i:Expr}{to ti:TE}{t:TSet}(ho:PE X o to)(hi:PE X i ti)(hs:PSet X t)
  (ha:∀v,assign (.Subscript o i pos) X.env v=(do
   let ov <-lE [v] (c6 o X.env)
   let iv <-lE [v,ov] (c6 i X.env)
   oQ pos
   lE [v,ov,iv] (tx ov iv v)
   release [v,ov,iv] []):=by intro _;rfl):PG X (.Subscript o i pos) (Ziw to ti t):=by
 intro pq s Z H v u Q I r h;rw[ha];refine ae<|bP<|thn (ho pq s Z H _ I h) λov s1 #[x,H1,I1,r1,q1]=>?_
 refine ae<|bP<|thn (hi pq s1 Z H1 _ I1 q1) λiv s2 #[y,H2,I2,r2,q2]=>?_
 refine ae<|gW<|ae<|bP<|thn (hs pq s2 Z H2 x y v ov iv u _ I2 r1 r2 r q2) λ_ s3 #[H3,I3,q3]=>?_
 exact wpAny_release #[Z,H3,I3,q3]
def xU(te:TE)(g:TG):TS:=λD Z H=>te Z H λx H1=>g x Z H1 D.nx
def VS{tg e:Expr}{te:TE}{g:TG}(he:PE X e te)(hg:PG X tg g)(hs:eg [tg] e pos.line X.env=cS aj:=by rfl)(hw:ei [tg] e X.env=cS ai:=by rfl)
  (h1:(cI [tg] X.env).map (·.2)=[assign tg X.env]:=by rfl):PS X (.Assign [tg] e pos) (xU te g):=by
 intro pq s Z H D I h;refine wpAny_Assign_stores (thn (he pq s Z H _ I h) λv s1 #[x,H1,I1,r1,q1]=>?_) hs hw
 rw[h1];exact thn (hg pq s1 Z H1 x v _ I1 r1 q1) λ_ s2 q=>q
def VG{i:Nat}{x:bn}{e:Expr}{te:TE}{pos':gu}(hN:X.N.Nodup)(hi:X.N[i]?=aa x)(hx:Loc X.env.scope x)(he:PE X e te)(hs:fe e (aa<|.Name x pos') pos.line X.env=cS aj:=by rfl)(hf:X.fn x=am\/X.env.scope.names.lookup x=aa .local:=by first|exact .inl rfl|exact .inr rfl|assumption) :
  PS X (.Assign [.Name x pos'] e pos) (xU te<|QN i):=by
 intro pq s Z H D I h;refine wpAny_Assign_Name (thn (he pq s Z H _ I h) λv s1 #[y,H1,I1,r1,q1]=>?_) hs
 exact Xq I1 hN hi hx r1 (λs2 I2=>#[_,H1,I2,q1]) hf
def Zit(i j:Nat)(ta:TA):TS:=λD Z H=>ta Z H λvs H1=>∃v w,vs=[v,w]/\D.nx ((Z.set i<|aa v).set j<|aa w) H1
def ZgC{i j:Nat}{x y:bn}{a b:Expr}{ta:TA}{px py pt:gu}{kt k2 pt2}(hc:X.calm=am)(hN:X.N.Nodup)(hi:X.N[i]?=aa x)(hj:X.N[j]?=aa y)(hij:i≠j)
  (hx:X.env.scope.names.lookup x=aa .local)(hy:X.env.scope.names.lookup y=aa .local)(ha:PA X [a,b] ta)
  (hw:ei [.Tuple [.Name x px,.Name y py] kt pt] (.Tuple [a,b] k2 pt2) X.env=cS (aa [x,y]))
  (hs:eg [.Tuple [.Name x px,.Name y py] kt pt] (.Tuple [a,b] k2 pt2) pos.line X.env=cS aj:=by rfl) :
  PS X (.Assign [.Tuple [.Name x px,.Name y py] kt pt] (.Tuple [a,b] k2 pt2) pos) (Zit i j ta):=by
 intro pq s Z H D I h;rw[exec_Assign_arm];refine ae<|gW ?_;rw[hs];refine ae<|ax ?_;rw[T8 #[1]]
 refine ae<|Tuple_<|thn (ha _ pq s Z H _ I h) λus s1 #[vs,H1,I1,r1,q1]=>?_
 obtain⟨v,w,e1,q1⟩:=q1;subst e1;obtain⟨u1,u2,rfl,rv,rw'⟩:∃u1 u2,us=[u1,u2]/\Zx v u1/\Zx w u2:=by
  cases r1 with
  |cons p q=>
   cases q with
   |cons p' q'=>
    cases q';exact#[_,_,rfl,p,p']
 refine bw ?_ (by show 2<=ba;decide)
 have I2:Inv X pq Z H1 {s1 with heap:=s1.heap.push {cls:=.type "tuple",data:=.seq [u1,u2].toArray}}:=I1.kept (t':=s1.toks) λb o e=>aq _ e
 rw[hw];refine ae<|ax ?_;show aW #[9] X.A (do oU "assign.swapped-stores";let items <-unpackItems (.ref s1.heap.objs.size) 2 ai;nZ [λv=>bindName X.env y v,λv=>bindName X.env x v] items.reverse;cS Flow.next) _ _ _
 refine ae<|eQ<|ae<|unpackItems_tuple (items:=[u1,u2].toArray) (I.ok.hd hc) (iR s1.heap _) λh' hx'=>?_
 have I3:=I2.kept (h':=h') (t':=s1.toks) λb o e=>hx' b o (a9<|aH e) e
 refine ae<|kK<|wpAny_bindName<|Xq I3 hN hj (.inl hy) rw' (λs2 I4=>?_)<|.inr hy
 refine kK<|wpAny_bindName<|Xq I4 hN hi (.inl hx) rv (λs3 I5=>oS<|ax ?_)<|.inr hx
 rw[List.set_comm _ _<|Ne.symm hij]at I5;exact#[_,H1,I5,q1]
def Zil(i:Nat)(te:TE)(ti:TIp):TS:=λD Z H=>∃x,Z[i]?=aa (aa x)/\te Z H λy H1=>ti x y H1 λz H2=>D.nx (Z.set i<|aa z) H2
def Zfv{i:Nat}{x:bn}{e:Expr}{te:TE}{op:sd}{ti:TIp}{pos':gu}(hN:X.N.Nodup)(hi:X.N[i]?=aa x)(hx:Loc X.env.scope x)(he:PE X e te)(ho:PIp X op ti)(hf:X.fn x=am\/X.env.scope.names.lookup x=aa .local:=by first|exact .inl rfl|exact .inr rfl|assumption) :
  PS X (.AugAssign (.Name x pos') op e pos) (Zil i te ti):=by
 intro pq s Z H D I h;obtain⟨v,e1,h⟩:=h;obtain⟨m,hn,hl⟩:=I.loc;have vis:Vis X.env.scope x:=by rcases hx with k|k;exact .inl k;exact .inr<|.inl k
 obtain⟨u,r,l⟩:=hl i x v hi e1 vis;refine wpAny_AugAssign_Name ?_;have go:aW #[9] X.A (c6 e X.env) (λw s₂=>aW #[9] X.A (inplaceOp op u w) (λr s₃=>aW #[9] X.A (storeName X.env x r) (λ_=>SP X pq D .next) X.xe s₃) X.xe s₂) X.xe s:=by
  refine thn (he pq s Z H _ I h) λw s1 #[y,H1,I1,r1,q1]=>?_
  refine thn (ho pq s1 Z H1 v y u w _ I1 r r1 q1) λz s2 #[zv,H2,I2,r2,q2]=>?_
  exact Xq I2 hN hi hx r2 (λs3 I3=>#[_,H2,I3,q2]) hf
 rcases l with⟨hk,hm⟩|⟨hk,c,hc,hcell⟩
 .exact i9 I.ok.kind hk hn hm go
 .rcases hk with hk|hk
  .exact kA I.ok.kind hk hc hcell go
  .rcases hx with k|k
   .have:X.env.scope.names.lookup x=aa .free:=hk
    rw[k]at this;cases this
   .have:X.env.scope.names.lookup x=aa .free:=hk
    rw[k]at this;cases this
section
variable{X:Cx}{pos:gu}
def ZfU(c:TT)(tb:TS):TS:=λD Z H=>∃W:Nat->St->Hp->Prop,(∃m,W m Z H)/\∀m Z H,W m Z H->
 c Z H λb H1=>if b=am then ∃N:St->Hp->Prop,(∀σ' H',N σ' H'->∃m',m'<m/\W m' σ' H')/\tb {D with nx:=N,ct:=N,bk:=D.nx} Z H1 else D.nx Z H1
def ZaE{c:Expr}{body:List eE}{tc:TT}{tb:TS}(hp:nL #[9] X.A X.env X.xe)(hc:PT X c tc)(hb:PSs X body tb):PS X (.While c body [] pos) (ZfU tc tb):=by
 intro pq s Z H D I h;obtain⟨W,⟨m0,w0⟩,turn⟩:=h;refine wpAny_While<|codeAny_whileLoop (λn s'=>∃σ' H',Inv X pq σ' H' s'/\W n σ' H') ?_ m0 #[Z,H,I,w0]
 rintro n s1 ⟨σ1,H1,I1,w1⟩
 refine fg hp<|thn (hc pq s1 σ1 H1 _ I1<|turn n σ1 H1 w1) λb s2 #[H2,I2,q2]=>?_
 cases b with
 |true=>
  obtain⟨N,hN,q2⟩:=q2;rw[T9 rfl];refine fg hp<|thn (hb pq s2 σ1 H2 _ I2 q2) λf s3 q3=>?_
  cases f with
  |next=>
   obtain⟨σ3,H3,I3,n3⟩:=q3;obtain⟨m',hm,w3⟩:=hN σ3 H3 n3;exact#[m',hm,σ3,H3,I3,w3]
  |cont=>
   obtain⟨σ3,H3,I3,n3⟩:=q3;obtain⟨m',hm,w3⟩:=hN σ3 H3 n3;exact#[m',hm,σ3,H3,I3,w3]
  |brk=>exact q3
  |ret v=>exact q3
 |false=>
  rw[T8 aR];exact fZ #[σ1,H2,I2,q2]
end
structure It where
 go:Nat->Hp->Prop
 yld:Nat->Hp->V->Hp->Prop
 stop:Nat->Hp->Prop
def VQ(X:Cx)(pq:List (aE×fH))(H:Hp)(b:aE):Prop:=
 H b=ai/\b≠X.env.locals/\b∉X.fs/\(b∈X.ex\/X.s₀.heap.objs.size<=b)/\(∀x c,X.env.cells.lookup x=aa c->c≠b)/\∀p∈X.pn++pq,p.1≠b
def Inv.fpOk(I:Inv X pq Z H s)(hb:s.heap.objs.size<=b)(hn:H' b=ai):VQ X pq H' b:=by
 refine#[hn,eJ<|bo I.lt hb,I.nofs hb,.inr<|cc I.sz hb,λx c e z=>?_,λp hp z=>?_]
 .obtain⟨v,q⟩:=I.cell x c e
  exact T7 (bo q.lt<|by rw[z];exact hb)<|bB _
 .exact T7 (bo (aH (I.pin p hp).1)<|by rw[z];exact hb)<|bB _
structure Turn(P:bv)(w:bO)(K:ao)(tg:Expr)(J:It)(fp:List aE)(it:aE)(tn:Nat->bZ->Prop):Prop where
 mem:it∈fp
 obj:∀i h,tn i h->∀b∈fp,∃o,h.get? b=aa o/\∀v,o.data≠.cell v
 keep:∀i h h',tn i h->(∀b∈fp,∀o,h.get? b=aa o->h'.get? b=aa o)->tn i h'
 item:∀(X:Cx),X.prog=P->X.w=w->X.K=K->X.calm=am->∀(i:Nat)(pq:List (aE×fH))(s:ay)(Z:St)(H:Hp)(E:aw->ay->Prop),Inv X pq Z H s->(∀b∈fp,VQ X pq H b)->tn i s.heap->J.go i H->
  aW (aS P w) X.A (kl<|.ref it) (λr s1=>∃u,r=aa u/\
   aW (aS P w) X.A (mW tg (.ref it) u) (λ_ s2=>∃x H',Inv X pq Z H' s2/\Zx x u/\J.yld i H x H'/\tn (i+1) s2.heap/\∀b∈fp,H' b=ai) E s1) E s
 done:∀(X:Cx),X.prog=P->X.w=w->X.K=K->X.calm=am->∀(i:Nat)(pq:List (aE×fH))(s:ay)(Z:St)(H:Hp)(E:aw->ay->Prop),Inv X pq Z H s->(∀b∈fp,VQ X pq H b)->tn i s.heap->J.stop i H->
  aW (aS P w) X.A (kl<|.ref it) (λr s1=>r=ai/\Inv X pq Z H s1) E s
 self:∀(A:b9)(i:Nat)(s:ay)(Q:aw->ay->Prop)(E:aw->ay->Prop),tn i s.heap->Q (.ref it) s->aW (aS P w) A (ot<|.ref it) Q E s
abbrev TI:=St->Hp->(It->Hp->Prop)->Prop
def PIE(X:Cx)(pq:List (aE×fH))(Z:St)(tg:Expr)(R:It->Hp->Prop)(itv:aw)(s2:ay):Prop:=
 ∃(it:aE)(fp:List aE)(tn:Nat->bZ->Prop)(J:It)(H':Hp),itv=.ref it/\Inv X pq Z H' s2/\Turn X.prog X.w X.K tg J fp it tn/\tn 0 s2.heap/\(∀b∈fp,VQ X pq H' b)/\R J H'
def PI(X:Cx)(tg iter:Expr)(wi:TI):Prop:=
 ∀pq s Z H R,Inv X pq Z H s->wi Z H R->
  aW #[9] X.A (c6 iter X.env) (λv s1=>aW #[9] X.A (ot v) (PIE X pq Z tg R) X.xe s1) X.xe s
def Zb8{E:aw->ay->Prop}{Q:Unit->ay->Prop}(ho:s.heap.get? it=aa o)(hc:o.cls=.type n)(hd:o.data=.fields vs)
  (hn:["enumerate","zip","dict_itemiterator","dict_reverseitemiterator","odict_iterator","itertools.zip_longest","itertools.pairwise"].contains n=aj)(hQ:Q () s):aW M A (mW tg (.ref it) u) Q E s:=by
 cases tg<;>first
  |exact ax hQ
  |(cases u<;>first
    |exact ax hQ
    |(refine ae (kL ho ?_)
      rw[hc,hd];show aW M A (if(["enumerate","zip","dict_itemiterator","dict_reverseitemiterator","odict_iterator","itertools.zip_longest","itertools.pairwise"].contains n&&vs[0]? == aa (fC _))=am then _ else _) Q E s
      rw[T8 (by intro h;rw[hn,nr]at h;cases h)]
      exact ax hQ))
noncomputable def Itl(K:ao)(a:aE):It:=
 #[λi H=>∃xs x,SqL K H a xs/\xs[i]?=aa x,λi H x H'=>H'=H/\∀xs,SqL K H a xs->xs[i]?=aa x,λi H=>∃xs,SqL K H a xs/\xs.length<=i]
noncomputable def Itt(K:ao)(a:aE):It:=
 #[λi H=>∃xs x,SqT K H a xs/\xs[i]?=aa x,λi H x H'=>H'=H/\∀xs,SqT K H a xs->xs[i]?=aa x,λi H=>∃xs,SqT K H a xs/\xs.length<=i]
noncomputable def Itr(lo:Int)(n:Nat):It:=#[λi _=>i<n,λi H x H'=>H'=H/\x=.int (lo+i),λi _=>n<=i]
def uH{P:bv}{w:bO}{K:ao}{tg:Expr}(a it:aE):Turn P w K tg (Itl K a) [it] it (λi h=>h.IsListIter it a i) where
 mem:=by simp
 obj:=λi h st b hb=>by
  have e:b=it:=by simpa using hb
  subst e;obtain⟨o,e,c,d⟩:=st;exact#[o,e,λv z=>by rw[d]at z;cases z]
 keep:=λi h h' st k=>st.at λo e=>k it #[2] o e
 item:=by
  intro X hP hw hK hc i pq s Z H E I hf st hg;subst hP hw hK;obtain⟨xs,x,hq,hx⟩:=hg;obtain⟨its,rv,p,hz⟩:=I.list hq;obtain⟨u,hu,ru⟩:=rv.get hx;obtain⟨f0,f1,f2,f3,f4,f5⟩:=hf it #[2]
  refine mJ st p.isList (by simpa using hu) λh' st' sb=>?_
  have I1:=I.turned (t':=s.toks) (λb o hb e=>(sb.2 b hb).trans e) f0 f1 f3 f4 f5
  obtain⟨o,e,c,d⟩:=id st';exact#[u,rfl,Zb8 e c d #[1] #[x,H,I1,ru,#[rfl,λys hy=>by rw[I.list_inj hy hq];exact hx],st',λb hb=>(hf b hb).1]]
 done:=by
  intro X hP hw hK hc i pq s Z H E I hf st hg;subst hP hw hK;obtain⟨xs,hq,hx⟩:=hg;obtain⟨its,rv,p,hz⟩:=I.list hq;obtain⟨f0,f1,f2,f3,f4,f5⟩:=hf it #[2]
  have hl:=rv.length;exact m7 (I.ok.hd hc) st p.isList (by simp;lia) λh' eb=>#[rfl,I.turned (t':=s.toks) (λb o hb e=>eb b o hb e) f0 f1 f3 f4 f5]
 self:=λ_ _ _ _ _ st h=>wpAny_pyIter_listiter st h
def wo{P:bv}{w:bO}{K:ao}{tg:Expr}(a it:aE):Turn P w K tg (Itt K a) [it] it (λi h=>h.IsTupleIter it a i) where
 mem:=by simp
 obj:=λi h st b hb=>by
  have e:b=it:=by simpa using hb
  subst e;obtain⟨o,e,c,d⟩:=st;exact#[o,e,λv z=>by rw[d]at z;cases z]
 keep:=λi h h' st k=>st.at λo e=>k it #[2] o e
 item:=by
  intro X hP hw hK hc i pq s Z H E I hf st hg;subst hP hw hK;obtain⟨xs,x,hq,hx⟩:=hg;obtain⟨its,rv,p,hz⟩:=I.tuple hq;obtain⟨u,hu,ru⟩:=rv.get hx;obtain⟨f0,f1,f2,f3,f4,f5⟩:=hf it #[2]
  refine wpAny_pyNext_tuple_item st (p) (by simpa using hu) λh' st' sb=>?_
  have I1:=I.turned (t':=s.toks) (λb o hb e=>(sb.2 b hb).trans e) f0 f1 f3 f4 f5
  obtain⟨o,e,c,d⟩:=id st';exact#[u,rfl,Zb8 e c d #[1] #[x,H,I1,ru,#[rfl,λys hy=>by rw[I.tuple_inj hy hq];exact hx],st',λb hb=>(hf b hb).1]]
 done:=by
  intro X hP hw hK hc i pq s Z H E I hf st hg;subst hP hw hK;obtain⟨xs,hq,hx⟩:=hg;obtain⟨its,rv,p,hz⟩:=I.tuple hq;obtain⟨f0,f1,f2,f3,f4,f5⟩:=hf it #[2]
  have hl:=rv.length;exact wpAny_pyNext_tuple_end (I.ok.hd hc) st (p) (by simp;lia) λh' eb=>#[rfl,I.turned (t':=s.toks) (λb o hb e=>eb b o hb e) f0 f1 f3 f4 f5]
 self:=λ_ _ _ _ _ st h=>wpAny_pyIter_tupleiter st h
def wg{P:bv}{w:bO}{K:ao}{tg:Expr}(it:aE)(lo:Int)(n:Nat):Turn P w K tg (Itr lo n) [it] it (λi h=>IsRangeIter h it (lo+(i:Nat)*1) ((n:Int)-(i:Nat)) 1) where
 mem:=by simp
 obj:=λi h st b hb=>by
  have e:b=it:=by simpa using hb
  subst e;exact#[_,st,λv z=>by
   have z':=z;cases z']
 keep:=λi h h' st k=>k it #[2] _ st
 item:=by
  intro X hP hw hK hc i pq s Z H E I hf st hg;subst hP hw hK;obtain⟨f0,f1,f2,f3,f4,f5⟩:=hf it #[2]
  have W:=Walks.range (prog:=X.prog) (w:=X.w) (I.ok.hd hc) it lo 1 n;refine W.item i s _ _ hg st λv h' tk hv st' kk=>?_
  obtain⟨t,rfl⟩:=hv;have I1:Inv X pq Z H {s with heap:=h',toks:=tk}:=I.turned (λb o hb e=>kk b o (by simpa using hb) e) f0 f1 f3 f4 f5
  refine#[_,rfl,Zb8 st' rfl rfl #[1] #[.int<|lo+i,H,I1,#[t,?_],#[rfl,rfl],st',λb hb=>(hf b hb).1]]
  rw[Int.mul_one]
 done:=by
  intro X hP hw hK hc i pq s Z H E I hf st hg;subst hP hw hK;obtain⟨f0,f1,f2,f3,f4,f5⟩:=hf it #[2]
  exact wpAny_pyNext_range_end (I.ok.hd hc) st (by have:n<=i:=hg;lia) λh' eb=>#[rfl,I.turned (t':=s.toks) (λb o hb e=>eb b o hb e) f0 f1 f3 f4 f5]
 self:=λ_ _ _ _ _ st h=>wpAny_pyIter_rangeiter st h
section
variable{X:Cx}{tg:Expr}
theorem zy{pq:List (aE×fH)}{Z:St}{H:Hp}{s:ay}{R:It->Hp->Prop}{E:aw->ay->Prop}{lo hi:Int}{t u v:sW}{tk:Nat}(I:Inv X pq Z H s)(h1:-(2^62)<=lo)(h2:lo<2^62)(h3:-(2^62)<=hi)(h4:hi<2^62)
  (q:R (Itr lo (hi-lo).toNat) H):aW #[9] X.A (ot<|.ref s.heap.objs.size) (PIE X pq Z tg R) E {s with heap:=s.heap.push {cls:=.type "range",data:=.fields [.int lo t,.int hi u,.int 1 v].toArray},toks:=tk}:=by
 refine wpAny_pyIter_range (IsRange.new ..) (small_one h1 h2 h3 h4) ?_;have I1:Inv X pq Z H {s with heap:=s.heap.push {cls:=.type "range",data:=.fields [.int lo t,.int hi u,.int 1 v].toArray},toks:=tk}:=I.kept λb o e=>aq _ e
 refine#[(s.heap.push {cls:=.type "range",data:=.fields [.int lo t,.int hi u,.int 1 v].toArray}).objs.size,[(s.heap.push {cls:=.type "range",data:=.fields [.int lo t,.int hi u,.int 1 v].toArray}).objs.size],_,_,H,rfl,
  I1.kept (t':=tk) λb o e=>aq _ e,wg _ lo (hi-lo).toNat,?_,λb hb=>?_,q]
 .have e1:lo+((0:Nat):Int)*1=lo:=by simp
  have e2:(((hi-lo).toNat:Nat):Int)-((0:Nat):Int)=dG.Range.rangeSize lo hi 1:=by rw[rangeSize_one];split<;>lia
  rw[e1,e2];exact aI _ rfl
 .have e:b=(s.heap.push {cls:=.type "range",data:=.fields [.int lo t,.int hi u,.int 1 v].toArray}).objs.size:=by simpa using hb
  subst e;exact I1.fpOk (aM _)<|I1.hok.fresh<|aM _
def Zho(ta:TA):TI:=λZ H R=>ta Z H λvs H1=>∃j:Int,vs=[.int j]/\-(2^62)<=j/\j<2^62/\R (Itr 0 j.toNat) H1
def Zg7(ta:TA):TI:=λZ H R=>ta Z H λvs H1=>∃i j:Int,vs=[.int i,.int j]/\(-(2^62)<=i/\i<2^62/\-(2^62)<=j/\j<2^62)/\R (Itr i (j-i).toNat) H1
theorem qD{a:Expr}{ta:TA}{p pos:gu}(hg:Gl X "range")(hm:X.mg "range" = ai)(ha:PA X [a] ta)(hs:aG [a] X.env=[(aj,c6 a X.env)]:=by rfl):PI X tg (.Call (.Name "range" p) [a] [] pos) (Zho ta):=by
 intro pq s Z H R I h;refine Call_<|Xj I hg hm boot_range<|dg (thn (ha pos pq s Z H _ I h) λus s1 #[vs,H1,I1,r1,q1]=>?_) hs rfl
 obtain⟨j,e,q1,q2,q⟩:=q1;subst e;cases r1 with
 |cons r rr=>
  cases rr;obtain⟨t,rfl⟩:=r;exact call_range_1<|zy I1 #[0] #[0] q1 q2 (by simpa using q)
def qf{a b:Expr}{ta:TA}{p pos:gu}(hg:Gl X "range")(hm:X.mg "range" = ai)(ha:PA X [a,b] ta)(hs:aG [a,b] X.env=[(aj,c6 a X.env),(aj,c6 b X.env)]:=by rfl)(hs2:aG [b] X.env=[(aj,c6 b X.env)]:=by rfl) :
  PI X tg (.Call (.Name "range" p) [a,b] [] pos) (Zg7 ta):=by
 intro pq s Z H R I h;refine Call_<|Xj I hg hm boot_range<|dg (thn (ha pos pq s Z H _ I h) λus s1 #[vs,H1,I1,r1,q1]=>?_) (by rw[hs,hs2]) (by rw[hs2];rfl)
 obtain⟨i,j,e,⟨q1,q2,q3,q4⟩,q⟩:=q1;subst e;cases r1 with
 |cons r rr=>
  cases rr with
  |cons r' rr=>
   cases rr;obtain⟨t,rfl⟩:=r;obtain⟨t',rfl⟩:=r';exact call_range_2<|zy I1 q1 q2 q3 q4 q
def Zic(wi:TI)(g:TG)(tb:TS):TS:=λD Z H=>wi Z H λJ H1=>∃W:Nat->Nat->St->Hp->Prop,(∃m,W 0 m Z H1)/\∀i m Z H,W i m Z H->
 (J.stop i H/\D.nx Z H)\/(J.go i H/\∃N:St->Hp->Prop,(∀σ' H',N σ' H'->∃m',m'<m/\W (i+1) m' σ' H')/\∀x H',J.yld i H x H'->g x Z H' λσ2 H2=>tb {D with nx:=N,ct:=N,bk:=D.nx} σ2 H2)
noncomputable def UR(fp:List aE)(h:bZ):List (aE×fH):=fp.filterMap λb=>(h.get? b).map λo=>(b,o)
def Xw(hb:b∈fp)(e:h.get? b=aa o):(b,o)∈UR fp h:=ou.mpr #[b,hb,by rw[e];rfl]
def uR(hp:p∈UR fp h):p.1∈fp/\h.get? p.1=aa p.2:=by
 obtain⟨b,hb,e⟩:=ou.mp hp;cases q:h.get? b with
 |none=>rw[q]at e;cases e
 |some o=>
  rw[q]at e;have e':=au e;subst e';exact#[hb,q]
def Inv.pinned(I:Inv X pq Z H s)(hf:∀b∈fp,VQ X pq H b)(ho:∀b∈fp,∃o,s.heap.get? b=aa o/\∀v,o.data≠.cell v):Inv X (pq++UR fp s.heap) Z H s:=
 I.pins_of λp hp=>(cp.mp hp).elim (λz=>I.pin p<|bu _ z) λz=>by
  obtain⟨hb,e⟩:=uR z;obtain⟨f0,f1,f2,_⟩:=hf p.1 hb;obtain⟨o,e',d⟩:=ho p.1 hb;rw[e]at e';cases e';exact#[e,f0,f1,f2,d]
def Inv.unpinned(I:Inv X (pq++pl) Z H s):Inv X pq Z H s:=I.pins_of λp hp=>I.pin p<|bu _<|dy _ hp
def Zbc{iter:Expr}{body:List eE}{wi:TI}{g:TG}{tb:TS}{pos:gu}(hp:nL #[9] X.A X.env X.xe)(hc:X.calm=am)(hi:PI X tg iter wi)(hg:PG X tg g)(hb:PSs X body tb)
  (hs:∀x,dZ iter X.env x=cS x:=by intro _;rfl):PS X (.For tg iter body [] pos) (Zic wi g tb):=by
 intro pq s Z H D I h;refine wpAny_For (thn (hi pq s Z H _ I h) λv s1 h1=>thn h1 λitv s2 h2=>?_) hs
 obtain⟨it,fp,tn,J,H2,e,I2,T,st2,f2,W,⟨m0,w0⟩,turn⟩:=h2;subst e;have stat:∀{H':Hp},(∀b∈fp,H' b=ai)->∀b∈fp,VQ X pq H' b:=λhn b hb=>#[hn b hb,(f2 b hb).2]
 refine codeAny_forLoop_any (λn s'=>∃i σ' H',Inv X pq σ' H' s'/\tn i s'.heap/\(∀b∈fp,H' b=ai)/\W i n σ' H') ?_ m0 #[0,Z,H2,I2,st2,λb hb=>(f2 b hb).1,w0]
 rintro n s3 ⟨i,σ3,H3,I3,st3,fr3,w3⟩
 rcases turn i n σ3 H3 w3 with⟨stop,qn⟩|⟨go,N,hN,step⟩
 .refine fg hp (thn (T.done X rfl rfl rfl hc i pq s3 σ3 H3 X.xe I3 (stat fr3) st3 stop) λr s4 #[hr,I4]=>?_)
  subst hr;exact fZ #[σ3,H3,I4,qn]
 .refine fg hp (thn (T.item X rfl rfl rfl hc i pq s3 σ3 H3 X.xe I3 (stat fr3) st3 go) λr s4 #[u,hr,h4]=>?_)
  subst hr;refine fg hp<|thn h4 λ_ s5 #[x,H5,I5,r5,y5,st5,fr5]=>?_
  have I5':=I5.pinned (stat fr5)<|T.obj _ _ st5;refine fg hp<|thn (hg _ s5 σ3 H5 x u _ I5' r5<|step x H5 y5) λ_ s6 #[σ6,H6,I6,q6]=>?_
  refine fg hp<|thn (hb _ s6 σ6 H6 _ I6 q6) λf s7 q7=>?_
  have sZ:∀{σ7:St}{H7:Hp},Inv X (pq++UR fp s5.heap) σ7 H7 s7->N σ7 H7->∃m,m<n/\∃i σ' H',Inv X pq σ' H' s7/\tn i s7.heap/\(∀b∈fp,H' b=ai)/\W i m σ' H':=λ{σ7 H7} I7 n7=>by
   obtain⟨m',hm,w7⟩:=hN σ7 H7 n7;refine#[m',hm,i+1,σ7,H7,I7.unpinned,T.keep _ _ _ st5 λb hb o e=>(I7.pin (b,o)<|bu _<|bu _<|Xw hb e).1,λb hb=>?_,w7]
   obtain⟨o,e,d⟩:=T.obj _ _ st5 b hb;exact(I7.pin (b,o)<|bu _<|bu _<|Xw hb e).2.1
  cases f with|next=>obtain⟨σ7,H7,I7,n7⟩:=q7;exact sZ I7 n7|cont=>obtain⟨σ7,H7,I7,n7⟩:=q7;exact sZ I7 n7|brk=>obtain⟨σ7,H7,I7,q7⟩:=q7;exact#[σ7,H7,I7.unpinned,q7]|ret v=>obtain⟨x7,σ7,H7,I7,r7,q7⟩:=q7;exact#[x7,σ7,H7,I7.unpinned,r7,q7]
end
abbrev R2:=V->V->Hp->VK->Prop
def OpR(X:Cx)(f:aw->aw->oO aw)(r:R2):Prop:=
 ∀pq s Z H x y v u Q,Inv X pq Z H s->Zx x v->Zx y u->r x y H Q->
  aW #[9] X.A (f v u) (EP X pq Z Q) X.xe s
def UnR(X:Cx)(f:aw->oO aw)(r:V->Hp->VK->Prop):Prop:=
 ∀pq s Z H x v Q,Inv X pq Z H s->Zx x v->r x H Q->
  aW #[9] X.A (f v) (EP X pq Z Q) X.xe s
def ZE(X:Cx)(f:aw)(r:List V->Hp->VK->Prop):Prop:=
 ∀pq s Z H xs us Q,Inv X pq Z H s->Vals xs us->r xs H Q->
  aW #[9] X.A (call f us) (EP X pq Z Q) X.xe s
def Zio(X:Cx)(r:V->Hp->(Bool->Hp->Prop)->Prop):Prop:=
 ∀pq s Z H x v Q,Inv X pq Z H s->Zx x v->r x H Q->
  aW #[9] X.A (tw v) (TP X pq Z Q) X.xe s
def tOp(r:R2)(ta tb:TE):TE:=λZ H Q=>ta Z H λx H1=>tb Z H1 λy H2=>r x y H2 Q
def tUn(r:V->Hp->VK->Prop)(ta:TE):TE:=λZ H Q=>ta Z H λx H1=>r x H1 Q
def rI(C:Int->Int->Prop)(g:Int->Int->V):R2:=λx y H Q=>∃i j,x=.int i/\y=.int j/\C i j/\Q (g i j) H
def rI0(g:Int->Int->V):R2:=λx y H Q=>∃i j,x=.int i/\y=.int j/\Q (g i j) H
def rU(g:Int->V):V->Hp->VK->Prop:=λx H Q=>∃i,x=.int i/\Q (g i) H
def ZfH(ha:PE X a ta)(hb:PE X b tb){pq:List (aE×fH)}{s:ay}{Z:St}{H:Hp}{R:V->V->Hp->Prop}(I:Inv X pq Z H s)
  (h:ta Z H λx H1=>tb Z H1 λy H2=>R x y H2){Q:aw->ay->Prop}{f:aw->aw->oO aw}
  (hf:∀v u s2 x y H2,Inv X pq Z H2 s2->Zx x v->Zx y u->R x y H2->aW #[9] X.A (f v u) Q X.xe s2) :
  aW #[9] X.A (c6 a X.env) (λv s₁=>aW #[9] X.A (c6 b X.env) (λu s₂=>aW #[9] X.A (f v u) Q X.xe s₂) X.xe s₁) X.xe s:=by
 refine thn (ha pq s Z H _ I h) λv s1 #[x,H1,I1,r1,q1]=>?_
 refine thn (hb pq s1 Z H1 _ I1 q1) λu s2 #[y,H2,I2,r2,q2]=>?_
 exact hf v u s2 x y H2 I2 r1 r2 q2
def Uc(ho:OpR X (fk op) r)(ha:PE X a ta)(hb:PE X b tb):PE X (.BinOp a op b pos) (tOp r ta tb):=by
 intro pq s Z H Q I h;exact wpAny_BinOp<|ZfH ha hb I h λv u s2 x y H2 I2 rx ry q=>ho pq s2 Z H2 x y v u Q I2 rx ry q
def Zer{op:UnaryOp}{r:V->Hp->VK->Prop}(ho:UnR X (unaryOp op) r)(ha:PE X a ta):PE X (.UnaryOp op a pos) (tUn r ta):=by
 intro pq s Z H Q I h;exact UnaryOp_<|thn (ha pq s Z H _ I h)<|by rintro v s1 ⟨x,H1,I1,r1,q1⟩;exact ho pq s1 Z H1 x v Q I1 r1 q1
def opI{f:aw->aw->oO aw}{C:Int->Int->Prop}{g:Int->Int->Int}
  (oU:∀(i j:Int)(t u:sW)(s:ay)(Q:aw->ay->Prop)(E:aw->ay->Prop),C i j->Q (.int (g i j) s.toks) {s with toks:=s.toks+1}->aW #[9] X.A (f (.int i t)<|.int j u) Q E s) :
  OpR X f (rI C λi j=>.int<|g i j):=by
 intro pq s Z H x y v u Q I rx ry h;obtain⟨i,j,rfl,rfl,hc,q⟩:=h;obtain⟨t,rfl⟩:=rx;obtain⟨t',rfl⟩:=ry;exact oU i j t t' s _ _ hc #[.int<|g i j,H,I.tok _,#[_,rfl],q]
def Zfn{f:aw->aw->oO aw}{g:Int->Int->Int}
  (oU:∀(i j:Int)(t u:sW)(s:ay)(Q:aw->ay->Prop)(E:aw->ay->Prop),Q (.int (g i j) s.toks) {s with toks:=s.toks+1}->aW #[9] X.A (f (.int i t)<|.int j u) Q E s) :
  OpR X f (rI0 λi j=>.int<|g i j):=by
 intro pq s Z H x y v u Q I rx ry h;obtain⟨i,j,rfl,rfl,q⟩:=h;obtain⟨t,rfl⟩:=rx;obtain⟨t',rfl⟩:=ry;exact oU i j t t' s _ _ #[.int<|g i j,H,I.tok _,#[_,rfl],q]
def ZdV{f:aw->aw->oO aw}{g:Int->Int->Bool}
  (oU:∀(i j:Int)(t u:sW)(s:ay)(Q:aw->ay->Prop)(E:aw->ay->Prop),Q (.bool<|g i j) s->aW #[9] X.A (f (.int i t)<|.int j u) Q E s) :
  OpR X f (rI0 λi j=>.bl<|g i j):=by
 intro pq s Z H x y v u Q I rx ry h;obtain⟨i,j,rfl,rfl,q⟩:=h;obtain⟨t,rfl⟩:=rx;obtain⟨t',rfl⟩:=ry;exact oU i j t t' s _ _ #[.bl<|g i j,H,I,rfl,q]
def CPow(i j:Int):Prop:=0<=j/\j<=1000000/\i.natAbs<2^64
def Ze4:OpR X (fk .Add) (rI0 λi j=>.int<|i+j):=Zfn λ_ _ _ _ _ _ _ q=>add_int q
def ZfG:OpR X (fk .Sub) (rI0 λi j=>.int<|i-j):=Zfn λ_ _ _ _ _ _ _ q=>sub_int q
def Zgl:OpR X (fk .Mod) (rI (λ_ j=>0<j) λi j=>.int<|i%j):=opI λi j _ _ _ _ _ hc q=>by
 have h1:=hc;exact mod_int' #[0] (by rw[Int.fmod_eq_emod_of_nonneg i #[0]];exact q)
def Zgn:OpR X (fk .Pow) (rI CPow λi j=>.int<|i^j.toNat):=opI λ_ _ _ _ _ _ _ hc q=>pow_int_small hc.1 hc.2.1 hc.2.2 q
def Zd1:OpR X (inplaceOp .Add) (rI0 λi j=>.int<|i+j):=Zfn λ_ _ _ _ _ _ _ q=>iadd_int q
def unI{f:aw->oO aw}{g:Int->Int}
  (oU:∀(i:Int)(t:sW)(s:ay)(Q:aw->ay->Prop)(E:aw->ay->Prop),Q (.int (g i) s.toks) {s with toks:=s.toks+1}->aW #[9] X.A (f<|.int i t) Q E s) :
  UnR X f (rU λi=>.int<|g i):=by
 intro pq s Z H x v Q I rx h;obtain⟨i,rfl,q⟩:=h;obtain⟨t,rfl⟩:=rx;exact oU i t s _ _ #[.int<|g i,H,I.tok _,#[_,rfl],q]
def je:UnR X (unaryOp .USub) (rU λi=>.int<|-i):=unI λ_ _ _ _ _ q=>neg_int q
noncomputable def scal:V->V->Bool
 |.non,.non=>am|.non,.int _=>am|.int _,.non=>am|.non,.bl _=>am|.bl _,.non=>am|.non,.str _=>am|.str _,.non=>am
 |.int _,.int _=>am|.bl _,.bl _=>am|.str _,.str _=>am
 |.int _,.str _=>am|.str _,.int _=>am|.bl _,.str _=>am|.str _,.bl _=>am
 |_,_=>aj
def rEq:R2:=λx y H Q=>scal x y=am/\Q (.bl<|af<|x=y) H
def rNe:R2:=λx y H Q=>scal x y=am/\Q (.bl<|!decide (x=y)) H
def vF :af (V.int i=V.int j)=(i == j):=by
 rw[cy];simp
def Zbn :af (V.bl i=V.bl j)=(i == j):=by
 rw[cy];simp
def v8 :af (V.str i=V.str j)=(i == j):=by
 rw[cy];simp
section
variable{X:Cx}{a b c:Expr}{ta tb tc:TE}{pos:gu}
def ZJ(I:Inv X pq Z H s)(q:Q (.bl k) H)(e:k=k'):EP X pq Z Q (.bool k') s:=by
 subst e;exact#[.bl k,H,I,rfl,q]
def Zhw:OpR X (cO .Eq) rEq:=by
 intro pq s Z H x y v u Q I rx ry h;obtain⟨hs,q⟩:=h;cases x with
 |non=>
  cases rx;cases y with|non=>cases ry;exact PySem.EqNone.eq_none_none<|ZJ I q #[2]|bl j=>cases ry;exact PySem.EqNone.eq_none_bool<|ZJ I q #[2]|int j=>obtain⟨t',rfl⟩:=ry;exact PySem.EqNone.eq_none_int<|ZJ I q #[2]|str j=>obtain⟨t',rfl⟩:=ry;exact PySem.EqNone.eq_none_str<|ZJ I q #[2]|_=>exact T7 (hs) aR
 |bl i=>
  cases rx;cases y with|non=>cases ry;exact PySem.EqNone.eq_bool_none<|ZJ I q #[2]|bl j=>cases ry;exact eq_bool<|ZJ I q Zbn|str j=>obtain⟨t',rfl⟩:=ry;exact PySem.EqMixed.eq_bool_str<|ZJ I q #[2]|_=>exact T7 (hs) aR
 |int i=>
  obtain⟨t,rfl⟩:=rx;cases y with|non=>cases ry;exact PySem.EqNone.eq_int_none<|ZJ I q #[2]|int j=>obtain⟨t',rfl⟩:=ry;exact eq_int<|ZJ I q vF|str j=>obtain⟨t',rfl⟩:=ry;exact PySem.EqMixed.eq_int_str<|ZJ I q #[2]|_=>exact T7 (hs) aR
 |str i=>
  obtain⟨t,rfl⟩:=rx;cases y with|non=>cases ry;exact PySem.EqNone.eq_str_none<|ZJ I q #[2]|bl j=>cases ry;exact PySem.EqMixed.eq_str_bool<|ZJ I q #[2]|int j=>obtain⟨t',rfl⟩:=ry;exact PySem.EqMixed.eq_str_int<|ZJ I q #[2]|str j=>obtain⟨t',rfl⟩:=ry;exact eq_str<|ZJ I q v8|_=>exact T7 (hs) aR
 |_=>cases y<;>exact T7 (hs) aR
def Zhg:OpR X (cO .NotEq) rNe:=by
 intro pq s Z H x y v u Q I rx ry h;obtain⟨hs,q⟩:=h;cases x with
 |non=>
  cases rx;cases y with|non=>cases ry;exact PySem.EqNone.ne_none_none<|ZJ I q #[2]|bl j=>cases ry;exact PySem.EqNone.ne_none_bool<|ZJ I q #[2]|int j=>obtain⟨t',rfl⟩:=ry;exact PySem.EqNone.ne_none_int<|ZJ I q #[2]|str j=>obtain⟨t',rfl⟩:=ry;exact PySem.EqNone.ne_none_str<|ZJ I q #[2]|_=>exact T7 (hs) aR
 |bl i=>
  cases rx;cases y with|non=>cases ry;exact PySem.EqNone.ne_bool_none<|ZJ I q #[2]|bl j=>cases ry;exact ne_bool<|ZJ I q<|congrArg not Zbn|str j=>obtain⟨t',rfl⟩:=ry;exact PySem.EqMixed.ne_bool_str<|ZJ I q #[2]|_=>exact T7 (hs) aR
 |int i=>
  obtain⟨t,rfl⟩:=rx;cases y with|non=>cases ry;exact PySem.EqNone.ne_int_none<|ZJ I q #[2]|int j=>obtain⟨t',rfl⟩:=ry;exact ne_int<|ZJ I q<|congrArg not vF|str j=>obtain⟨t',rfl⟩:=ry;exact PySem.EqMixed.ne_int_str<|ZJ I q #[2]|_=>exact T7 (hs) aR
 |str i=>
  obtain⟨t,rfl⟩:=rx;cases y with|non=>cases ry;exact PySem.EqNone.ne_str_none<|ZJ I q #[2]|bl j=>cases ry;exact PySem.EqMixed.ne_str_bool<|ZJ I q #[2]|int j=>obtain⟨t',rfl⟩:=ry;exact PySem.EqMixed.ne_str_int<|ZJ I q #[2]|str j=>obtain⟨t',rfl⟩:=ry;exact ne_str<|ZJ I q<|congrArg not v8|_=>exact T7 (hs) aR
 |_=>cases y<;>exact T7 (hs) aR
def ZhD:OpR X (cO .Lt) (rI0 λi j=>.bl<|af<|i<j):=ZdV λ_ _ _ _ _ _ _ q=>lt_int q
def ZhA:OpR X (cO .LtE) (rI0 λi j=>.bl<|af<|i<=j):=ZdV λ_ _ _ _ _ _ _ q=>le_int q
def Zg0:OpR X (cO .Gt) (rI0 λi j=>.bl<|af<|j<i):=ZdV λ_ _ _ _ _ _ _ q=>gt_int q
def ZhB:OpR X (cO .GtE) (rI0 λi j=>.bl<|af<|j<=i):=ZdV λ_ _ _ _ _ _ _ q=>ge_int q
def ZgN:OpR X (cO .Is) (λx y H Q=>y=.non/\Q (.bl<|af<|x=.non) H):=by
 intro pq s Z H x y v u Q I rx ry h;obtain⟨rfl,q⟩:=h;cases ry;refine is_none_gen<|ZJ I q ?_;cases x<;>first
  |(cases rx;rfl)
  |(obtain⟨t,rfl⟩:=rx;rfl)
def OpR.or(h:OpR X f r)(h':OpR X f r'):OpR X f (λx y H Q=>r x y H Q\/r' x y H Q):=by
 intro pq s Z H x y v u Q I rx ry q;rcases q with q|q
 .exact h pq s Z H x y v u Q I rx ry q
 .exact h' pq s Z H x y v u Q I rx ry q
def Zgv(b:Expr)(h:op≠.In:=by decide)(h2:op≠.NotIn:=by decide):eM op b=aj:=by
 have e1:(op == tJ.In)=aj:=by cases op<;>first|rfl|exact T7 rfl h
 have e2:(op == tJ.NotIn)=aj:=by cases op<;>first|rfl|exact T7 rfl h2
 cases b<;>simp[eM,e1,e2]
def Zd0(ho:OpR X (cO op) r)(ha:PE X a ta)(hb:PE X b tb)(hm:eM op b=aj):PE X (.Compare a [op] [b] pos) (tOp r ta tb):=by
 intro pq s Z H Q I h;exact wpAny_Compare1 (ZfH ha hb I h λv u s2 x y H2 I2 rx ry q=>ho pq s2 Z H2 x y v u Q I2 rx ry q) hm
def Zhb(t:TE):TT:=λZ H Q=>t Z H λx H'=>∃k,x=.bl k/\Q k H'
def Zdf(ho:OpR X (cO op) r)(ha:PE X a ta)(hb:PE X b tb)(hm:eM op b=aj):PT X (.Compare a [op] [b] pos) (Zhb<|tOp r ta tb):=by
 intro pq s Z H Q I h;refine m5 (thn (ha pq s Z H _ I h) λv s1 #[x,H1,I1,r1,q1]=>thn (hb pq s1 Z H1 _ I1 q1) λu s2 #[y,H2,I2,r2,q2]=>
  thn (ho pq s2 Z H2 x y v u _ I2 r1 r2 q2) λc s3 #[z,H3,I3,r3,k,e,q3]=>?_) hm
 subst e;cases r3;exact eA #[H3,I3,q3]
def Zf0(r r':R2)(ta tb tc:TE):TE:=λZ H Q=>ta Z H λx H1=>tb Z H1 λy H2=>r x y H2 λz H3=>∃k,z=.bl k/\
 (if k=am then tc Z H3 λw' H4=>r' y w' H4 Q else Q (.bl aj) H3)
def ZbI(ho:OpR X (cO op) r)(ho':OpR X (cO op') r')(ha:PE X a ta)(hb:PE X b tb)(hc:PE X c tc)
  (hm:lastMarks [op,op'] [b,c]=aj:=by with_unfolding_all rfl):PE X (.Compare a [op,op'] [b,c] pos) (Zf0 r r' ta tb tc):=by
 intro pq s Z H Q I h;refine Compare_chain (thn (ha pq s Z H _ I h) λv s1 #[x,H1,I1,r1,q1]=>chain_link (thn (hb pq s1 Z H1 _ I1 q1) λu s2 #[y,H2,I2,r2,q2]=>
  thn (ho pq s2 Z H2 x y v u _ I2 r1 r2 q2) λd s3 #[z,H3,I3,r3,k,e,q3]=>?_)) hm
 subst e;cases r3;refine eA ?_;cases k with|false=>exact ite_ff #[.bl aj,H3,I3,rfl,q3]|true=>exact ite_tt<|chain_last<|thn (hc pq s3 Z H3 _ I3 q3)<|by rintro w' s4 ⟨z',H4,I4,r4,q4⟩;exact ho' pq s4 Z H4 y z' u w' Q I4 r2 r4 q4
def ZcV(K:ao)(x:V)(H:Hp)(k:Bool):Prop:=
 match x with
 |.non=>k=aj
 |.bl b=>k=b
 |.int i=>k=(i != 0)
 |.str y=>y.length<=ba/\k=((y.length:Int) != 0)
 |.ref p=>(∃xs,SqL K H p xs/\k = !xs.isEmpty)\/(∃xs,SqT K H p xs/\k = !xs.isEmpty)\/∃kvs,H p=aa (.dK kvs)/\k = !kvs.isEmpty
 |_=>False
def xL{κ:Type}{kvs:List (κ×V)}{vs:List (κ×aw)}(r:KV kvs vs):(!vs.isEmpty) = !kvs.isEmpty:=by
 cases r<;>rfl
def QI{xs:List V}{its:List aw}(r:Vals xs its):(!its.toArray.isEmpty) = !xs.isEmpty:=by
 cases r<;>simp
def QO:(ba:Nat)<2^63:=by rw[dz];decide
theorem jd:Zio X (λx H Q=>∃k,ZcV X.K x H k/\Q k H):=by
 intro pq s Z H x v Q I rx h;obtain⟨k,e,q⟩:=h;have hl:=QO;have hs:=dz;cases x with
 |non=>
  cases rx;have e':=e;subst e';exact truthy_none #[H,I,q]
 |bl b=>
  cases rx;have e':k=b:=e;subst e';exact eA #[H,I,q]
 |int i=>
  obtain⟨t,rfl⟩:=rx;have e':=e;subst e';exact ow #[H,I,q]
 |str y=>
  obtain⟨t,rfl⟩:=rx;obtain⟨hy,e'⟩:=e;subst e';exact PySem.P.truthy_str #[0] #[H,I.tok _,q]
 |ref p=>
  cases rx;have e':=e;rcases e' with⟨xs,hx,e'⟩|⟨xs,hx,e'⟩|⟨kvs,hx,e'⟩
  .subst e'
   obtain⟨its,r,pl,hz⟩:=I.list hx;have hlen:=r.length;exact wpAny_truthy_list pl.isList (by simp only[aC];lia) #[H,I.tok _,by rw[QI r];exact q]
  .subst e'
   obtain⟨its,r,pl,hz⟩:=I.tuple hx;have hlen:=r.length;exact truthy_tuple pl (by simp only[aC];lia) #[H,I.tok _,by rw[QI r];exact q]
  .subst e'
   obtain⟨hz,hS,vs,r,m⟩:=I.hok p _ hx;have hlen:=Paired.length r;exact wpAny_truthy_dict hS m #[0] #[H,I.tok _,by rw[xL r];exact q]
 |_=>exact(e).elim
def jb(ha:PE X a ta)(he:∀whole,isTrue a X.env whole=(do let v <-whole;oQ a.pos;lE [v] (tw v))) :
  PT X a (λZ H Q=>ta Z H λx H'=>∃k,ZcV X.K x H' k/\Q k H'):=by
 intro pq s Z H Q I h;exact isTrue_plain (thn (ha pq s Z H _ I h)<|by rintro v s1 ⟨x,H1,I1,r1,q1⟩;exact jd pq s1 Z H1 x v Q I1 r1 q1)<|he _
def XQ(r:Vals [x] us):∃u,us=[u]/\Zx x u:=by
 cases r with|cons r1 r2=>cases r2;exact#[_,rfl,r1]
def Zbt(r:Vals [x,y] us):∃u w',us=[u,w']/\Zx x u/\Zx y w':=by
 cases r with
 |cons r1 r2=>
  cases r2 with|cons r3 r4=>cases r4;exact#[_,_,rfl,r1,r3]
def uL(hc:X.calm=am):ZE X (.builtin "max") (λxs H Q=>∃i j,xs=[.int i,.int j]/\Q (.int (if j>i then j else i)) H):=by
 intro pq s Z H xs us Q I r h;obtain⟨i,j,rfl,q⟩:=h;obtain⟨u,w',rfl,⟨t,rfl⟩,⟨t',rfl⟩⟩:=Zbt r;refine max_two_ints (I.ok.hd hc) λh' tk k=>#[_,H,I.kept k,?_,q]
 by_cases hj:j>i
 .rw[T9 hj,T9 hj];exact#[_,rfl]
 .rw[T8 hj,T8 hj];exact#[_,rfl]
def qJ(hc:X.calm=am):ZE X (.builtin "min") (λxs H Q=>∃i j,xs=[.int i,.int j]/\Q (.int (if j<i then j else i)) H):=by
 intro pq s Z H xs us Q I r h;obtain⟨i,j,rfl,q⟩:=h;obtain⟨u,w',rfl,⟨t,rfl⟩,⟨t',rfl⟩⟩:=Zbt r;refine min_two_ints (I.ok.hd hc) λh' tk k=>#[_,H,I.kept k,?_,q]
 by_cases hj:j<i
 .rw[T9 hj,T9 hj];exact#[_,rfl]
 .rw[T8 hj,T8 hj];exact#[_,rfl]
def uF:ZE X (.type "int") (λxs H Q=>(∃i,xs=[.int i]/\Q (.int i) H)\/∃k,xs=[.bl k]/\Q (.int (if k then 1 else 0)) H):=by
 intro pq s Z H xs us Q I r h;rcases h with⟨i,rfl,q⟩|⟨k,rfl,q⟩
 .obtain⟨u,rfl,t,rfl⟩:=XQ r
  exact call_int_int #[.int i,H,I,#[_,rfl],q]
 .obtain⟨u,rfl,r1⟩:=XQ r
  cases r1;exact call_int_bool #[.int (if k then 1 else 0),H,I.tok _,#[_,rfl],q]
end
structure ObjM(h:bZ)(x dx C:aE)(mA:bn->Option aw):Prop where
 obj:h.get? x=aa (PySem.W.instObj C dx)
 ns:h.Ns1 dx mA
 ne:dx≠x
structure Cls(K:ao)(C:aE):Prop where
 pg:pH K C bn.empty=am
 hd:PySem.W.hasDictIn K C=am
 po:PySem.W.plainOver K C=am
 sa:PySem.W.findIn K (.ref C) "__setattr__" = aa (aa<|.builtin "object.__setattr__")
def Cls.get{K:ao}{C:aE}(c:Cls K C)(f:bn):pH K C f=am:=c.pg
section
variable{X:Cx}{pq:List (aE×fH)}{Z:St}{H:Hp}{s:ay}{A:b9}{E:aw->ay->Prop}{Q:aw->ay->Prop}{c:aw}{b:Bool}
inductive TyOf(K:ao)(H:Hp):V->aw->Prop where
 |non:TyOf K H .non (.type "NoneType")
 |bl (x:Bool):TyOf K H (.bl x) (.type "bool")
 |int (i:Int):TyOf K H (.int i) (.type "int")
 |str (x:bn):TyOf K H (.str x) (.type "str")
 |lst {a:aE} {xs:List V} (e:H a=aa (.lst xs)):TyOf K H (.ref a) (.type "list")
 |frz {a:aE} {o:fH} {xs:List V} (e:H a=aa (.frz o<|.lst xs)):TyOf K H (.ref a) (.type "list")
 |tup {a:aE} {xs:List V} (e:H a=aa (.tup xs)):TyOf K H (.ref a) (.type "tuple")
 |dK {a:aE} {kvs:List (Key×V)} (e:H a=aa (.dK kvs)):TyOf K H (.ref a) (.type "dict")
 |dT {a:aE} {kvs:List (List Key×V)} (e:H a=aa (.dT kvs)):TyOf K H (.ref a) (.type "dict")
def uY(I:Inv X pq Z H s)(rx:Zx x u)(ty:TyOf X.K H x t)(e:gA X.K t c=aa b)(h:∀tk,Q (.bool b) {s with toks:=tk}) :
  aW #[9] A (call (.builtin "isinstance") [u,c]) Q E s:=by
 cases ty with
 |non=>cases(rx);exact dQ PySem.W.kitx_none I.kIn fD e (λz=>nomatch z) h
 |bl y=>cases(rx);exact dQ PySem.W.kitx_bool I.kIn fD e (λz=>nomatch z) h
 |int i=>obtain⟨t,q⟩:=(rx);cases q;exact dQ PySem.W.kitx_int I.kIn fD e (λz=>nomatch z) h
 |str y=>obtain⟨t,q⟩:=(rx);cases q;exact dQ PySem.W.kitx_str I.kIn fD e (λz=>nomatch z) h
 |@lst a xs ea=>
  cases(rx)
  obtain⟨_,_,n,_,h1⟩:=(I.hok a _ ea)
  exact dQ oV I.kIn #[_,h1,rfl] e (λz=>nomatch z) h
 |@frz a ob xs ea=>
  cases(rx)
  obtain⟨_,_,_,n,_,h1⟩:=(I.hok a _ ea)
  exact dQ oV I.kIn #[_,h1,rfl] e (λz=>nomatch z) h
 |@tup a xs ea=>
  cases(rx)
  obtain⟨_,_,_,p⟩:=(I.hok a _ ea)
  obtain⟨o,h1,h2,_⟩:=p;exact dQ PySem.W.kitx_tuple I.kIn #[o,h1,h2] e (λz=>nomatch z) h
 |@dK a kvs ea=>
  cases(rx)
  obtain⟨_,_,vs,_,p⟩:=(I.hok a _ ea)
  obtain⟨o,es,ep,h1,h2,_⟩:=p;exact dQ oW I.kIn #[o,h1,h2.1] e (λz=>nomatch z) h
 |@dT a kvs ea=>
  cases(rx)
  obtain⟨_,_,xs,_,o,es,ep,h1,h2,_⟩:=(I.hok a _ ea)
  exact dQ oW I.kIn #[o,h1,h2.1] e (λz=>nomatch z) h
end
structure Room(k:Nat)(A:b9):Prop where
 hd:A.handled=ai
 dp:A.depth+3*k+5<recursionLimit
 un:A.units+16*k+200<dL
 gd:A.guards=aa []
def Room.mono{j k:Nat}{A:b9}(r:Room k A)(h:j<=k):Room j A:=#[r.hd,by have:=r.dp;lia,by have:=r.un;lia,r.gd]
theorem Room.deeper{k:Nat}{A:b9}(r:Room (k+1) A)(env:Env):Room k (A.deeper env):=
 #[r.hd,by have:=r.dp;show A.depth+1+3*k+5<_;lia,by have:=r.un;show A.units+3+16*k+200<_;lia,r.gd]
theorem Room.depth(r:Room k A):A.depth<recursionLimit:=by have:=r.dp;lia
def GF:TA:=λ_ H Q=>Q [] H
def YJ(ta:TE)(tr:TA):TA:=λZ H Q=>ta Z H λx H1=>tr Z H1 λxs H2=>Q (x::xs) H2
section
variable{X:Cx}{e:Expr}{es:List Expr}{te:TE}{t:TA}{pos:gu}
def Yy:PA X [] GF:=λ_ _ _ _ H Q I h=>Calls.spliced_nil #[[],H,I,.nil,h]
def ZL(ha:PE X e te)(hr:PA X es t)(hs:aG (e::es) X.env=#[22]::aG es X.env:=by rfl):PA X (e::es) (YJ te t):=by
 intro pos pq s Z H Q I h;rw[hs];refine Calls.spliced_cons<|thn (ha pq s Z H _ I h) λu s1 #[x,H1,I1,r1,q1]=>?_
 exact thn (hr pos pq s1 Z H1 _ I1 q1)<|by rintro us s2 ⟨xs,H2,I2,r2,q2⟩;exact #[x::xs,H2,I2,.cons r1 r2,q2]
def Ziq(t:TA):TE:=λZ H Q=>t Z H λxs H1=>xs.length<=ba/\∀p,H1 p=ai->Q (.ref p) (upd H1 p<|.tup xs)
def qN(t:TA):TE:=λZ H Q=>t Z H λxs H1=>xs.length<=ba/\∀p,H1 p=ai->Q (.ref p) (upd H1 p<|.lst xs)
def Zfo{x1}(h:PA X es t):PE X (.Tuple es x1 pos) (Ziq t):=by
 intro pq s Z H Q I hq;refine wpAny_Tuple_spliced<|thn (h pos pq s Z H _ I hq) λus s1 #[xs,H1,I1,r,z,q]=>#[by rw[<-r.length];exact z,?_]
 have hf:=I1.hok.fresh<|aM _;refine#[.ref s1.heap.objs.size,upd H1 s1.heap.objs.size<|.tup xs,I1.laid (t':=s1.toks) (λb u e=>aq _ e) (aM _) ?_,rfl,q _ hf]
 exact#[z,us,r,#[_,aI _ rfl,rfl,_,rfl]]
def Qm(h:PA X es t):PE X (.List es pos) (qN t):=by
 intro pq s Z H Q I hq;refine wpAny_List_spliced<|thn (h pos pq s Z H _ I hq) λus s1 #[xs,H1,I1,r,z,q]=>#[by rw[<-r.length];exact z,?_]
 have hf:=I1.hok.fresh<|aM _;refine#[.ref s1.heap.objs.size,upd H1 s1.heap.objs.size<|.lst xs,I1.laid (t':=s1.toks) (λb u e=>aq _ e) (aM _) ?_,rfl,q _ hf]
 exact#[z,us,0,r,aI _ rfl]
end
abbrev Sp:=List V->Hp->VK->XK->Prop
abbrev CXT:=List Env->Hp->ay->XK->aw->ay->Prop
structure Env0(P:bv)(w:bO)(K:ao)(mg:bn->Option aw)(base:bZ)(A:b9)(outer:List Env)(s:ay)(H:Hp):Prop where
 frames:A.frames=aa outer
 mod:Mod K mg base
 bs:∀b o,base.get? b=aa o->s.heap.get? b=aa o/\H b=ai
 bsz:base.objs.size<=s.heap.objs.size
 funs:s.heap.FunFrames base outer
 frf:∀b∈frs outer,H b=ai
 hok:HOk P w H s.heap
 bare:iY s.gens
def CE(outer:List Env)(P:bv)(w:bO)(H:Hp)(s:ay)(Q:VK)(u:aw)(s':ay):Prop:=
 ∃v H',s'.os=s.os/\iY s'.gens/\Un (frs outer) [] H H' s.heap s'.heap/\HOk P w H' s'.heap/\Zx v u/\Q v H'
def CR(CX:CXT)(outer:List Env)(P:bv)(w:bO)(H:Hp)(s:ay)(Q:VK)(E:XK)(r:se)(s':ay):Prop:=
 match r with
 |.ok (.ret u)=>CE outer P w H s Q u s'
 |.ok _=>False
 |.error e=>CX outer H s E e s'
structure FnOk(P:bv)(w:bO)(K:ao)(mg:bn->Option aw)(base:bZ)(CX:CXT)(k:Nat)(f:aE)(fd:cP)(ps:List bn)(sp:Sp):Prop where
 len:∀vs H Q E,sp vs H Q E->vs.length=ps.length
 run:∀(A:b9)(outer:List Env)(s:ay)(H:Hp)(args:Args)(us:List aw)(vs:List V)(Q:VK)(E:XK),Room k A->Env0 P w K mg base A outer s H->nM s fd args (ps.zip us)->Vals vs us->sp vs H Q E->
  gH (aS P w) A (.call (.ref f) args) (CR CX outer P w H s Q E) s
section
variable{X:Cx}{pq:List (aE×fH)}{Z:St}{H:Hp}{s s':ay}
def Inv.env0(I:Inv X pq Z H s):Env0 X.prog X.w X.K X.mg X.base X.A X.stack s H:=
 #[I.ok.frames,I.ok.mod,I.bs,cc I.ok.bsz I.sz,I.stack,I.stkFree,I.hok,I.bare]
def Inv.after(I:Inv X pq Z H s)(h:CE X.stack X.prog X.w H s Q u s'):EP X pq Z Q u s':=by
 obtain⟨v,H',os,bare,un,hok,r,q⟩:=h;obtain⟨hh,g,d,t,os'⟩:=s';obtain rfl:os'=s.os:=os;exact#[v,H',I.call (h':=hh) (g':=g) (d':=d) (t':=t) un hok bare (λb z=>T7 z #[2]),r,q]
end
def Zex(sp:Sp)(dvs:List V)(E:XK)(t:TA):TE:=λZ H Q=>t Z H λvs H1=>sp (vs++dvs) H1 Q E
def Ue(K:ao)(fd:cP)(ps:List bn)(ds:List aw):Prop:=
 ∀(s:ay)(us:List aw),K.In s.heap->(us++ds).length=ps.length->nM s fd #[us,[]] (ps.zip<|us++ds)
def Ue.all{K:ao}{fd:cP}{ps:List bn}(h:∀us:List aw,us.length=ps.length->nt fd #[us,[]]=cS (ps.zip us)):Ue K fd ps []:=λs us _ hl=>by
 rw[cz]at hl ⊢;exact .of_eq<|h us hl
def QJ(CX:CXT)(X:Cx)(E:XK):Prop:=∀(pq:List (aE×fH))(Z:St)(H:Hp)(s:ay)(e:aw)(s':ay),Inv X pq Z H s->CX X.stack H s E e s'->X.xe e s'
section
variable{X:Cx}{CX:CXT}{k:Nat}{f C:aE}{fd:cP}{ps:List bn}{sp:Sp}{dvs:List V}{ds:List aw}{E:XK}{x m:bn}{p pos apos:gu}{e o:Expr}{es:List Expr}{ta:TE}{t:TA}
def Zf4(F:FnOk X.prog X.w X.K X.mg X.base CX k f fd ps sp)(hr:Room k X.A)(hb:Ue X.K fd ps ds)(hd:Vals dvs ds)(hx:QJ CX X E)
  (I:Inv X pq Z H s)(r:Vals vs us)(h:sp (vs++dvs) H Q E):aW #[9] X.A (call (.ref f) us) (EP X pq Z Q) X.xe s:=by
 have r2:=r.append hd;have hl:(us++ds).length=ps.length:=by rw[<-r2.length];exact F.len _ _ _ _ h
 refine ox<|fS (F.run X.A X.stack s H #[us,[]] (us++ds) (vs++dvs) Q E hr I.env0 (hb s us I.kIn hl) r2 h) λr s' hq=>?_
 cases r with
 |error e=>exact hx pq Z H s e s' I hq
 |ok fl=>
  cases fl with|ret u=>exact I.after hq|next=>exact False.elim hq|brk=>exact False.elim hq|cont=>exact False.elim hq
def va(F:FnOk X.prog X.w X.K X.mg X.base CX k f fd ps sp)(hr:Room k X.A)(hg:Gl X x)(hm:X.mg x=aa (.ref f))(hk:gB X.K (.ref f)=am)(hb:Ue X.K fd ps ds)(hd:Vals dvs ds)(hx:QJ CX X E)
  (ha:PA X (e::es) t)(hdb:(x == #[11])=aj:=by decide)(he:aG (e::es) X.env=#[22]::aG es X.env:=by rfl)(hpl:(d7 pos<|aG es X.env).any (·.1)=aj:=by rfl) :
  PE X #[21] (Zex sp dvs E t):=by
 intro pq s Z H Q I h;refine dR<|Vb I hg hm ?_ hdb;refine oy I.ok.mod.kin hk (thn (ha pos pq s Z H _ I h) λus s1 #[vs,H1,I1,r,q]=>#[I1.kIn,?_]) he hpl
 exact Zf4 F hr hb hd hx I1 r q
end
structure FnScope(N P:List bn)(sc:d4):Prop where
 kind:sc.kind=.function
 co:sc.isCoroutine=aj
 gen:sc.isGenerator=aj
 nd:N.Nodup
 pre:N.take P.length=P
 par:∀x∈P,sc.names.lookup x=aa .local\/sc.names.lookup x=aa .cell
 nofree:∀y∈sc.names,y.2≠.free
theorem JH{kindOf:bn->Option eF}{x:bn}:∀{binds:List (bn×aw)}{m:bn->Option aw},(∀v,(x,v)∉binds)->tj kindOf binds m x=m x
 |[],_,_=>rfl
 |(n,v)::r,m,h=>by
  unfold tj;rw[JH λw hw=>h w<|al _ hw]
  split
  .have:x≠n:=by rintro rfl;exact h v ak
   simp[this]
  .rfl
theorem Jy{kindOf:bn->Option eF}{x:bn}:∀{binds:List (bn×aw)}{m:bn->Option aw},(∀v,(x,v)∉binds)->tm kindOf binds m x=m x
 |[],_,_=>rfl
 |(n,v)::r,m,h=>by
  unfold tm;rw[Jy λw hw=>h w<|al _ hw]
  split
  .rfl
  .have:x≠n:=by rintro rfl;exact h v ak
   simp[this]
theorem JW{kindOf:bn->Option eF}{x:bn}{v:aw}:∀{P:List bn}{vs:List aw}{i:Nat}{m:bn->Option aw},P.Nodup->P[i]?=aa x->vs[i]?=aa v->kindOf x=aa .local->
  tj kindOf (P.zip vs) m x=aa v
 |[],_,_,_,_,h,_,_=>by simp at h
 |_::_,[],_,_,_,_,h,_=>by simp at h
 |p::P,w::vs,0,m,nd,h1,h2,hk=>by
  simp at h1 h2;subst h1;subst h2;show tj kindOf ((p,w)::P.zip vs) m p=_;unfold tj;rw[JH λv hv=>(dD.mp nd).1 (gf hv).1,T9 hk]
  simp
 |p::P,w::vs,i+1,m,nd,h1,h2,hk=>by
  unfold tj;exact JW (dD.mp nd).2 (by simpa using h1) (by simpa using h2) hk
theorem JX{kindOf:bn->Option eF}{x:bn}{v:aw}:∀{P:List bn}{vs:List aw}{i:Nat}{m:bn->Option aw},P.Nodup->P[i]?=aa x->vs[i]?=aa v->kindOf x≠aa .local->
  tm kindOf (P.zip vs) m x=aa v
 |[],_,_,_,_,h,_,_=>by simp at h
 |_::_,[],_,_,_,_,h,_=>by simp at h
 |p::P,w::vs,0,m,nd,h1,h2,hk=>by
  simp at h1 h2;subst h1;subst h2;show tm kindOf ((p,w)::P.zip vs) m p=_;unfold tm;rw[Jy λv hv=>(dD.mp nd).1 (gf hv).1,T8 hk]
  simp
 |p::P,w::vs,i+1,m,nd,h1,h2,hk=>by
  unfold tm;exact JX (dD.mp nd).2 (by simpa using h1) (by simpa using h2) hk
noncomputable def start(N:List bn)(vs:List V):St:=vs.map aa++aB (N.length-vs.length) ai
noncomputable def XW(CX:CXT)(P:bv)(w:bO)(K:ao)(mg:bn->Option aw)(base:bZ)(N:List bn)(qual:bn)(scope:d4)(f:aE)(cd:aw)(A:b9)(outer:List Env)(s:ay)(H:Hp)(E:XK):Cx where
 prog:=P
 w:=w
 K:=K
 mg:=mg
 base:=base
 A:=A.deeper<|d8 qual scope s.heap.objs.size f cd
 N:=N
 s₀:=s
 H₀:=H
 env:=d8 qual scope s.heap.objs.size f cd
 outer:=outer
 stack:=d8 qual scope s.heap.objs.size f cd::outer
 ex:=[]
 calm:=am
 fn:=λ_=>am
 pn:=[]
 xe:=λe s'=>aW (aS P w) (A.deeper<|d8 qual scope s.heap.objs.size f cd) (leaving (d8 qual scope s.heap.objs.size f cd) e) (λ_ s''=>CX outer H s E e s'') (λe' s''=>CX outer H s E e' s'') s'
def Qx{sc:d4}{n:Nat}{x:bn}(h:sc.names.lookup x=aa .cell):∃c,(dN n sc.names []).lookup x=aa c:=by
 have q:=iE sc.names n []<|.inl h;exact bS.mp q
def Ju{CX:CXT}{P:bv}{w:bO}{K:ao}{mg:bn->Option aw}{base:bZ}{N ps:List bn}{qual:bn}{scope:d4}{f:aE}{cd:aw}{A:b9}{outer:List Env}{s s1:ay}{H:Hp}{E:XK}{us:List aw}{vs:List V}
  (S:FnScope N ps scope)(hd:A.handled=ai)(e0:Env0 P w K mg base A outer s H)(hl:vs.length=ps.length)(r:Vals vs us)
  (x:InCallC s s.heap.objs.size (tj (d8 qual scope s.heap.objs.size f cd).kindOf (ps.zip us) λ_=>ai) (dN (s.heap.objs.size+1) scope.names []) (tm (d8 qual scope s.heap.objs.size f cd).kindOf (ps.zip us) λ_=>ai) s1) :
  Inv (XW CX P w K mg base N qual scope f cd A outer s H E) [] (start N vs) H s1:=by
 have hpl:ps.length<=N.length:=by have:=congrArg iz S.pre;rw[bT]at this;lia
 obtain⟨h1,tk,rfl,hk⟩:=x.done;have noA:∀b:aE,b∉(XW CX P w K mg base N qual scope f cd A outer s H E).ex:=λb z=>T7 (show b∈([]:List aE)from z) #[2]
 refine#[#[e0.mod,S.kind,rfl,rfl,aM _,λy z c h1 h2=>?_,λy hy=>?_,λy c _ h=>?_,λ_=>hd,nv e0.frames,.inr #[rfl,rfl],λb z=>T7 z<|noA b,e0.bs,e0.bsz,λb _ _=>noA b,λb z=>T7 z<|noA b,e0.funs,e0.frf],
  rfl,e0.bare,Un.kept hk,#[_,x.toInCall.ns,λi y v h1 h2 h3=>?_],λy c h=>#[_,x.cell y c h],e0.hok.fresh<|aM _,λy c h=>?_,λp hp=>T7 (show p∈([]:List (aE×fH))from hp) #[2],e0.hok.kept hk,?_]
 .exact name_of_addr x.apart (d3 h1)<|d3 h2
 .have hy:=hy
  rcases hy with hy|hy
  .exact Qx hy
  .exact T7 rfl<|S.nofree _<|d3 hy
 .exact gF<|x.above y c<|d3 h
 .have hi:i<vs.length:=by
   unfold start at h2;by_cases hi:i<vs.length
   .exact hi
   .rw[cA<|by simpa using hi]at h2
    rw[cX]at h2;split at h2<;>cases h2
  have ha:vs[i]?=aa v:=by
   unfold start at h2;rw[cF (by simpa using hi),aQ]at h2
   cases e:vs[i]? with|none=>rw[e]at h2;cases h2|some a=>rw[e]at h2;cases h2;rfl
  obtain⟨u,hu,rv⟩:=r.get ha;have hp:ps[i]?=aa y:=by
   rw[<-S.pre,List.getElem?_take_of_lt #[0]];exact h1
  have ndP:ps.Nodup:=by rw[<-S.pre];exact S.nd.sublist<|lG _ _
  refine#[u,rv,?_];rcases S.par y (c7 hp)with k|k
  .exact .inl #[k,JW ndP hp hu k]
  .obtain⟨c,e⟩:=Qx k
   refine .inr #[.inl k,c,e,?_];have q:=x.cell y c e;rw[JX ndP hp hu<|by show scope.names.lookup y≠_;rw[k];decide]at q
   exact q
 .exact e0.hok.fresh<|gF<|x.above y c<|d3 h
 .unfold start
  show _=N.length;rw[aX,aA,bR];lia
def ZeA{CX:CXT}{P:bv}{w:bO}{K:ao}{mg:bn->Option aw}{base:bZ}{k:Nat}{f:aE}{name qual:bn}{params:pI}{body:List eE}{scope:d4}{dV kV doc pm cdv ct oc:aw}{an od:Option aE}
  {osl:Array (Option aw)}{N ps:List bn}{sp:Sp}(lk:K.lookup f=aa #[oc,od,.func<|eK name qual params body scope dV kV doc pm an cdv ct,osl])(hcd:kM K cdv qual=am)(S:FnScope N ps scope)
  (len:∀vs H Q E,sp vs H Q E->vs.length=ps.length)
  (hbody:∀(A:b9)(outer:List Env)(s:ay)(H:Hp)(vs:List V)(Q:VK)(E:XK),Room k (A.deeper<|d8 qual scope s.heap.objs.size f cdv)->sp vs H Q E->
   ∃t,PSs (XW CX P w K mg base N qual scope f cdv A outer s H E) body t/\t {nx:=λ_ H'=>Q .non H',rt:=Q} (start N vs) H) :
  FnOk P w K mg base CX (k+1) f (eK name qual params body scope dV kV doc pm an cdv ct) ps sp:=by
 refine#[len,λA outer s H args us vs Q E hr e0 hb r hsp=>?_]
 have hl:=len _ _ _ _ hsp;have KX:=e0.mod.kin.keeps λb o e=>(e0.bs b o e).1
 have lim:=e0.mod.nolimit.keeps λb o e=>(e0.bs b o e).1
 have hkind:∀y∈ps.zip us,scope.names.lookup y.1=aa .local\/(scope.names.lookup y.1=aa .cell/\((dN (s.heap.objs.size+1) scope.names []).lookup y.1).isSome=am):=by
  rintro ⟨n,v⟩ hy;rcases S.par n (gf hy).1 with q|q
  .exact .inl q
  .exact .inr #[q,iE _ _ _<|.inl q]
 refine m8 hr.depth (KX _ _ lk) rfl S.co S.gen rfl (oz KX hcd)<|hb _ _ _ _ ?_;refine kN S.kind hkind λenv he s1 x=>?_
 subst he;refine#[lim.keeps x.toInCall.keep,codeAny_func ?_];obtain⟨t,ht,hq⟩:=hbody A outer s H vs Q E (hr.deeper _) hsp;have I:Inv (XW CX P w K mg base N qual scope f cdv A outer s H E) [] (start N vs) H s1:=Ju S hr.hd e0 hl r x;refine dH (ht [] s1 (start N vs) H _ I hq) (λfl s' hs=>?_) λe s' hs=>hs
 have fin:∀{σ':St}{H':Hp}{v:V}{u:aw},Inv (XW CX P w K mg base N qual scope f cdv A outer s H E) [] σ' H' s'->Zx v u->Q v H'->CE outer P w H s Q u s':=
  λ{σ' H' v u} J rv q=>#[v,H',J.os,J.bare,J.base,J.hok,rv,q]
 cases fl with
 |ret u=>
  obtain⟨v,σ',H',J,rv,q⟩:=hs;exact fin J rv q
 |next=>
  obtain⟨σ',H',J,q⟩:=hs;exact fin (v:=V.non) J rfl q
 |brk=>
  obtain⟨_,_,_,q⟩:=hs;exact False.elim q
 |cont=>
  obtain⟨_,_,_,q⟩:=hs;exact False.elim q
section
variable{X:Cx}{x:bn}{p pos:gu}{e:Expr}{es:List Expr}{t:TA}{id T:String}{r:List V->Hp->VK->Prop}
def tCB(r:List V->Hp->VK->Prop)(t:TA):TE:=λZ H Q=>t Z H λvs H1=>r vs H1 Q
def Wm(hc:ZE X (.builtin id) r)(hg:Gl X x)(hm:X.mg x=ai)(hv:dW x=aa (.builtin id))(ha:PA X (e::es) t)(hn:x≠"__name__":=by decide)(hdb:(x == #[11])=aj:=by decide)
  (he:aG (e::es) X.env=#[22]::aG es X.env:=by rfl)(hpl:(d7 pos<|aG es X.env).any (·.1)=aj:=by rfl):PE X #[21] (tCB r t):=by
 intro pq s Z H Q I h;refine dR<|Xj I hg hm hv ?_ hn hdb;exact iS (thn (ha pos pq s Z H _ I h)<|by rintro us s1 ⟨vs,H1,I1,r1,q1⟩;exact hc pq s1 Z H1 vs us Q I1 r1 q1) he hpl
def Jh(hc:ZE X (.type T) r)(hg:Gl X x)(hm:X.mg x=ai)(hv:dW x=aa (.type T))(ha:PA X (e::es) t)(hn:x≠"__name__":=by decide)(hdb:(x == #[11])=aj:=by decide)
  (he:aG (e::es) X.env=#[22]::aG es X.env:=by rfl)(hpl:(d7 pos<|aG es X.env).any (·.1)=aj:=by rfl):PE X #[21] (tCB r t):=by
 intro pq s Z H Q I h;refine dR<|Xj I hg hm hv ?_ hn hdb;exact dg (thn (ha pos pq s Z H _ I h)<|by rintro us s1 ⟨vs,H1,I1,r1,q1⟩;exact hc pq s1 Z H1 vs us Q I1 r1 q1) he hpl
end
end L2
namespace HT
open PySem PyProof.Rows
section
variable{prog:bv}{w:bO}{A:b9}{E:aw->ay->Prop}{s:ay}
def ZdM{Q:aw->ay->Prop}(ht:oP s.heap t vs.toArray)(hb:oP s.heap b ws.toArray)(hv:vs≠[])
  (h1:ws=[]->Q (.ref t) s)(h2:ws≠[]->Q #[25] {s with heap:=s.heap.push {cls:=.type "tuple",data:=.seq (vs++ws).toArray}})
  (hsz:vs.length+ws.length<=ba):aW #[8] A (fk .Add (.ref t)<|.ref b) Q E s:=by
 obtain⟨⟨cls,dd,data,sl⟩,ho,hc,n,hd⟩:=id ht;obtain⟨⟨cls2,dd2,data2,sl2⟩,ho2,hc2,n2,hd2⟩:=id hb;simp only at hc hd hc2 hd2;subst hc hd hc2 hd2;have e:vs.toArray++ws.toArray=(vs++ws).toArray:=by simp
 by_cases hw:ws=[]
 .exact oX #[_,ho,rfl] #[_,ho2,rfl] mh n4 iF iA (gX _ _)
   (tuple_addW1 t b vs.toArray ws.toArray n n2 dd dd2 sl sl2 (by simpa using hv)<|by simp[hw]) #[ho,ho2,h1 hw]
 .refine oX #[_,ho,rfl] #[_,ho2,rfl] mh n4 iF iA (gX _ _)
   (tuple_addW2 t b vs.toArray ws.toArray n n2 dd dd2 sl sl2 (by simpa using hv) (by simpa using hw)<|by rw[aC,aC];exact hsz) #[ho,ho2,?_]
  rw[e];exact h2 hw
noncomputable def sIx(n d:Nat):Option Int->Nat
 |none=>d
 |some v=>if v<0 then(v+(n:Int)).toNat else sO v.toNat n
theorem Zfg(n d:Nat)(hd:d<=n)(o:Option Int):sIx n d o<=n:=by
 cases o with
 |none=>exact hd
 |some v=>
  show(if v<0 then(v+(n:Int)).toNat else sO v.toNat n)<=n
  by_cases hv:v<0
  .rw[T9 hv];lia
  .rw[T8 hv];exact pK _ _
theorem vt(v:Int)(n d:Nat):(if v<0 then max (v+(n:Int)) 0 else sO v (n:Int))=((sIx n d (aa v):Nat):Int):=by
 show(if v<0 then max (v+(n:Int)) 0 else sO v (n:Int))=(((if v<0 then(v+(n:Int)).toNat else sO v.toNat n):Nat):Int)
 by_cases hv:v<0
 .simp only[T9 hv];lia
 .simp only[T8 hv];lia
theorem wp(lo hi:Option Int)(n:Nat):gP lo hi 1 (n:Int)=(((sIx n 0 lo:Nat):Int),((sIx n n hi:Nat):Int)):=by
 have h1:¬((1:Int)<0):=by lia
 unfold gP;simp only[h1,if_false];refine Prod.ext ?_ ?_
 .cases lo with|none=>rfl|some v=>exact vt v n 0
 .cases hi with|none=>rfl|some v=>exact vt v n n
theorem wn(i j:Nat):c9 (i:Int) (j:Int) 1=j-i:=by
 unfold c9;have h1:(1:Int)>0:=by lia
 simp only[h1,if_true,Int.ediv_one];split<;>lia
def WL{Q:Option Int->ay->Prop}(p:kO v o)(h:Q o s):aW #[8] A (dG.Slice.slicePartIndex v) Q E s:=by
 cases p with|none=>exact kP h|int i t=>exact slicePart_int h
def Xp{sl:aE}{vl vu:aw}{lo hi:Option Int}{n:Nat}{Q:Int×Int×Nat->ay->Prop}(hs:s.heap.IsSliceOf sl vl vu .none)(pl:kO vl lo)(pu:kO vu hi)
  (h:Q (((sIx n 0 lo:Nat):Int),1,sIx n n hi-sIx n 0 lo) s):aW #[8] A (kQ (.ref sl)<|cS (n:Int)) Q E s:=by
 obtain⟨os,hos,hcs,hds⟩:=id hs;refine ae<|ae<|c8 hos hds rfl<|ae<|c8 hos hds rfl<|ae<|c8 hos hds rfl<|ax ?_;refine ae<|kP ?_;show aW _ _ (if((1:Int) == 0)=am then _ else _) _ _ s
 rw[T8 #[1]]
 refine ae<|WL pl<|ae<|WL pu<|ae<|ax ?_;show aW _ _ (match gP lo hi 1 (n:Int)with|(lo,hi)=>cS (lo,(1:Int),c9 lo hi 1)) _ _ s
 rw[wp lo hi n];show aW _ _ (cS (((sIx n 0 lo:Nat):Int),(1:Int),c9 ((sIx n 0 lo:Nat):Int) ((sIx n n hi:Nat):Int) 1)) _ _ s;rw[wn];exact ax h
theorem jU(xs:Array aw)(i k:Nat):((aP k).filterMap λ(m:Nat)=>xs[((i:Int)+(m:Int)*1).toNat]?).toArray=((xs.toList.drop i).take k).toArray:=by
 have e:(λ(m:Nat)=>xs[((i:Int)+(m:Int)*1).toNat]?)=λm=>xs[i+m]?:=by
  funext m
  have:((i:Int)+(m:Int)*1).toNat=i+m:=by lia
  rw[this]
 rw[e];have:=pick_run xs i k;rw[oA]at this;have e2:((λx=>xs[x]?)∘λx=>i+x)=λm=>xs[i+m]?:=rfl
 rw[e2]at this;rw[this]
theorem Vi{t sl:aE}{items:Array aw}{vl vu:aw}{lo hi:Option Int}{Q:aw->ay->Prop}(ht:oP s.heap t items)(hs:s.heap.IsSliceOf sl vl vu .none)(pl:kO vl lo)(pu:kO vu hi)
  (hw:¬(sIx items.size 0 lo=0/\sIx items.size items.size hi=items.size))
  (h:Q #[25] {s with heap:=s.heap.push {cls:=.type "tuple",data:=.seq ((items.toList.drop<|sIx items.size 0 lo).take<|sIx items.size items.size hi-sIx items.size 0 lo).toArray}})
  (hsz:items.size<=ba):aW #[8] A (lH (.ref t)<|.ref sl) Q E s:=by
 have htake:sizeOk (.seq ((items.toList.drop<|sIx items.size 0 lo).take<|sIx items.size items.size hi-sIx items.size 0 lo).toArray):=by
  show((items.toList.drop<|sIx items.size 0 lo).take<|sIx items.size items.size hi-sIx items.size 0 lo).toArray.size<=ba;rw[aC,bT,bL,aJ];lia
 have hj:sIx items.size items.size hi<=items.size:=Zfg _ _ (aM _) hi;obtain⟨os,hos,hcs,hds⟩:=id hs;have hTs:s.TypeIs (.ref sl) "slice":=#[os,hos,hcs];unfold lH
 try with_reducible refine bP ?_
 first|refine ae<|ax ?_|skip
 refine ae<|lI ht.typeIs #[1] ?_
 refine ae (cC ht.typeIs cQ
  (cx cQ ht.typeIs kB ?_<|kR _ _))
 show aW _ _ (gC (.ref t) >>= _) _ _ s;refine ae<|n5 ht ?_;refine ae<|fT hTs ?_;rw[T9 #[1]]
 refine ae<|Xp hs pl pu ?_;have hno:¬((((sIx items.size 0 lo:Nat):Int) == 0&&(1:Int) == 1&&(sIx items.size items.size hi-sIx items.size 0 lo) == items.size)=am):=by
  intro q;rw[aF,aF]at q;have q1:=fJ q.1.1;have q2:=fJ q.2;exact hw #[by lia,by lia]
 show aW _ _ (if(((sIx items.size 0 lo:Nat):Int) == 0&&(1:Int) == 1&&(sIx items.size items.size hi-sIx items.size 0 lo) == items.size)=am then _ else _) _ _ s
 rw[T8 hno,jU]
 first
  |exact ae<|bw (ax #[_,rfl,ax h]) htake
  |exact ae<|bw (ae<|ax<|ax #[_,rfl,ax h]) htake
  |exact ae<|ae<|bw (ax<|ax #[_,rfl,ax h]) htake
  |exact ae<|ae<|bw (ax #[_,rfl,ax h]) htake
end
end HT
namespace L2
open PySem PySem.Spec PyProof.Rows
abbrev TO:=St->Hp->(Option Int->Hp->Prop)->Prop
def PO(X:Cx)(e:Option Expr)(t:TO):Prop:=
 ∀pq s Z H Q,Inv X pq Z H s->t Z H Q->
  aW #[9] X.A (evalPart e X.env) (λu s'=>∃o H',Inv X pq Z H' s'/\kO u o/\Q o H') X.xe s
def ZdI:TO:=λ_ H Q=>Q ai H
def Zhp(t:TE):TO:=λZ H Q=>t Z H λx H1=>∃i,x=.int i/\Q (aa i) H1
section
variable{X:Cx}{e:Expr}{te:TE}{lo hi:Option Expr}{tl th:TO}{pos p2:gu}
def ZdX:PO X ai ZdI:=by
 intro pq s Z H Q I h;rw[n6];exact ax #[ai,H,I,.none,h]
def ZP(h:PE X e te):PO X (aa e) (Zhp te):=by
 intro pq s Z H Q I hw;rw[evalPart_some];refine thn (h pq s Z H _ I hw) λu s1 #[x,H1,I1,r1,q1]=>?_
 obtain⟨i,rfl,q⟩:=q1;obtain⟨t,rfl⟩:=r1;exact#[aa i,H1,I1,.int i t,q]
def SlR(X:Cx)(r:V->Option Int->Option Int->Hp->VK->Prop):Prop:=
 ∀pq s Z H x v vl vu lo hi sl Q,Inv X pq Z H s->Zx x v->s.heap.IsSliceOf sl vl vu .none->kO vl lo->kO vu hi->r x lo hi H Q->
  ∃T id,kS (.type T) "__getitem__" = cS (aa<|.builtin id)/\s.TypeIs v T/\aW #[9] X.A (lH v<|.ref sl) (EP X pq Z Q) X.xe s
def SlR.or{r r':V->Option Int->Option Int->Hp->VK->Prop}(h:SlR X r)(h':SlR X r'):SlR X (λx lo hi H Q=>r x lo hi H Q\/r' x lo hi H Q):=by
 intro pq s Z H x v vl vu lo hi sl Q I rx hs pl pu q;rcases q with q|q
 .exact h pq s Z H x v vl vu lo hi sl Q I rx hs pl pu q
 .exact h' pq s Z H x v vl vu lo hi sl Q I rx hs pl pu q
def tSl(r:V->Option Int->Option Int->Hp->VK->Prop)(te:TE)(tl th:TO):TE:=λZ H Q=>te Z H λx H1=>tl Z H1 λl H2=>th Z H2 λu H3=>r x l u H3 Q
def ZaJ{r:V->Option Int->Option Int->Hp->VK->Prop}(hr:SlR X r)(he:PE X e te)(hl:PO X lo tl)(hu:PO X hi th):PE X (.Subscript e (.Slice lo hi ai p2) pos) (tSl r te tl th):=by
 intro pq s Z H Q I h;refine sf<|thn (he pq s Z H _ I h) λv s1 #[x,H1,I1,r1,q1]=>?_
 refine wpAny_Slice<|thn (hl pq s1 Z H1 _ I1 q1) λvl s2 #[l,H2,I2,pl,q2]=>thn (hu pq s2 Z H2 _ I2 q2) λvu s3 #[u,H3,I3,pu,q3]=>?_
 rw[n6];refine ax ?_;have I4:Inv X pq Z H3 {s3 with heap:=s3.heap.push {cls:=.type "slice",data:=.fields [vl,vu,.none].toArray}}:=I3.kept (t':=s3.toks) λb ob q=>aq _ q
 obtain⟨T,id,hT,ht,hg⟩:=hr pq {s3 with heap:=s3.heap.push {cls:=.type "slice",data:=.fields [vl,vu,.none].toArray}} Z H3 x v vl vu l u s3.heap.objs.size Q I4 r1 (oB ..) pl pu q3
 exact tail_any ht hT hg (by with_unfolding_all rfl)
def Z8(xs:List V)(lo hi:Option Int):List V:=(xs.drop<|HT.sIx xs.length 0 lo).take<|HT.sIx xs.length xs.length hi-HT.sIx xs.length 0 lo
theorem Uo(xs:List V)(lo hi:Option Int):(Z8 xs lo hi).length<=xs.length:=by
 unfold Z8;rw[bT,bL];lia
def ZiB(K:ao):V->Option Int->Option Int->Hp->VK->Prop:=λx lo hi H Q=>∃a xs,x=.ref a/\SqT K H a xs/\
 ¬(HT.sIx xs.length 0 lo=0/\HT.sIx xs.length xs.length hi=xs.length)/\∀p,H p=ai->Q (.ref p) (upd H p<|.tup<|Z8 xs lo hi)
def ZgL:SlR X (ZiB X.K):=by
 intro pq s Z H x v vl vu lo hi sl Q I rx hs pl pu h;obtain⟨a,xs,rfl,hx,hw,q⟩:=h;cases rx;obtain⟨its,r,ht,hz⟩:=I.tuple hx;have hlen:its.toArray.size=xs.length:=by rw[aC];exact r.length.symm
 refine#["tuple",_,cQ.lookup,ht.typeIs,?_];refine HT.Vi ht hs pl pu (by rw[hlen];exact hw) ?_ (by rw[hlen];exact hz)
 rw[hlen];refine#[.ref s.heap.objs.size,_,I.laid (t':=s.toks) (λb ob q=>aq _ q) (aM _) ?_,rfl,q _<|I.hok.fresh<|aM _]
 exact#[cc (Uo xs lo hi) hz,_,(r.drop<|HT.sIx xs.length 0 lo).take<|HT.sIx xs.length xs.length hi-HT.sIx xs.length 0 lo,iR _ _]
def ZeW(K:ao):R2:=λx y H Q=>∃a b xs ys,x=.ref a/\y=.ref b/\SqT K H a xs/\SqT K H b ys/\xs≠[]/\xs.length+ys.length<=ba/\
 (ys=[]->Q (.ref a) H)/\(ys≠[]->∀p,H p=ai->Q (.ref p) (upd H p<|.tup<|xs++ys))
def Vals.nil_iff(r:Vals xs us):us=[]↔xs=[]:=by
 cases r with|nil=>simp|cons _ _=>simp
def Zcr:OpR X (fk .Add) (ZeW X.K):=by
 intro pq s Z H x y v u Q I rx ry h;obtain⟨a,b,xs,ys,rfl,rfl,ha,hb,hx,hz,q1,q2⟩:=h;cases rx;cases ry;obtain⟨its,r1,p1,_⟩:=I.tuple ha;obtain⟨its2,r2,p2,_⟩:=I.tuple hb;refine HT.ZdM p1 p2 (λz=>hx<|r1.nil_iff.mp z) (λz=>#[.ref a,H,I,rfl,q1<|r2.nil_iff.mp z]) (λz=>?_) (by rw[<-r1.length,<-r2.length];exact hz)
 refine#[.ref s.heap.objs.size,_,I.laid (t':=s.toks) (λb ob q=>aq _ q) (aM _) ?_,rfl,q2 (λw=>z<|r2.nil_iff.mpr w) _<|I.hok.fresh<|aM _]
 exact#[by rw[aX];exact hz,_,r1.append r2,iR _ _]
end
noncomputable def ixN(n:Nat)(i:Int):Option Nat:=if 0<=i then(if i<n then aa i.toNat else ai)else if -(n:Int)<=i then aa (i+n).toNat else ai
def atI{B:Type}(xs:List B)(i:Int):Option B:=(ixN xs.length i).bind λj=>xs[j]?
def v6(h:ixN n i=aa j):seqIndex? i n=aa j/\j<n/\-(n:Int)<=i/\i<n:=by
 unfold ixN at h;by_cases h0:0<=i
 .rw[T9 h0]at h
  by_cases h1:i<n
  .rw[T9 h1]at h
   have e:=au h;exact#[by rw[rn h0 h1,e],by lia,by lia,h1]
  .rw[T8 h1]at h;cases h
 .rw[T8 h0]at h
  by_cases h1:-(n:Int)<=i
  .rw[T9 h1]at h
   have e:=au h;exact#[by rw[oY #[0] h1,e],by lia,h1,by lia]
  .rw[T8 h1]at h;cases h
def wN{B:Type}{xs:List B}{i:Int}{v:B}(h:atI xs i=aa v):∃j,seqIndex? i xs.length=aa j/\xs[j]?=aa v/\j<xs.length/\-(xs.length:Int)<=i/\i<xs.length:=by
 unfold atI at h;cases e:ixN xs.length i with
 |none=>rw[e]at h;cases h
 |some j=>
  rw[e]at h;obtain⟨h1,h2,h3,h4⟩:=v6 e;exact#[j,h1,h,h2,h3,h4]
def vq(b:Expr):Prop:=∀o i,subscripted b aj o i=operate [o,i] (lH o i)
def IxR(X:Cx)(r:R2):Prop:=
 ∀(value slice:Expr)(pq:List (aE×fH))(s:ay)(Z:St)(H:Hp)(x y:V)(v u:aw)(Q:VK),Inv X pq Z H s->Zx x v->Zx y u->r x y H Q->
  subscripted slice aj v u=operate [v,u] (lH v u)->aW #[9] X.A (subscriptTail value slice v u) (EP X pq Z Q) X.xe s
def MtR(X:Cx)(id:String)(r:V->List V->Hp->VK->Prop):Prop:=
 ∀pq s Z H x xs v us Q,Inv X pq Z H s->Zx x v->Vals xs us->r x xs H Q->
  aW #[9] X.A (call (.builtin id) (v::us)) (EP X pq Z Q) X.xe s
section
variable{X:Cx}{a b:Expr}{ta tb:TE}{pos:gu}
def IxR.or(h:IxR X r)(h':IxR X r'):IxR X (λx y H Q=>r x y H Q\/r' x y H Q):=by
 intro value slice pq s Z H x y v u Q I rx ry q hs;rcases q with q|q
 .exact h value slice pq s Z H x y v u Q I rx ry q hs
 .exact h' value slice pq s Z H x y v u Q I rx ry q hs
def vO(hr:IxR X r)(ha:PE X a ta)(hb:PE X b tb)(hs:vq b):PE X (.Subscript a b pos) (tOp r ta tb):=by
 intro pq s Z H Q I h;exact sf<|ZfH ha hb I h λv u s2 x y H2 I2 rx ry q=>hr a b pq s2 Z H2 x y v u Q I2 rx ry q<|hs _ _
def Zhh(K:ao):R2:=λx y H Q=>∃p xs i v,x=.ref p/\y=.int i/\SqL K H p xs/\atI xs i=aa v/\Q v H
def Zia(K:ao):R2:=λx y H Q=>∃p xs i v,x=.ref p/\y=.int i/\SqT K H p xs/\atI xs i=aa v/\Q v H
theorem UC:IxR X (Zhh X.K):=by
 intro value slice pq s Z H x y v u Q I rx ry h hs;obtain⟨p,xs,i,z,rfl,rfl,hq,he,q⟩:=h;cases rx;obtain⟨t,rfl⟩:=ry;obtain⟨its,r,pl,hz⟩:=I.list hq;obtain⟨j,h1,h2,h3,h4,h5⟩:=wN he;obtain⟨w,ew,rw'⟩:=r.get h2;have hl:=r.length;have hn:=QO;have fin:EP X pq Z Q w s:=#[z,H,I,rw',q];by_cases h0:0<=i
 .have hj:i.toNat=j:=by
   rw[rn h0 h5]at h1;exact au h1
  exact item_listR pl.isList h0 #[0] (by rw[hj];simpa using ew) fin hs
 .have hj:(i+(its.toArray.size:Int)).toNat=j:=by
   rw[oY #[0] h4]at h1
   rw[aC,<-hl];exact au h1
  exact mK pl.isList.typeIs slot_list_getitem.lookup
   (wpAny_getItem_list_neg pl.isList #[0] (by rw[aC]<;>lia) #[0] (by rw[hj];simpa using ew) #[rfl,fin]) hs
theorem ZfV:IxR X (Zia X.K):=by
 intro value slice pq s Z H x y v u Q I rx ry h hs;obtain⟨p,xs,i,z,rfl,rfl,hq,he,q⟩:=h;cases rx;obtain⟨t,rfl⟩:=ry;obtain⟨its,r,pl,hz⟩:=I.tuple hq;obtain⟨j,h1,h2,h3,h4,h5⟩:=wN he;obtain⟨w,ew,rw'⟩:=r.get h2;have hl:=r.length;have hn:=QO;have fin:EP X pq Z Q w s:=#[z,H,I,rw',q];exact mK pl.typeIs slot_tuple_getitem.lookup
  (getItem_tuple pl #[0] #[0] (by rw[aC,<-hl];exact h1) (by simpa using ew) #[rfl,fin]) hs
def wa(its:List aw)(n j:Nat)(u:aw):eR (·.setIfInBounds j u) {cls:=.type "list",data:=.seq its.toArray n}={cls:=.type "list",data:=.seq (its.set j u).toArray n}:=by
 simp[eR]
theorem Inv.lst{pq:List (aE×fH)}{Z:St}{H:Hp}{s:ay}{p:aE}{xs:List V}(I:Inv X pq Z H s)(h:H p=aa (.lst xs)) :
  ∃(its:List aw)(n:Nat),Vals xs its/\s.heap.get? p=aa {cls:=.type "list",data:=.seq its.toArray n}/\xs.length<=ba:=by
 obtain⟨z,its,n,r,e⟩:=I.hok p _ h;exact#[its,n,r,e,z]
def Inv.lstUpd{pq:List (aE×fH)}{Z:St}{H:Hp}{s:ay}{p:aE}{xs ys:List V}{its its':List aw}{n n':Nat}{f:fH->fH}(I:Inv X pq Z H s)(h:H p=aa (.lst xs))
  (ho:s.heap.get? p=aa {cls:=.type "list",data:=.seq its.toArray n})(hf:f {cls:=.type "list",data:=.seq its.toArray n}={cls:=.type "list",data:=.seq its'.toArray n' })(r:Vals ys its')(hz:ys.length<=ba)(t:Nat) :
  Inv X pq Z (upd H p<|.lst ys) {s with heap:=s.heap.update p f,toks:=t}:=by
 have e:(s.heap.update p f).get? p=aa {cls:=.type "list",data:=.seq its'.toArray n' }:=by
  rw[dO f ho (by rw[hf]<;>rfl),hf]
 refine I.write (by rw[h];trivial) (.inl rfl) (λb u hb q=>(mL _ _<|Ne.symm hb).trans q) #[_,e] ?_
 exact#[hz,its',n',r,e]
def ZhM:V->V->V->Hp->(Hp->Prop)->Prop:=λo i v H Q=>∃p xs k j,o=.ref p/\i=.int k/\H p=aa (.lst xs)/\ixN xs.length k=aa j/\Q (upd H p<|.lst<|xs.set j v)
theorem Zb0:PSet X ZhM:=by
 intro pq s Z H o i v ov iv u Q I ro ri rv h;obtain⟨p,xs,k,j,rfl,rfl,hp,hj,q⟩:=h;cases ro;obtain⟨t,rfl⟩:=ri;obtain⟨its,n,r,ho,hz⟩:=I.lst hp;obtain⟨h1,h2,h3,h4⟩:=v6 hj;have hl:=r.length;have hn:=QO;have I':=
  I.lstUpd hp ho (wa its n j u) (r.set rv j) (by rw[bG];exact hz) s.toks
 by_cases h0:0<=k
 .have hk:k.toNat=j:=by
   rw[rn h0 h4]at h1;exact au h1
  exact PySem.W.ki_setAt ho h0 #[0] (by rw[aC,<-hl];exact h4) (by rw[hk];exact#[_,I',q])
 .have hk:(k+(its.toArray.size:Int)).toNat=j:=by
   rw[oY #[0] h3]at h1
   rw[aC,<-hl];exact au h1
  exact PySem.W.ki_setBack ho #[0] (by rw[aC,<-hl];exact h3) #[0] (by rw[hk];exact#[_,I',q])
theorem zi(lo hi:Option Int)(n:Nat):(iB lo hi ai n).1=((HT.sIx n 0 lo:Nat):Int)/\(iB lo hi ai n).2.1=((HT.sIx n n hi:Nat):Int)/\(iB lo hi ai n).2.2=1:=by
 refine#[?_,?_,rfl]
 .cases lo with
  |none=>simp[iB,HT.sIx]
  |some i=>
   simp only[iB,HT.sIx,pL,show(1:Int)>0 by decide,if_true]
   by_cases h:i<0
   .simp only[h,if_true]<;>lia
   .simp only[h,if_false]<;>lia
 .cases hi with
  |none=>simp[iB,HT.sIx]
  |some i=>
   simp only[iB,HT.sIx,pL,show(1:Int)>0 by decide,if_true]
   by_cases h:i<0
   .simp only[h,if_true]<;>lia
   .simp only[h,if_false]<;>lia
def Q5(its:List aw)(lo hi:Option Int):slicePick its.toArray lo hi ai=((its.drop<|HT.sIx its.length 0 lo).take<|HT.sIx its.length its.length hi-HT.sIx its.length 0 lo).toArray:=by
 obtain⟨h1,h2,h3⟩:=zi lo hi its.toArray.size;unfold slicePick;rw[h1,h2,h3];simp only[sliceRange_one,pick_run,aC]<;>rfl
def Zig(K:ao):V->Option Int->Option Int->Hp->VK->Prop:=λx lo hi H Q=>∃a xs,x=.ref a/\SqL K H a xs/\∀p,H p=ai->Q (.ref p) (upd H p<|.lst<|Z8 xs lo hi)
theorem ZdU:SlR X (Zig X.K):=by
 intro pq s Z H x v vl vu lo hi sl Q I rx hs pl pu h;obtain⟨a,xs,rfl,hx,q⟩:=h;cases rx;obtain⟨its,r,ht,hz⟩:=I.list hx;have hlen:=r.length;refine#["list",_,slot_list_getitem.lookup,ht.isList.typeIs,?_];refine wpAny_getItem_list_slice ht.isList hs pl pu .none #[2] ?_ (by rw[aC]<;>lia)
 rw[Q5,<-hlen];refine#[.ref s.heap.objs.size,_,I.laid (t':=s.toks) (λb ob q=>aq _ q) (aM _) ?_,rfl,q _<|I.hok.fresh<|aM _]
 exact#[cc (Uo xs lo hi) hz,_,0,(r.drop<|HT.sIx xs.length 0 lo).take<|HT.sIx xs.length xs.length hi-HT.sIx xs.length 0 lo,aI _ rfl]
noncomputable def wS:V->Bool
 |.non=>am
 |.bl _=>am
 |.int _=>am
 |.str _=>am
 |_=>aj
noncomputable def eqV:V->V->Bool
 |.non,.non=>am
 |.bl a,.bl b=>a == b
 |.bl a,.int b=>(if a then 1 else 0) == b
 |.int a,.bl b=>a == (if b then 1 else 0)
 |.int a,.int b=>a == b
 |.str a,.str b=>a == b
 |_,_=>aj
def Zfy{A:b9}{s:ay}{y x:V}{u v:aw}(ry:Zx y u)(rx:Zx x v)(fy:wS y=am)(fx:wS x=am):iT A s u v (eqV y x):=by
 cases y with
 |non=>
  cases ry;cases x with|non=>cases rx;exact km _|bl b=>cases rx;exact iT.none_bool b|int b=>obtain⟨t,rfl⟩:=rx;exact iT.none_int b t|str b=>obtain⟨t,rfl⟩:=rx;exact iT.none_str b t|_=>exact T7 (fx) aR
 |bl a=>
  cases ry;cases x with|non=>cases rx;exact iT.bool_none a|bl b=>cases rx;exact iT.bool_bool a b|int b=>obtain⟨t,rfl⟩:=rx;exact iT.bool_int a b t|str b=>obtain⟨t,rfl⟩:=rx;exact iT.bool_str a b t|_=>exact T7 (fx) aR
 |int a=>
  obtain⟨t',rfl⟩:=ry;cases x with|non=>cases rx;exact iT.int_none a t'|bl b=>cases rx;exact iT.int_bool a t' b|int b=>obtain⟨t,rfl⟩:=rx;exact oC a t' b t|str b=>obtain⟨t,rfl⟩:=rx;exact oj a t' b t|_=>exact T7 (fx) aR
 |str a=>
  obtain⟨t',rfl⟩:=ry;cases x with|non=>cases rx;exact iT.str_none a t'|bl b=>cases rx;exact iT.str_bool a t' b|int b=>obtain⟨t,rfl⟩:=rx;exact om a t' b t|str b=>obtain⟨t,rfl⟩:=rx;exact iT.str_str a t' b t|_=>exact T7 (fx) aR
 |_=>exact T7 (fy) aR
theorem zr:ZE X (.builtin "len") (λxs H Q=>∃p ys,xs=[.ref p]/\(SqL X.K H p ys\/SqT X.K H p ys)/\Q (.int ys.length) H):=by
 intro pq s Z H xs us Q I r h;obtain⟨p,ys,rfl,hq,q⟩:=h;obtain⟨u,rfl,rx⟩:=XQ r;cases rx;have hn:=QO;rcases hq with hq|hq
 .obtain⟨its,r',pl,hz⟩:=I.list hq
  have hlen:=r'.length;exact Calls.call_len_list pl.isList (by simp only[aC]<;>lia) #[.int ys.length,H,I.tok _,#[s.toks+1,by rw[aC,hlen]],q]
 .obtain⟨its,r',pl,hz⟩:=I.tuple hq
  have hlen:=r'.length;exact len_tuple pl (by simp only[aC]<;>lia) #[.int ys.length,H,I.tok _,#[s.toks+1,by rw[aC,hlen]],q]
theorem Gq:ZE X (.type "list") (λxs H Q=>∃p ys,xs=[.ref p]/\(SqL X.K H p ys\/SqT X.K H p ys)/\∀l,H l=ai->Q (.ref l) (upd H l<|.lst ys)):=by
 intro pq s Z H xs us Q I r h;obtain⟨p,ys,rfl,hq,q⟩:=h;obtain⟨u,rfl,rx⟩:=XQ r;cases rx;have fin:∀(its:List aw),Vals ys its->ys.length<=ba->∀(h':bZ)(c':Nat),(∀b o',s.heap.get? b=aa o'->h'.get? b=aa o')->
   h'.get? s.heap.objs.size=aa {cls:=.type "list",dict:=ai,data:=.seq its.toArray c',slots:=#[]}->EP X pq Z Q #[25] {s with heap:=h' }:=λits r' hz h' c' kp e=>
  #[.ref s.heap.objs.size,_,I.laid (t':=s.toks) kp (aM _) (show ZZ X.prog X.w _ h' _ (.lst ys)from#[hz,its,c',r',e]),rfl,q _<|I.hok.fresh<|aM _]
 rcases hq with hq|hq
 .obtain⟨its,r',pl,hz⟩:=I.list hq
  have hlen:=r'.length;obtain⟨o,ho,hc,n,hd⟩:=pl.isList;exact call_list_seq p (.inl rfl) ho hc hd (λh' c' kp e=>fin its r' hz h' c' kp e) (by simp only[aC]<;>lia)
 .obtain⟨its,r',pl,hz⟩:=I.tuple hq
  have hlen:=r'.length;obtain⟨o,ho,hc,n,hd⟩:=pl;exact call_list_seq p (.inr rfl) ho hc hd (λh' c' kp e=>fin its r' hz h' c' kp e) (by simp only[aC]<;>lia)
theorem QW:ZE X (.type "tuple") (λxs H Q=>∃p ys,xs=[.ref p]/\((SqL X.K H p ys/\∀l,H l=ai->Q (.ref l) (upd H l<|.tup ys))\/(SqT X.K H p ys/\Q (.ref p) H))):=by
 intro pq s Z H xs us Q I r h;obtain⟨p,ys,rfl,h⟩:=h;obtain⟨u,rfl,rx⟩:=XQ r;cases rx;rcases h with⟨hq,q⟩|⟨hq,q⟩
 .obtain⟨its,r',pl,hz⟩:=I.list hq
  have hlen:=r'.length;refine call_tuple_list pl.isList (λh' kp=>?_) (by simp only[aC]<;>lia)
  have I1:=I.kept (t':=s.toks) kp
  have I2:=
   I1.laid (t':=s.toks) (λb o e=>aq _ e) (aM _) (show ZZ X.prog X.w _ _ _ (.tup ys)from#[hz,its,r',iR _ _])
  exact#[.ref h'.objs.size,_,I2,rfl,q _<|I1.hok.fresh<|aM _]
 .obtain⟨its,r',pl,hz⟩:=I.tuple hq
  exact call_tuple_same pl #[.ref p,H,I,rfl,q]
def tyV(K:ao)(T:String)(x:V)(H:Hp):Prop:=match x with
 |.str _=>T = "str"
 |.int _=>T = "int"
 |.ref p=>(T = "list"/\∃xs,SqL K H p xs)\/(T = "tuple"/\∃o,K.lookup p=aa o/\o.cls=.type "tuple"/\o.dict=ai)\/
   (T = "dict"/\((∃kvs,H p=aa (.dK kvs))\/∃kvs,H p=aa (.dT kvs)))
 |_=>False
def Zfs(I:Inv X pq Z H s)(r:Zx x v)(ty:tyV X.K T x H) :
  s.TypeIs v T/\∀a,v=.ref a->∃ob,s.heap.get? a=aa ob/\ob.dict=ai:=by
 cases x with
 |str z=>
  obtain⟨t,rfl⟩:=r;cases(ty)
  exact#[typeIs_str s z t,λ_ e=>nomatch e]
 |int i=>
  obtain⟨t,rfl⟩:=r;cases(ty)
  exact#[mM s i t,λ_ e=>nomatch e]
 |ref p=>
  cases r;rcases ty with⟨rfl,xs,hq⟩|⟨rfl,o,hk,hc,hd⟩|⟨rfl,hk⟩
  .obtain⟨its,_,pl,_⟩:=I.list hq
   refine#[pl.isList.typeIs,λa e=>?_]
   cases e;obtain⟨o,n,e,c,hd,_⟩:=pl;exact#[o,e,hd]
  .refine#[#[o,I.kIn p o hk,hc],λa e=>?_]
   cases e;exact#[o,I.kIn _ o hk,hd]
  .have z:∃o,s.heap.get? p=aa o/\o.ExactDict:=by
    rcases hk with⟨kvs,hk⟩|⟨kvs,hk⟩
    .obtain⟨_,_,_,_,o,_,_,e,ex,_⟩:=I.hok p _ hk
     exact#[o,e,ex]
    .obtain⟨_,_,_,_,o,_,_,e,ex,_⟩:=I.hok p _ hk
     exact#[o,e,ex]
   obtain⟨o,e,ex⟩:=z;refine#[#[o,e,ex.1],λa e2=>?_]
   cases e2;exact#[o,e,ex.2.1]
 |_=>exact False.elim ty
def tBM(K:ao)(T:String)(r:V->List V->Hp->VK->Prop)(to:TE)(t:TA):TE:=λZ H Q=>to Z H λx H1=>tyV K T x H1/\t Z H1 λxs H2=>r x xs H2 Q
variable{o e:Expr}{es:List Expr}{to:TE}{t:TA}{name:bn}{apos cpos:gu}{T id:String}{r:V->List V->Hp->VK->Prop}
def vz(pa:PlainAttrs T)(slot:Slot T name id)(hty:typeOf (.builtin id)=cS (.type "method_descriptor"))(hm:MtR X id r)(ho:PE X o to)(ha:PA X (e::es) t)
  (hbase:attributeBase o name X.env (c6 o X.env)=c6 o X.env:=by rfl)
  (hfew:((d7 cpos<|aG (e::es) X.env).all (λx=>!x.1)&&(backToKw cpos<|keywordEach [] X.env).all (λx=>x.1.isSome)
   && af ((e::es).length+([]:List tD).length+(if([]:List tD).isEmpty then 0 else 1)<30))=am:=by rfl)
  (hline:(apos.endLine == cpos.line)=am:=by rfl)(hs:aG (e::es) X.env=#[22]::aG es X.env:=by rfl)(hplain:(d7 cpos<|aG es X.env).any (·.1)=aj:=by rfl) :
  PE X (.Call (.Attribute o name apos) (e::es) [] cpos) (tBM X.K T r to t):=by
 intro pq s Z H Q I h;refine wpAny_Call_method_late hbase hfew hline rfl<|thn (ho pq s Z H _ I h) λv s1 #[x,H1,I1,r1,ty,q1]=>?_
 obtain⟨h1,h2⟩:=Zfs I1 r1 ty;refine#[T,id,pa,slot,hty,h1,h2,?_];have hA:=ha cpos pq s1 Z H1 _ I1 q1;rw[hs]at hA ⊢;refine Calls.callWith_builtin (by show(aj||(d7 cpos<|aG es X.env).any (·.1))=aj;rw[hplain]<;>rfl)<|Calls.evalArgs_plain ?_
 exact thn hA<|by rintro us s2 ⟨vs,H2,I2,r2,q2⟩;exact hm pq s2 Z H2 x vs v us Q I2 r1 r2 q2
end
def MtM(X:Cx)(id:String)(r:V->List V->Hp->VK->Prop):Prop:=
 ∀pq s Z H x xs v us Q,Inv X pq Z H s->Zx x v->Vals xs us->r x xs H Q->
  aW #[9] X.A (call (.builtin id) (v::us)) (EP X pq Z Q) X.xe s
def Vals.one:∀{x:V}{us:List aw},Vals [x] us->∃u,us=[u]/\Zx x u
 |_,_,.cons r .nil=>#[_,rfl,r]
theorem Vals.reverse(h:Vals xs us):Vals xs.reverse us.reverse:=by
 induction h with|nil=>exact .nil|cons r t ih=>rw[fm,fm];exact Vals.append ih<|.cons r .nil
theorem Vals.rep(h:Vals xs us):∀k:Nat,Vals (aB k xs).flatten (aB k us).flatten
 |0=>.nil
 |k+1=>by
  rw[bY,bY,dk,dk];exact Vals.append h<|Vals.rep h k
theorem V9(its:List aw):∀(k:Nat)(acc:List aw),
  List.foldl (λx1 x2=>x1++x2) acc.toArray (aB k its.toArray)=(acc++(aB k its).flatten).toArray
 |0,acc=>by simp
 |k+1,acc=>by
  have e:acc.toArray++its.toArray=(acc++its).toArray:=by simp
  have e2:(acc++its)++(aB k its).flatten=acc++(aB (k+1) its).flatten:=by
   rw[bY,dk,bK]
  rw[<-e2,<-V9 its k (acc++its),<-e,bY,dE]
section
variable{X:Cx}{pq:List (aE×fH)}{Z:St}{H:Hp}{s:ay}{l b:aE}{xs ys zs:List V}
def Inv.lset{its its':List aw}{n:Nat}{f:Array aw->Array aw}{t':Nat}(I:Inv X pq Z H s)(hH:H l=aa (.lst xs))
  (e:s.heap.get? l=aa {cls:=.type "list",data:=.seq its.toArray n})(hf:f its.toArray=its'.toArray)(hv:Vals ys its')(hz:ys.length<=ba) :
  Inv X pq Z (upd H l<|.lst ys) {s with heap:=s.heap.update l<|eR f,toks:=t' }:=by
 have q:=PySem.IsL.update e f;rw[hf]at q;refine I.write (by rw[hH];exact trivial) (.inl rfl) (λb' u hb hu=>(mL s.heap (eR f)<|Ne.symm hb).trans hu) #[_,q] ?_
 exact#[hz,its',_,hv,q]
def Inv.lnew(I:Inv X pq Z H s)(hv:Vals ys its)(hz:ys.length<=ba) :
  Inv X pq Z (upd H s.heap.objs.size<|.lst ys) {s with heap:=s.heap.push {cls:=.type "list",data:=.seq its.toArray},toks:=t' }:=
 I.laid (λ_ _ q=>aq _ q) (aM _) #[hz,its,0,hv,aI _ rfl]
theorem Inv.fresh(I:Inv X pq Z H s):H s.heap.objs.size=ai:=I.hok.fresh<|aM _
def Inv.lstM(I:Inv X pq Z H s)(hH:H l=aa (.lst xs)):xs.length<=ba/\∃(its:List aw)(n:Nat),Vals xs its/\xs.length=its.length/\s.heap.get? l=aa {cls:=.type "list",data:=.seq its.toArray n}:=by
 obtain⟨z,its,n,r,e⟩:=I.hok l _ hH;exact#[z,its,n,r,r.length,e]
end
section
variable{X:Cx}
def vc:V->List V->Hp->VK->Prop:=λx vs H Q=>∃l xs y,x=.ref l/\vs=[y]/\H l=aa (.lst xs)/\xs.length<ba/\Q .non (upd H l<|.lst<|xs++[y])
theorem VJ:MtM X "list.append" vc:=by
 intro pq s Z H x vs v us Q I rx rv h;obtain⟨l,xs,y,rfl,rfl,hH,hz,q⟩:=h;cases rx;obtain⟨u,rfl,ru⟩:=rv.one;obtain⟨z,its,n,r,hl,e⟩:=I.lstM hH;refine io F.slot_list_append #[_,e,rfl] F.entry_list_append (F.args_list_append_2 _ _) (PySem.list_append l its.toArray n u<|by rw[aC];lia) #[e,?_]
 refine#[.non,_,I.lset (its':=its++[u]) hH e #[2] (r.append<|.cons ru .nil) ?_,rfl,q]
 rw[aX,eX];lia
def ZdT:R2:=λx y H Q=>∃l b xs zs,x=.ref l/\y=.ref b/\H l=aa (.lst xs)/\H b=aa (.lst zs)/\xs.length+zs.length<=ba/\∀p,H p=ai->Q (.ref p) (upd H p<|.lst<|xs++zs)
theorem wD:OpR X (fk .Add) ZdT:=by
 intro pq s Z H x y v u Q I rx ry h;obtain⟨l,b,xs,zs,rfl,rfl,hH,hB,hz,q⟩:=h;cases rx;cases ry;obtain⟨z,its,n,r,hl,e⟩:=I.lstM hH;obtain⟨z2,its2,n2,r2,hl2,e2⟩:=I.lstM hB;refine PySem.P.add_list e e2 ?_ (by rw[aC,aC];lia)
 have ea:its.toArray++its2.toArray=(its++its2).toArray:=by simp
 rw[ea];exact#[.ref _,_,I.lnew (t':=s.toks) (r.append r2) (by rw[aX];lia),rfl,q _ I.fresh]
def zf{B:Type}(xs:List B)(k:Nat):(aB k xs).flatten.length=k*xs.length:=by
 induction k with|zero=>simp|succ k ih=>rw[bY,dk,aX,ih,Nat.succ_mul,iG]
end
end L2
namespace Att
open PySem PySem.W PySem.Calls PyProof.Rows
def Uz :∀(ns:List Int)(vs:List aw),WellAll P h vs (ns.map WData.int)->iZ vs ns:=by
 intro ns
 induction ns with
 |nil=>
  intro vs w;rw[List.map_nil]at w;cases w;exact .nil
 |cons n ns ih=>
  intro vs w;rw[aY]at w;cases w with
  |cons a b=>
   cases a;exact .cons _ _<|ih _ b
def qo{l:OpenLaw}{n:Nat}(hn:l.most=aa n){P:Params}{h:bZ}{args:List WData}{vals:List aw}
  (hpre:l.row.toRowW.claim.pre args=am)(hwl:WellAll P h vals args) :
  ∃a vs ns,vals=[cW a]/\args=[WData.list<|ns.map WData.int]/\h.get? a=aa {cls:=.type "list",data:=.seq vs.toArray}/\iZ vs ns/\ns.length<=n:=by
 have hsh:=(pre_splitW hpre).1;have hc:=(pre_splitW hpre).2;obtain⟨d,r,rfl,h1,h2⟩:=hasAllW_cons hsh;obtain rfl:=hasAllW_nil h2;obtain⟨xs,rfl,h3⟩:=hasW_list h1;obtain⟨ns,rfl⟩:=items_int h3;have hlen:ns.length<=n:=by
  have h4:(WTm.not<|.lt (.lit<|.int (n:Int))<|.len<|.arg 0).holds [] {args:=[.list<|ns.map .int]}=am:=by
   have h4:=(holds_andW hc).1;rw[hn]at h4;exact h4
  have h5:=condW_of h4<|w_not<|w_lt w_lit<|w_len_list<|w_arg rfl;rw[aA]at h5;refine d9 λq=>?_
  have q':(n:Int)<((ns.length:Nat):Int):=by lia
  first
   |(rw[T5 q']at h5;exact T7 h5 #[1])
   |(simp at h5;lia)
 cases hwl with
 |cons w1 w2=>
  cases w2;cases w1 with|list ho hall=>exact#[_,_,ns,rfl,rfl,ho,Uz ns _ hall,hlen]
def qO(l:OpenLaw)(args:List WData):l.row.toRowW.claim.post args (.bool am) args=am:=
 postW_of
  (by first|rfl|decide|simp[WShape.has,WShape.arms,WShape.armsAll])
  (w_eq_bool (w_res rfl) w_lit) rfl
def yj{l:OpenLaw}{n:Nat}{q:bv}{loose:List bn}{XP:(bn->Option aw)->bZ->Prop}{YP:bO->bZ->Prop}{d:tG}
  (hn:l.most=aa n)(hdf:d.params.defaults=[])
  (call:∀(w:bO)(s₀ s₁:ay)(mg mb:bn->Option aw)(fa:aE)(o:fH)(pm cd doc:aw)(a:aE)(vs:List aw)(ns:List Int),
   Ground q loose [] XP w s₀ mg mb s₁.heap->YP w s₁.heap->
   s₁.heap.get? fa=aa o->o.data=.func (docDef d.name d.params d.body d.scope pm cd doc)->s₁.heap.CodeRec cd d.name->mg d.name=aa (.ref fa)->
   s₁.heap.get? a=aa {cls:=.type "list",data:=.seq vs.toArray}->iZ vs ns->ns.length<=n->s₁.gens = #[]->
   gH (aS l.prog w) nN (.call (.ref fa) #[[.ref a],[]]) (λr s'=>r=.ok (.ret<|.bool am)/\OldK s₁.heap s'.heap/\s'.os=s₁.os/\iY s'.gens) s₁) :
  WalkO q loose XP YP l.row.toRowW d [] (λf vs=>sh f vs):=by
 intro w s₀ s₁ mg mb G Y fa o pm cd doc dV kV ho hd hcd hD hmg hg args vals as hpre hlay hrd hwl hlo;obtain rfl:dV=.none:=Dflts.none hD hdf;obtain rfl:kV=.none:=Dflts.noKw hD;obtain⟨a,vs,ns,rfl,rfl,hobj,hints,hlen⟩:=qo hn hpre hwl;refine enter_call<|fS (call w s₀ s₁ mg mb fa o pm cd doc a vs ns G Y ho (fd_plain hd) hcd hmg hobj hints hlen hg) λr s' hq=>?_
 obtain⟨rfl,h2,h3,h4⟩:=hq;exact#[.inl #[.bool am,.bool am,[],rfl,λ_=>rfl,.bool am,qO l _,λ_=>#[lJ,λ_ hm=>(nomatch hm)]],h2,h3,h4]
end Att
namespace L2
open PySem PySem.Spec PyProof.Rows
theorem Jn:∀{vs:List aw}{ns:List Int},iZ vs ns->Vals (ns.map V.int) vs
 |_,_,.nil=>.nil
 |_,_,.cons n t h=>.cons #[t,rfl]<|Jn h
noncomputable def Xg(s:eE):pI:=match s with
 |.FunctionDef _ a _ _ _ _ _ _ _ _=>a
 |_=>{posonlyargs:=[],args:=[],vararg:=ai,kwonlyargs:=[],kw_defaults:=[],kwarg:=ai,defaults:=[]}
noncomputable def ZB(s:eE):List eE:=match s with
 |.FunctionDef _ _ b _ _ _ _ _ _ _=>b
 |_=>[]
noncomputable def Zg(s:eE):d4:=match s with
 |.FunctionDef _ _ _ _ _ _ sc _ _ _=>sc
 |_=>{kind:=.function,names:=[],isGenerator:=aj,isCoroutine:=aj}
noncomputable abbrev E0:XK:=λ_ _ _=>False
structure Fun(K:ao)(x qual:bn)(st:eE)(f:aE)(fd:cP):Prop where
 ex:∃(oc:aw)(od:Option aE)(kV doc pm:aw)(an:Option aE)(cdv ct:aw)(osl:Array (Option aw)),
  fd=eK x qual (Xg st) (ZB st) (Zg st) .none kV doc pm an cdv ct/\K.lookup f=aa #[oc,od,.func fd,osl]/\kM K cdv qual=am
 kp:gB K (.ref f)=am
section
variable{P:bv}{w:bO}{K:ao}{mg:bn->Option aw}{base:bZ}
def Fun.binds{x qual:bn}{st:eE}{f:aE}{fd:cP}{ps:List bn}(F:Fun K x qual st f fd)
  (h:∀(kV doc pm:aw)(an:Option aE)(cdv ct:aw)(us:List aw),us.length=ps.length->nt (eK x qual (Xg st) (ZB st) (Zg st) .none kV doc pm an cdv ct) #[us,[]]=cS (ps.zip us)):Ue K fd ps []:=by
 obtain⟨oc,od,kV,doc,pm,an,cdv,ct,osl,rfl,lk,hcd⟩:=F.ex;exact .all<|h kV doc pm an cdv ct
def Zgw{x qual:bn}{st:eE}{f:aE}{oc:aw}{od an:Option aE}{osl:Array (Option aw)}{kV doc pm cdv ct:aw}(l:K.lookup f=aa #[oc,od,.func<|eK x qual (Xg st) (ZB st) (Zg st) .none kV doc pm an cdv ct,osl])
  (c:kM K cdv qual=am)(k:gB K (.ref f)=am):Fun K x qual st f (eK x qual (Xg st) (ZB st) (Zg st) .none kV doc pm an cdv ct):=#[#[oc,od,kV,doc,pm,an,cdv,ct,osl,rfl,l,c],k]
end
section
variable{κ:Type}[DecidableEq κ]
noncomputable def Ux(kvs:List (κ×V))(k:κ):Option V:=(kvs.find? λkv=>af<|kv.1=k).map (·.2)
noncomputable def WW(kvs:List (κ×V))(k:κ)(v:V):List (κ×V):=
 if(kvs.any λkv=>af<|kv.1=k)=am then kvs.map (λkv=>if kv.1=k then(kv.1,v)else kv)else kvs++[(k,v)]
def Qw{p:κ×V}{r:List (κ×V)}{k:κ}(e:p.1=k):Ux (p::r) k=aa p.2:=by simp[Ux,fj,e]
def Qb{p:κ×V}{r:List (κ×V)}{k:κ}(e:¬p.1=k):Ux (p::r) k=Ux r k:=by simp[Ux,fj,e]
theorem X8(k:κ):∀kvs:List (κ×V),(kvs.any λkv=>af<|kv.1=k)=(Ux kvs k).isSome
 |[]=>rfl
 |p::r=>by
  rw[fE];by_cases e:p.1=k
  .simp only[Qw e,T5 e,Bool.true_or,oD]
  .rw[Qb e,T4 e,i5];exact X8 k r
theorem Ut(kvs:List (κ×V))(k:κ)(v:V):(WW kvs k v).length<=kvs.length+1:=by
 unfold WW;split
 .rw[aA];lia
 .rw[aX,aT,List.length_nil];lia
def ZaF{kvs:List (κ×V)}{k:κ}(v:V)(h:Ux kvs k=ai):WW kvs k v=kvs++[(k,v)]:=by
 unfold WW;rw[X8,h];exact T8 #[1]
def Zcl.isSome_eq(r:Zcl o u):o.isSome=u.isSome:=by
 cases o with
 |none=>cases u with|none=>rfl|some _=>exact(r).elim
 |some _=>cases u with|none=>exact(r).elim|some _=>rfl
def KV.val{kvs:List (κ×V)}{vs:List (κ×aw)}(r:KV kvs vs)(k:κ):Zcl (Ux kvs k) (oZ vs k):=by
 unfold KV at r
 induction r with
 |nil=>exact fD
 |@cons p q ps qs h t ih=>
  obtain⟨h1,h2⟩:=h;by_cases e:p.1=k
  .have e':=h1.symm.trans e
   have b:oZ (q::qs) k=aa q.2:=by simp[oZ,fj,e']
   rw[Qw e,b];exact h2
  .have e':¬q.1=k:=λz=>e (h1.trans z)
   have b:oZ (q::qs) k=oZ qs k:=by simp[oZ,fj,e']
   rw[Qb e,b];exact ih
theorem KV.any(r:KV kvs vs)(k:κ):(kvs.any λkv=>af<|kv.1=k)=vs.any λkv=>af (kv.1=k):=by
 unfold KV at r
 induction r with|nil=>rfl|cons h t ih=>rw[fE,fE,ih,h.1]
def KV.repl(r:KV kvs vs)(k:κ)(ry:Zx y u) :
  KV (kvs.map λkv=>if kv.1=k then(kv.1,y)else kv) (vs.map λkv=>if kv.1=k then(kv.1,u)else kv):=by
 unfold KV at r ⊢
 induction r with
 |nil=>exact .nil
 |@cons p q ps qs h t ih=>
  rw[aY,aY];refine .cons ?_ ih;obtain⟨h1,h2⟩:=h;by_cases e:p.1=k
  .rw[T9 e,T9<|h1.symm.trans e];exact#[h1,ry]
  .rw[T8 e,T8 λz=>e<|h1.trans z];exact#[h1,h2]
def KV.put(r:KV kvs vs)(k:κ)(ry:Zx y u):KV (WW kvs k y) (stored vs k u):=by
 unfold WW stored;rw[r.any k];by_cases e:(vs.any λkv=>af<|kv.1=k)=am
 .rw[T9 e,T9 e];exact r.repl k ry
 .rw[T8 e,T8 e];exact Paired.snoc r #[rfl,ry]
theorem KV.length{kvs:List (κ×V)}{vs:List (κ×aw)}(r:KV kvs vs):kvs.length=vs.length:=Paired.length r
end
def um(r:Zx (kV k) u):(ZQ P w).is k u=am:=by
 cases k with|inl i=>obtain⟨t,e⟩:=(r);subst e;exact yG P w i t|inr x=>obtain⟨t,e⟩:=(r);subst e;exact yH P w x t
theorem Jf :∀{ks:List Key}{us:List aw},Vals (ks.map kV) us->ItemsAre (ZQ P w) ks us
 |[],_,r=>by rw[List.map_nil]at r;cases r;exact .nil
 |k::ks,_,r=>by
  rw[aY]at r;cases r with|cons h t=>exact .cons (um h)<|Jf t
abbrev KT(H:Hp):List (List Key×V)->List (List Key×aE×aw)->Prop:=Paired λp q=>p.1=q.1/\H q.2.1=aa (.tup<|p.1.map kV)/\Zx p.2 q.2.2
def KT.val{H:Hp}{kvs:List (List Key×V)}{xs:List (List Key×aE×aw)}(r:KT H kvs xs)(k:List Key):Zcl (Ux kvs k) ((o0 xs k).map (·.2)):=by
 induction r with
 |nil=>exact fD
 |@cons p q ps qs h t ih=>
  obtain⟨h1,_,h2⟩:=h;by_cases e:p.1=k
  .have e':=h1.symm.trans e
   have b:o0 (q::qs) k=aa q.2:=by simp[o0,fj,e']
   rw[Qw e,b];exact h2
  .have e':¬q.1=k:=λz=>e (h1.trans z)
   have b:o0 (q::qs) k=o0 qs k:=by simp[o0,fj,e']
   rw[Qb e,b];exact ih
def KT.repl{H:Hp}{kvs:List (List Key×V)}{xs:List (List Key×aE×aw)}(r:KT H kvs xs)(k:List Key){y:V}{u:aw}(ry:Zx y u) :
  KT H (kvs.map λkv=>if kv.1=k then(kv.1,y)else kv) (xs.map<|putAt k u):=by
 induction r with
 |nil=>exact .nil
 |@cons p q ps qs h t ih=>
  rw[aY,aY];refine .cons ?_ ih;obtain⟨h1,h2,h3⟩:=h;unfold putAt;by_cases e:p.1=k
  .rw[T9 e,T9<|h1.symm.trans e];exact#[h1,h2,ry]
  .rw[T8 e,T8 λz=>e<|h1.trans z];exact#[h1,h2,h3]
def KT.put{H:Hp}{kvs:List (List Key×V)}{xs:List (List Key×aE×aw)}(r:KT H kvs xs)(k:List Key){b:aE}{y:V}{u:aw}(hb:H b=aa (.tup<|k.map kV))(ry:Zx y u) :
  KT H (WW kvs k y) (storedH xs k b u):=by
 have e:(kvs.any λkv=>af<|kv.1=k)=(o0 xs k).isSome:=by
  rw[X8,(r.val k).isSome_eq,lK]
 unfold WW storedH;rw[e];by_cases q:(o0 xs k).isSome=am
 .rw[T9 q,T9 q];exact r.repl k ry
 .rw[T8 q,T8 q];exact Paired.snoc r #[rfl,hb,ry]
def KT.keeps{H H':Hp}{kvs:List (List Key×V)}{xs:List (List Key×aE×aw)}(r:KT H kvs xs)(ht:∀b ys,H b=aa (.tup ys)->H' b=aa (.tup ys)):KT H' kvs xs:=
 Paired.mapP r λ_ _ z=>#[z.1,ht _ _ z.2.1,z.2.2]
def ZeF(ok:HOk P w H h)(e:Rd H a u):ZZ P w H h a u:=e.ok ok
def Za7(ok:HOk P w H h)(e:Rd H a (.dK kvs)):kvs.length<=ba/\(a == de)=aj/\∃vs,KV kvs vs/\h.DictOf (ZQ P w) a vs:=
 ZeF ok e
def Zhq(ok:HOk P w H h)(e:H a=aa (.dK kvs)):kvs.length<=ba/\(a == de)=aj/\∃vs,KV kvs vs/\h.DictOf (ZQ P w) a vs:=Za7 ok<|.inl e
def V8(ok:HOk P w H h)(e:H a=aa (.tup<|ks.map kV)):(d6<|ZQ P w).is h ks a:=by
 obtain⟨_,its,r,o,h1,h2,n,h3⟩:=(ok a _ e)
 exact#[o,its.toArray,n,h1,h2,h3,by simpa using Jf r]
def Zaq(ok:HOk P w H h)(e:Rd H a (.dT kvs)):kvs.length<=ba/\(a == de)=aj/\
  ∃xs,KT H kvs xs/\h.DictOfH (d6<|ZQ P w) a xs:=by
 obtain⟨z,y,xs,r,o,es,ep,h1,h2,h3,h4,h5⟩:=(ZeF ok e)
 refine#[z,y,xs,r,o,es,ep,h1,h2,h3,h4,λx hx=>?_,h5]
 have all:∀{l:List (List Key×V)}{m:List (List Key×aE×aw)},KT H l m->∀x∈m,(d6<|ZQ P w).is h x.1 x.2.1:=by
  intro l m q
  induction q with
  |nil=>intro x hx;exact nomatch hx
  |@cons p q ps qs hq t ih=>
   intro x hx;rcases az.mp hx with e|hx
   .subst e
    exact V8 ok (by rw[<-hq.1];exact hq.2.1)
   .exact ih x hx
 exact all r x hx
def ZeJ{kvs:List (List Key×V)}(ok:HOk P w H h)(e:H a=aa (.dT kvs)):kvs.length<=ba/\(a == de)=aj/\
  ∃xs,KT H kvs xs/\h.DictOfH (d6<|ZQ P w) a xs:=Zaq ok<|.inl e
def DGet(H:Hp)(a:aE)(y:V)(r:Option V):Prop:=
 (∃kvs k,Rd H a (.dK kvs)/\y=kV k/\r=Ux kvs k)\/∃kvs k b,Rd H a (.dT kvs)/\y=.ref b/\H b=aa (.tup<|k.map kV)/\r=Ux kvs k
def DPut(H:Hp)(a:aE)(y v:V)(H':Hp):Prop:=
 (∃kvs k,H a=aa (.dK kvs)/\y=kV k/\kvs.length<ba/\H'=upd H a (.dK<|WW kvs k v))\/
 ∃kvs k b,H a=aa (.dT kvs)/\y=.ref b/\H b=aa (.tup<|k.map kV)/\kvs.length<ba/\H'=upd H a (.dT<|WW kvs k v)
def DPut.t{H:Hp}{a b:aE}{kvs:List (List Key×V)}{k:List Key}{v:V}(e:H a=aa (.dT kvs))(eb:H b=aa (.tup<|k.map kV))(hl:kvs.length<ba) :
  DPut H a (.ref b) v (upd H a<|.dT<|WW kvs k v):=.inr #[kvs,k,b,e,rfl,eb,hl,rfl]
def Inv.big(I:Inv X pq Z H s):de<s.heap.objs.size:=by
 have h:=(I.mod.glob.keeps I.bk).lt;exact dF #[1] h
def Zh9{Q:aw->ay->Prop}(hu:A.units+1<dL)(I:Inv X pq Z H s)(g:DGet H a y o)(ry:Zx y u)(h:∀s',Inv X pq Z H s'->Q (.bool o.isSome) s') :
  aW #[9] A (cO .In u<|.ref a) Q E s:=by
 rcases g with⟨kvs,k,e,ey,l⟩|⟨kvs,k,b,e,ey,eb,l⟩
 .subst ey
  obtain⟨z,hd,vs,rel,dd⟩:=Za7 I.hok e;refine wpAny_in_of (um ry) hd dd.mapOf ?_;rw[<-(rel.val k).isSome_eq,<-l];exact h _<|I.tok _
 .subst ey
  cases(ry)
  obtain⟨z,hd,xs,rel,dd⟩:=Zaq I.hok e;refine wpAny_in_heap (ip hu) (V8 I.hok eb) hd dd ?_;have q:=(rel.val k).isSome_eq;rw[lK]at q;rw[<-q,<-l];exact h _<|I.tok _
def Zdx{Q:aw->ay->Prop}(hu:A.units+1<dL)(I:Inv X pq Z H s)(g:DGet H a y o)(ry:Zx y u)(h:∀s',Inv X pq Z H s'->Q (.bool<|!o.isSome) s') :
  aW #[9] A (cO .NotIn u<|.ref a) Q E s:=by
 rcases g with⟨kvs,k,e,ey,l⟩|⟨kvs,k,b,e,ey,eb,l⟩
 .subst ey
  obtain⟨z,hd,vs,rel,dd⟩:=Za7 I.hok e;refine wpAny_notIn_of (um ry) hd dd.mapOf ?_;rw[<-(rel.val k).isSome_eq,<-l];exact h _<|I.tok _
 .subst ey
  cases(ry)
  obtain⟨z,hd,xs,rel,dd⟩:=Zaq I.hok e;refine wpAny_notIn_heap (ip hu) (V8 I.hok eb) hd dd ?_;have q:=(rel.val k).isSome_eq;rw[lK]at q;rw[<-q,<-l];exact h _<|I.tok _
def G8(I:Inv X pq Z H s)(mu:Mut (H a))(hs:eI a s.heap h')(he:∃q,h'.get? a=aa q)(new:ZZ X.prog X.w (upd H a ob) h' a ob) :
  Inv X pq Z (upd H a ob) {s with heap:=h',toks:=t' }:=
 I.write mu (.inl rfl) (λb q hb z=>(hs.2 b hb).trans z) he new
def ZgH(z:kvs.length<=ba)(hd:(a == de)=aj)(rel:KV kvs vs)(dd:h'.DictOf (ZQ P w) a vs) :
  ZZ P w H' h' a (.dK kvs):=#[z,hd,vs,rel,dd]
def qi{H':Hp}{Q:Unit->ay->Prop}(hu:A.units+1<dL)(I:Inv X pq Z H s)(g:DPut H a y v H')(ry:Zx y u)(rv:Zx v r)(h:∀s',Inv X pq Z H' s'->Q () s') :
  aW #[9] A (tx (.ref a) u r) Q E s:=by
 rcases g with⟨kvs,k,e,ey,l,eH⟩|⟨kvs,k,b,e,ey,eb,l,eH⟩
 .subst ey eH
  obtain⟨z,hd,vs,rel,dd⟩:=Zhq I.hok e;have hz:vs.length<=ba:=by rw[<-rel.length];exact z
  have hl:(WW kvs k v).length<=ba:=by have:=Ut kvs k v;lia
  refine wpAny_setItem_pairs (hsz:=hz) (um ry) dd λh' dd' hs=>h _ ?_
  have he:∃q,h'.get? a=aa q:=let #[q,_,_,hq,_]:=dd';#[q,hq];exact G8 I (by rw[e];exact fD) hs he<|ZgH hl hd (rel.put k rv) dd'
 .subst ey eH
  cases(show u=cW b from ry)
  obtain⟨z,hd,xs,rel,dd⟩:=ZeJ I.hok e;have hz:xs.length<=ba:=by rw[<-Paired.length rel];exact z
  have hl:(WW kvs k v).length<=ba:=by have:=Ut kvs k v;lia
  refine wpAny_setItem_heap (hsz:=hz) (ip hu) (V8 I.hok eb) dd λh' dd' hs=>h _ ?_
  obtain⟨q,es,ep,hq,h2,h3,h4,_,h5⟩:=dd';refine G8 I (by rw[e];exact fD) hs #[q,hq] #[hl,hd,_,(rel.put k eb rv).keeps λc ys ec=>?_,q,es,ep,hq,h2,h3,h4,h5]
  rw[Zj (Zeo ec e (λz=>nomatch z))]
  exact ec
def Zg9(td ty tv:TE):TS:=λD Z H=>tv Z H λv H1=>td Z H1 λx H2=>ty Z H2 λy H3=>∃a H4,x=.ref a/\DPut H3 a y v H4/\D.nx Z H4
section
variable{X:Cx}{o i e value:Expr}{pos pos' tpos:gu}{td ty tv:TE}
def ZdS(hu:X.A.units+1<dL)(ho:PE X o td)(hi:PE X i ty)(hv:PE X value tv)(hs:fe value (aa<|.Subscript o i pos') pos.line X.env=cS aj) :
  PS X (.Assign [.Subscript o i pos'] value pos) (Zg9 td ty tv):=by
 intro pq s Z H D I h;refine wpAny_Assign_Subscript (thn (hv pq s Z H _ I h) λr s1 #[v,H1,I1,rv,q1]=>thn (ho pq s1 Z H1 _ I1 q1) λu s2 #[x,H2,I2,rx,q2]=>thn (hi pq s2 Z H2 _ I2 q2) λiv s3 #[y,H3,I3,ry,a,H4,ex,g,q3]=>?_) hs
 subst ex;obtain rfl:u=cW a:=rx;exact qi hu I3 g ry rv λs4 I4=>#[Z,H4,I4,q3]
end
def Zay(h:bZ)(hb:de<h.objs.size):ZZ P w H (h.push {cls:=.type "dict",data:=.dict #[]}) h.objs.size (.dK []):=
 #[dM _,beq_eq_false_iff_ne.mpr<|Ne.symm<|a9 hb,[],.nil,bZ.DictOf.new h]
def Zao(h:bZ)(hb:de<h.objs.size):ZZ P w H (h.push {cls:=.type "dict",data:=.dict #[]}) h.objs.size (.dT []):=
 #[dM _,beq_eq_false_iff_ne.mpr<|Ne.symm<|a9 hb,[],.nil,_,#[],0,aI _ rfl,#[rfl,rfl,rfl],rfl,rfl,ny]
def Zgo:TE:=λ_ H Q=>∀p,H p=ai->Q (.ref p) (upd H p<|.dK [])
section
variable{X:Cx}{pos:gu}
def jw:PE X (.Dict [] [] pos) Zgo:=λpq s Z H Q I h=>
 wpAny_Dict_empty #[.ref s.heap.objs.size,_,I.laid (t':=s.toks) (λ_ _ q=>aq _ q) (aM _)<|Zay s.heap I.big,rfl,h _<|I.hok.fresh<|aM _]
end
def xR:List (TE×TE)->St->Hp->(List (V×V)->Hp->Prop)->Prop
 |[],_,H,Q=>Q [] H
 |(tk,tv)::r,Z,H,Q=>tk Z H λx H1=>tv Z H1 λy H2=>xR r Z H2 λps H3=>Q ((x,y)::ps) H3
abbrev VV:List (V×V)->List (aw×aw)->Prop:=Paired λp q=>Zx p.1 q.1/\Zx p.2 q.2
def PPs(X:Cx)(pos:gu)(keys:List (Option Expr))(values:List Expr)(trs:List (TE×TE)):Prop:=
 ∀pq s Z H Q,Inv X pq Z H s->xR trs Z H Q->
  aW #[9] X.A (evalPairs<|pairTrees keys values X.env pos) (λvs s'=>∃ps H',Inv X pq Z H' s'/\VV ps vs/\Q ps H') X.xe s
def Zc6 :PPs X pos [] [] []:=λpq s Z H Q I h=>pairTrees_nil_walk #[[],H,I,.nil,h]
def Zb1(hk:PE X k tk)(hv:PE X v tv)(hr:PPs X pos ks vs trs) :
  PPs X pos (aa k::ks) (v::vs) ((tk,tv)::trs):=λpq s Z H Q I h=>
 pairTrees_cons_walk (thn (hk pq s Z H _ I h) λu s1 #[x,H1,I1,rx,q1]=>thn (hv pq s1 Z H1 _ I1 q1) λw2 s2 #[y,H2,I2,ry,q2]=>
  thn (hr pq s2 Z H2 _ I2 q2)<|by rintro ws s3 ⟨ps,H3,I3,rel,q3⟩;exact #[(x,y)::ps,H3,I3,.cons #[rx,ry] rel,q3])
end L2
namespace Pv
open PySem (Str)
inductive V where
 |non|bl (b:Bool)|int (i:Int)|str (x:bn)|tup (xs:List V)|lst (xs:List V)|drw|dct (ks:Sum (List<|Int×Int) (List<|List Int))|scr (ns:List Int)
 |dow (ks:List (List Int))
 deriving Inhabited
end Pv
namespace Ev
open PySem (Str)
def nos{B:Type}{P:Prop}{b:B}(h:ai=aa b):P:=by cases h
noncomputable def lim:Nat:=16777216
inductive Bop where|add|sub|mul|fdiv|mod|pow
 deriving DecidableEq
inductive Cop where|eq|ne|lt|le|gt|ge|is|inn|nin
 deriving DecidableEq
inductive Ty where|int|bool|str|tuple|list|dict|cls (c:Nat)
 deriving DecidableEq
inductive Bf where|len|max2|min2|toInt|tuple|list|all|any|sum|sortedR|dictP|listD|sortedD|sortedS|index|rangeL
 deriving DecidableEq
inductive So where|join|split|find|ix
 deriving DecidableEq
inductive Mf where|append|index
 deriving DecidableEq
mutual
inductive E where
 |c (d:Pv.V)|v (i:Nat)
 |tup (es:List E)|lst (es:List E)|dnew
 |bin (op:Bop) (a b:E)|neg (a:E)|not (a:E)|and (a b:E)|or (a b:E)|ite (t a b:E)
 |cmp (op:Cop) (a b:E)|chain (o p:Cop) (a b d:E)
 |ix (a i:E)|sl (a:E) (lo hi:Option E)|rev (a:E)
 |call (f:Nat) (as:List E)|blt (f:Bf) (as:List E)|mt (m:Mf) (o:E) (as:List E)
 |isi (a:E) (ts:List Ty)
 |comp1 (cap:List Nat) (nl:Nat) (t:List Nat) (it:W) (ifs:List E) (elt:E)
 |refu (w:Bool) (e:E)
 |dix (a:E) (k:Bool)
inductive W where
 |of (e:E)|rng1 (a:E)|rng2 (a b:E)|zip (a b:E)|enum (a:E)
end
abbrev E.n(i:Int):E:=.c<|.int i
inductive Sm where
 |asg (t:List Nat) (e:E)|par (t:List Nat) (es:List E)|aug (i:Nat) (op:Bop) (e:E)|dput (o i e:E)
 |ret (e:E)|ex (e:E)|ite (t:E) (a b:List Sm)|forr (t:List Nat) (it:W) (b:List Sm)|whl (t:E) (b:List Sm)
 |raise (c:Nat) (as:List E)
 |dset (i:Nat) (e:E)|cel (i f:Nat) (as:List E) (b:List Sm)
 |dnw (i:Nat) (k:E)|forF (t:List Nat) (e:E) (b:List Sm)
noncomputable def b2i(b:Bool):Int:=if b then 1 else 0
noncomputable def ZA:Nat:=6
noncomputable def ixN(n:Nat)(i:Int):Option Nat:=if 0<=i then(if i<n then aa i.toNat else ai)else if -(n:Int)<=i then aa (i+n).toNat else ai
def at'{B:Type}(xs:List B)(i:Int):Option B:=(ixN xs.length i).bind λj=>xs[j]?
noncomputable def sIx(n d:Nat):Option Int->Nat
 |none=>d
 |some i=>if i<0 then(i+n).toNat else sO i.toNat n
noncomputable def fits(i:Int):Bool:=af<|i.natAbs<2^8000
noncomputable def big:Int:=2^8000
def Zac(h:b<1073741824):b<big:=Int.lt_trans h #[20]
noncomputable def ltI:List Int->List Int->Bool
 |[],[]=>aj
 |[],_::_=>am
 |_::_,[]=>aj
 |a::x,b::y=>if a=b then ltI x y else af (a<b)
def YO(x:List Int):List #[15]->List #[15]
 |[]=>[x]
 |y::r=>if ltI x y then x::y::r else y::YO x r
def Zy:List #[15]->List #[15]
 |[]=>[]
 |x::r=>YO x<|Zy r
noncomputable def QX{B:Type}(lt:B->B->Bool)(x:B):List B->List B
 |[]=>[x]
 |y::r=>if lt x y then x::y::r else y::QX lt x r
def X5{B:Type}(lt:B->B->Bool):List B->List B
 |[]=>[]
 |x::r=>QX lt x<|X5 lt r
def ltP:List #[15]->List #[15]->Bool
 |[],[]=>aj
 |[],_::_=>am
 |_::_,[]=>aj
 |a::x,b::y=>if a=b then ltP x y else ltI a b
noncomputable def Zbd(is:List Int):Bool:=af (is.length<=1000)&&is.all λi=>af<|-1099511627776<=i/\i<=1099511627776
noncomputable def Z7(rs:List #[15]):Bool:=af (rs.length<=100000)&&decide rs.Nodup&&rs.all λr=>!r.isEmpty
noncomputable def YQ(ps:List (List<|List Int)):Bool:=af (ps.length<=100000)&&decide ps.Nodup&&(af (ps.length<=1)||ps.all λP=>!P.isEmpty)
def Qz(ks:List #[15]):Bool:=af (ks.length<=lim)&&decide ks.Nodup
noncomputable def WJ(i:Int):Bool:=af<|-(2^62)<=i/\i<2^62
noncomputable def few(i:Int):Bool:=af<|0<=i/\i<=1000
noncomputable def xj:Nat:=1000
noncomputable def Wd:List bn:=["row","part","number","heads","not beside","not in","turn","lot","many","note"]
noncomputable def spcs:List (Nat×Nat):=[(2,1),(2,2),(2,3),(2,4),(3,1),(3,2),(3,3),(5,1),(5,2),(2,5),(2,6),(3,4),(5,3)]
def Zhd(rs:List #[15]):Bool:=Z7 rs&&(af (rs.length<=300)&&spcs.any λq=>rs.all λr=>af (r.length=q.2)&&r.all λa=>af<|0<=a/\a<(q.1:Int))
noncomputable def ZhG(P:List #[15]):Int:=pN<|iN<|P.map λr=>pN<|iN<|r.map PySem.hashInt
def ZgY(ps:List (List<|List Int)):Bool:=YQ ps&&(af (ps.length<=1399)&&af (ps.map ZhG).Nodup)
structure Fn where
 ps:Nat
 ns:Nat
 body:List Sm
end Ev
namespace Pv
open Ev
open PySem (Str)
noncomputable abbrev DS:=Int×Bool
inductive PR(B:Type) where
 |ok (a:B) (s:DS)|ex (c:Nat) (s:DS)|no
noncomputable def PR.bind{B β:Type}(r:PR B)(f:B->DS->PR β):PR β:=match r with
 |.ok a s=>f a s
 |.ex c s=>.ex c s
 |.no=>.no
noncomputable def PR.nox{B:Type}(r:PR B):PR B:=match r with
 |.ex _ _=>.no
 |r=>r
noncomputable def po{B:Type}(o:Option B)(s:DS):PR B:=match o with
 |some a=>.ok a s
 |none=>.no
abbrev Env:=List<|Option V
mutual
noncomputable def V.flat:V->Bool
 |.tup xs=>Xe xs
 |.lst _=>aj
 |.drw=>aj
 |.dct _=>aj
 |.dow _=>aj
 |_=>am
noncomputable def Xe:List V->Bool
 |[]=>am
 |x::xs=>x.flat&&Xe xs
end
mutual
noncomputable def ofD:V->Option V
 |.non=>aa .non
 |.bl b=>aa<|.bl b
 |.int i=>aa<|.int i
 |.str x=>aa<|.str x
 |.tup xs=>(Zh2 xs).map .tup
 |_=>ai
noncomputable def Zh2:List V->Option (List V)
 |[]=>aa []
 |x::xs=>match ofD x,Zh2 xs with
  |some a,aa b=>aa (a::b)
  |_,_=>ai
end
noncomputable def Zw:V->Option Bool
 |.non=>aa aj
 |.bl b=>aa b
 |.int i=>aa<|af<|i≠0
 |.tup xs=>aa<|!xs.isEmpty
 |.lst xs=>aa<|!xs.isEmpty
 |_=>ai
noncomputable def Yz(f:V->V->Option Bool):List V->List V->Option Bool
 |[],[]=>aa am
 |x::xs,y::ys=>match f x y,Yz f xs ys with
  |some a,aa b=>aa<|a&&b
  |_,_=>ai
 |_,_=>aa aj
def eqV:Nat->V->V->Option Bool
 |0,_,_=>ai
 |k+1,x,y=>match x with
  |.non=>match y with
   |.non=>aa am
   |.bl _|.int _|.str _=>aa aj
   |_=>ai
  |.bl a=>match y with
   |.bl b=>aa<|af<|a=b
   |.int b=>aa<|af<|b2i a=b
   |.non|.str _=>aa aj
   |_=>ai
  |.int a=>match y with
   |.int b=>aa<|af<|a=b
   |.bl b=>aa<|af<|a=b2i b
   |.non|.str _=>aa aj
   |_=>ai
  |.str a=>match y with
   |.str b=>aa<|af<|a=b
   |.non|.bl _|.int _=>aa aj
   |_=>ai
  |.tup xs=>match y with
   |.tup ys=>Yz (eqV k) xs ys
   |_=>ai
  |.lst xs=>match y with
   |.lst ys=>if xs.length=ys.length then Yz (eqV k) xs ys else aa aj
   |_=>ai
  |_=>ai
def XF(x:V):List V->Option Bool
 |[]=>aa aj
 |y::ys=>match eqV ZA y x,XF x ys with
  |some a,aa b=>aa (a||b)
  |_,_=>ai
def Zid(x:V)(xs:List V):Option Nat:=if XF x xs=aa am then xs.findIdx? λy=>eqV ZA y x == aa am else ai
noncomputable def XR:V->Ty->Option Bool
 |.non,_=>aa aj
 |.bl _,t=>aa<|af<|t=.bool\/t=.int
 |.int _,t=>aa<|af<|t=.int
 |.str _,t=>aa<|af<|t=.str
 |.tup _,t=>aa<|af<|t=.tuple
 |.lst _,t=>aa<|af<|t=.list
 |.dct (.inl _),t=>aa<|af<|t=.dict
 |_,_=>ai
def Yn(x:V):List Ty->Option Bool
 |[]=>aa aj
 |t::ts=>match XR x t with
  |some am=>aa am
  |some aj=>Yn x ts
  |none=>ai
def Z8(xs:List V)(lo hi:Option Int):List V:=(xs.drop<|sIx xs.length 0 lo).take<|sIx xs.length xs.length hi-sIx xs.length 0 lo
def Uw(op:Bop)(a b:Int)(s:DS):PR V:=match op with
 |.add=>.ok (.int<|a+b) s
 |.sub=>.ok (.int<|a-b) s
 |.mul=>if(fits a&&fits b)=am then .ok (.int<|a*b) s else .no
 |.fdiv=>if 0<b/\b<Ev.big then .ok (.int<|a / b) s else .no
 |.mod=>if 0<b then .ok (.int<|a%b) s else .no
 |.pow=>if 0<=b/\b<=1000/\a.natAbs<2^64 then .ok (.int<|a^b.toNat) s else .no
def XV(op:Bop)(x y:V)(s:DS):PR V:=match x with
 |.int a=>match y with
  |.int b=>Uw op a b s
  |_=>.no
 |.tup a=>match y with
  |.tup b=>match op with
   |.add=>if a.length+b.length<=lim then .ok (.tup<|a++b) s else .no
   |_=>.no
  |.int b=>match op with
   |.mul=>if 0<=b/\b<1000/\a.length<=1000 then .ok (.tup (aB b.toNat a).flatten) s else .no
   |_=>.no
  |_=>.no
 |.lst a=>match y with
  |.lst b=>match op with
   |.add=>if a.length+b.length<=lim then .ok (.lst<|a++b) s else .no
   |_=>.no
  |.int b=>match op with
   |.mul=>if 0<=b/\b<1000/\a.length<=1000 then .ok (.lst (aB b.toNat a).flatten) s else .no
   |_=>.no
  |_=>.no
 |_=>.no
def Zhn(op:Bop)(x y:V)(s:DS):PR V:=match x,y with
 |.int _,.int _=>XV op x y s
 |_,_=>.no
noncomputable def intsV:List V->Option #[15]
 |[]=>aa []
 |.int i::r=>(intsV r).map (i :: ·)
 |_::_=>ai
def Us(x y:V):Option Bool:=match y with
 |.tup ys=>XF x ys
 |.lst ys=>XF x ys
 |.dct (.inr ks)=>match x with
  |.tup k=>(intsV k).map λk=>ks.contains k
  |_=>ai
 |.dow ks=>match x with
  |.tup k=>(intsV k).map λk=>ks.contains k
  |_=>ai
 |_=>ai
noncomputable def Qe:V->Bool
 |.non=>am
 |_=>aj
noncomputable def Zc(r:List Int):V:=.tup<|r.map .int
def Yh:List V->Option (List<|List Int)
 |[]=>aa []
 |.tup x::r=>match intsV x,Yh r with
  |some a,aa b=>aa (a::b)
  |_,_=>ai
 |_::_=>ai
noncomputable def int2(x y:V):Option (Int×Int):=match x with
 |.int a=>match y with
  |.int b=>aa (a,b)
  |_=>ai
 |_=>ai
def isV(x y:V):Option Bool:=match y with
 |.non=>aa<|Qe x
 |.bl b=>match x with
  |.bl a=>aa<|af<|a=b
  |_=>ai
 |_=>ai
def Y5(op:Cop)(x y:V):Option V:=match op with
 |.eq=>(eqV ZA x y).map .bl
 |.ne=>(eqV ZA x y).map λb=>.bl !b
 |.lt=>match x with
  |.tup a=>match y with
   |.tup b=>(Yh a).bind λP=>(Yh b).map λQ=>.bl<|ltP P Q
   |_=>ai
  |x=>(int2 x y).map λz=>.bl<|af<|z.1<z.2
 |.gt=>(int2 x y).map λz=>.bl<|af<|z.2<z.1
 |.le=>(int2 x y).map λz=>.bl<|af<|z.1<=z.2
 |.ge=>(int2 x y).map λz=>.bl<|af<|z.2<=z.1
 |.is=>(isV x y).map .bl
 |.inn=>(Us x y).map .bl
 |.nin=>(Us x y).map λb=>.bl !b
def ixV(x y:V):Option V:=match x,y with
 |.tup xs,.int i=>at' xs i
 |.lst xs,.int i=>at' xs i
 |.scr xs,.int i=>(at' xs i).map .int
 |_,_=>ai
def slV(x:V)(lo hi:Option Int):Option V:=match x with
 |.tup xs=>aa<|.tup<|Z8 xs lo hi
 |.lst xs=>aa<|.lst<|Z8 xs lo hi
 |_=>ai
noncomputable def Zhu:V->Option V
 |.tup xs=>aa<|.tup xs.reverse
 |_=>ai
noncomputable def UB:V->Option Bool
 |.non=>aa aj
 |.bl b=>aa b
 |.int i=>aa<|af<|i≠0
 |_=>ai
def Z0:List V->Option (List Bool)
 |[]=>aa []
 |x::xs=>match UB x,Z0 xs with
  |some b,aa bs=>aa (b::bs)
  |_,_=>ai
def Zd(P:List #[15]):V:=.tup<|P.map Zc
noncomputable def Yx:V->Option (List V)
 |.tup xs=>aa xs
 |.lst xs=>aa xs
 |.scr ns=>aa<|ns.map .int
 |_=>ai
noncomputable def Z5(lo:Int)(n:Nat):List V:=(aP n).map λ(k:Nat)=>.int<|lo+(k:Int)
def ZeQ:V->Option #[15]
 |.tup [.tup k,.bl b]=>if b=am then intsV k else ai
 |_=>ai
def WT:List V->Option (List<|List Int)
 |[]=>aa []
 |v::r=>(ZeQ v).bind λa=>(WT r).map (a :: ·)
noncomputable def WV:List V->Option (List Nat)
 |[]=>aa []
 |.int i::r=>if 0<=i/\i<6 then(WV r).map (i.toNat :: ·)else ai
 |_=>ai
mutual
noncomputable def pdV:V->Option PySem.PyData
 |.non=>aa .none
 |.bl b=>aa<|.bool b
 |.int i=>aa<|.int i
 |.str x=>aa<|.str x
 |.tup xs=>(ZgR xs).map .tuple
 |.lst xs=>(ZgR xs).map .list
 |.dct (.inl kvs)=>aa<|.dict<|kvs.map λp=>(.int p.1,.int p.2)
 |_=>ai
noncomputable def ZgR:List V->Option (List PySem.PyData)
 |[]=>aa []
 |x::xs=>(pdV x).bind λa=>(ZgR xs).map (a :: ·)
end
mutual
noncomputable def noL:V->Bool
 |.lst _=>aj
 |.tup xs=>ZhW xs
 |_=>am
noncomputable def ZhW:List V->Bool
 |[]=>am
 |x::xs=>noL x&&ZhW xs
end
def blt1(f:Bf)(x:V):Option V:=match f with
 |.len=>(Yx x).map λxs=>.int xs.length
 |.toInt=>match x with
  |.int a=>aa<|.int a
  |.bl b=>aa<|.int<|b2i b
  |_=>ai
 |.tuple=>(Yx x).map .tup
 |.list=>(Yx x).map .lst
 |.all=>match x with
  |.lst xs=>(Z0 xs).map λbs=>.bl<|bs.all id
  |_=>ai
 |.any=>(Yx x).bind λxs=>(Z0 xs).map λbs=>.bl<|bs.any id
 |.sum=>match x with
  |.lst xs=>(intsV xs).bind λis=>if Zbd is=am then aa (.int is.sum)else ai
  |_=>ai
 |.sortedR=>match x with
  |.lst xs=>(Yh xs).bind λrs=>if Z7 rs=am then aa (.lst<|(Zy rs).reverse.map Zc)else ai
  |_=>ai
 |.rangeL=>match x with
  |.int i=>if few i then aa (.lst<|Z5 0 i.toNat)else ai
  |_=>ai
 |.listD=>match x with
  |.dow ks=>aa<|.lst<|ks.map Zc
  |_=>ai
 |.sortedD=>match x with
  |.dow ks=>if Z7 ks=am then aa (.lst<|(Zy ks).map Zc)else ai
  |_=>ai
 |.sortedS=>match x with
  |.lst xs=>(WV xs).map λks=>.lst (((aP 6).filter ks.contains).map λk:Nat=>.int k)
  |_=>ai
 |.dictP=>match x with
  |.lst xs=>(WT xs).bind λks=>if Qz ks=am then aa (.dct<|.inr ks)else ai
  |_=>ai
 |_=>ai
noncomputable def qg:V->Option Int
 |.int a=>aa a
 |_=>ai
noncomputable def Ziz:V->Option (List V)
 |.lst a=>aa a
 |_=>ai
def blt2(f:Bf)(x y:V):Option V:=match f with
 |.index=>(Ziz x).bind λxs=>(Zid y xs).map λj:Nat=>.int j
 |.max2=>(qg x).bind λa=>(qg y).bind λb=>aa<|.int (if b>a then b else a)
 |.min2=>(qg x).bind λa=>(qg y).bind λb=>aa<|.int (if b<a then b else a)
 |_=>ai
def QG{x:V}:blt1 .len x=(Yx x).map λxs=>.int xs.length:=rfl
def Vu{op:Bop}{a b:Int}{s:DS}:XV op (.int a) (.int b) s=Uw op a b s:=rfl
def jW{k:Nat}:eqV (k+1) .non .non=aa am:=rfl
def Zbl{k:Nat}{a:Int}:eqV (k+1) (.int a) .non=aa aj:=rfl
def vK{x:V}{a:Int}(h:qg x=aa a):x=.int a:=by cases x<;>first|exact Ev.nos h|(cases h;rfl)
def Xo(f:Bf)(as:List V):Option V:=match as with
 |[x]=>blt1 f x
 |[x,y]=>blt2 f x y
 |_=>ai
noncomputable def YL:List Nat->List V->Env->Option Env
 |[],[],U=>aa U
 |i::t,x::xs,U=>YL t xs<|U.set i<|aa x
 |_,_,_=>ai
noncomputable def jR:V->Option (List V)
 |.tup xs=>aa xs
 |.lst xs=>aa xs
 |_=>ai
def Zn(t:List Nat)(x:V)(U:Env):Option Env:=match t with
 |[i]=>aa<|U.set i<|aa x
 |t=>match jR x with
  |some xs=>YL t xs U
  |none=>ai
abbrev Zr:=Nat->List V->DS->PR V
noncomputable def Z3(cap:List Nat)(nl:Nat)(U:Env):Env:=aB nl ai++cap.map λi=>(U[i]?).join
def mapP(f:V->DS->PR (List V)):List V->DS->PR (List V)
 |[],s=>.ok [] s
 |x::xs,s=>match f x s with
  |.ok ys s=>match mapP f xs s with
   |.ok zs s=>.ok (ys++zs) s
   |_=>.no
  |_=>.no
def Zak(w:Bool)(c:Nat):V:=if w then .str (Wd.getD c "")else .int c
def Zhj(w:Bool):PR V->PR V
 |.ok _ s=>.ok .non s
 |.ex c s=>if 1<=c/\c<=10 then .ok (Zak w<|c-1) s else .no
 |.no=>.no
noncomputable def own(nl:Nat)(t:List Nat):Bool:=t.all λi=>af<|i<nl
mutual
noncomputable def pv(C:Zr)(e:E)(U:Env)(s:DS):PR V:=match e with
 |.c d=>po (ofD d) s
 |.v i=>po (U[i]?).join s
 |.tup es=>(pvs C es U s).bind λxs s=>if xs.length<=lim then .ok (.tup xs) s else .no
 |.lst es=>(pvs C es U s).bind λxs s=>if xs.length<=lim then .ok (.lst xs) s else .no
 |.dnew=>.ok (.dct<|.inl []) s
 |.bin op a b=>(pv C a U s).bind λx s=>(pv C b U s).bind λy s=>XV op x y s
 |.neg a=>(pv C a U s).bind λx s=>match x with
  |.int i=>.ok (.int<|-i) s
  |_=>.no
 |.not a=>(pv C a U s).bind λx s=>(po (Zw x) s).bind λb s=>.ok (.bl !b) s
 |.and a b=>(pv C a U s).bind λx s=>match x with
  |.bl c=>if c then pv C b U s else .ok (.bl aj) s
  |_=>.no
 |.or a b=>(pv C a U s).bind λx s=>match x with
  |.bl c=>if c then .ok (.bl am) s else pv C b U s
  |_=>.no
 |.ite t a b=>(pv C t U s).bind λx s=>(po (Zw x) s).bind λc s=>if c then pv C a U s else pv C b U s
 |.cmp op a b=>(pv C a U s).bind λx s=>(pv C b U s).bind λy s=>po (Y5 op x y) s
 |.chain o p a b d=>(pv C a U s).bind λx s=>(pv C b U s).bind λy s=>(po (Y5 o x y) s).bind λz s=>match z with
  |.bl c=>if c then(pv C d U s).bind λw s=>po (Y5 p y w) s else .ok (.bl aj) s
  |_=>.no
 |.ix a i=>(pv C a U s).bind λx s=>(pv C i U s).bind λy s=>po (ixV x y) s
 |.sl a lo hi=>(pv C a U s).bind λx s=>(pvo C lo U s).bind λl s=>(pvo C hi U s).bind λh s=>po (slV x l h) s
 |.rev a=>(pv C a U s).bind λx s=>po (Zhu x) s
 |.call f as=>(pvs C as U s).bind λxs s=>C f xs s
 |.blt f as=>(pvs C as U s).bind λxs s=>po (Xo f xs) s
 |.mt _ _ _=>.no
 |.isi a ts=>(pv C a U s).bind λx s=>(po (Yn x ts) s).bind λb s=>.ok (.bl b) s
 |.comp1 cap nl t it ifs elt=>if own nl t=am then(pvw C it U s).bind λw s=>
   ((mapP (λx s=>(po (Zn t x<|Z3 cap nl U) s).bind λZ s=>(pvt C ifs Z s).bind λb s=>if b then(pv C elt Z s).bind λy s=>.ok [y] s else .ok [] s) w s).bind
    λys s=>if ys.length<=lim then .ok (.lst ys) s else .no).nox
  else .no
 |.refu w e=>Zhj w<|pv C e U s
 |.dix a k=>(pv C a U s).bind λx s=>match x with
  |.drw=>.ok (if k then .bl s.2 else .int s.1) s
  |_=>.no
noncomputable def pvs(C:Zr)(es:List E)(U:Env)(s:DS):PR (List V):=match es with
 |[]=>.ok [] s
 |e::es=>(pv C e U s).bind λx s=>(pvs C es U s).bind λxs s=>.ok (x::xs) s
noncomputable def pvo(C:Zr)(o:Option E)(U:Env)(s:DS):PR (Option Int):=match o with
 |none=>.ok ai s
 |some e=>(pv C e U s).bind λx s=>match x with
  |.int i=>.ok (aa i) s
  |_=>.no
noncomputable def pvt(C:Zr)(es:List E)(U:Env)(s:DS):PR Bool:=match es with
 |[]=>.ok am s
 |e::es=>(pv C e U s).bind λx s=>(po (Zw x) s).bind λb s=>if b then pvt C es U s else .ok aj s
noncomputable def pvw(C:Zr)(w:W)(U:Env)(s:DS):PR (List V):=match w with
 |.rng1 a=>(pv C a U s).bind λx s=>match x with
  |.int i=>if WJ i then .ok (Z5 0 i.toNat) s else .no
  |_=>.no
 |.rng2 a b=>(pv C a U s).bind λx s=>(pv C b U s).bind λy s=>match x,y with
  |.int i,.int j=>if(WJ i&&WJ j)=am then .ok (Z5 i (j-i).toNat) s else .no
  |_,_=>.no
 |.zip a b=>(pv C a U s).bind λx s=>(pv C b U s).bind λy s=>match Yx x,Yx y with
  |some v,aa w=>.ok ((v.zip w).map λp=>.tup [p.1,p.2]) s
  |_,_=>.no
 |.enum a=>(pv C a U s).bind λx s=>match Yx x with
  |some w=>.ok (((Z5 0 w.length).zip w).map λp=>.tup [p.1,p.2]) s
  |none=>.no
 |.of e=>(pv C e U s).bind λx s=>po (Yx x) s
end
section
variable(C:Zr)(U:Env)(s:DS)
def pE1(d):=@id (pv C (.c d) U s=po _ _) rfl
def pE2(i):=@id (pv C (.v i) U s=po _ _) rfl
def pE3(es):=@id (pv C (.tup es) U s=.bind _ _) rfl
def pE4(es):=@id (pv C (.lst es) U s=.bind _ _) rfl
def pE5:=@id (pv C .dnew U s=.ok _ _) rfl
def pE7(op a b):=@id (pv C (.bin op a b) U s=.bind _ _) rfl
def pE8(a):=@id (pv C (.neg a) U s=.bind _ _) rfl
def pE9(a):=@id (pv C (.not a) U s=.bind _ _) rfl
def Zgu(a b):=@id (pv C (.and a b) U s=.bind _ _) rfl
def Zdt(a b):=@id (pv C (.or a b) U s=.bind _ _) rfl
def YF(op a b):=@id (pv C (.cmp op a b) U s=.bind _ _) rfl
def ZiC(o p a b d):=@id (pv C (.chain o p a b d) U s=.bind _ _) rfl
def X4(a i):=@id (pv C (.ix a i) U s=.bind _ _) rfl
def ZcR(a lo hi):=@id (pv C (.sl a lo hi) U s=.bind _ _) rfl
def Zh0(a):=@id (pv C (.rev a) U s=.bind _ _) rfl
def Zax(f as):=@id (pv C (.call f as) U s=.bind _ _) rfl
def Ys(f as):=@id (pv C (.blt f as) U s=.bind _ _) rfl
def Zfh(a ts):=@id (pv C (.isi a ts) U s=.bind _ _) rfl
def qF(cap nl t it ifs elt):=@id (pv C (.comp1 cap nl t it ifs elt) U s=ite (own nl t=am) _ _) rfl
def ZfS(w e):=@id (pv C (.refu w e) U s=Zhj _ _) rfl
def Zeg(a k):=@id (pv C (.dix a k) U s=.bind _ _) rfl
def wE1(a):=@id (pvw C (.rng1 a) U s=.bind _ _) rfl
def wE2(a b):=@id (pvw C (.rng2 a b) U s=.bind _ _) rfl
def wE5(a b):=@id (pvw C (.zip a b) U s=.bind _ _) rfl
def wE6(a):=@id (pvw C (.enum a) U s=.bind _ _) rfl
def wE7(e):=@id (pvw C (.of e) U s=.bind _ _) rfl
end
inductive FlV where|nx (U:Env) (os:List Nat)|ret (v:V)
noncomputable def hide(os:List Nat)(U:Env):Env:=U.mapIdx λi o=>if os.contains i then ai else o
noncomputable def fresh:E->Bool
 |.lst _=>am
 |.comp1 .. => am
 |.bin .mul (.lst _) _=>am
 |.blt .list _=>am
 |.blt .rangeL _=>am
 |.blt .listD _=>am
 |.blt .sortedD _=>am
 |.blt .sortedS _=>am
 |_=>aj
def vh:V->Bool
 |.lst xs=>Xe xs
 |_=>aj
def pvA(C:Zr)(e:E)(U:Env)(os:List Nat)(s:DS):PR V:=match os with
 |[]=>pv C e U s
 |os=>match pv C e (hide os U) s with
  |.ok v s=>.ok v s
  |.ex c s=>.ex c s
  |.no=>(pv C e U s).bind λv s=>if(v.flat||fresh e&&vh v)=am then .ok v s else .no
def Zix(C:Zr)(es:List E)(U:Env)(os:List Nat)(s:DS):PR (List V):=match os with
 |[]=>pvs C es U s
 |os=>match pvs C es (hide os U) s with
  |.ok v s=>.ok v s
  |.ex c s=>.ex c s
  |.no=>(pvs C es U s).bind λv s=>if Xe v then .ok v s else .no
def YE(C:Zr)(e:E)(U:Env)(s:DS):PR Bool:=(pv C e U s).bind λx s=>po (Zw x) s
def Y2(body:V->Env->List Nat->DS->PR FlV):List V->Env->List Nat->DS->PR FlV
 |[],U,os,s=>.ok (.nx U os) s
 |x::xs,U,os,s=>(body x U os s).bind λf s=>match f with
  |.nx U os=>Y2 body xs U os s
  |.ret v=>.ok (.ret v) s
def Xl(test:Env->DS->PR Bool)(body:Env->List Nat->DS->PR FlV):Nat->Env->List Nat->DS->PR FlV
 |0,_,_,_=>.no
 |n+1,U,os,s=>(test U s).bind λb s=>if b then(body U os s).bind λf s=>match f with
  |.nx U os=>Xl test body n U os s
  |.ret v=>.ok (.ret v) s
  else .ok (.nx U os) s
noncomputable def okS(x:Int)(b:Bool):Bool:=af (0<=x)&&(b||decide (x<2147483647))
def Qq:V->Option DS
 |.lst [.int a,.bl b]=>if okS a b=am then aa (a,b)else ai
 |_=>ai
def JM(o:Option V):Option V:=o.filter V.flat
def Vd(i:Nat)(U:Env):Env:=(U.take i).map JM++aB (U.length-i) ai
noncomputable def ZgZ:Option (Option V)->Option (List<|List Int)
 |some (aa<|.dow ks)=>aa ks
 |_=>ai
noncomputable def YG(ks:List #[15])(k:List Int):List #[15]:=if ks.contains k then ks else ks++[k]
def Zf5:V->Option #[15]
 |.tup k=>intsV k
 |_=>ai
noncomputable def isT:V->Bool
 |.bl am=>am
 |_=>aj
noncomputable def qW:Option (Option V)->Option (List V)
 |some (aa<|.lst xs)=>aa xs
 |_=>ai
mutual
noncomputable def rv(C:Zr)(ms:List Nat)(m:Sm)(U:Env)(os:List Nat)(s:DS):PR FlV:=match m with
 |.asg [i] e=>(pvA C e U os s).bind λv s=>if(ms.contains i&&fresh e)=am then match v with
   |.lst xs=>if Xe xs=am/\i<U.length then .ok (.nx (U.set i<|aa v) (i::os.filter (· != i))) s else .no
   |_=>.no
  else .ok (.nx (U.set i<|aa v) (os.filter (· != i))) s
 |.asg t e=>(pvA C e U os s).bind λv s=>if(t.any os.contains)=am then .no else(po (Zn t v U) s).bind λU s=>.ok (.nx U os) s
 |.par t es=>(Zix C es U os s).bind λvs s=>if(t.any os.contains)=am then .no else(po (YL t vs U) s).bind λU s=>.ok (.nx U os) s
 |.aug i op e=>if os.contains i then .no else(po (U[i]?).join s).bind λx s=>(pv C e U s).bind λy s=>(Zhn op x y s).bind λz s=>.ok (.nx (U.set i<|aa z) os) s
 |.dput (.v i) k e=>if os.contains i then(pv C e U s).bind λv s=>if isT v=am then(po (ZgZ U[i]?) s).bind λks s=>(pv C k U s).bind λy s=>(po (Zf5 y) s).bind λr s=>if ks.length<lim then .ok (.nx (U.set i<|aa<|.dow<|YG ks r) os) s else .no
  else .no else .no
 |.dput _ _ _=>.no
 |.ret e=>(pv C e U s).bind λv s=>.ok (.ret v) s
 |.ex (.mt .append (.v i) [e])=>if os.contains i then(po (qW U[i]?) s).bind λxs s=>(pv C e U s).bind λv s=>if v.flat=am/\xs.length<lim then .ok (.nx (U.set i<|aa<|.lst<|xs++[v]) os) s else .no else .no
 |.ex e=>(pv C e U s).bind λ_ s=>.ok (.nx U os) s
 |.ite t a b=>(YE C t U s).bind λc s=>if c then rvs C ms a U os s else rvs C ms b U os s
 |.forr t it b=>(pvw C it (hide os U) s).bind λw s=>Y2 (λx U os s=>if(t.any os.contains)=am then .no else(po (Zn t x U) s).bind λU s=>rvs C ms b U os s) w U os s
 |.whl t b=>Xl (YE C t) (rvs C ms b) xj U os s
 |.raise c as=>(pvs C as U s).bind λ_ s=>.ex c s
 |.dset i e=>(pv C e U s).bind λv s=>match v with
  |.int x=>if okS x s.2=am then match(U[i]?).join with
   |some .drw=>.ok (.nx U os) (x,s.2)
   |_=>.no
   else .no
  |_=>.no
 |.cel i f as b=>if os.isEmpty=am then(pvs C as U s).bind λxs s=>(C f xs s).bind λv s=>(po (Qq v) s).bind λd s=>match rvs C ms b ((Vd i U).set i<|aa .drw) [] d with
  |.ok (.nx U _) _=>.ok (.nx (U.map JM) []) s
  |.ok (.ret v) _=>if v.flat=am then .ok (.ret v) s else .no
  |_=>.no
  else .no
 |.dnw i k=>(pv C k U s).bind λy s=>(po (Zf5 y) s).bind λr s=>if i<U.length then .ok (.nx (U.set i<|aa<|.dow [r]) (i::os.filter (· != i))) s else .no
 |.forF t e b=>(pvA C e U os s).bind λv s=>match v with
  |.lst w=>Y2 (λx U os s=>if(t.any os.contains)=am then .no else(po (Zn t x U) s).bind λU s=>rvs C ms b U os s) w U os s
  |_=>.no
noncomputable def rvs(C:Zr)(ms:List Nat)(m:List Sm)(U:Env)(os:List Nat)(s:DS):PR FlV:=match m with
 |[]=>.ok (.nx U os) s
 |m::ss=>(rv C ms m U os s).bind λf s=>match f with
  |.nx U os=>rvs C ms ss U os s
  |f=>.ok f s
end
section
variable(C:Zr)(U:Env)(s:DS)(ms os:List Nat)
def rE1(i e):=@id (rv C ms (.asg [i] e) U os s=.bind _ _) rfl
def rE3(t es):=@id (rv C ms (.par t es) U os s=.bind _ _) rfl
def rE4(i op e):=@id (rv C ms (.aug i op e) U os s=ite (os.contains i) _ _) rfl
def rE7(i k e):=@id (rv C ms (.dput (.v i) k e) U os s=ite (os.contains i) _ _) rfl
def rE9(e):=@id (rv C ms (.ret e) U os s=.bind _ _) rfl
def Zd6(i e):=@id (rv C ms (.ex<|.mt .append (.v i) [e]) U os s=ite (os.contains i) _ _) rfl
def Zf3(f as):=@id (rv C ms (.ex<|.call f as) U os s=.bind _ _) rfl
def GI(t a b):=@id (rv C ms (.ite t a b) U os s=.bind _ _) rfl
def QZ(t it b):=@id (rv C ms (.forr t it b) U os s=.bind _ _) rfl
def ZhE(t b):=@id (rv C ms (.whl t b) U os s=Xl _ _ _ _ _ _) rfl
def Zib(c as):=@id (rv C ms (.raise c as) U os s=.bind _ _) rfl
def Zgz(i e):=@id (rv C ms (.dset i e) U os s=.bind _ _) rfl
def Zh3(i f as b):=@id (rv C ms (.cel i f as b) U os s=ite (os.isEmpty=am) _ _) rfl
def Zh7(i k):=@id (rv C ms (.dnw i k) U os s=.bind _ _) rfl
def Zhc(t e b):=@id (rv C ms (.forF t e b) U os s=.bind _ _) rfl
def rE2(t e)(h:∀i,t=[i]->False):rv C ms (.asg t e) U os s=(pvA C e U os s).bind λv s=>if(t.any os.contains)=am then .no else(po (Zn t v U) s).bind λU s=>.ok (.nx U os) s:=by
 match t,h with
 |[],_=>rfl
 |[i],h=>exact(h i rfl).elim
 |_::_::_,_=>rfl
end
mutual
noncomputable def zY:Sm->List Nat
 |.ex (.mt .append (.v i) _)=>[i]
 |.ite _ a b=>muts a++muts b
 |.forr _ _ b=>muts b
 |.whl _ b=>muts b
 |.cel _ _ _ b=>muts b
 |.dput (.v i) _ _=>[i]
 |.forF _ _ b=>muts b
 |_=>[]
noncomputable def muts:List Sm->List Nat
 |[]=>[]
 |m::ss=>zY m++muts ss
end
def yd:muts []=[]:=rfl
def JD{m:Sm}{ss:List Sm}:muts (m::ss)=zY m++muts ss:=rfl
def ZaV{t:List Nat}{e:E}:zY (.asg t e)=[]:=rfl
def Zbf{e:E}:zY (.ret e)=[]:=rfl
def Zb3{e:E}{a b:List Sm}:zY (.ite e a b)=muts a++muts b:=rfl
noncomputable def ZN(n:Nat)(xs:List V):Env:=xs.map aa++aB (n-xs.length) ai
noncomputable def XZ(s:DS)(m:Int):Int×DS:=
 if s.2 then(s.1%m,(s.1 / m,am))else
  let x:=(s.1*48271+29)%2147483647
  let y:=(x*x+39373*x+7)%2147483629
  let z:=(y*y+16807*y)%2147483587
  (z / 8%m,(x,aj))
def ZeR(vs:List V)(s:DS):PR V:=match vs with
 |[.drw,.int m]=>if 0<m/\m<1073741824 then .ok (.int (XZ s m).1) (XZ s m).2 else .no
 |_=>.no
def Zk(F:List Fn)(tk:Nat):Nat->Zr
 |0,_,_,_=>.no
 |d+1,f,xs,s=>if f=tk then ZeR xs s else match F[f]? with
  |some fn=>if xs.length=fn.ps then(rvs (Zk F tk d) (muts fn.body) fn.body (ZN fn.ns xs) [] s).bind λf s=>match f with
    |.ret v=>.ok v s
    |.nx _ _=>.ok .non s
   else .no
  |none=>.no
end Pv
namespace Sd
open PySem PySem.Spec PyProof.Rows L2
section
open Ev (E Sm Fn Bop Cop Ty Bf Mf)
noncomputable abbrev D:=Pv.V
abbrev Zu:=Pv.DS
noncomputable abbrev Lc:=Pv.Env
noncomputable abbrev R:=Pv.PR
noncomputable abbrev Calls:=Pv.Zr
structure Mx where
 K:ao
 n0:Option aE
 X:aE->Prop
 xz:∀a,n0=aa a->X a
def Scr(K:ao)(H:Hp)(a:aE)(ns:List Int):Prop:=
 (∃o,H a=aa (.frz o<|.lst<|ns.map V.int))\/
  ∃(o:fH)(its:Array aw)(n:Nat),K.lookup a=aa o/\o.cls=.type "list"/\o.dict=ai/\o.data=.seq its n/\its.size<=ba/\Vals (ns.map V.int) its.toList
def Scr.sq{K:ao}{H:Hp}{a:aE}{ns:List Int}(h:Scr K H a ns):SqL K H a (ns.map V.int):=by
 rcases h with⟨o,h⟩|h
 .exact .inl<|.inr #[o,h]
 .exact .inr h
def Dct(H:Hp)(a:aE):Sum (List<|Int×Int) (List<|List Int)->Prop
 |.inl kvs=>H a=aa (.dK<|kvs.map λp=>(da p.1,V.int p.2))
 |.inr ks=>∃o vs,H a=aa (.frz o<|.dT vs)/\vs.map (·.1)=ks.map (·.map da)
mutual
def Rep(U:Mx)(H:Hp):D->V->Prop
 |.non,v=>v=.non
 |.bl b,v=>v=.bl b
 |.int i,v=>v=.int i
 |.str x,v=>v=.str x
 |.tup ds,v=>∃a xs,v=.ref a/\H a=aa (.tup xs)/\Rq U H ds xs
 |.lst ds,v=>∃a xs,v=.ref a/\H a=aa (.lst xs)/\¬U.X a/\Rq U H ds xs
 |.drw,v=>∃a,v=.ref a/\U.n0=aa a
 |.dct o,v=>∃a,v=.ref a/\Dct H a o
 |.scr ns,v=>∃a,v=.ref a/\Scr U.K H a ns
 |.dow ks,v=>∃a vs,v=.ref a/\H a=aa (.dT vs)/\¬U.X a/\vs.map (·.1)=ks.map (·.map da)
def Rq(U:Mx)(H:Hp):List D->List V->Prop
 |[],xs=>xs=[]
 |d::ds,xs=>∃v vs,xs=v::vs/\Rep U H d v/\Rq U H ds vs
end
structure Fut(U:Mx)(H:Hp)(ρ':Mx)(H':Hp):Prop where
 eq:ρ'=U
 keep:∀a o,H a=aa o->H' a=aa o\/(U.n0=aa a/\∃xs,o=.lst xs)\/((∃ps,o=.tbl ps)/\∃ps,H' a=aa (.tbl ps))
def Fut.refl(U:Mx)(H:Hp):Fut U H U H:=#[rfl,λ_ _ h=>.inl h]
def Fut.trans{U ρ1 ρ2:Mx}{H H1 H2:Hp}(a:Fut U H ρ1 H1)(b:Fut ρ1 H1 ρ2 H2):Fut U H ρ2 H2:=by
 obtain⟨rfl,f⟩:=a;obtain⟨rfl,g⟩:=b;refine#[rfl,λa o h=>(f a o h).elim (λh=>g a o h) λz=>z.elim (λz=>.inr<|.inl z) λ#[e,ps,h]=>?_]
 rcases g a _ h with q|⟨_,xs,q⟩|⟨_,q⟩
 .exact .inr<|.inr #[e,ps,q]
 .cases q
 .exact .inr<|.inr #[e,q]
def Fut.there(f:Fut U H ρ' H')(n:U.n0≠.some a)(h:H a≠ai):H' a≠ai:=by
 obtain⟨o,e⟩:=kT.mp h;rcases f.keep a o e with q|q|⟨_,_,q⟩
 .rw[q];intro z;cases z
 .exact T7 q.1 n
 .rw[q];intro z;cases z
def Fut.new(f:Fut U H ρ' H')(h:H' a=ai)(xd:∀a,U.X a->H' a≠ai):H a=ai:=by
 cases q:H a with
 |none=>rfl
 |some o=>
  rcases f.keep a o q with e|e|⟨_,_,e⟩
  .rw[h]at e;cases e
  .exact T7 h<|xd a<|U.xz a e.1
  .rw[h]at e;cases e
structure Lat(U:Mx)(H:Hp)(ρ':Mx)(H':Hp):Prop where
 K:ρ'.K=U.K
 n0:ρ'.n0=U.n0
 keep':∀a o,H a=aa o->(∀xs,o=.lst xs->¬U.X a)->(∀ps,o≠.tbl ps)->(∀vs,o=.dT vs->¬U.X a)->H' a=aa o
 X:∀a,H a≠ai->ρ'.X a->U.X a
def Lat.keep(f:Lat U H ρ' H')(a:aE)(o:HO)(h:H a=aa o)(x:∀xs,o=.lst xs->¬U.X a)(n:∀ps,o≠.tbl ps:=by intro _ z;cases z)(m:∀vs,o=.dT vs->¬U.X a:=by intro _ z;cases z):H' a=aa o:=f.keep' a o h x n m
mutual
theorem Rep.lat{U ρ':Mx}{H H':Hp}(f:Lat U H ρ' H'):∀{d:D}{v:V},Rep U H d v->Rep ρ' H' d v
 |.non,_,h|.bl _,_,h|.int _,_,h|.str _,_,h=>by unfold Rep at h ⊢;exact h
 |.tup ds,v,h=>by
  unfold Rep at h ⊢;obtain⟨a,xs,e,t,r⟩:=h;exact#[a,xs,e,f.keep a _ t (λ_ z=>by cases z),r.lat f]
 |.lst ds,v,h=>by
  unfold Rep at h ⊢;obtain⟨a,xs,e,t,x,r⟩:=h;exact#[a,xs,e,f.keep a _ t λ_ _=>x,λz=>x (f.X a (by rw[t];intro z;cases z) z),r.lat f]
 |.drw,v,h=>by unfold Rep at h ⊢;rw[f.n0];exact h
 |.dct o,v,h=>by
  unfold Rep at h ⊢;obtain⟨a,e,t⟩:=h;refine#[a,e,?_];cases o with|inl kvs=>exact f.keep a _ t λ_ z=>by cases z|inr ks=>obtain⟨o,vs,t,q⟩:=t;exact#[o,vs,f.keep a _ t (λ_ z=>by cases z),q]
 |.scr ns,v,h=>by
  unfold Rep at h ⊢;obtain⟨a,e,t⟩:=h;rw[f.K];refine#[a,e,?_];rcases t with⟨o,t⟩|t
  .exact .inl #[o,f.keep a _ t λ_ z=>by cases z]
  .exact .inr t
 |.dow ks,v,h=>by
  unfold Rep at h ⊢;obtain⟨a,vs,e,t,x,q⟩:=h;exact#[a,vs,e,f.keep a _ t (λ_ z=>by cases z) (by intro _ z;cases z) λ_ _=>x,λz=>x (f.X a (by rw[t];intro z;cases z) z),q]
theorem Rq.lat(f:Lat U H ρ' H'):∀{ds:List D}{xs:List V},Rq U H ds xs->Rq ρ' H' ds xs
 |[],_,h=>by exact h
 |d::ds,xs,h=>by
  obtain⟨v,vs,e,r,rs⟩:=h;exact#[v,vs,e,r.lat f,rs.lat f]
end
noncomputable def YM:bn:="law.<locals>.<lambda>"
def Tb(H:Hp):Prop:=∀(P:aE)(ps:Array aw),H P=aa (.tbl ps)->pO ps.toList/\∀(pos:gu)(cv:aw),kG pos ps.toList=aa cv->
 ∃(c:aE)(oc:fH)(vs:Array aw)(t:sW),cv=.ref c/\H c=aa (.frz oc<|.own c)/\oc.data=.fields vs/\vs[1]?=aa (.str YM t)
theorem Tb.upd(h:Tb H)(hp:∀ob u,H p≠aa (.frz ob u))(ho:∀ps,o≠.tbl ps):Tb (upd H p o):=λP ps e=>by
 by_cases z:P=p
 .subst z;rw[Zl]at e;cases e;exact T7 rfl<|ho ps
 .rw[Zj z]at e
  obtain⟨a,b⟩:=h P ps e;refine#[a,λpos cv q=>?_]
  obtain⟨c,oc,vs,t,e1,e2,e3⟩:=b pos cv q;exact#[c,oc,vs,t,e1,by rw[Zj λz=>hp oc (.own c) (by rw[<-z];exact e2)];exact e2,e3]
structure St3(K:ao)(U:Mx)(S:Zu)(H:Hp):Prop where
 hk:U.K=K
 xd:∀a,U.X a->H a≠ai
 dw:∀a,U.n0=aa a->H a=aa (.lst [.int S.1,.bl S.2])/\Pv.okS S.1 S.2=am
 tb:Tb H
def Fut.lat(f:Fut U H ρ' H'):Lat U H ρ' H':=by
 obtain⟨rfl,f⟩:=f;exact#[rfl,rfl,λa o h x n _=>(f a o h).elim id λz=>z.elim (λz=>T7 (ρ'.xz a z.1) (let #[xs,e]:=z.2;x xs e))<|by rintro ⟨⟨ps,e⟩,_⟩;exact T7 e<|n ps,λ_ _ h=>h]
def Rep.mono(f:Fut U H ρ' H')(h:Rep U H d v):Rep ρ' H' d v:=h.lat f.lat
def Rq.mono(f:Fut U H ρ' H')(h:Rq U H d v):Rq ρ' H' d v:=h.lat f.lat
section
variable{U:Mx}{H:Hp}{v:V}
def Rq.nil:Rq U H [] []:=by rfl
def Rq.cons{d:D}{v:V}{ds:List D}{vs:List V}(r:Rep U H d v)(rs:Rq U H ds vs):Rq U H (d::ds) (v::vs):=by
 exact#[v,vs,rfl,r,rs]
theorem Rq.length:∀{ds:List D}{xs:List V},Rq U H ds xs->xs.length=ds.length
 |[],_,h=>by rw[h];rfl
 |d::ds,xs,h=>by
  obtain⟨v,vs,rfl,_,rs⟩:=h;rw[aT,aT,Rq.length rs]
theorem Rq.append:∀{ds es:List D}{xs ys:List V},Rq U H ds xs->Rq U H es ys->Rq U H (ds++es) (xs++ys)
 |[],_,_,_,h,r=>by rw[h];exact r
 |d::ds,_,_,_,h,r=>by
  obtain⟨v,vs,rfl,a,rs⟩:=h;exact Rq.cons a<|Rq.append rs r
theorem Rq.take:∀{ds:List D}{xs:List V}(k:Nat),Rq U H ds xs->Rq U H (ds.take k) (xs.take k)
 |_,_,0,_=>Rq.nil
 |[],_,k+1,h=>by rw[h];exact Rq.nil
 |d::ds,_,k+1,h=>by
  obtain⟨v,vs,rfl,a,rs⟩:=h;exact Rq.cons a<|Rq.take k rs
theorem Rq.drop:∀{ds:List D}{xs:List V}(k:Nat),Rq U H ds xs->Rq U H (ds.drop k) (xs.drop k)
 |_,_,0,h=>h
 |[],_,k+1,h=>by rw[h];exact Rq.nil
 |d::ds,_,k+1,h=>by
  obtain⟨v,vs,rfl,a,rs⟩:=h;exact Rq.drop k rs
theorem Rq.get:∀{ds:List D}{xs:List V}{i:Nat}{d:D},Rq U H ds xs->ds[i]?=aa d->∃v,xs[i]?=aa v/\Rep U H d v
 |[],_,_,_,_,e=>by simp at e
 |d::ds,_,0,_,h,e=>by
  obtain⟨v,vs,rfl,a,rs⟩:=h;simp at e;subst e;exact#[v,rfl,a]
 |d::ds,_,i+1,_,h,e=>by
  obtain⟨v,vs,rfl,a,rs⟩:=h;obtain⟨u,q,r⟩:=Rq.get rs (by simpa using e)
  exact#[u,by simpa using q,r]
theorem Rq.reverse:∀{ds:List D}{xs:List V},Rq U H ds xs->Rq U H ds.reverse xs.reverse
 |[],_,h=>by rw[h];exact Rq.nil
 |d::ds,_,h=>by
  obtain⟨v,vs,rfl,a,rs⟩:=h;rw[fm,fm];exact Rq.append (Rq.reverse rs)<|Rq.cons a Rq.nil
theorem Rq.rep(h:Rq U H ds xs):∀k:Nat,Rq U H (aB k ds).flatten (aB k xs).flatten
 |0=>Rq.nil
 |k+1=>by
  rw[bY,bY,dk,dk];exact Rq.append h<|Rq.rep h k
theorem Rq.ints:∀ns:List Int,Rq U H (ns.map Pv.V.int) (ns.map V.int)
 |[]=>Rq.nil
 |n::ns=>Rq.cons #[7]<|Rq.ints ns
def Rep.int'{i:Int}(h:Rep U H (.int i) v):v=.int i:=by exact h
def Rep.bl'{b:Bool}(h:Rep U H (.bl b) v):v=.bl b:=by exact h
def Rep.non'(h:Rep U H .non v):v=.non:=by exact h
def Rep.str'{x:bn}(h:Rep U H (.str x) v):v=.str x:=by exact h
def Rep.tup'{ds:List D}(h:Rep U H (.tup ds) v):∃a xs,v=.ref a/\H a=aa (.tup xs)/\Rq U H ds xs:=by exact h
def Rep.lst'{ds:List D}(h:Rep U H (.lst ds) v):∃a xs,v=.ref a/\H a=aa (.lst xs)/\¬U.X a/\Rq U H ds xs:=by exact h
def Rep.drw'(h:Rep U H .drw v):∃a,v=.ref a/\U.n0=aa a:=by exact h
def Rep.dct'{o:Sum (List<|Int×Int) (List<|List Int)}(h:Rep U H (.dct o) v):∃a,v=.ref a/\Dct H a o:=by unfold Rep at h;exact h
def Rep.scr'(h:Rep U H (.scr ns) v):∃a,v=.ref a/\Scr U.K H a ns:=by exact h
def Rep.dow'{ks:List #[15]}(h:Rep U H (.dow ks) v):∃a vs,v=.ref a/\H a=aa (.dT vs)/\¬U.X a/\vs.map (·.1)=ks.map (·.map da):=by exact h
def ZM(i:Int):Rep U H (.int i) (.int i):=by rfl
def Yc(b:Bool):Rep U H (.bl b) (.bl b):=by rfl
def UG:Rep U H .non .non:=by rfl
def vg(x:bn):Rep U H (.str x) (.str x):=by rfl
def Xd(h:H a=aa (.tup xs))(r:Rq U H ds xs):Rep U H (.tup ds) (.ref a):=by exact#[a,xs,rfl,h,r]
def Wy(h:H a=aa (.lst xs))(x:¬U.X a)(r:Rq U H ds xs):Rep U H (.lst ds) (.ref a):=by exact#[a,xs,rfl,h,x,r]
def Rep.seq(h:Rep U H x v)(e:Pv.Yx x=aa ds):∃p xs,v=.ref p/\(SqL U.K H p xs\/SqT U.K H p xs)/\Rq U H ds xs:=by
 cases x with|tup es=>cases e;obtain⟨p,xs,rfl,h,r⟩:=h.tup';exact#[p,xs,rfl,.inr<|SqT.of h,r]|lst es=>cases e;obtain⟨p,xs,rfl,h,_,r⟩:=h.lst';exact#[p,xs,rfl,.inl<|SqL.of h,r]|scr ns=>cases e;obtain⟨p,e,q⟩:=h.scr';exact#[p,_,e,.inl q.sq,Rq.ints ns]|_=>cases e
end
structure LocR(U:Mx)(H:Hp)(l:Lc)(Z:L2.St):Prop where
 len:l.length=Z.length
 val:∀(i:Nat)(d:D),l[i]?=aa (aa d)->∃v,Z[i]?=aa (aa v)/\Rep U H d v
theorem LocR.mono(f:Fut U H ρ' H')(r:LocR U H l Z):LocR ρ' H' l Z:=
 #[r.len,λi d e=>let #[v,q,h]:=r.val i d e;#[v,q,h.mono f]]
theorem LocR.set(r:LocR U H l Z)(i:Nat)(h:Rep U H d v):LocR U H (l.set i<|aa d) (Z.set i<|aa v):=
 #[by rw[bG,bG];exact r.len,λj e q=>by
  rw[o4]at q ⊢;split at q
  .rename_i hij
   subst hij;split at q
   .rename_i hl
    cases q;rw[T9 rfl,T9 (by rw[<-r.len];exact hl)]
    exact#[v,rfl,h]
   .cases q
  .rename_i hij
   rw[T8 hij];exact r.val j e q]
def End{B β:Type}(K:ao)(xw:Nat->Hp->Prop)(rep:Mx->Hp->B->β->Prop)(U:Mx)(H:Hp)(Q:β->Hp->Prop):R B->Prop
 |.ok d S=>∀ρ' H' v,Fut U H ρ' H'->St3 K ρ' S H'->rep ρ' H' d v->Q v H'
 |.ex c S=>∀ρ' H',Fut U H ρ' H'->St3 K ρ' S H'->xw c H'
 |.no=>False
section
variable{K:ao}{xw:Nat->Hp->Prop}{U ρ':Mx}{H H':Hp}{B β α' β':Type}{rep:Mx->Hp->B->β->Prop}{rep':Mx->Hp->α'->β'->Prop}
def End.mono{Q:β->Hp->Prop}(f:Fut U H ρ' H')(h:End K xw rep U H Q r):End K xw rep ρ' H' Q r:=by
 cases r with|ok d S=>exact λρ2 H2 v g st r=>h ρ2 H2 v (f.trans g) st r|ex c S=>exact λρ2 H2 g st=>h ρ2 H2 (f.trans g) st|no=>exact h
theorem End.bind{Q:β'->Hp->Prop}{Q1:β->Hp->Prop}(h:End K xw rep' U H Q (r.bind f))
  (k:∀d S ρ1 H1 v,Fut U H ρ1 H1->St3 K ρ1 S H1->rep ρ1 H1 d v->End K xw rep' ρ1 H1 Q (f d S)->Q1 v H1):End K xw rep U H Q1 r:=by
 cases r with|ok d S=>exact λρ1 H1 v g st r=>k d S ρ1 H1 v g st r<|End.mono g h|ex c S=>exact h|no=>exact h
theorem End.ok{Q:β->Hp->Prop}(h:End K xw rep U H Q (.ok a S))(st:St3 K U S H)(r:rep U H a v):Q v H:=h U H v (Fut.refl U H) st r
def End.ob{Q:β'->Hp->Prop}(h:End K xw rep' U H Q ((Pv.po o S).bind f)):∃a,o=aa a/\End K xw rep' U H Q (f a S):=by
 cases o with|none=>exact h.elim|some a=>exact#[a,rfl,h]
theorem End.po{Q:β->Hp->Prop}(h:End K xw rep U H Q (Pv.po o S)):∃a,o=aa a/\End K xw rep U H Q (.ok a S):=by
 cases o with|none=>exact h.elim|some a=>exact#[a,rfl,h]
theorem End.map{Q:β->Hp->Prop}(h:End K xw rep U H Q (Pv.po (o.map f) S)):∃a,o=aa a/\End K xw rep U H Q (.ok (f a) S):=by
 cases o with|none=>exact h.elim|some a=>exact#[a,rfl,h]
def End.ite{c:Prop}[Decidable c]{Q:β->Hp->Prop}(h:End K xw rep U H Q (if c then a else b)):(c/\End K xw rep U H Q a)\/(¬c/\End K xw rep U H Q b):=by
 split at h
 .exact .inl #[‹_›,h]
 .exact .inr #[‹_›,h]
def End.guard{c:Prop}[Decidable c]{Q:β->Hp->Prop}(h:End K xw rep U H Q (if c then a else .no)):c/\End K xw rep U H Q a:=by
 rcases h.ite with h|⟨_,h⟩
 .exact h
 .exact h.elim
end
abbrev nx:Nat->Hp->Prop:=λ_ _=>False
theorem End.nox{B β:Type}{K:ao}{xw:Nat->Hp->Prop}{U:Mx}{H:Hp}{rep:Mx->Hp->B->β->Prop}{Q:β->Hp->Prop}{r:R B}(h:End K xw rep U H Q r.nox):End K nx rep U H Q r:=by
 cases r with|ok d S=>exact h|ex c S=>exact h.elim|no=>exact h
def Qh(_:Mx)(_:Hp)(a b:Bool):Prop:=a=b
def Ziu(_:Mx)(_:Hp)(a b:Option Int):Prop:=a=b
section
variable(X:Cx)(xw:Nat->Hp->Prop)
def tE(f:Lc->Zu->R D):TE:=λZ H Q=>∃U l S,St3 X.K U S H/\LocR U H l Z/\End X.K xw Rep U H Q (f l S)
def tA(f:Lc->Zu->R (List D)):TA:=λZ H Q=>∃U l S,St3 X.K U S H/\LocR U H l Z/\End X.K xw Rq U H Q (f l S)
def tB3(f:Lc->Zu->R Bool):TT:=λZ H Q=>∃U l S,St3 X.K U S H/\LocR U H l Z/\End X.K xw Qh U H Q (f l S)
def tO(f:Lc->Zu->R (Option Int)):TO:=λZ H Q=>∃U l S,St3 X.K U S H/\LocR U H l Z/\End X.K xw Ziu U H Q (f l S)
variable(C:Calls)
structure CE(e:Expr)(i:E):Prop where
 h:PE X e (tE X xw<|Pv.pv C i)
structure CT(e:Expr)(i:E):Prop where
 h:PT X e (tB3 X xw<|Pv.YE C i)
structure CA(es:List Expr)(is:List E):Prop where
 h:PA X es (tA X xw<|Pv.pvs C is)
structure CO(e:Option Expr)(i:Option E):Prop where
 h:PO X e (tO X xw<|Pv.pvo C i)
end
def PE.imp(h:PE X e t)(k:∀Z H Q,t' Z H Q->t Z H Q):PE X e t':=λpq s Z H Q I q=>h pq s Z H Q I<|k Z H Q q
def PT.imp(h:PT X e t)(k:∀Z H Q,t' Z H Q->t Z H Q):PT X e t':=λpq s Z H Q I q=>h pq s Z H Q I<|k Z H Q q
def PA.imp(h:PA X e t)(k:∀Z H Q,t' Z H Q->t Z H Q):PA X e t':=λpos pq s Z H Q I q=>h pos pq s Z H Q I<|k Z H Q q
def PO.imp(h:PO X e t)(k:∀Z H Q,t' Z H Q->t Z H Q):PO X e t':=λpq s Z H Q I q=>h pq s Z H Q I<|k Z H Q q
section
variable{K:ao}{U ρ':Mx}{S:Zu}{H H':Hp}{a p:aE}
def Zv(hp:H p=ai):Fut U H U (upd H p o):=#[rfl,λb u h=>.inl (by rw[Zj<|Ye h hp];exact h)]
def St3.fresh(st:St3 K U S H)(hp:H p=ai)(ho:∀ps,o≠.tbl ps:=by intro _ z;cases z):St3 K U S (upd H p o):=
 have n:∀b,H b≠ai->b≠p:=λb h z=>h (by rw[z];exact hp)
 #[st.hk,λb h=>by rw[Zj<|n b<|st.xd b h];exact st.xd b h,λb h=>by
  have:=st.dw b h;rw[Zj<|n b (by rw[this.1];intro z;cases z)];exact this,st.tb.upd (λob u z=>by rw[hp]at z;cases z) ho]
def St3.nx(st:St3 K U S H)(hp:H p=ai):¬U.X p:=λz=>st.xd p z hp
end
def Wl:Ev.lim=ba:=by rw[dz];rfl
section
variable{K:ao}{xw:Nat->Hp->Prop}{U:Mx}{H:Hp}{S:Zu}{Q:VK}
def End.newT(h:End K xw Rep U H Q (.ok (.tup ds) S))(st:St3 K U S H)(r:Rq U H ds xs):∀p,H p=ai->Q (.ref p) (upd H p<|.tup xs):=λp hp=>
 h U _ _ (Zv hp) (st.fresh hp) (Xd Zl<|r.mono<|Zv hp)
def End.newL(h:End K xw Rep U H Q (.ok (.lst ds) S))(st:St3 K U S H)(r:Rq U H ds xs):∀p,H p=ai->Q (.ref p) (upd H p<|.lst xs):=λp hp=>
 h U _ _ (Zv hp) (st.fresh hp) (Wy Zl (st.nx hp)<|r.mono<|Zv hp)
end
section
variable{X:Cx}{xw:Nat->Hp->Prop}{C:Calls}{e a b c:Expr}{i j k:E}{pos:gu}
def Zgh{n:Int}{q}:CE X xw C (.Constant (.int n) q pos) (.c<|.int n):=.mk <| PE.imp U8<|by left;exact End.ok h st<|ZM n
def ZhU{n:Bool}{q}:CE X xw C (.Constant (.bool n) q pos) (.c<|.bl n):=.mk <| PE.imp zN<|by left;exact End.ok h st<|Yc n
def ZfD{q}:CE X xw C (.Constant .none q pos) (.c .non):=.mk <| PE.imp xQ<|by left;exact End.ok h st UG
def Zft{x:bn}{q}:CE X xw C (.Constant (.str x) q pos) (.c<|.str x):=.mk <| PE.imp Gf<|by left;exact End.ok h st<|vg x
def Ziv(n:Nat){x:bn}(hN:X.N[n]?=aa x)(hv:Vis X.env.scope x)(hd:(x == #[11])=aj)
  (hcd:(x == #[19])=aj):CE X xw C (.Name x pos) (.v n):=.mk <| PE.imp (Yq hN hv hd hcd)<|by
 left;rw[Pv.pE2]at h;cases q:l[n]? with
 |none=>rw[q]at h;exact h.elim
 |some o=>
  cases o with
  |none=>rw[q]at h;exact h.elim
  |some d=>
   rw[q]at h;obtain⟨v,q2,r⟩:=lr.val n d q;exact#[v,q2,End.ok h st r]
def Ze0:CA X xw C [] []:=.mk <| PA.imp Yy<|by
 left;rw[Pv.pvs]at h;exact End.ok h st Rq.nil
def Zc8{es:List Expr}{is:List E}(ha:CE X xw C e i)(hr:CA X xw C es is)(hs:aG (e::es) X.env=#[22]::aG es X.env):CA X xw C (e::es) (i::is):=.mk <|
 PA.imp (ZL ha.h hr.h hs)<|by
  left;rw[Pv.pvs]at h;exact#[U,l,S,st,lr,h.bind λx S1 ρ1 H1 v f1 st1 r1 h1=>#[ρ1,l,S1,st1,lr.mono f1,h1.bind λxs S2 ρ2 H2 vs f2 st2 r2 h2=>h2.ok st2<|Rq.cons (r1.mono f2) r2]]
def ZfB{es:List Expr}{is:List E}{q}(h:CA X xw C es is):CE X xw C (.Tuple es q pos) (.tup is):=.mk <| PE.imp (Zfo h.h)<|by
 left;rw[Pv.pE3]at h;refine#[U,l,S,st,lr,h.bind λxs S1 ρ1 H1 vs f1 st1 r1 h1=>?_]
 obtain⟨hl,h1⟩:=h1.guard;exact#[by rw[r1.length,<-Wl];exact hl,h1.newT st1 r1]
def Wf{r:R2}{g:D->D->Zu->R D}(hg:∀{U H S x y v u Q},St3 X.K U S H->Rep U H x v->Rep U H y u->End X.K xw Rep U H Q (g x y S)->r v u H Q) :
  ∀Z H Q,tE X xw (λl S=>(Pv.pv C i l S).bind λx S=>(Pv.pv C j l S).bind λy S=>g x y S) Z H Q->tOp r (tE X xw<|Pv.pv C i) (tE X xw<|Pv.pv C j) Z H Q:=λZ H Q #[U,l,S,st,lr,h]=>
 #[U,l,S,st,lr,h.bind λx S1 ρ1 H1 v f1 st1 r1 h1=>#[ρ1,l,S1,st1,lr.mono f1,h1.bind λy S2 ρ2 H2 u f2 st2 r2 h2=>hg st2 (r1.mono f2) r2 h2]]
end
def jh(K:ao):R2:=λx y H Q=>∃a b ys,x=.ref a/\y=.ref b/\SqT K H a []/\SqT K H b ys/\Q (.ref b) H
def Zbw:OpR X (fk .Add) (jh X.K):=by
 intro pq s Z H x y v u Q I rx ry h;obtain⟨a,b,ys,rfl,rfl,ha,hb,q⟩:=h;cases rx;cases ry;obtain⟨its,r1,p1,_⟩:=I.tuple ha;obtain⟨its2,r2,p2,_⟩:=I.tuple hb;have e0:=r1.nil_iff.mpr rfl;obtain⟨⟨cls,dd,data,sl⟩,ho,hc,n,hd⟩:=id p1;obtain⟨⟨cls2,dd2,data2,sl2⟩,ho2,hc2,n2,hd2⟩:=id p2;simp only at hc hd hc2 hd2;subst hc hd hc2 hd2;exact oX #[_,ho,rfl] #[_,ho2,rfl] mh n4 iF iA (gX _ _)
   (tuple_addW0 a b its.toArray its2.toArray n n2 dd dd2 sl sl2<|by rw[e0];rfl) #[ho,ho2,#[.ref b,H,I,rfl,q]]
def Zip(K:ao):V->Option Int->Option Int->Hp->VK->Prop:=λx lo hi H Q=>∃a xs,x=.ref a/\SqT K H a xs/\
 (HT.sIx xs.length 0 lo=0/\HT.sIx xs.length xs.length hi=xs.length)/\Q (.ref a) H
def WG{prog:bv}{w:bO}{A:b9}{E:aw->ay->Prop}{s:ay}{t sl:aE}{items:Array aw}{vl vu:aw}{lo hi:Option Int}{Q:aw->ay->Prop}(ht:oP s.heap t items)(hs:s.heap.IsSliceOf sl vl vu .none)(pl:kO vl lo)(pu:kO vu hi)
  (hw:HT.sIx items.size 0 lo=0/\HT.sIx items.size items.size hi=items.size)(h:Q (.ref t) s):aW #[8] A (lH (.ref t)<|.ref sl) Q E s:=by
 obtain⟨os,hos,hcs,hds⟩:=id hs;have hTs:s.TypeIs (.ref sl) "slice":=#[os,hos,hcs];unfold lH
 try with_reducible refine bP ?_
 first|refine ae<|ax ?_|skip
 refine ae<|lI ht.typeIs #[1] ?_
 refine ae (cC ht.typeIs cQ
  (cx cQ ht.typeIs kB ?_<|kR _ _))
 show aW _ _ (gC (.ref t) >>= _) _ _ s;refine ae<|n5 ht ?_;refine ae<|fT hTs ?_;rw[T9 #[1]]
 refine ae<|HT.Xp hs pl pu ?_;have hyes:((((HT.sIx items.size 0 lo:Nat):Int) == 0&&(1:Int) == 1&&(HT.sIx items.size items.size hi-HT.sIx items.size 0 lo) == items.size)=am):=by
  rw[hw.1,hw.2];simp
 show aW _ _ (if(((HT.sIx items.size 0 lo:Nat):Int) == 0&&(1:Int) == 1&&(HT.sIx items.size items.size hi-HT.sIx items.size 0 lo) == items.size)=am then _ else _) _ _ s
 rw[T9 hyes];refine ae<|ae<|fT ht.typeIs<|ax ?_;rw[T9 #[1]]
 exact ae<|eQ<|ax #[_,rfl,ax h]
def ZbV:SlR X (Zip X.K):=by
 intro pq s Z H x v vl vu lo hi sl Q I rx hs pl pu h;obtain⟨a,xs,rfl,hx,hw,q⟩:=h;cases rx;obtain⟨its,r,ht,hz⟩:=I.tuple hx;have hlen:its.toArray.size=xs.length:=by rw[aC];exact r.length.symm
 refine#["tuple",_,cQ.lookup,ht.typeIs,?_];exact WG ht hs pl pu (by rw[hlen];exact hw) #[.ref a,H,I,rfl,q]
def vV(h:Ev.fits i=am):nP i<=2^20:=by
 have h1:=T6 h;unfold nP;split
 .exact dM _
 .rename_i hz
  have hne:i.natAbs≠0:=by intro z;exact hz (by simp[Int.natAbs_eq_zero.mp z])
  have:=(Nat.log2_lt hne).mpr h1;have e:(2:Nat)^20=1048576:=by decide
  omega
def jq:OpR X (fk .FloorDiv) (rI (λ_ j=>0<j/\j<Ev.big) λi j=>.int<|i / j):=opI λi j _ _ _ _ _ hc q=>by
 have h1:=hc.1;have h2:=hc.2;have hne:j.natAbs≠0:=by omega
 have h3:j.natAbs<2^8000:=by
  have e:(j.natAbs:Int)=j:=Int.natAbs_of_nonneg #[3]
  have h4:(j.natAbs:Int)<((2^8000:Nat):Int):=by rw[e,Int.natCast_pow];exact h2
  exact Int.ofNat_lt.mp h4
 have h5:=(Nat.log2_lt hne).mpr h3;exact floordiv_int #[3] (by rw[Int.fdiv_eq_ediv_of_nonneg i #[3]];exact q)<|.inl<|PyProof.noPylong_of_log2 #[3]
def Zef:OpR X (fk .Mult) (rI (λi j=>Ev.fits i=am/\Ev.fits j=am) λi j=>.int<|i*j):=opI λ_ _ _ _ _ _ _ hc q=>mul_int q<|IntMulOk.of_bits (vV hc.1)<|vV hc.2
def ZgT:OpR X (cO .Is) (λx y H Q=>∃a b,x=.bl a/\y=.bl b/\Q (.bl<|af<|a=b) H):=by
 intro pq s Z H x y v u Q I rx ry h;obtain⟨a,b,rfl,rfl,q⟩:=h;cases rx;cases ry;cases a<;>cases b<;>exact ax #[.bl _,H,I,rfl,q]
def QY:fillsNumberSlot (.type "tuple") "mul" = cS aj:=
 PySem.fillsNumberSlot_seq mj.lookup #[20] F.slot_tuple_rmul.lookup #[20]
def G5:seqRepeat? (.type "tuple")=cS (aa<|.builtin "tuple.__mul__"):=by
 unfold seqRepeat?
 rw[pP (name:="__mul__") mj.lookup #[20],pP (name:="__rmul__") F.slot_tuple_rmul.lookup #[20]]
 rfl
def UY(a:Int)(t:sW)(l:aE)(items:Array aw)(n:Nat)(dd:Option aE)(sl:Array (Option aw)) :
  si (dG.«int.__rmul__» #[[.int a t,.ref l],[]]) (λ_ R s=>s.heap.get? l=aa {cls:=.type "tuple",dict:=dd,data:=.seq items n,slots:=sl}/\R (.ok<|.ret aw.notImplemented) s):=
 .of_wp λprog w A R s h=>by obtain⟨hp,g,d,tk,os⟩:=s;obtain⟨hl,h⟩:=h;wp_walk;exact#[_,rfl,h]
def GD(l:aE)(items:Array aw)(n:Nat)(dd:Option aE)(sl:Array (Option aw))(x:Int)(u:sW)(h0:¬(x < -(2^63)||x>=2^63)=am)(hc:(items.isEmpty||x == 1)=am) :
  si (dG.«tuple.__mul__» #[[.ref l,.int x u],[]]) (λ_ R s=>s.heap.get? l=aa {cls:=.type "tuple",dict:=dd,data:=.seq items n,slots:=sl}/\R (.ok<|.ret<|cW l) {s with heap:=s.heap,toks:=s.toks}):=
 .of_wp λprog w A R s h=>by obtain⟨hp,g,d,tk,os⟩:=s;obtain⟨hl,h⟩:=h;have f1:=mi;have f2:=ej;wp_walk;rw[T8 h0];wp_walk using ee hl;exact#[_,rfl,h]
def GA(l:aE)(items:Array aw)(n:Nat)(dd:Option aE)(sl:Array (Option aw))(x:Int)(u:sW)(h0:¬(x < -(2^63)||x>=2^63)=am)(hc:¬(items.isEmpty||x == 1)=am)(h1:(x<=0||items.isEmpty)=am) :
  si (dG.«tuple.__mul__» #[[.ref l,.int x u],[]]) (λ_ R s=>s.heap.get? l=aa {cls:=.type "tuple",dict:=dd,data:=.seq items n,slots:=sl}/\R (.ok<|.ret<|cW s.heap.objs.size) {s with heap:=s.heap.push {cls:=.type "tuple",data:=.seq #[]},toks:=s.toks}):=
 .of_wp λprog w A R s h=>by obtain⟨hp,g,d,tk,os⟩:=s;obtain⟨hl,h⟩:=h;have f1:=mi;have f2:=ej;wp_walk;rw[T8 h0];wp_walk using ee hl;exact#[_,rfl,h]
def yD(l:aE)(items:Array aw)(n:Nat)(dd:Option aE)(sl:Array (Option aw))(x:Int)(u:sW)(h0:¬(x < -(2^63)||x>=2^63)=am)(hc:¬(items.isEmpty||x == 1)=am)(h1:¬(x<=0||items.isEmpty)=am)
  (h2:¬(items.size*x>(2^63-1) / 8))(h3:¬kU (items.size*x)=am)(hsz:((aB x.toNat items).foldl (·++·) #[]).size<=ba) :
  si (dG.«tuple.__mul__» #[[.ref l,.int x u],[]]) (λ_ R s=>s.heap.get? l=aa {cls:=.type "tuple",dict:=dd,data:=.seq items n,slots:=sl}/\R (.ok<|.ret<|cW s.heap.objs.size) {s with heap:=s.heap.push {cls:=.type "tuple",data:=.seq ((aB x.toNat items).foldl (·++·) #[])},toks:=s.toks}):=
 .of_wp λprog w A R s h=>by obtain⟨hp,g,d,tk,os⟩:=s;obtain⟨hl,h⟩:=h;have f1:=mi;have f2:=ej;wp_walk;rw[T8 h0];wp_walk using ee hl;rw[T8 h2];wp_walk using ee hl;exact#[_,rfl,h]
def Zep(K:ao):R2:=λx y H Q=>∃a k xs,x=.ref a/\y=.int k/\SqT K H a xs/\(0<=k/\k<1000/\xs.length<=1000)/\
 ((xs=[]\/k=1)->Q (.ref a) H)/\(¬(xs=[]\/k=1)->∀p,H p=ai->Q (.ref p) (upd H p<|.tup (aB k.toNat xs).flatten))
def ZdH :OpR X (fk .Mult) (Zep X.K):=by
 intro pq s Z H x y v u Q I rx ry h;obtain⟨a,k,xs,rfl,rfl,hx,⟨k0,k1,hz⟩,q1,q2⟩:=h;cases rx;obtain⟨t,rfl⟩:=ry;obtain⟨its,r,pt,_⟩:=I.tuple hx;have hl:=r.length;obtain⟨⟨cls,dd,data,sl⟩,ho,hc,n,hd⟩:=id pt;simp only at hc hd;subst hc hd;have h0:¬(af (k < -(2^63))||decide (k>=2^63))=am:=by
  rw[T4 #[0],T4 #[0]];exact aR
 refine lC #[1] #[_,ho,rfl] (λs'=>mM s' k t) QY rK kn G5 F.slot_int_index.lookup
  (io kn (mM s k t) pQ (o5 _ _) (UY k t a its.toArray n dd sl) #[ho,rfl,#[_,ho,rfl],?_])
 have hnil:=r.nil_iff;by_cases c:xs=[]\/k=1
 .have c':(its.toArray.isEmpty||k == 1)=am:=by
   rcases c with c|c
   .rw[hnil.mpr c];rfl
   .rw[c];simp
  exact io mj #[_,ho,rfl] lL (kW _ _) (GD a its.toArray n dd sl k t h0 c') #[ho,#[.ref a,H,I,rfl,q1 c]]
 .have ne:=λz=>c (.inl<|hnil.mp z)
  have k1:k≠1:=λz=>c<|.inr z
  have c':¬(its.toArray.isEmpty||k == 1)=am:=by
   rw[beq_eq_false_iff_ne.mpr k1,Bool.or_false,kc];cases its with|nil=>exact T7 rfl ne|cons _ _=>exact aR
  have fin:∀arr:List aw,arr=(aB k.toNat its).flatten->EP X pq Z Q (cW s.heap.objs.size) {s with heap:=s.heap.push {cls:=.type "tuple",data:=.seq arr.toArray}}:=λarr e=>by
   subst e;refine#[.ref s.heap.objs.size,_,I.laid (t':=s.toks) (λb ob q=>aq _ q) (aM _) ?_,rfl,q2 c _<|I.hok.fresh<|aM _]
   refine#[?_,_,r.rep k.toNat,iR _ _];rw[zf,dz];have:k.toNat*xs.length<=1000*1000:=nz #[0] hz
   lia
  by_cases z:k=0
  .have h1:(af (k<=0)||its.toArray.isEmpty)=am:=by rw[z];rfl
   refine io mj #[_,ho,rfl] lL (kW _ _) (GA a its.toArray n dd sl k t h0 c' h1) #[ho,?_];exact fin [] (by rw[z];rfl)
  .have h1:¬(af (k<=0)||its.toArray.isEmpty)=am:=by
    rw[T4 #[0],i5,kc]
    cases its with|nil=>exact T7 rfl ne|cons _ _=>exact aR
   have hm:(its.toArray.size:Int)*k<=1000*1000:=by
    rw[aC,<-hl];exact Int.mul_le_mul #[0] #[0] k0 #[0]
   have joined:(aB k.toNat its.toArray).foldl (·++·) #[]=(aB k.toNat its).flatten.toArray:=by
    have:=V9 its k.toNat [];rw[hU]at this;exact this
   have hsz:((aB k.toNat its.toArray).foldl (·++·) #[]).size<=ba:=by
    rw[joined,aC,zf,dz,<-hl];have:k.toNat*xs.length<=1000*1000:=nz #[0] hz
    lia
   refine io mj #[_,ho,rfl] lL (kW _ _) (yD a its.toArray n dd sl k t h0 c' h1 #[0] (by
    unfold kU;rw[T4 (by rw[dz];lia)]
    exact aR) hsz) #[ho,?_]
   rw[joined];exact fin _ rfl
def ZeC:R2:=λx y H Q=>∃a k xs,x=.ref a/\y=.int k/\H a=aa (.lst xs)/\(0<=k/\k<1000/\xs.length<=1000)/\∀p,H p=ai->Q (.ref p) (upd H p<|.lst (aB k.toNat xs).flatten)
def ZcJ :OpR X (fk .Mult) ZeC:=by
 intro pq s Z H x y v u Q I rx ry h;obtain⟨a,k,xs,rfl,rfl,hx,⟨k0,k1,hz⟩,q2⟩:=h;cases rx;obtain⟨t,rfl⟩:=ry;obtain⟨its,r,pl,_⟩:=I.list<|SqL.of hx;have hl:=r.length;obtain⟨⟨cls,dd,data,sl⟩,n,ho,hc,hd2,hd⟩:=id pl;simp only at hc hd hd2;subst hc hd;have hm:k.toNat*its.length<=1000*1000:=nz #[0] #[0]
 have hm2:its.length*k.toNat<=1000*1000:=by rw[o6];exact hm
 refine lC #[1] #[_,ho,rfl] (λs'=>mM s' k t) noFill_list_mul rK kn repeat_list F.slot_int_index.lookup
  (io kn (mM s k t) pQ (o5 _ _) (lm_int_rmul_list_any k t a its.toArray n dd sl) #[ho,rfl,#[_,ho,rfl],
   io F.slot_list_mul #[_,ho,rfl] F.entry_list_mul (F.args_list_mul_2 _ _) (lm_list_mul_any a its.toArray n dd sl k t (by simp[dG.List.listFitsIndex];lia) (by rw[aC];lia)<|by rw[aC];simp[dG.List.listTooLong,ba];lia) #[ho,?_]])
 have joined:(aB (if its.toArray.isEmpty=am then 0 else k.toNat) its.toArray).foldl (λx1 x2=>x1++x2) #[]=(aB k.toNat its).flatten.toArray:=by
  have h0:=V9 its k.toNat [];rw[hU]at h0;by_cases z:its=[]
  .subst z
   have e:∀m:Nat,(aB m ([]:List aw)).flatten=[]:=λm=>by induction m with|zero=>rfl|succ m ih=>rw[bY,dk,ih];rfl
   rw[e];rfl
  .rw[T8 (by rw[kc];cases its with|nil=>exact T7 rfl z|cons _ _=>exact aR)]
   exact h0
 rw[joined];refine#[.ref s.heap.objs.size,_,I.laid (t':=s.toks) (λb ob q=>aq _ q) (aM _) ?_,rfl,q2 _<|I.hok.fresh<|aM _]
 refine#[?_,_,0,r.rep k.toNat,aI _ rfl];rw[zf,dz];rw[hl];lia
section
variable{X:Cx}{xw:Nat->Hp->Prop}{C:Calls}{e a b c:Expr}{i j k:E}{pos:gu}
variable{U:Mx}{H:Hp}{S:Zu}{x y:D}{v u:V}{Q:VK}{K:ao}
def ZeL(K:ao):R2:=λx y H Q=>rI0 (λi j=>.int<|i+j) x y H Q\/(ZeW K x y H Q\/(jh K x y H Q\/ZdT x y H Q))
def Zde:OpR X (fk .Add) (ZeL X.K):=Ze4.or<|Zcr.or<|Zbw.or wD
def Ze9(st:St3 K U S H)(rx:Rep U H x v)(ry:Rep U H y u)(h:End K xw Rep U H Q (Pv.XV .add x y S)):ZeL K v u H Q:=by
 cases x with
 |int i=>cases y with|int j=>exact .inl #[i,j,rx.int',ry.int',End.ok h st<|ZM _]|_=>exact False.elim h
 |tup ds=>cases y with
  |tup es=>
   obtain⟨hl,h⟩:=End.guard h;obtain⟨p,xs,rfl,hp,r1⟩:=rx.tup';obtain⟨q,ys,rfl,hq,r2⟩:=ry.tup';have l1:=r1.length;have l2:=r2.length;by_cases z:xs=[]
   .subst z
    have e1:=iC.mp l1.symm;subst e1;exact .inr<|.inr<|.inl #[p,q,ys,rfl,rfl,SqT.of hp,SqT.of hq,End.ok h st<|Xd hq r2]
   .refine .inr (.inl #[p,q,xs,ys,rfl,rfl,SqT.of hp,SqT.of hq,z,by rw[l1,l2,<-Wl];exact hl,λz2=>?_,λ_=>h.newT st<|r1.append r2])
    subst z2;have e2:=iC.mp l2.symm;subst e2;refine End.ok h st ?_;rw[cz];exact Xd hp r1
  |_=>exact False.elim h
 |lst ds=>cases y with
  |lst es=>
   obtain⟨hl,h⟩:=End.guard h;obtain⟨p,xs,rfl,hp,_,r1⟩:=rx.lst';obtain⟨q,ys,rfl,hq,_,r2⟩:=ry.lst';exact .inr<|.inr<|.inr #[p,q,xs,ys,rfl,rfl,hp,hq,by rw[r1.length,r2.length,<-Wl];exact hl,h.newL st<|r1.append r2]
  |_=>exact False.elim h
 |_=>cases y<;>exact False.elim h
def ZgA(st:St3 K U S H)(rx:Rep U H x v)(ry:Rep U H y u)(h:End K xw Rep U H Q (Pv.XV .sub x y S)):rI0 (λi j=>.int<|i-j) v u H Q:=by
 cases x with
 |int i=>cases y with|int j=>exact#[i,j,rx.int',ry.int',End.ok h st<|ZM _]|_=>exact False.elim h
 |_=>cases y<;>exact False.elim h
def ZeY(K:ao):R2:=λx y H Q=>rI (λi j=>Ev.fits i=am/\Ev.fits j=am) (λi j=>.int<|i*j) x y H Q\/(Zep K x y H Q\/ZeC x y H Q)
def ZdP:OpR X (fk .Mult) (ZeY X.K):=Zef.or<|ZdH.or ZcJ
def ZfK(st:St3 K U S H)(rx:Rep U H x v)(ry:Rep U H y u)(h:End K xw Rep U H Q (Pv.XV .mul x y S)):ZeY K v u H Q:=by
 cases x with
 |int i=>cases y with
  |int j=>
   obtain⟨hc,h⟩:=End.guard h;exact .inl #[i,j,rx.int',ry.int',(aF _ _).mp hc,End.ok h st<|ZM _]
  |_=>exact False.elim h
 |tup ds=>cases y with
  |int k=>
   obtain⟨⟨h0,h1,h2⟩,h⟩:=End.guard h;obtain⟨p,xs,rfl,hp,r1⟩:=rx.tup';have l1:=r1.length;refine .inr <| .inl #[p,k,xs,rfl,ry.int',SqT.of hp,#[h0,h1,by rw[l1];exact h2],λz=>?_,λ_=>h.newT st<|r1.rep k.toNat]
   refine End.ok h st<|Xd hp ?_;rcases z with z|z
   .subst z
    have e1:=iC.mp l1.symm;subst e1;have:∀m:Nat,(aB m ([]:List D)).flatten=[]:=λm=>by induction m with|zero=>rfl|succ m ih=>rw[bY,dk,ih];rfl
    rw[this];exact Rq.nil
   .subst z
    show Rq U H (aB 1 ds).flatten xs;rw[bY,List.replicate_zero,dk,List.flatten_nil,cz];exact r1
  |_=>exact False.elim h
 |lst ds=>cases y with
  |int k=>
   obtain⟨⟨h0,h1,h2⟩,h⟩:=End.guard h;obtain⟨p,xs,rfl,hp,_,r1⟩:=rx.lst';exact .inr<|.inr #[p,k,xs,rfl,ry.int',hp,#[h0,h1,by rw[r1.length];exact h2],h.newL st<|r1.rep k.toNat]
  |_=>exact False.elim h
 |_=>cases y<;>exact False.elim h
def Zci(st:St3 K U S H)(rx:Rep U H x v)(ry:Rep U H y u)(h:End K xw Rep U H Q (Pv.XV .fdiv x y S)):rI (λ_ j=>0<j/\j<Ev.big) (λi j=>.int<|i / j) v u H Q:=by
 cases x with
 |int i=>cases y with
  |int j=>
   obtain⟨hc,h⟩:=End.guard h;exact#[i,j,rx.int',ry.int',hc,End.ok h st<|ZM _]
  |_=>exact False.elim h
 |_=>cases y<;>exact False.elim h
def Zgt(st:St3 K U S H)(rx:Rep U H x v)(ry:Rep U H y u)(h:End K xw Rep U H Q (Pv.XV .mod x y S)):rI (λ_ j=>0<j) (λi j=>.int<|i%j) v u H Q:=by
 cases x with
 |int i=>cases y with
  |int j=>
   obtain⟨hc,h⟩:=End.guard h;exact#[i,j,rx.int',ry.int',hc,End.ok h st<|ZM _]
  |_=>exact False.elim h
 |_=>cases y<;>exact False.elim h
theorem Zgi(st:St3 K U S H)(rx:Rep U H x v)(ry:Rep U H y u)(h:End K xw Rep U H Q (Pv.XV .pow x y S)):rI CPow (λi j=>.int<|i^j.toNat) v u H Q:=by
 cases x with
 |int i=>cases y with
  |int j=>
   obtain⟨hc,h⟩:=End.guard h;exact#[i,j,rx.int',ry.int',#[hc.1,by lia,hc.2.2],End.ok h st<|ZM _]
  |_=>exact False.elim h
 |_=>cases y<;>exact False.elim h
def ZfC(ha:CE X xw C a i)(hb:CE X xw C b j):CE X xw C (.BinOp a .Add b pos) (.bin .add i j):=.mk <| PE.imp (Uc Zde ha.h hb.h) (Wf λst rx ry h=>Ze9 st rx ry h)
def Zfu(ha:CE X xw C a i)(hb:CE X xw C b j):CE X xw C (.BinOp a .Sub b pos) (.bin .sub i j):=.mk <| PE.imp (Uc ZfG ha.h hb.h) (Wf λst rx ry h=>ZgA st rx ry h)
def ZgE(ha:CE X xw C a i)(hb:CE X xw C b j):CE X xw C (.BinOp a .Mult b pos) (.bin .mul i j):=.mk <| PE.imp (Uc ZdP ha.h hb.h) (Wf λst rx ry h=>ZfK st rx ry h)
def Zcm(ha:CE X xw C a i)(hb:CE X xw C b j):CE X xw C (.BinOp a .FloorDiv b pos) (.bin .fdiv i j):=.mk <| PE.imp (Uc jq ha.h hb.h) (Wf λst rx ry h=>Zci st rx ry h)
def Zgy(ha:CE X xw C a i)(hb:CE X xw C b j):CE X xw C (.BinOp a .Mod b pos) (.bin .mod i j):=.mk <| PE.imp (Uc Zgl ha.h hb.h) (Wf λst rx ry h=>Zgt st rx ry h)
def ZgO(ha:CE X xw C a i)(hb:CE X xw C b j):CE X xw C (.BinOp a .Pow b pos) (.bin .pow i j):=.mk <| PE.imp (Uc Zgn ha.h hb.h) (Wf λst rx ry h=>Zgi st rx ry h)
def Zf7(ha:CE X xw C a i):CE X xw C (.UnaryOp .USub a pos) (.neg i):=.mk <| PE.imp (Zer je ha.h)<|by
 left;refine#[U,l,S,st,lr,End.bind (h) λx S1 ρ1 H1 v f1 st1 r1 h1=>?_]
 cases x with|int n=>exact#[n,r1.int',End.ok h1 st1<|ZM _]|_=>exact False.elim h1
def yz(st:St3 K U S H)(rx:Rep U H x v)(h:Pv.Zw x=aa n):ZcV K v H n:=by
 cases x with
 |non=>rw[rx.non'];exact(au h).symm
 |bl b=>rw[rx.bl'];exact(au h).symm
 |int i=>
  rw[rx.int'];have h':=au h;rw[<-h'];by_cases z:i=0
  .subst z;rfl
  .rw[T5 z];exact(bne_iff_ne.mpr z).symm
 |tup ds=>
  obtain⟨p,xs,rfl,hp,r⟩:=rx.tup';have h':=au h;refine .inr<|.inl #[xs,SqT.of hp,?_];rw[<-h'];have:=r.length;cases ds<;>cases xs<;>first|rfl|(simp at this)
 |lst ds=>
  obtain⟨p,xs,rfl,hp,_,r⟩:=rx.lst';refine .inl #[xs,SqL.of hp,?_];rw[<-au h];have:=r.length;cases ds<;>cases xs<;>first|rfl|(simp at this)
 |_=>cases h
def ZgV(ha:CE X xw C a i)(he:∀whole,isTrue a X.env whole=(do let v <-whole;oQ a.pos;lE [v] (tw v))):CT X xw C a i:=.mk <|
 PT.imp (jb ha.h he)<|by
  left;refine#[U,l,S,st,lr,End.bind (h) λx S1 ρ1 H1 v f1 st1 r1 h1=>?_]
  cases q:Pv.Zw x with|none=>rw[q]at h1;exact False.elim h1|some n=>rw[q]at h1;exact#[n,yz st1 r1 q,End.ok h1 st1 rfl]
def Zgf(ha:CT X xw C a i):CT X xw C (.UnaryOp .Not a pos) (.not i):=.mk <| PT.imp (jG ha.h)<|by
 left;refine#[U,l,S,st,lr,?_];have h':End X.K xw Qh U H Q (((Pv.pv C i l S).bind λx S=>(Pv.po (Pv.Zw x) S).bind λb S=>.ok (.bl !b) S).bind λx S=>Pv.po (Pv.Zw x) S):=h
 show End X.K xw Qh U H (λc H1=>Q (!c) H1) ((Pv.pv C i l S).bind λx S=>Pv.po (Pv.Zw x) S)
 cases q:Pv.pv C i l S with
 |no=>rw[q]at h';exact h'
 |ex c S1=>rw[q]at h';exact h'
 |ok x S1=>
  rw[q]at h';show End X.K xw Qh U H _ (Pv.po (Pv.Zw x) S1);have h2:End X.K xw Qh U H Q (((Pv.po (Pv.Zw x) S1).bind λb S=>.ok (.bl !b) S).bind λx S=>Pv.po (Pv.Zw x) S):=h'
  cases t:Pv.Zw x with
  |none=>rw[t]at h2;exact h2
  |some n=>
   rw[t]at h2;intro ρ1 H1 w f1 st1 e;exact h2 ρ1 H1 (!w) f1 st1 (by rw[<-(e)];rfl)
def Zfe(ha:CE X xw C a i):CE X xw C (.UnaryOp .Not a pos) (.not i):=.mk <| by
 intro pq s Z H Q I hq;obtain⟨U,l,S,st,lr,h⟩:=hq;have h':=h
 refine UnaryOp_<|thn (ha.h pq s Z H (λv H1=>∃k,ZcV X.K v H1 k/\Q (.bl !k) H1) I #[U,l,S,st,lr,End.bind h' λx S1 ρ1 H1 v f1 st1 r1 h1=>?_]) λv s1 #[x,H1,I1,r1,q1]=>?_
 .cases q:Pv.Zw x with|none=>rw[q]at h1;exact False.elim h1|some n=>rw[q]at h1;exact#[n,yz st1 r1 q,End.ok h1 st1<|Yc _]
 .obtain⟨k,tk,q2⟩:=q1
  refine not_of<|thn (jd pq s1 Z H1 x v (λk' H'=>Q (.bl !k') H') I1 r1 #[k,tk,q2]) λk' s2 #[H2,I2,q3]=>?_
  exact#[.bl<|!k',H2,I2,rfl,q3]
def Zf2{rest:List Expr}(ha:CE X xw C a i)(hb:CE X xw C (.BoolOp .And (b::rest) pos) j):CE X xw C (.BoolOp .And (a::b::rest) pos) (.and i j):=.mk <| PE.imp (ZgQ ha.h hb.h)<|by
 left;refine#[U,l,S,st,lr,End.bind (h) λx S1 ρ1 H1 v f1 st1 r1 h1=>?_]
 cases x with
 |bl c=>
  refine#[c,r1.bl',?_];cases c with|true=>exact#[ρ1,l,S1,st1,lr.mono f1,h1]|false=>exact End.ok h1 st1<|Yc _
 |_=>exact False.elim h1
def ZgG{op}(ha:CE X xw C a i):CE X xw C (.BoolOp op [a] pos) i:=.mk <| ZfL ha.h
structure CWh(X:Cx)(xw:Nat->Hp->Prop)(C:Calls)(e:Expr)(i:E):Prop where
 h:PW X e (tB3 X xw<|Pv.YE C i)
def CWh.ct(h:CWh X xw C e i):CT X xw C e i:=.mk <| PW.pt h.h
def PW.imp(h:PW X e t)(k:∀Z H Q,t' Z H Q->t Z H Q):PW X e t':=λwh pq s Z H Q I q=>h wh pq s Z H Q I<|k Z H Q q
def Zdu(ha:CT X xw C a i):CWh X xw C (.BoolOp .And [a] pos) i:=.mk <| ZdB ha.h
def ZgW(ha:CT X xw C a i):CWh X xw C (.BoolOp .Or [a] pos) i:=.mk <| Zb2 ha.h
def Zca{rest:List Expr}(ha:CT X xw C a i)(hb:CWh X xw C (.BoolOp .And (b::rest) pos) j):CWh X xw C (.BoolOp .And (a::b::rest) pos) (.and i j):=.mk <| PW.imp (Zga ha.h hb.h)<|by
 left;have h':End X.K xw Qh U H Q (((Pv.pv C i l S).bind λx S=>match x with|.bl c=>if c then Pv.pv C j l S else .ok (.bl aj) S|_=>.no).bind λx S=>Pv.po (Pv.Zw x) S):=h
 refine#[U,l,S,st,lr,?_];show End X.K xw Qh U H _ ((Pv.pv C i l S).bind λx S=>Pv.po (Pv.Zw x) S)
 cases q:Pv.pv C i l S with
 |no=>rw[q]at h';exact h'
 |ex c S1=>rw[q]at h';exact h'
 |ok x S1=>
  rw[q]at h';cases x with
  |bl n=>
   intro ρ1 H1 w f1 st1 e;have e':n=w:=e;subst e';cases n with|true=>exact#[ρ1,l,S1,st1,lr.mono f1,End.mono f1 (h')]|false=>exact(h') ρ1 H1 aj f1 st1 rfl
  |_=>exact False.elim h'
def Zeq{rest:List Expr}(ha:CT X xw C a i)(hb:CWh X xw C (.BoolOp .Or (b::rest) pos) j):CWh X xw C (.BoolOp .Or (a::b::rest) pos) (.or i j):=.mk <| PW.imp (Zet ha.h hb.h)<|by
 left;have h':End X.K xw Qh U H Q (((Pv.pv C i l S).bind λx S=>match x with|.bl c=>if c then .ok (.bl am) S else Pv.pv C j l S|_=>.no).bind λx S=>Pv.po (Pv.Zw x) S):=h
 refine#[U,l,S,st,lr,?_];show End X.K xw Qh U H _ ((Pv.pv C i l S).bind λx S=>Pv.po (Pv.Zw x) S)
 cases q:Pv.pv C i l S with
 |no=>rw[q]at h';exact h'
 |ex c S1=>rw[q]at h';exact h'
 |ok x S1=>
  rw[q]at h';cases x with
  |bl n=>
   intro ρ1 H1 w f1 st1 e;have e':n=w:=e;subst e';cases n with|false=>exact#[ρ1,l,S1,st1,lr.mono f1,End.mono f1 (h')]|true=>exact(h') ρ1 H1 am f1 st1 rfl
  |_=>exact False.elim h'
end
theorem QM{f:D->D->Option Bool}(hf:∀x y v b,Rep U H x v->Rep U H y v->f x y=aa b->b=am):∀{ds es:List D}{xs:List V}{b:Bool},Rq U H ds xs->Rq U H es xs->Pv.Yz f ds es=aa b->b=am
 |[],[],_,b,_,_,h=>(au h).symm
 |d::ds,e::es,_,b,r1,r2,h=>by
  obtain⟨v,vs,rfl,a1,b1⟩:=r1;obtain⟨v',vs',e',a2,b2⟩:=r2;cases e';unfold Pv.Yz at h;cases q1:f d e with
  |none=>rw[q1]at h;cases h
  |some p=>
   cases q2:Pv.Yz f ds es with
   |none=>rw[q1,q2]at h;cases h
   |some q=>
    rw[q1,q2]at h;have h':=au h;rw[<-h',hf d e v p a1 a2 q1,QM hf b1 b2 q2];rfl
 |[],_::_,_,b,r1,r2,h=>by
  have l1:=r1.length;have l2:=r2.length;rw[l1]at l2;simp at l2
 |_::_,[],_,b,r1,r2,h=>by
  have l1:=r1.length;have l2:=r2.length;rw[l1]at l2;simp at l2
def Rep.sc{x y:D}{v:V}(r1:Rep U H x v)(r2:Rep U H y v)(h:∀a,v≠.ref a):x=y:=by
 cases x<;>cases y<;>unfold Rep at r1 r2<;>subst_vars<;>first
  |rfl
  |(cases r2;rfl)
  |(cases r1;rfl)
  |(obtain⟨a,z,_⟩:=r1;exact T7 z<|h a)
  |(obtain⟨a,z,_⟩:=r2;exact T7 z<|h a)
  |(obtain⟨a,_,z,_⟩:=r1;exact T7 z<|h a)
  |(obtain⟨a,_,z,_⟩:=r2;exact T7 z<|h a)
  |cases r1
  |cases r2
def ZbO{k:Nat}{x:D}{v:V}{b:Bool}(r:Rep U H x v)(hv:∀a,v≠.ref a)(h:Pv.eqV (k+1) x x=aa b):b=am:=by
 cases x<;>first
  |exact(au h).symm
  |(rw[<-au h];exact T5 rfl)
  |exact Ev.nos h
  |(obtain⟨a,_,z,_⟩:=r.tup';exact T7 z<|hv a)
  |(obtain⟨a,_,z,_⟩:=r.lst';exact T7 z<|hv a)
theorem Rep.ref{x:D}{p:aE}(r:Rep U H x (.ref p)){y:D}{k:Nat}{b:Bool}(h:Pv.eqV (k+1) x y=aa b\/Pv.eqV (k+1) y x=aa b):(∃ds es,x=.tup ds/\y=.tup es)\/∃ds es,x=.lst ds/\y=.lst es:=by
 cases x with
 |tup ds=>cases y<;>first|exact .inl #[_,_,rfl,rfl]|(rcases h with h|h<;>exact Ev.nos h)
 |lst ds=>cases y<;>first|exact .inr #[_,_,rfl,rfl]|(rcases h with h|h<;>exact Ev.nos h)
 |non=>cases r.non'
 |bl _=>cases r.bl'
 |int _=>cases r.int'
 |str _=>cases r.str'
 |_=>cases y<;>rcases h with h|h<;>exact Ev.nos h
theorem VA:∀(k:Nat)(x y:D)(v:V)(b:Bool),Rep U H x v->Rep U H y v->Pv.eqV k x y=aa b->b=am
 |0,_,_,_,_,_,_,h=>by cases h
 |k+1,x,y,v,b,r1,r2,h=>by
  by_cases hv:∃a,v=.ref a
  .obtain⟨p,rfl⟩:=hv
   rcases r1.ref (.inl h)with⟨ds,es,rfl,rfl⟩|⟨ds,es,rfl,rfl⟩
   .obtain⟨_,_,z,e1,q1⟩:=r1.tup'
    cases z;obtain⟨_,_,z,e2,q2⟩:=r2.tup';cases z;rw[e1]at e2;cases e2;exact QM (λx y v b=>VA k x y v b) q1 q2 h
   .obtain⟨_,_,z,e1,_,q1⟩:=r1.lst'
    cases z;obtain⟨_,_,z,e2,_,q2⟩:=r2.lst';cases z;rw[e1]at e2;cases e2;have h:(if ds.length=es.length then Pv.Yz (Pv.eqV k) ds es else aa aj)=aa b:=h
    rw[T9<|by rw[<-q1.length,q2.length]]at h
    exact QM (λx y v b=>VA k x y v b) q1 q2 h
  .have hv:=λa z=>hv #[a,z]
   cases r1.sc r2 hv;exact ZbO r1 hv h
noncomputable def eAt(f:D->D->Option Bool)(ds es:List D)(j:Nat):Bool:=match ds[j]?,es[j]? with
 |some x,aa y=>(f x y).getD aj
 |_,_=>aj
theorem Xc{f:D->D->Option Bool}:∀{ds es:List D}{b:Bool},Pv.Yz f ds es=aa b->
  ((aP<|sO ds.length es.length).all (eAt f ds es)&&ds.length == es.length)=b/\∀j x y,ds[j]?=aa x->es[j]?=aa y->f x y=aa (eAt f ds es j)
 |[],[],b,h=>#[au h,λj x y e=>by simp at e]
 |[],_::es,b,h=>#[by rw[<-au h];simp,λj x y e=>by simp at e]
 |_::ds,[],b,h=>#[by rw[<-au h];simp,λj x y _ e=>by simp at e]
 |d::ds,e::es,b,h=>by
  unfold Pv.Yz at h;cases q1:f d e with
  |none=>rw[q1]at h;cases h
  |some p=>
   cases q2:Pv.Yz f ds es with
   |none=>rw[q1,q2]at h;cases h
   |some q=>
    rw[q1,q2]at h;obtain⟨ih,ih2⟩:=Xc q2;have h':=au h;have e0:eAt f (d::ds) (e::es) 0=p:=by simp[eAt,q1]
    have es':∀j,eAt f (d::ds) (e::es) (j+1)=eAt f ds es j:=λj=>by simp[eAt]
    refine#[?_,λj x y hx hy=>?_]
    .rw[<-h',<-ih,aT,aT,Nat.succ_min_succ,mO,gY,e0,mP]
     have:((aP<|sO ds.length es.length).all<|eAt f (d::ds) (e::es)∘Nat.succ)=(aP<|sO ds.length es.length).all (eAt f ds es):=by
      exact congrArg (λg=>(aP<|sO ds.length es.length).all g)<|funext λj=>es' j
     rw[this,Bool.and_assoc]
     congr 2
     simp
    .cases j with
     |zero=>
      simp at hx hy;subst hx hy;rw[e0];exact q1
     |succ j=>
      rw[es' j];exact ih2 j x y (by simpa using hx) (by simpa using hy)
def YV{A:b9}{k:Nat}(h:A.units+(k+1)<dL):A.in1.units+k<dL:=by
 have e:A.in1.units<=A.units+1:=by
  first|exact aM _|(simp[b9.in1,b9.units]<;>lia)
 lia
theorem xC(I:Inv X pq Z H s):∀(k:Nat)(A:b9)(x y:D)(v u:V)(vv uu:aw)(b:Bool),A.units+k<dL->Rep U H x v->Rep U H y u->Zx v vv->Zx u uu->Pv.eqV k x y=aa b->iT A s vv uu b
 |0,_,_,_,_,_,_,_,_,_,_,_,_,_,h=>by cases h
 |k+1,A,x,y,v,u,vv,uu,b,hu,r1,r2,e1,e2,h=>by
  have flat:wS v=am->wS u=am->eqV v u=b->iT A s vv uu b:=λf1 f2 e=>by rw[<-e];exact Zfy e1 e2 f1 f2
  have bb:∀{a c:Bool},(a == c)=af (a=c):=λ{a c}=>by cases a<;>cases c<;>rfl
  have ii:∀{a c:Int},(a == c)=af (a=c):=λ{a c}=>by rw[cy];simp
  have ss:∀{a c:bn},(a == c)=af (a=c):=λ{a c}=>by rw[cy];simp
  have item:∀{ds es:List D}{xs ys:List V}(j:Nat)(its its2:List aw)(j1:j<its.toArray.size)(j2:j<its2.toArray.size),its.toArray.size=ds.length->its2.toArray.size=es.length->Vals xs its->Vals ys its2->Rq U H ds xs->Rq U H es ys->(∀j x y,ds[j]?=aa x->es[j]?=aa y->Pv.eqV k x y=aa (eAt (Pv.eqV k) ds es j))->iT A.in1 s its.toArray[j] its2.toArray[j] (eAt (Pv.eqV k) ds es j):=λ{ds es xs ys} j its its2 j1 j2 n1 n2 v1 v2 q1 q2 ea=>by
   have d1:ds[j]?=aa ds[j]:=ag #[0]
   have d2:es[j]?=aa es[j]:=ag #[0]
   obtain⟨w1,g1,z1⟩:=q1.get d1;obtain⟨w2,g2,z2⟩:=q2.get d2;obtain⟨m1,k1,y1⟩:=v1.get g1;obtain⟨m2,k2,y2⟩:=v2.get g2;have o1:its.toArray[j]=m1:=by simpa using(aK.mp k1).2
   have o2:its2.toArray[j]=m2:=by simpa using(aK.mp k2).2
   rw[o1,o2];exact xC I k A.in1 ds[j] es[j] w1 w2 m1 m2 _ (YV hu) z1 z2 y1 y2<|ea j _ _ d1 d2
  cases x with
  |non=>
   cases r1.non';cases y with|non=>cases r2.non';exact flat rfl rfl<|au h|bl _=>cases r2.bl';exact flat rfl rfl<|au h|int _=>cases r2.int';exact flat rfl rfl<|au h|str _=>cases r2.str';exact flat rfl rfl<|au h|_=>exact Ev.nos h
  |bl i=>
   cases r1.bl';cases y with|non=>cases r2.non';exact flat rfl rfl<|au h|bl _=>cases r2.bl';exact flat rfl rfl<|bb.trans<|au h|int _=>cases r2.int';exact flat rfl rfl<|ii.trans<|au h|str _=>cases r2.str';exact flat rfl rfl<|au h|_=>exact Ev.nos h
  |int i=>
   cases r1.int';cases y with|non=>cases r2.non';exact flat rfl rfl<|au h|bl _=>cases r2.bl';exact flat rfl rfl<|ii.trans<|au h|int _=>cases r2.int';exact flat rfl rfl<|ii.trans<|au h|str _=>cases r2.str';exact flat rfl rfl<|au h|_=>exact Ev.nos h
  |str i=>
   cases r1.str';cases y with|non=>cases r2.non';exact flat rfl rfl<|au h|bl _=>cases r2.bl';exact flat rfl rfl<|au h|int _=>cases r2.int';exact flat rfl rfl<|au h|str _=>cases r2.str';exact flat rfl rfl<|ss.trans<|au h|_=>exact Ev.nos h
  |tup ds=>
   obtain⟨p,xs,rfl,hp,q1⟩:=r1.tup';cases e1;cases y with
   |tup es=>
    obtain⟨p',ys,rfl,hp',q2⟩:=r2.tup';cases e2;by_cases hpp:p=p'
    .subst hpp
     rw[VA (k+1) (.tup ds) (.tup es) (.ref p) b r1 r2 h];exact km _
    .obtain⟨its,v1,t1,_⟩:=I.tuple (SqT.of hp)
     obtain⟨its2,v2,t2,_⟩:=I.tuple<|SqT.of hp';have h':=h;obtain⟨ev,ea⟩:=Xc h';have n1:its.toArray.size=ds.length:=by rw[aC,<-v1.length,q1.length]
     have n2:its2.toArray.size=es.length:=by rw[aC,<-v2.length,q2.length]
     refine kX hpp ?_;rw[<-ev,<-n1,<-n2];exact lN t1 t2 #[0] λj j1 j2=>item j its its2 j1 j2 n1 n2 v1 v2 q1 q2 ea
   |_=>exact Ev.nos h
  |lst ds=>
   obtain⟨p,xs,rfl,u1,_,q1⟩:=r1.lst';cases e1;cases y with
   |lst es=>
    obtain⟨p',ys,rfl,u2,_,q2⟩:=r2.lst';cases e2;by_cases hpp:p=p'
    .subst hpp
     rw[VA (k+1) (.lst ds) (.lst es) (.ref p) b r1 r2 h];exact km _
    .obtain⟨its,v1,p1,_⟩:=I.list (SqL.of u1)
     obtain⟨its2,v2,p2,_⟩:=I.list<|SqL.of u2;have n1:its.toArray.size=ds.length:=by rw[aC,<-v1.length,q1.length]
     have n2:its2.toArray.size=es.length:=by rw[aC,<-v2.length,q2.length]
     refine kX hpp ?_;have h2:(if ds.length=es.length then Pv.Yz (Pv.eqV k) ds es else aa aj)=aa b:=h
     by_cases hl:ds.length=es.length
     .rw[T9 hl]at h2
      obtain⟨ev,ea⟩:=Xc h2;have ev':(aP ds.length).all (eAt (Pv.eqV k) ds es)=b:=by
       rw[<-ev,<-hl,o7];simp
      rw[<-ev',<-n1];exact pR p1.isList p2.isList #[0] #[0] λj j1 j2=>item j its its2 j1 j2 n1 n2 v1 v2 q1 q2 ea
     .rw[T8 hl]at h2
      rw[<-au h2];exact lW p1.isList p2.isList (bne_iff_ne.mpr<|by lia) #[0]
   |_=>exact Ev.nos h
  |_=>exact Ev.nos h
def Vh(I:Inv X pq Z H s){k:Nat}{A:b9}{ds es:List D}{xs ys:List V}{its its2:List aw}{b:Bool}(hu:A.units+(k+1)<dL)
  (q1:Rq U H ds xs)(q2:Rq U H es ys)(v1:Vals xs its)(v2:Vals ys its2)(h:Pv.Yz (Pv.eqV k) ds es=aa b) :
  ∀j (h1:j<its.toArray.size) (h2:j<its2.toArray.size),iT A.in1 s its.toArray[j] its2.toArray[j] (eAt (Pv.eqV k) ds es j):=λj j1 j2=>by
 obtain⟨_,ea⟩:=Xc h;have n1:its.toArray.size=ds.length:=by rw[aC,<-v1.length,q1.length]
 have n2:its2.toArray.size=es.length:=by rw[aC,<-v2.length,q2.length]
 have d1:ds[j]?=aa ds[j]:=ag #[0]
 have d2:es[j]?=aa es[j]:=ag #[0]
 obtain⟨w1,g1,z1⟩:=q1.get d1;obtain⟨w2,g2,z2⟩:=q2.get d2;obtain⟨m1,k1,y1⟩:=v1.get g1;obtain⟨m2,k2,y2⟩:=v2.get g2;have o1:its.toArray[j]=m1:=by
  have:=aK.mp k1
  simpa using this.2
 have o2:its2.toArray[j]=m2:=by
  have:=aK.mp k2
  simpa using this.2
 rw[o1,o2];exact xC I k A.in1 ds[j] es[j] w1 w2 m1 m2 _ (YV hu) z1 z2 y1 y2<|ea j _ _ d1 d2
def ZcZ(K:ao)(xw:Nat->Hp->Prop)(op:Cop):R2:=λv u H Q=>∃U S x y,St3 K U S H/\Rep U H x v/\Rep U H y u/\End K xw Rep U H Q (Pv.po (Pv.Y5 op x y) S)
def Zgx :∀Z H Q,tE X xw (Pv.pv C<|.cmp op i j) Z H Q->tOp (ZcZ X.K xw op) (tE X xw<|Pv.pv C i) (tE X xw<|Pv.pv C j) Z H Q:=λZ H Q h=>
 Wf (λ{U H S x y v u Q} st rx ry h=>#[U,S,x,y,st,rx,ry,h]) Z H Q h
def dI{a c:Int}:(a == c)=af (a=c):=by rw[cy];simp
def uv{H:Hp}{U:Mx}{k:Nat}{x y:D}{v u:V}{b:Bool}(rx:Rep U H x v)(ry:Rep U H y u)(hb:Pv.eqV (k+1) x y=aa b):(scal v u=am/\af (v=u)=b)\/(∃i j,v=.bl i/\u=.int j/\af (Ev.b2i i=j)=b)\/(∃i j,v=.int i/\u=.bl j/\af (i=Ev.b2i j)=b)\/(∃ds es,x=.tup ds/\y=.tup es/\Pv.Yz (Pv.eqV k) ds es=aa b)\/∃ds es,x=.lst ds/\y=.lst es/\(if ds.length=es.length then Pv.Yz (Pv.eqV k) ds es else aa aj)=aa b:=by
 cases x with
 |non=>cases rx.non';cases y with|non=>cases ry.non';exact .inl #[rfl,au hb▸by simp]|bl _=>cases ry.bl';exact .inl #[rfl,au hb]|int _=>cases ry.int';exact .inl #[rfl,au hb]|str _=>cases ry.str';exact .inl #[rfl,au hb]|_=>exact Ev.nos hb
 |bl i=>cases rx.bl';cases y with|non=>cases ry.non';exact .inl #[rfl,au hb]|bl j=>cases ry.bl';exact .inl #[rfl,au hb▸by simp]|int j=>cases ry.int';exact .inr<|.inl #[i,j,rfl,rfl,au hb]|str _=>cases ry.str';exact .inl #[rfl,au hb]|_=>exact Ev.nos hb
 |int i=>cases rx.int';cases y with|non=>cases ry.non';exact .inl #[rfl,au hb]|bl j=>cases ry.bl';exact .inr<|.inr<|.inl #[i,j,rfl,rfl,au hb]|int _=>cases ry.int';exact .inl #[rfl,au hb▸by simp]|str _=>cases ry.str';exact .inl #[rfl,au hb]|_=>exact Ev.nos hb
 |str i=>cases rx.str';cases y with|non=>cases ry.non';exact .inl #[rfl,au hb]|bl _=>cases ry.bl';exact .inl #[rfl,au hb]|int _=>cases ry.int';exact .inl #[rfl,au hb]|str _=>cases ry.str';exact .inl #[rfl,au hb▸by simp]|_=>exact Ev.nos hb
 |tup ds=>cases y with|tup es=>exact .inr<|.inr<|.inr<|.inl #[ds,es,rfl,rfl,hb]|_=>exact Ev.nos hb
 |lst ds=>cases y with|lst es=>exact .inr<|.inr<|.inr<|.inr #[ds,es,rfl,rfl,hb]|_=>exact Ev.nos hb
 |_=>exact Ev.nos hb
def Zf9(hu:X.A.units+6<dL):OpR X (cO .Eq) (ZcZ X.K xw .eq):=by
 intro pq s Z H v u vv uu Q I e1 e2 h;obtain⟨U,S,x,y,st,rx,ry,h⟩:=h;obtain⟨b,hb,h1⟩:=End.map h;have q:=End.ok h1 st<|Yc b;rcases uv rx ry hb with⟨hs,e⟩|⟨i,j,rfl,rfl,e⟩|⟨i,j,rfl,rfl,e⟩|⟨ds,es,rfl,rfl,hb'⟩|⟨ds,es,rfl,rfl,h2⟩
 .exact Zhw pq s Z H v u vv uu Q I e1 e2 #[hs,by rw[e];exact q]
 .cases e1
  obtain⟨t,rfl⟩:=e2;refine EqBoolInt.eq_bool_int #[.bl b,H,I,?_,q];show bJ ((if i then 1 else 0) == j)=bJ b
  rw[dI];exact congrArg bJ e
 .cases e2
  obtain⟨t,rfl⟩:=e1;refine EqBoolInt.eq_int_bool #[.bl b,H,I,?_,q];show bJ (i == (if j then 1 else 0))=bJ b
  rw[dI];exact congrArg bJ e
 ·
  obtain⟨p,xs,rfl,hp,q1⟩:=rx.tup';cases e1;obtain⟨p',ys,rfl,hp',q2⟩:=ry.tup';cases e2;obtain⟨its,v1,t1,_⟩:=I.tuple<|SqT.of hp;obtain⟨its2,v2,t2,_⟩:=I.tuple<|SqT.of hp';obtain⟨ev,_⟩:=Xc hb';have n1:its.toArray.size=ds.length:=by rw[aC,<-v1.length,q1.length]
  have n2:its2.toArray.size=es.length:=by rw[aC,<-v2.length,q2.length]
  refine lN t1 t2 #[0] (Vh I hu q1 q2 v1 v2 hb') X.prog X.w X.xe _ ?_
  rw[n1,n2,ev];exact#[.bl b,H,I,rfl,q]
 ·
  obtain⟨p,xs,rfl,u1,_,q1⟩:=rx.lst';cases e1;obtain⟨p',ys,rfl,u2,_,q2⟩:=ry.lst';cases e2;obtain⟨its,v1,p1,_⟩:=I.list<|SqL.of u1;obtain⟨its2,v2,p2,_⟩:=I.list<|SqL.of u2;have n1:its.toArray.size=ds.length:=by rw[aC,<-v1.length,q1.length]
  have n2:its2.toArray.size=es.length:=by rw[aC,<-v2.length,q2.length]
  by_cases hl:ds.length=es.length
  .rw[T9 hl]at h2
   obtain⟨ev,_⟩:=Xc h2;have ev':(aP ds.length).all (eAt (Pv.eqV 5) ds es)=b:=by
    rw[<-ev,<-hl,o7];simp
   refine pR p1.isList p2.isList #[0] #[0] (Vh I hu q1 q2 v1 v2 h2) X.prog X.w X.xe _ ?_
   rw[n1,ev'];exact#[.bl b,H,I,rfl,q]
  .rw[T8 hl]at h2
   refine lW p1.isList p2.isList (bne_iff_ne.mpr<|by lia) #[0] X.prog X.w X.xe _ ?_
   exact#[.bl b,H,I,congrArg bJ<|au h2,q]
def Zgb(hu:X.A.units+6<dL):OpR X (cO .NotEq) (ZcZ X.K xw .ne):=by
 intro pq s Z H v u vv uu Q I e1 e2 h;obtain⟨U,S,x,y,st,rx,ry,h⟩:=h;obtain⟨b,hb,h1⟩:=End.map h;have q:=End.ok h1 st<|Yc _;rcases uv rx ry hb with⟨hs,e⟩|⟨i,j,rfl,rfl,e⟩|⟨i,j,rfl,rfl,e⟩|⟨ds,es,rfl,rfl,hb'⟩|⟨ds,es,rfl,rfl,h2⟩
 .exact Zhg pq s Z H v u vv uu Q I e1 e2 #[hs,by rw[e];exact q]
 .cases e1
  obtain⟨t,rfl⟩:=e2;refine EqBoolInt.ne_bool_int #[.bl !b,H,I,?_,q];show bJ (!((if i then 1 else 0) == j))=bJ !b
  rw[dI];exact congrArg (λz=>bJ !z) e
 .cases e2
  obtain⟨t,rfl⟩:=e1;refine EqBoolInt.ne_int_bool #[.bl !b,H,I,?_,q];show bJ (!(i == (if j then 1 else 0)))=bJ !b
  rw[dI];exact congrArg (λz=>bJ !z) e
 ·
  obtain⟨p,xs,rfl,hp,q1⟩:=rx.tup';cases e1;obtain⟨p',ys,rfl,hp',q2⟩:=ry.tup';cases e2;obtain⟨its,v1,t1,_⟩:=I.tuple<|SqT.of hp;obtain⟨its2,v2,t2,_⟩:=I.tuple<|SqT.of hp';obtain⟨ev,_⟩:=Xc hb';have n1:its.toArray.size=ds.length:=by rw[aC,<-v1.length,q1.length]
  have n2:its2.toArray.size=es.length:=by rw[aC,<-v2.length,q2.length]
  refine SeqAt.RcNeAt.tuples t1 t2 #[0] (Vh I hu q1 q2 v1 v2 hb') X.prog X.w X.xe _ ?_
  rw[n1,n2,ev];exact#[.bl !b,H,I,rfl,q]
 ·
  obtain⟨p,xs,rfl,u1,_,q1⟩:=rx.lst';cases e1;obtain⟨p',ys,rfl,u2,_,q2⟩:=ry.lst';cases e2;obtain⟨its,v1,p1,_⟩:=I.list<|SqL.of u1;obtain⟨its2,v2,p2,_⟩:=I.list<|SqL.of u2;have n1:its.toArray.size=ds.length:=by rw[aC,<-v1.length,q1.length]
  have n2:its2.toArray.size=es.length:=by rw[aC,<-v2.length,q2.length]
  by_cases hl:ds.length=es.length
  .rw[T9 hl]at h2
   obtain⟨ev,_⟩:=Xc h2;have ev':(aP ds.length).all (eAt (Pv.eqV 5) ds es)=b:=by
    rw[<-ev,<-hl,o7];simp
   refine SeqAt.RcNeAt.lists p1.isList p2.isList #[0] #[0] (Vh I hu q1 q2 v1 v2 h2) X.prog X.w X.xe _ ?_
   rw[n1,ev'];exact#[.bl !b,H,I,rfl,q]
  .rw[T8 hl]at h2
   refine SeqAt.RcNeAt.lists_lengths p1.isList p2.isList (bne_iff_ne.mpr<|by lia) #[0] X.prog X.w X.xe _ ?_
   exact#[.bl !b,H,I,congrArg (λz=>bJ !z)<|au h2,q]
theorem GY(hf:∀x x' y v b b',Rep U H x v->Rep U H x' v->f x y=aa b->f x' y=aa b'->b=b') :
  ∀{ds ds' es:List D}{xs:List V}{b b':Bool},Rq U H ds xs->Rq U H ds' xs->Pv.Yz f ds es=aa b->Pv.Yz f ds' es=aa b'->b=b'
 |[],[],[],_,b,b',_,_,h,h'=>(au h).symm.trans<|au h'
 |[],[],_::_,_,b,b',_,_,h,h'=>(au h).symm.trans<|au h'
 |_::_,_::_,[],_,b,b',_,_,h,h'=>(au h).symm.trans<|au h'
 |d::ds,d'::ds',e::es,_,b,b',r1,r2,h,h'=>by
  obtain⟨v,vs,rfl,a1,b1⟩:=r1;obtain⟨v',vs',e',a2,b2⟩:=r2;cases e';unfold Pv.Yz at h h';cases q1:f d e with
  |none=>rw[q1]at h;cases h
  |some p=>
   cases q2:Pv.Yz f ds es with
   |none=>rw[q1,q2]at h;cases h
   |some q=>
    cases q3:f d' e with
    |none=>rw[q3]at h';cases h'
    |some p'=>
     cases q4:Pv.Yz f ds' es with
     |none=>rw[q3,q4]at h';cases h'
     |some q'=>
      rw[q1,q2]at h;rw[q3,q4]at h';have z1:=au h;have z2:=au h';rw[<-z1,<-z2,hf d d' e v p p' a1 a2 q1 q3,GY hf b1 b2 q2 q4]
 |[],_::_,_,_,b,b',r1,r2,_,_=>by
  have l1:=r1.length;have l2:=r2.length;rw[l1]at l2;simp at l2
 |_::_,[],_,_,b,b',r1,r2,_,_=>by
  have l1:=r1.length;have l2:=r2.length;rw[l1]at l2;simp at l2
theorem zt:∀(k:Nat)(x x' y:D)(v:V)(b b':Bool),Rep U H x v->Rep U H x' v->Pv.eqV k x y=aa b->Pv.eqV k x' y=aa b'->b=b'
 |0,_,_,_,_,_,_,_,_,h,_=>by cases h
 |k+1,x,x',y,v,b,b',r1,r2,h,h'=>by
  by_cases hv:∃a,v=.ref a
  .obtain⟨p,rfl⟩:=hv
   rcases r1.ref (.inl h)with⟨ds,es,rfl,rfl⟩|⟨ds,es,rfl,rfl⟩<;>rcases r2.ref (.inl h')with⟨ds',es',rfl,z⟩|⟨ds',es',rfl,z⟩<;>cases z
   .obtain⟨_,_,z,e1,q1⟩:=r1.tup'
    cases z;obtain⟨_,_,z,e2,q2⟩:=r2.tup';cases z;rw[e1]at e2;cases e2;exact GY (λx x' y v b b'=>zt k x x' y v b b') q1 q2 h h'
   .obtain⟨_,_,z,e1,_,q1⟩:=r1.lst'
    cases z;obtain⟨_,_,z,e2,_,q2⟩:=r2.lst';cases z;rw[e1]at e2;cases e2;have l:ds'.length=ds.length:=by rw[<-q1.length,q2.length]
    have h:(if ds.length=es.length then Pv.Yz (Pv.eqV k) ds es else aa aj)=aa b:=h
    have h':(if ds'.length=es.length then Pv.Yz (Pv.eqV k) ds' es else aa aj)=aa b':=h'
    rw[l]at h';by_cases c:ds.length=es.length
    .rw[T9 c]at h h'
     exact GY (λx x' y v b b'=>zt k x x' y v b b') q1 q2 h h'
    .rw[T8 c]at h h'
     exact au<|h.symm.trans h'
  .cases r1.sc r2 λa z=>hv #[a,z]
   exact au<|h.symm.trans h'
theorem zd :∀{ds:List D}{b:Bool},Pv.XF x ds=aa b->∀d∈ds,∃c,Pv.eqV Ev.ZA d x=aa c
 |[],_,_,d,hd=>by cases hd
 |y::ys,b,h,d,hd=>by
  unfold Pv.XF at h;cases q1:Pv.eqV Ev.ZA y x with
  |none=>rw[q1]at h;cases h
  |some p=>
   cases q2:Pv.XF x ys with
   |none=>rw[q1,q2]at h;cases h
   |some q=>
    rcases az.mp hd with rfl|hd
    .exact#[p,q1]
    .exact zd q2 d hd
theorem wT :∀{ds:List D}{b:Bool},Pv.XF x ds=aa b->(ds.any λd=>(Pv.eqV Ev.ZA d x).getD aj)=b
 |[],_,h=>au h
 |y::ys,b,h=>by
  unfold Pv.XF at h;cases q1:Pv.eqV Ev.ZA y x with
  |none=>rw[q1]at h;cases h
  |some p=>
   cases q2:Pv.XF x ys with
   |none=>rw[q1,q2]at h;cases h
   |some q=>
    rw[q1,q2]at h;rw[fE,wT q2,q1,<-au h];rfl
open Classical in
def Vl(I:Inv X pq Z H s)(hu:A.units+6<dL)(rx:Rep U H x v)(ex:Zx v vv)
  (q:Rq U H ds xs)(vs:Vals xs its)(h:Pv.XF x ds=aa b):∃e:aw->Bool,(∀u,u∈its.toArray->iT A s u vv (e u))/\its.toArray.any e=b:=by
 refine#[λu=>af (∃d∈ds,∃w,Rep U H d w/\Zx w u/\Pv.eqV Ev.ZA d x=aa am),λu hu'=>?_,?_]
 .have hu2:u∈its:=by simpa using hu'
  obtain⟨j,hj,e⟩:=cE hu2;have hl:j<ds.length:=by rw[<-q.length,vs.length];exact hj
  obtain⟨w,g,r⟩:=q.get<|ag hl;obtain⟨u',g',r'⟩:=vs.get g;have eu:u'=u:=by
   rw[ag hj]at g';exact(au g').symm.trans e
  subst eu;obtain⟨c,hc⟩:=zd h ds[j]<|aZ hl;have ec:af (∃d∈ds,∃w,Rep U H d w/\Zx w u'/\Pv.eqV Ev.ZA d x=aa am)=c:=by
   cases c with
   |true=>exact T5 #[ds[j],aZ hl,w,r,r',hc]
   |false=>
    refine T4 ?_
    rintro ⟨d,hd,w',a1,a2,a3⟩
    cases a2.inj r';exact T7 (zt 6 d ds[j] x w am aj a1 r a3 hc) #[1]
  dsimp only
  rw[ec];exact xC I 6 A ds[j] x w v u' vv c hu r rx r' ex hc
 .rw[<-wT h,List.any_toArray,cy,gI,gI]
  constructor
  .rintro ⟨u,hu1,h1⟩
   obtain⟨d,hd,w,a1,a2,a3⟩:=T6 h1;exact#[d,hd,by rw[a3];rfl]
  .rintro ⟨d,hd,h1⟩
   obtain⟨j,hj,e⟩:=cE hd;subst e;obtain⟨w,g,r⟩:=q.get<|ag hj;obtain⟨u,g',r'⟩:=vs.get g;refine#[u,c7 g',T5 #[ds[j],hd,w,r,r',?_]];obtain⟨c,hc⟩:=zd h ds[j] hd;rw[hc]at h1 ⊢;exact congrArg aa h1
section
variable{X:Cx}{xw:Nat->Hp->Prop}{C:Calls}{e a b c:Expr}{i j k:E}{pos p p':gu}
def ZfZ(hu:X.A.units+7<dL):OpR X (cO .In) (λv u H Q=>∃U S x ds b,St3 X.K U S H/\Rep U H x v/\(Rep U H (.tup ds) u\/Rep U H (.lst ds) u)/\Pv.XF x ds=aa b/\Q (.bl b) H):=by
 intro pq s Z H v u vv uu Q I e1 e2 h;obtain⟨U,S,x,ds,b,st,rx,ry,hb,q⟩:=h;rcases ry with ry|ry
 .obtain⟨p,xs,rfl,hp,q1⟩:=ry.tup'
  cases e2;obtain⟨its,v1,t1,_⟩:=I.tuple<|SqT.of hp;obtain⟨f,h1,h2⟩:=Vl I (YV hu) rx e1 q1 v1 hb;exact SeqAt.in_tupleAt f t1 h1 (by rw[h2];exact#[.bl b,H,I,rfl,q])
 .obtain⟨p,xs,rfl,hx,_,q1⟩:=ry.lst'
  cases e2;obtain⟨its,v1,t1,_⟩:=I.list<|SqL.of hx;obtain⟨f,h1,h2⟩:=Vl I (YV hu) rx e1 q1 v1 hb;exact SeqAt.in_listAt f t1.isList h1 (by rw[h2];exact#[.bl b,H,I,rfl,q])
def Zct(hu:X.A.units+7<dL):OpR X (cO .NotIn) (λv u H Q=>∃U S x ds b,St3 X.K U S H/\Rep U H x v/\(Rep U H (.tup ds) u\/Rep U H (.lst ds) u)/\Pv.XF x ds=aa b/\Q (.bl !b) H):=by
 intro pq s Z H v u vv uu Q I e1 e2 h;obtain⟨U,S,x,ds,b,st,rx,ry,hb,q⟩:=h;rcases ry with ry|ry
 .obtain⟨p,xs,rfl,hp,q1⟩:=ry.tup'
  cases e2;obtain⟨its,v1,t1,_⟩:=I.tuple<|SqT.of hp;obtain⟨f,h1,h2⟩:=Vl I (YV hu) rx e1 q1 v1 hb;exact SeqAt.notIn_tupleAt f t1 h1 (by rw[h2];exact#[.bl !b,H,I,rfl,q])
 .obtain⟨p,xs,rfl,hx,_,q1⟩:=ry.lst'
  cases e2;obtain⟨its,v1,t1,_⟩:=I.list<|SqL.of hx;obtain⟨f,h1,h2⟩:=Vl I (YV hu) rx e1 q1 v1 hb;exact SeqAt.notIn_listAt f t1.isList h1 (by rw[h2];exact#[.bl !b,H,I,rfl,q])
variable{U:Mx}{H:Hp}{S:Zu}{x y:D}{v u:V}{Q:VK}{K:ao}
def ZdE(h:Pv.int2 x y=aa z):x=.int z.1/\y=.int z.2:=by
 cases x<;>first|exact Ev.nos h|(cases y<;>first|exact Ev.nos h|(cases h;exact#[rfl,rfl]))
def GH{f:Int×Int->Bool}(st:St3 K U S H)(rx:Rep U H x v)(ry:Rep U H y u)(h:End K xw Rep U H Q (Pv.po ((Pv.int2 x y).map λz=>.bl<|f z) S)):rI0 (λi j=>.bl<|f (i,j)) v u H Q:=by
 obtain⟨z,hz,h⟩:=End.map h;obtain⟨rfl,rfl⟩:=ZdE hz;exact#[_,_,rx.int',ry.int',End.ok h st<|Yc _]
def Zhv(st:St3 K U S H)(rx:Rep U H x v)(ry:Rep U H y u)(h:End K xw Rep U H Q (Pv.po (Pv.Y5 .lt x y) S)):rI0 (λi j=>.bl<|af<|i<j) v u H Q\/∃a b A B,x=.tup a/\y=.tup b/\Pv.Yh a=aa A/\Pv.Yh b=aa B/\Q (.bl<|Ev.ltP A B) H:=by
 cases x with
 |tup a=>cases y with
  |tup b=>
   obtain⟨z,hz,h⟩:=End.po h;obtain⟨A,hA,hz⟩:=bW.mp hz;obtain⟨B,hB,rfl⟩:=bI.mp hz;exact .inr #[a,b,A,B,rfl,rfl,hA,hB,End.ok h st<|Yc _]
  |_=>exact False.elim h
 |_=>exact .inl<|GH (f:=λz=>af<|z.1<z.2) st rx ry h
end
section
variable{X:Cx}{xw:Nat->Hp->Prop}{C:Calls}{e a b c:Expr}{i j k:E}{pos p p':gu}
def Y9{B β γ:Type}(r:R B)(f:B->Zu->R β)(g:β->Zu->R γ):(r.bind f).bind g=r.bind λa S=>(f a S).bind g:=by cases r<;>rfl
def wj{B:Type}{o:Option B}{f:B->Bool}{z:D}(h:o.map (λa=>Pv.V.bl<|f a)=aa z):∃b,z=.bl b:=by
 obtain⟨a,_,rfl⟩:=bI.mp h;exact#[_,rfl]
def ZbC{o:Cop}{x y:D}{S S':Zu}{z:D}(h:Pv.po (Pv.Y5 o x y) S=.ok z S'):∃b,z=.bl b:=by
 have h:Pv.Y5 o x y=aa z:=by
  cases q:Pv.Y5 o x y<;>rw[q]at h<;>cases h;rfl
 cases o with
 |lt=>
  cases x with
  |tup a=>
   cases y with|tup b=>obtain⟨A,_,h⟩:=bW.mp h;exact wj h|_=>exact Ev.nos h
  |int i=>exact wj h
  |_=>exact Ev.nos h
 |_=>exact wj h
def Xs(X:Cx)(xw:Nat->Hp->Prop)(op:tJ)(o:Cop):Prop:=OpR X (cO op)<|ZcZ X.K xw o
def OpR.imp(h:OpR X f r)(k:∀v u H Q,r' v u H Q->r v u H Q):OpR X f r':=λpq s Z H x y v u Q I e1 e2 q=>h pq s Z H x y v u Q I e1 e2<|k x y H Q q
theorem j5(hu:X.A.units+7<dL):Xs X xw .Eq .eq:=Zf9 #[0]
theorem jC(hu:X.A.units+7<dL):Xs X xw .NotEq .ne:=Zgb #[0]
def Jo(hu:X.A.units+7<dL):Xs X xw .LtE .le:=OpR.imp ZhA<|by rintro v u H Q ⟨U,S,x,y,st,rx,ry,h⟩;exact GH st rx ry h
def ZaS(hu:X.A.units+7<dL):Xs X xw .Gt .gt:=OpR.imp Zg0<|by rintro v u H Q ⟨U,S,x,y,st,rx,ry,h⟩;exact GH st rx ry h
def Zap(hu:X.A.units+7<dL):Xs X xw .GtE .ge:=OpR.imp ZhB<|by rintro v u H Q ⟨U,S,x,y,st,rx,ry,h⟩;exact GH st rx ry h
def ZfM{U:Mx}{H:Hp}{x y:D}{v u:V}{b:Bool}(rx:Rep U H x v)(ry:Rep U H y u)(h:Pv.isV x y=aa b):(u=.non/\af (v=.non)=b)\/∃i j,v=.bl i/\u=.bl j/\af (i=j)=b:=by
 cases y with
 |non=>
  refine .inl #[ry.non',?_];rw[<-au h];cases x<;>unfold Rep at rx<;>first
   |(subst rx;rfl)
   |(obtain⟨_,z,_⟩:=rx;subst z;rfl)
   |(obtain⟨_,_,z,_⟩:=rx;subst z;rfl)
 |bl j=>cases x with|bl i=>exact .inr #[i,j,rx.bl',ry.bl',au h]|_=>exact Ev.nos h
 |_=>exact Ev.nos h
def Zbh(hu:X.A.units+7<dL):Xs X xw .Is .is:=OpR.imp (ZgN.or ZgT)<|by
 rintro v u H Q ⟨U,S,x,y,st,rx,ry,h⟩;obtain⟨b,hb,h⟩:=End.map h;have q:=End.ok h st<|Yc b;rcases ZfM rx ry hb with⟨e,z⟩|⟨i,j,e,e2,z⟩
 .exact .inl #[e,by rw[z];exact q]
 .exact .inr #[i,j,e,e2,by rw[z];exact q]
def zT{U:Mx}{H:Hp}{x y:D}{u:V}{b:Bool}(ry:Rep U H y u)(h:Pv.Us x y=aa b) :
  (∃ds,(Rep U H (.tup ds) u\/Rep U H (.lst ds) u)/\Pv.XF x ds=aa b)\/
  (∃(l:List #[15])(k:List D)(ks:List Int),(∃(p:aE)(vs:List (List Key×V)),u=.ref p/\Rd H p (.dT vs)/\vs.map (·.1)=l.map (·.map da))/\x=.tup k/\Pv.intsV k=aa ks/\l.contains ks=b):=by
 cases y with
 |tup ys=>exact .inl #[ys,.inl ry,h]
 |lst ys=>exact .inl #[ys,.inr ry,h]
 |dct o=>
  cases o with
  |inl _=>exact Ev.nos h
  |inr l=>
   cases x with
   |tup k=>
    obtain⟨ks,e,z⟩:=bI.mp h;obtain⟨p,e1,o,vs,e2,e3⟩:=ry.dct';exact .inr #[l,k,ks,#[p,vs,e1,.inr #[o,e2],e3],rfl,e,z]
   |_=>exact Ev.nos h
 |dow l=>
  cases x with
  |tup k=>
   obtain⟨ks,e,z⟩:=bI.mp h;obtain⟨p,vs,e1,e2,_,e3⟩:=ry.dow';exact .inr #[l,k,ks,#[p,vs,e1,.inl e2,e3],rfl,e,z]
  |_=>exact Ev.nos h
 |_=>exact Ev.nos h
def XD{op:tJ}{o:Cop}(hc:Xs X xw op o)(ha:CE X xw C a i)(hb:CE X xw C b j)(hm:eM op b=aj):CE X xw C (.Compare a [op] [b] pos) (.cmp o i j):=.mk <|
 PE.imp (Zd0 hc ha.h hb.h hm) (Zgx)
def XG{op:tJ}{o:Cop}(hc:Xs X xw op o)(ha:CE X xw C a i)(hb:CE X xw C b j)(hm:eM op b=aj):CT X xw C (.Compare a [op] [b] pos) (.cmp o i j):=.mk <|
 PT.imp (Zdf hc ha.h hb.h hm)<|by
  left;have h':End X.K xw Qh U H Q (((Pv.pv C i l S).bind λx S=>(Pv.pv C j l S).bind λy S=>Pv.po (Pv.Y5 o x y) S).bind λx S=>Pv.po (Pv.Zw x) S):=h
  simp only[Y9]at h';refine#[U,l,S,st,lr,h'.bind λx S1 ρ1 H1 v f1 st1 r1 h1=>#[ρ1,l,S1,st1,lr.mono f1,h1.bind λy S2 ρ2 H2 u f2 st2 r2 h2=>#[ρ2,S2,x,y,st2,r1.mono f2,r2,?_]]]
  have h3:∀{r:R D},(∀z S',r=.ok z S'->∃b,z=.bl b)->End X.K xw Qh ρ2 H2 Q (r.bind λx S=>Pv.po (Pv.Zw x) S)->End X.K xw Rep ρ2 H2 (λx H'=>∃k,x=V.bl k/\Q k H') r:=λ{r} hr h=>by
   cases r with
   |no=>exact h
   |ex _ _=>exact h
   |ok z S3=>
    obtain⟨b,rfl⟩:=hr z S3 rfl;exact λρ3 H3 w f3 st3 r3=>#[b,r3.bl',h ρ3 H3 b f3 st3 rfl]
  exact h3 (λz S' e=>ZbC e) h2
def zR{op op':tJ}{o o':Cop}{d:Expr}{k:E}(hc:Xs X xw op o)(hc':Xs X xw op' o')(ha:CE X xw C a i)(hb:CE X xw C b j)(hd:CE X xw C d k)
  (hm:lastMarks [op,op'] [b,d]=aj):CE X xw C (.Compare a [op,op'] [b,d] pos) (.chain o o' i j k):=.mk <|
 PE.imp (ZbI hc hc' ha.h hb.h hd.h hm)<|by
  left;refine#[U,l,S,st,lr,End.bind (h) λx S1 ρ1 H1 v f1 st1 r1 h1=>#[ρ1,l,S1,st1,lr.mono f1,h1.bind λy S2 ρ2 H2 u f2 st2 r2 h2=>#[ρ2,S2,x,y,st2,r1.mono f2,r2,h2.bind λz S3 ρ3 H3 w f3 st3 r3 h3=>?_]]]
  cases z with
  |bl n=>
   refine#[n,r3.bl',?_];cases n with|true=>exact#[ρ3,l,S3,st3,((lr.mono f1).mono f2).mono f3,End.bind (h3) λt S4 ρ4 H4 t' f4 st4 r4 h4=>#[ρ4,S4,y,t,st4,(r2.mono f3).mono f4,r4,h4]]|false=>exact End.ok h3 st3<|Yc _
  |_=>exact False.elim h3
end
section
variable{X:Cx}{xw:Nat->Hp->Prop}{C:Calls}{e a b c:Expr}{i j k:E}{pos p p' p2:gu}
variable{U:Mx}{H:Hp}{S:Zu}{x y:D}{v u:V}{Q:VK}{K:ao}
def VY{d:D}{ks:List D}{k:List Int}(h:Pv.intsV (d::ks)=aa k):∃n r,d=.int n/\Pv.intsV ks=aa r/\k=n::r:=by
 cases d<;>first|exact Ev.nos h|(obtain⟨r,e,z⟩:=bI.mp h;exact#[_,r,rfl,e,z.symm])
theorem Xv:∀{ks:List D}{k:List Int}{xs:List V},Pv.intsV ks=aa k->Rq U H ks xs->xs=(k.map (da:Int->Key)).map kV
 |[],k,xs,h,r=>by cases h;rw[r];rfl
 |d::ks,k,xs,h,r=>by
  obtain⟨v,vs,rfl,a1,b1⟩:=r;obtain⟨n,r,rfl,e,rfl⟩:=VY h;rw[a1.int',Xv e b1];rfl
theorem GX:∀{k k':List Int},k.map (da:Int->Key)=k'.map da->k=k'
 |[],[],_=>rfl
 |[],_::_,h=>by simp at h
 |_::_,[],h=>by simp at h
 |a::k,b::k',h=>by
  rw[aY,aY]at h;injection h with h1 h2
  rw[da.inj h1,GX h2]
def VL{k:List Int}{l:List #[15]}{vs:List (List Key×V)}(h:vs.map (·.1)=l.map (·.map (da:Int->Key))):(Ux vs<|k.map da).isSome=l.contains k:=by
 rw[<-X8,show(vs.any λkv=>af<|kv.1=k.map da)=(vs.map (·.1)).any λy=>af (y=k.map da) by rw[List.any_map];rfl,h,List.any_map,List.contains_eq_any_beq]
 congr 1
 funext y
 show af (y.map da=k.map da)=(k == y);by_cases z:y=k
 .subst z;simp
 .rw[T4 λw=>z<|GX w,beq_eq_false_iff_ne.mpr<|Ne.symm z]
theorem ZfI(hu:X.A.units+7<dL):OpR X (cO .In) (λv u H Q=>∃a y o,u=.ref a/\v=y/\DGet H a y o/\Q (.bl o.isSome) H):=by
 intro pq s Z H v u vv uu Q I e1 e2 h;obtain⟨a,y,o,rfl,rfl,g,q⟩:=h;cases e2;exact Zh9 #[0] I g e1 λs' I'=>#[.bl o.isSome,H,I',rfl,q]
theorem Zc5(hu:X.A.units+7<dL):OpR X (cO .NotIn) (λv u H Q=>∃a y o,u=.ref a/\v=y/\DGet H a y o/\Q (.bl !o.isSome) H):=by
 intro pq s Z H v u vv uu Q I e1 e2 h;obtain⟨a,y,o,rfl,rfl,g,q⟩:=h;cases e2;exact Zdx #[0] I g e1 λs' I'=>#[.bl !o.isSome,H,I',rfl,q]
def j9(hu:X.A.units+7<dL):Xs X xw .In .inn:=OpR.imp ((ZfZ hu).or<|ZfI hu)<|by
 rintro v u H Q ⟨U,S,x,y,st,rx,ry,h⟩;obtain⟨b,hb,h⟩:=End.map h;have q:=End.ok h st<|Yc _;rcases zT ry hb with⟨ds,hy,hb⟩|⟨l,k,ks,hy,rfl,hk,e⟩
 .exact .inl #[U,S,x,ds,b,st,rx,hy,hb,q]
 .obtain⟨p,vs,rfl,hx,r⟩:=hy
  obtain⟨a,xs,rfl,ha,r2⟩:=rx.tup';refine .inr #[p,.ref a,_,rfl,rfl,.inr #[vs,_,a,hx,rfl,by rw[ha,Xv hk r2],rfl],?_]
  rw[VL r,e];exact q
def xA(hu:X.A.units+7<dL):Xs X xw .NotIn .nin:=OpR.imp ((Zct hu).or<|Zc5 hu)<|by
 rintro v u H Q ⟨U,S,x,y,st,rx,ry,h⟩;obtain⟨b,hb,h⟩:=End.map h;have q:=End.ok h st<|Yc _;rcases zT ry hb with⟨ds,hy,hb⟩|⟨l,k,ks,hy,rfl,hk,e⟩
 .exact .inl #[U,S,x,ds,b,st,rx,hy,hb,q]
 .obtain⟨p,vs,rfl,hx,r⟩:=hy
  obtain⟨a,xs,rfl,ha,r2⟩:=rx.tup';refine .inr #[p,.ref a,_,rfl,rfl,.inr #[vs,_,a,hx,rfl,by rw[ha,Xv hk r2],rfl],?_]
  rw[VL r,e];exact q
def Zfq(r:Rq U H ds xs)(q:Ev.at' ds n=aa d):∃w,atI xs n=aa w/\Rep U H d w:=by
 obtain⟨m,q2,q⟩:=bW.mp q;obtain⟨w,g,rw'⟩:=r.get q;refine#[w,?_,rw'];unfold atI;rw[r.length,show ixN ds.length n=aa m from q2]
 exact g
def Zh6(ha:CE X xw C a i)(hb:CE X xw C b j)(hs:vq b):CE X xw C (.Subscript a b pos) (.ix i j):=.mk <| PE.imp (vO (UC.or ZfV) ha.h hb.h hs) (Wf λ{U H S x y v u Q} st rx ry h=>by
 obtain⟨d,hd,g0⟩:=End.po h;have k:∃ds n,Pv.Yx x=aa ds/\y=.int n/\Ev.at' ds n=aa d:=by
  cases y with
  |int n=>
   cases x with
   |tup ds=>exact#[ds,n,rfl,rfl,hd]
   |lst ds=>exact#[ds,n,rfl,rfl,hd]
   |scr ns=>
    obtain⟨z,e,rfl⟩:=bI.mp hd;obtain⟨m,q2,q⟩:=bW.mp e;refine#[_,n,rfl,rfl,?_];unfold Ev.at';rw[aA,q2];show(ns.map Pv.V.int)[m]?=_;rw[aQ,q];rfl
   |_=>exact Ev.nos hd
  |_=>cases x<;>exact Ev.nos hd
 obtain⟨ds,n,e,rfl,hn⟩:=k;obtain⟨p,xs,rfl,hp,r⟩:=rx.seq e;obtain⟨w,g,rw'⟩:=Zfq r hn;rw[st.hk]at hp;have q:=End.ok g0 st rw';rcases hp with hp|hp
 .exact .inl #[p,xs,n,w,rfl,ry.int',hp,g,q]
 .exact .inr #[p,xs,n,w,rfl,ry.int',hp,g,q])
def Zcu:CO X xw C ai ai:=.mk <| PO.imp ZdX<|by left;exact End.ok h st rfl
def ZcM(h:CE X xw C e i):CO X xw C (aa e) (aa i):=.mk <| PO.imp (ZP h.h)<|by
 left;refine#[U,l,S,st,lr,End.bind (h) λx S1 ρ1 H1 v f1 st1 r1 h1=>?_]
 cases x with|int n=>exact#[n,r1.int',End.ok h1 st1 rfl]|_=>exact False.elim h1
def Gz(n d:Nat)(o:Option Int):Ev.sIx n d o=HT.sIx n d o:=by
 cases o with
 |none=>rfl
 |some i=>first|rfl|(rfl)
def vP(r:Rq U H ds xs)(lo hi:Option Int):Rq U H (Pv.Z8 ds lo hi) (Z8 xs lo hi):=by
 unfold Pv.Z8 Z8;rw[Gz,Gz,r.length];exact(r.drop _).take _
def ZhR{lo hi:Option Expr}{il ih:Option E}(ha:CE X xw C a i)(hl:CO X xw C lo il)(hh:CO X xw C hi ih):CE X xw C (.Subscript a (.Slice lo hi ai p2) pos) (.sl i il ih):=.mk <|
 PE.imp (ZaJ (ZgL.or<|ZbV.or ZdU) ha.h hl.h hh.h)<|by
  left;refine#[U,l,S,st,lr,End.bind (h) λx S1 ρ1 H1 v f1 st1 r1 h1=>#[ρ1,l,S1,st1,lr.mono f1,h1.bind λy S2 ρ2 H2 u f2 st2 r2 h2=>#[ρ2,l,S2,st2,(lr.mono f1).mono f2,h2.bind λz S3 ρ3 H3 w f3 st3 r3 h3=>?_]]]
  have e1:y=u:=r2;have e2:z=w:=r3;subst e1 e2;have r0:=(r1.mono f2).mono f3;cases x with
  |tup ds=>
   obtain⟨p,xs,rfl,hp,r⟩:=r0.tup';have h':=h3;by_cases hw:HT.sIx xs.length 0 y=0/\HT.sIx xs.length xs.length z=xs.length
   .refine .inr (.inl #[p,xs,rfl,SqT.of hp,hw,End.ok h' st3 ?_])
    have ew:Pv.Z8 ds y z=ds:=by
     unfold Pv.Z8;rw[Gz,Gz,<-r.length,hw.1,hw.2,kY,Nat.sub_zero,r.length,gK]
    rw[ew];exact Xd hp r
   .exact .inl #[p,xs,rfl,SqT.of hp,hw,h'.newT st3<|vP r y z]
  |lst ds=>
   obtain⟨p,xs,rfl,hp,_,r⟩:=r0.lst';exact .inr<|.inr #[p,xs,rfl,SqL.of hp,End.newL (h3) st3<|vP r y z]
  |_=>exact False.elim h3
def Uy(K:ao)(xw:Nat->Hp->Prop)(f:Bf):List V->Hp->VK->Prop:=λvs H Q=>∃U S ds,St3 K U S H/\Rq U H ds vs/\End K xw Rep U H Q (Pv.po (Pv.Xo f ds) S)
def ZE.imp{r r':List V->Hp->VK->Prop}(h:ZE X f r)(k:∀vs H Q,r' vs H Q->r vs H Q):ZE X f r':=λpq s Z H xs us Q I e q=>h pq s Z H xs us Q I e<|k xs H Q q
def Zbe :∀Z H Q,tE X xw (Pv.pv C<|.blt f is) Z H Q->tCB (Uy X.K xw f) (tA X xw<|Pv.pvs C is) Z H Q:=λZ H Q #[U,l,S,st,lr,h]=>
 #[U,l,S,st,lr,End.bind (h) λxs S1 ρ1 H1 vs f1 st1 r1 h1=>#[ρ1,S1,xs,st1,r1,h1]]
def Zb4(r:Rq U H [d] vs):∃v,vs=[v]/\Rep U H d v:=by
 obtain⟨v,ws,rfl,a1,b1⟩:=r;exact#[v,by rw[b1],a1]
def zS{d e:D}{vs:List V}(r:Rq U H [d,e] vs):∃v w,vs=[v,w]/\Rep U H d v/\Rep U H e w:=by
 obtain⟨v,ws,rfl,a1,b1⟩:=r;obtain⟨w,rfl,b2⟩:=Zb4 b1;exact#[v,w,rfl,a1,b2]
def Wc{rep:Mx->Hp->D->V->Prop}{f:Bf}{ds:List D}{vs:List V}(h:End K xw rep U H Q (Pv.po (Pv.Xo f ds) S))(r:Rq U H ds vs)(h1:f≠.max2:=by decide)(h2:f≠.min2:=by decide)(h3:f≠.index:=by decide):∃d v z,vs=[v]/\Rep U H d v/\Pv.blt1 f d=aa z/\End K xw rep U H Q (.ok z S):=by
 obtain⟨z,hz,g⟩:=End.po h
 match ds,hz with
 |[d],hz=>obtain⟨v,rfl,rv⟩:=Zb4 r;exact#[d,v,z,rfl,rv,hz,g]
 |[x,y],hz=>
  have hz:Pv.blt2 f x y=aa z:=hz;cases f<;>first|exact Ev.nos hz|contradiction
def Zen{f:Bf}{ds:List D}{vs:List V}(h:End K xw Rep U H Q (Pv.po (Pv.Xo f ds) S))(r:Rq U H ds vs)(h1:∀d,Pv.blt1 f d=ai)(h3:f≠.index:=by decide):∃m n z,vs=[.int m,.int n]/\Pv.blt2 f (.int m) (.int n)=aa z/\End K xw Rep U H Q (.ok z S):=by
 obtain⟨z,hz,g⟩:=End.po h
 match ds,hz with
 |[d],hz=>exact Ev.nos<|(h1 d).symm.trans hz
 |[x,y],hz=>
  have hz:Pv.blt2 f x y=aa z:=hz;have:∃a b,x=.int a/\y=.int b:=by
   cases f<;>first|exact Ev.nos hz|contradiction|(obtain⟨a,ha,q⟩:=bW.mp hz;obtain⟨b,hb,_⟩:=bW.mp q;exact#[a,b,Pv.vK ha,Pv.vK hb])
  obtain⟨a,b,rfl,rfl⟩:=this;obtain⟨v,w,rfl,r1,r2⟩:=zS r;exact#[_,_,z,by rw[r1.int',r2.int'],hz,g]
def uk:ZE X (.builtin "len") (Uy X.K xw .len):=ZE.imp zr<|by
 rintro vs H Q ⟨U,S,ds,st,r,h⟩;obtain⟨d,v,z,rfl,rv,hz,h⟩:=Wc h r;obtain⟨xs,hx,rfl⟩:=bI.mp hz;obtain⟨p,ys,rfl,hq,r2⟩:=rv.seq hx;refine#[p,ys,rfl,by rw[<-st.hk];exact hq,?_]
 rw[r2.length];exact End.ok h st<|ZM _
def ui(hc:X.calm=am):ZE X (.builtin "max") (Uy X.K xw .max2):=ZE.imp (uL hc)<|by
 rintro vs H Q ⟨U,S,ds,st,r,h⟩;obtain⟨m,n,z,rfl,hz,h⟩:=Zen h r λ_=>rfl
 cases hz;exact#[m,n,rfl,End.ok h st<|ZM _]
def wM(hc:X.calm=am):ZE X (.builtin "min") (Uy X.K xw .min2):=ZE.imp (qJ hc)<|by
 rintro vs H Q ⟨U,S,ds,st,r,h⟩;obtain⟨m,n,z,rfl,hz,h⟩:=Zen h r λ_=>rfl
 cases hz;exact#[m,n,rfl,End.ok h st<|ZM _]
def wK:ZE X (.type "int") (Uy X.K xw .toInt):=ZE.imp uF<|by
 rintro vs H Q ⟨U,S,ds,st,r,h⟩;obtain⟨d,v,z,rfl,r1,hz,h⟩:=Wc h r;cases d with|int m=>cases hz;exact .inl #[m,by rw[r1.int'],End.ok h st<|ZM _]|bl m=>cases hz;exact .inr #[m,by rw[r1.bl'],End.ok h st<|ZM _]|_=>exact Ev.nos hz
def JC:ZE X (.type "tuple") (Uy X.K xw .tuple):=ZE.imp QW<|by
 rintro vs H Q ⟨U,S,ds,st,r,h⟩;obtain⟨d,v,z,rfl,r1,hz,h⟩:=Wc h r;cases d with|tup ds=>cases hz;obtain⟨p,xs,rfl,hp,r2⟩:=r1.tup';exact#[p,xs,rfl,.inr #[SqT.of hp,End.ok h st r1]]|lst ds=>cases hz;obtain⟨p,xs,rfl,hp,_,r2⟩:=r1.lst';exact#[p,xs,rfl,.inl #[SqL.of hp,h.newT st r2]]|scr ns=>cases hz;obtain⟨p,rfl,hp⟩:=r1.scr';rw[st.hk]at hp;exact#[p,_,rfl,.inl #[hp.sq,h.newT st<|Rq.ints ns]]|_=>exact Ev.nos hz
def Wx{f:Bf}{id:String}{x:bn}{es:List Expr}{is:List E}(hc:ZE X (.builtin id) (Uy X.K xw f))(hm:X.mg x=ai)(ha:CA X xw C (e::es) is)(hg:Gl X x)(hv:dW x=aa (.builtin id))(hn:x≠"__name__")(hdb:(x == #[11])=aj)
  (he:aG (e::es) X.env=#[22]::aG es X.env)(hpl:(d7 pos<|aG es X.env).any (·.1)=aj):CE X xw C #[21] (.blt f is):=.mk <|
 PE.imp (Wm hc hg hm hv ha.h hn hdb he hpl) Zbe
def zb{f:Bf}{id:String}{x:bn}{es:List Expr}{is:List E}(hc:ZE X (.type id) (Uy X.K xw f))(hm:X.mg x=ai)(ha:CA X xw C (e::es) is)(hg:Gl X x)(hv:dW x=aa (.type id))(hn:x≠"__name__")(hdb:(x == #[11])=aj)
  (he:aG (e::es) X.env=#[22]::aG es X.env)(hpl:(d7 pos<|aG es X.env).any (·.1)=aj):CE X xw C #[21] (.blt f is):=.mk <|
 PE.imp (Jh hc hg hm hv ha.h hn hdb he hpl) Zbe
end
section
variable{X:Cx}{xw:Nat->Hp->Prop}{C:Calls}{e a b c:Expr}{i j k:E}{pos p p' p2:gu}
theorem WP:∀{ds:List D}{bs:List Bool},Pv.Z0 ds=aa bs->bs.length=ds.length/\∀j d,ds[j]?=aa d->Pv.UB d=aa (bs.getD j aj)
 |[],bs,h=>by cases h;exact#[rfl,λj d e=>by simp at e]
 |d::ds,bs,h=>by
  unfold Pv.Z0 at h;cases q1:Pv.UB d with
  |none=>rw[q1]at h;cases h
  |some b=>
   cases q2:Pv.Z0 ds with
   |none=>rw[q1,q2]at h;cases h
   |some cs=>
    rw[q1,q2]at h;cases h;obtain⟨l,ih⟩:=WP q2;refine#[by rw[aT,aT,l],λj d' e=>?_]
    cases j with|zero=>simp at e;subst e;simpa using q1|succ j=>simpa using ih j d' (by simpa using e)
def qu(bs:List Bool):(aP bs.length).all (λj=>bs.getD j aj)=bs.all id:=by
 rw[cy,a8,a8]
 constructor
 .intro h b hb
  obtain⟨j,hj,e⟩:=cE hb;have:=h j<|aV.mpr hj
  simpa[ag hj,e]using this
 .intro h j hj
  have hj':=aV.mp hj
  simpa[ag hj']using h bs[j]<|aZ hj'
def qL(bs:List Bool):(aP bs.length).any (λj=>bs.getD j aj)=bs.any id:=by
 rw[cy,gI,gI]
 constructor
 .rintro ⟨j,hj,h⟩
  have hj':=aV.mp hj;exact#[bs[j],aZ hj',by simpa[ag hj']using h]
 .rintro ⟨b,hb,h⟩
  obtain⟨j,hj,e⟩:=cE hb;exact#[j,aV.mpr hj,by simpa[ag hj,e]using h]
def Vo(r:Rep U H d v)(e:Zx v u)(h:Pv.UB d=aa n)(s:ay)(Q:Bool->ay->Prop)(E:aw->ay->Prop)(q:Q n s) :
  aW #[8] A (tw u) Q E s:=by
 cases d with
 |non=>cases r.non';cases e;cases h;exact truthy_none q
 |bl b=>cases r.bl';cases e;cases h;exact eA q
 |int m=>
  cases r.int';obtain⟨t,rfl⟩:=e;have h':=au h;refine ow ?_;have:(m != 0)=n:=by
   rw[<-h'];by_cases z:m=0
   .subst z;rfl
   .rw[T5 z];exact bne_iff_ne.mpr z
  rw[this];exact q
 |_=>cases h
def uK(hc:X.calm=am):ZE X (.builtin "all") (λvs H Q=>∃U ds v bs,vs=[v]/\Rep U H (.lst ds) v/\Pv.Z0 ds=aa bs/\Q (.bl<|bs.all id) H):=by
 intro pq s Z H vs us Q I r h;obtain⟨U,ds,v,bs,rfl,rs,hb,q⟩:=h;obtain⟨p,xs,rfl,hx,_,rx⟩:=rs.lst';obtain⟨u,rfl,ru⟩:=XQ r;cases ru;obtain⟨its,rv,pl,hz⟩:=I.list<|SqL.of hx;obtain⟨lb,tb⟩:=WP hb;have hlt:p<s.heap.objs.size:=by obtain⟨_,e,_⟩:=pl.isList;exact aH e
 have hlen:its.toArray.size=bs.length:=by rw[aC,<-rv.length,rx.length,lb]
 refine call_all_walk<|fq pl.isList #[s.heap.objs.size,[s.heap.objs.size,p],[s.heap.objs.size],its.toArray.size,(λi v=>its.toArray[i]?=aa v),(λi h=>h.IsListIter s.heap.objs.size p i/\h.IsList p its.toArray),λj=>bs.getD j aj,rfl,sj (A:=X.A.in1) (I.ok.hd hc) s.heap.objs.size p (a9 hlt) its.toArray,#[#[_,aI _ rfl,rfl,rfl],pl.isList.push _],?_,?_]
 .intro j v s' Q' E' hv hQ'
  have hj:its[j]?=aa v:=by simpa using hv
  have jl:j<ds.length:=by
   have:=(aK.mp hj).1;rw[<-rv.length,rx.length]at this;exact this
  obtain⟨w',g,r'⟩:=rx.get<|ag jl;obtain⟨u',g',ru'⟩:=rv.get g;rw[hj]at g';cases g';exact Vo r' ru' (tb j _<|ag jl) s' Q' E' hQ'
 .intro h' tk hk
  rw[hlen,qu];have kp:=λb o e=>hk b o (λhm=>by
   have:b=s.heap.objs.size:=by simpa using hm
   exact T7 (this▸aH e)<|bB _)<|aq _ e
  exact#[.bl<|bs.all id,H,I.kept (t':=tk) kp,rfl,q]
def wW(hc:X.calm=am):ZE X (.builtin "all") (Uy X.K xw .all):=ZE.imp (uK hc)<|by
 rintro vs H Q ⟨U,S,ds,st,r,h⟩;obtain⟨d,v,z,rfl,r1,hz,h⟩:=Wc h r;cases d with|lst ds=>obtain⟨bs,hb,rfl⟩:=bI.mp hz;exact#[U,ds,v,bs,rfl,r1,hb,End.ok h st<|Yc _]|_=>exact Ev.nos hz
noncomputable def za:Ty->String
 |.int=>"int" | .bool=>"bool" | .str=>"str" | .tuple=>"tuple" | .list=>"list" | .dict=>"dict" | .cls _=>""
def Ze3{K:ao}{U:Mx}{H:Hp}{x:D}{v:V}{t:Ty}{n:Bool}(rx:Rep U H x v)(ht:∀m,t≠.cls m)(h:Pv.XR x t=aa n) :
  ∃tv,TyOf K H v tv/\gA K tv (.type<|za t)=aa n:=by
 cases x with
 |non=>rw[rx.non'];refine#[_,.non,?_];cases h;cases t<;>first|rfl|exact T7 rfl<|ht _
 |bl b=>rw[rx.bl'];refine#[_,.bl b,?_];cases h;cases t<;>first|rfl|exact T7 rfl<|ht _
 |int b=>rw[rx.int'];refine#[_,.int b,?_];cases h;cases t<;>first|rfl|exact T7 rfl<|ht _
 |str b=>rw[rx.str'];refine#[_,.str b,?_];cases h;cases t<;>first|rfl|exact T7 rfl<|ht _
 |tup ds=>
  obtain⟨p,xs,rfl,hp,_⟩:=rx.tup';refine#[_,.tup hp,?_];cases h;cases t<;>first|rfl|exact T7 rfl<|ht _
 |lst ds=>
  obtain⟨p,xs,rfl,hp,_⟩:=rx.lst';refine#[_,.lst hp,?_];cases h;cases t<;>first|rfl|exact T7 rfl<|ht _
 |dct o=>
  cases o with
  |inr _=>exact Ev.nos h
  |inl _=>
   obtain⟨p,rfl,e⟩:=rx.dct';refine#[_,.dK e,?_];cases h;cases t<;>first|rfl|exact T7 rfl<|ht _
 |_=>exact Ev.nos h
def ZaY(T:String):ZE X (.builtin "isinstance") (λvs H Q=>∃v tv n,vs=[v,.ty T]/\TyOf X.K H v tv/\gA X.K tv (.type T)=aa n/\Q (.bl n) H):=by
 intro pq s Z H vs us Q I r h;obtain⟨v,tv,n,rfl,ty,e,q⟩:=h;obtain⟨u,w',rfl,r1,r2⟩:=Zbt r;cases r2;exact uY I r1 ty e λtk=>#[.bl n,H,I.tok tk,rfl,q]
def UX{T:bn}{t:Ty}(ht:∀m,t≠.cls m)(hm:X.mg "isinstance" = ai)(hmT:X.mg T=ai)(ha:CE X xw C a i)(hg:Gl X "isinstance")(hgT:Gl X T)(hvT:dW T=aa (.type<|za t))(hnT:T≠"__name__")(hdT:(T == #[11])=aj)
  (hs1:aG [a,.Name T p2] X.env=(aj,c6 a X.env)::aG [.Name T p2] X.env)(hs2:aG [.Name T p2] X.env=(aj,c6 (.Name T p2) X.env)::aG [] X.env)(hpl:(d7 pos<|aG [.Name T p2] X.env).any (·.1)=aj) :
  CE X xw C (.Call (.Name "isinstance" p) [a,.Name T p2] [] pos) (.isi i [t]):=.mk <|
 PE.imp (Wm (ZaY<|za t) hg hm #[7] (ZL ha.h (ZL (vM (v:=.ty<|za t) hgT hmT hvT rfl hnT hdT) Yy hs2) hs1) #[1] #[1] hs1 hpl)<|by
  left;refine#[U,l,S,st,lr,End.bind (h) λx S1 ρ1 H1 v f1 st1 r1 h1=>?_]
  obtain⟨n,hn,h2⟩:=End.ob h1;have hn':Pv.XR x t=aa n:=by
   unfold Pv.Yn at hn;cases q:Pv.XR x t with|none=>rw[q]at hn;cases hn|some m=>rw[q]at hn;cases m<;>exact hn
  obtain⟨tv,ty,e⟩:=Ze3 r1 ht hn';exact#[v,tv,n,rfl,ty,e,End.ok h2 st1<|Yc _]
def ZhT(P:bv)(w:bO)(K:ao)(a:aE)(tab:List (Int×Int)):Prop:=(a == de)=aj/\∃f:Int->Option aw,(∀h:bZ,K.In h->h.MapOf (hV P w) a f)/\∀k,(tab.lookup k=ai->f k=ai)/\∀j,tab.lookup k=aa j->∃t,f k=aa (.int j t)
def Zcs:CE X xw C (.Dict [] [] pos) .dnew:=.mk <| PE.imp jw λZ H Q #[U,l,S,st,lr,h]=>λp hp=>
 (show End X.K xw Rep U H Q (.ok (.dct<|.inl []) S)from h) U _ _ (Zv hp) (st.fresh hp) (by unfold Rep;exact#[p,rfl,Zl])
def XT(fr:Bool)(H0:Hp)(U:Mx)(H:Hp)(d:D)(v:V):Prop:=Rep U H d v/\(fr=am->∀ds,d=.lst ds->∃a,v=.ref a/\H0 a=ai)
theorem End.fr{K:ao}{xw:Nat->Hp->Prop}{U:Mx}{H H0:Hp}{Q:VK}{r:R D}{fr:Bool}(h:End K xw Rep U H Q r):End K xw (XT fr H0) U H Q r:=by
 cases r with|ok d S=>exact λρ' H' v f st r=>h ρ' H' v f st r.1|_=>exact h
end
abbrev Own:=Nat->Option aE
noncomputable def Mx.ex(U:Mx)(W:Own):Mx:=#[U.K,U.n0,λa=>U.X a\/∃i,W i=aa a,λa h=>.inl<|U.xz a h]
mutual
theorem Rep.flat(hk:ρ'.K=U.K)(k:∀a o,H a=aa o->(∀xs,o≠.lst xs)->(∀vs,o≠.dT vs)->H' a=aa o):∀{d:D}{v:V},d.flat=am->Rep U H d v->Rep ρ' H' d v
 |.non,_,_,h|.bl _,_,_,h|.int _,_,_,h|.str _,_,_,h=>by exact h
 |.tup ds,v,f,h=>by
  obtain⟨a,xs,e,t,r⟩:=h;exact#[a,xs,e,k a _ t (λ_ z=>by cases z) (λ_ z=>by cases z),r.flat hk k (by exact f)]
 |.scr ns,v,_,h=>by
  unfold Rep at h ⊢;obtain⟨a,e,t⟩:=h;rw[hk];refine#[a,e,?_];rcases t with⟨o,t⟩|t
  .exact .inl #[o,k a _ t (λ_ z=>by cases z) λ_ z=>by cases z]
  .exact .inr t
 |.lst _,_,f,_|.drw,_,f,_|.dct _,_,f,_|.dow _,_,f,_=>by cases f
theorem Rq.flat(hk:ρ'.K=U.K)(k:∀a o,H a=aa o->(∀xs,o≠.lst xs)->(∀vs,o≠.dT vs)->H' a=aa o):∀{ds:List D}{xs:List V},Pv.Xe ds=am->Rq U H ds xs->Rq ρ' H' ds xs
 |[],_,_,h=>by exact h
 |d::ds,xs,f,h=>by
  obtain⟨v,vs,e,r,rs⟩:=h;have f:=(aF _ _).mp f;exact#[v,vs,e,r.flat hk k f.1,rs.flat hk k f.2]
end
def XN(U:Mx)(H:Hp)(a:aE):D->Prop
 |.lst xs=>∃us,H a=aa (.lst us)/\Rq U H xs us
 |.dow ks=>∃vs,H a=aa (.dT vs)/\vs.map (·.1)=ks.map (·.map da)
 |_=>False
def XN.ob{U:Mx}{H:Hp}{a:aE}{d:D}(h:XN U H a d):(∃us,H a=aa (.lst us))\/∃vs,H a=aa (.dT vs):=by
 cases d with|lst xs=>obtain⟨us,e,_⟩:=h;exact .inl #[us,e]|dow ks=>obtain⟨vs,e,_⟩:=h;exact .inr #[vs,e]|_=>exact h.elim
def XN.ne{U:Mx}{H:Hp}{a:aE}{d:D}(h:XN U H a d):H a≠ai:=by
 rcases h.ob with⟨_,z⟩|⟨_,z⟩<;>(rw[z];intro q;cases q)
def XN.rep{U:Mx}{H:Hp}{a:aE}{d:D}(h:XN U H a d)(x:¬U.X a):Rep U H d (.ref a):=by
 cases d with|lst xs=>obtain⟨us,e,r⟩:=h;exact Wy e x r|dow ks=>obtain⟨vs,e,q⟩:=h;exact#[a,vs,rfl,e,x,q]|_=>exact h.elim
theorem XN.lat{U ρ':Mx}{H H':Hp}{a:aE}{d:D}(h:XN U H a d)(f:Lat U H ρ' H')(e:H' a=H a):XN ρ' H' a d:=by
 cases d with|lst xs=>obtain⟨us,q,r⟩:=h;exact#[us,e.trans q,r.lat f]|dow ks=>obtain⟨vs,q,r⟩:=h;exact#[vs,e.trans q,r]|_=>exact h
def Lat.own{U:Mx}{H:Hp}{b:aE}{o':HO}(x:U.X b)(hb:(∃us,H b=aa (.lst us))\/∃vs,H b=aa (.dT vs)):Lat U H U (upd H b o'):=#[rfl,rfl,λc u z nx _ nd=>by
 rw[Zj (λq=>by
  rw[q]at z;rcases hb with⟨_,e⟩|⟨_,e⟩<;>(rw[e]at z;cases z)
  .exact nx _ rfl<|q▸x
  .exact nd _ rfl<|q▸x)]
 exact z,λ_ _ z=>z]
structure Eu(U:Mx)(H0:Hp)(W:Own)(l:Lc)(os:List Nat)(Z:L2.St)(H:Hp):Prop where
 fut:Fut U H0 U H
 xd:∀a,U.X a->H0 a≠ai
 len:l.length=Z.length
 osW:∀i,os.contains i=(W i).isSome
 inj:∀i j a,W i=aa a->W j=aa a->i=j
 new:∀i a,W i=aa a->H0 a=ai
 own:∀i a,W i=aa a->∃d,l[i]?=aa (aa d)/\Z[i]?=aa (aa<|.ref a)/\XN (U.ex W) H a d
 val:∀(i:Nat)(d:D),l[i]?=aa (aa d)->W i=ai->∃v,Z[i]?=aa (aa v)/\Rep (U.ex W) H d v
section
variable{K:ao}{U:Mx}{H0 H H':Hp}{W W':Own}{l:Lc}{os:List Nat}{Z:L2.St}{S:Zu}
def Lat.unex:Lat (U.ex W) H U H:=#[rfl,rfl,λ_ _ h _ _ _=>h,λ_ _ x=>.inl x]
theorem Fut.ex(f:Fut U H U H'):Fut (U.ex W) H (U.ex W) H':=#[rfl,f.keep]
def St3.unex(st:St3 K (U.ex W) S H):St3 K U S H:=#[st.hk,λa x=>st.xd a<|.inl x,st.dw,st.tb]
def Eu.nx(h:Eu U H0 W l os Z H)(e:W i=aa a):¬U.X a:=λz=>h.xd a z<|h.new i a e
theorem Eu.st(h:Eu U H0 W l os Z H)(st:St3 K U S H):St3 K (U.ex W) S H:=
 #[st.hk,λa x=>x.elim (st.xd a) λ#[i,e]=>(let #[_,_,_,z]:=h.own i a e;z.ne),st.dw,st.tb]
def vd(f:Fut U H U H')(x:¬U.X a)(h:H a=aa o)(n:∀ps,o≠.tbl ps:=by intro _ z;cases z):H' a=aa o:=(f.keep a o h).elim id λz=>z.elim (λz=>T7 (U.xz a z.1) x)<|by rintro ⟨⟨ps,e⟩,_⟩;exact T7 e<|n ps
def Eu.all(h:Eu U H0 W l os Z H):LocR U H l Z:=#[h.len,λi v e=>by
 cases q:W i with
 |none=>obtain⟨d,a,b⟩:=h.val i v e q;exact#[d,a,b.lat Lat.unex]
 |some n=>
  obtain⟨d,a,c,r⟩:=h.own i n q;rw[a]at e;cases e;exact#[_,c,(r.lat Lat.unex rfl).rep<|h.nx q]]
def js(e:(Pv.hide os l)[i]?=aa (aa v)):l[i]?=aa (aa v)/\os.contains i=aj:=by
 unfold Pv.hide at e;rw[ke]at e;cases q:l[i]? with
 |none=>rw[q]at e;cases e
 |some o=>
  rw[q]at e;have e':(if os.contains i=am then ai else o)=aa v:=au e
  by_cases c:os.contains i=am
  .rw[T9 c]at e';cases e'
  .rw[T8 c]at e';exact#[by rw[e'],by simpa using c]
def W6:Pv.hide [] l=l:=by
 unfold Pv.hide;refine ck λi=>?_
 rw[ke];cases l[i]?<;>rfl
def Eu.nW(h:Eu U H0 W l os Z H){i:Nat}(b:os.contains i=aj):W i=ai:=by
 rw[h.osW]at b;cases q:W i with|none=>rfl|some _=>rw[q]at b;cases b
def Eu.hid(h:Eu U H0 W l os Z H):LocR (U.ex W) H (Pv.hide os l) Z:=#[by unfold Pv.hide;rw[List.length_mapIdx];exact h.len,λi v e=>by
 obtain⟨a,b⟩:=js e;exact h.val i v a<|h.nW b]
theorem Eu.mono(h:Eu U H0 W l os Z H)(f:Fut U H U H'):Eu U H0 W l os Z H':=
 #[h.fut.trans f,h.xd,h.len,h.osW,h.inj,h.new,λi a q=>by
  obtain⟨d,p,c,r⟩:=h.own i a q;exact#[d,p,c,r.lat f.ex.lat (by rcases r.ob with⟨_,e⟩|⟨_,e⟩<;>rw[vd f (h.nx q) e,e])],λi v a b=>by
  obtain⟨d,c,r⟩:=h.val i v a b;exact#[d,c,r.mono f.ex]]
def Gp{B:Type}{l:List (Option B)}{i j:Nat}{o:Option B}{v:B}(e:(l.set i o)[j]?=aa (aa v)):(i=j/\o=aa v/\i<l.length)\/(i≠j/\l[j]?=aa (aa v)):=by
 rw[o4]at e;by_cases c:i=j
 .rw[T9 c]at e
  by_cases z:i<l.length
  .rw[T9 z]at e;exact .inl #[c,au e,z]
  .rw[T8 z]at e;cases e
 .rw[T8 c]at e;exact .inr #[c,e]
theorem Eu.set{i:Nat}{o:Option D}{v:V}(h:Eu U H0 W l os Z H)(hi:os.contains i=aj)(r:∀d,o=aa d->Rep (U.ex W) H d v):Eu U H0 W (l.set i o) os (Z.set i<|aa v) H:=by
 have hw:=h.nW hi;refine#[h.fut,h.xd,by rw[bG,bG];exact h.len,h.osW,h.inj,h.new,λj n q=>?_,λj w e q=>?_]
 .obtain⟨d,a,c,e⟩:=h.own j n q
  have ij:i≠j:=λz=>by rw[z,q]at hw;cases hw
  exact#[d,by rw[bf ij];exact a,by rw[bf ij];exact c,e]
 .rcases Gp e with⟨rfl,z,hl⟩|⟨c,z⟩
  .exact#[v,bg (by rw[<-h.len];exact hl),r w z]
  .rw[bf c];exact h.val j w z q
noncomputable def UP:List Nat->List V->L2.St->L2.St
 |i::t,x::xs,Z=>UP t xs<|Z.set i<|aa x
 |_,_,Z=>Z
theorem Eu.fill:∀{t:List Nat}{vs:List D}{us:List V}{l l':Lc}{Z:L2.St},Eu U H0 W l os Z H->(t.any os.contains)=aj->Rq (U.ex W) H vs us->Pv.YL t vs l=aa l'->us.length=t.length/\Eu U H0 W l' os (UP t us Z) H
 |[],[],_,l,l',Z,h,_,r,e=>by rw[r];cases e;exact#[rfl,h]
 |[],_::_,_,_,_,_,_,_,_,e=>by cases e
 |_::_,[],_,_,_,_,_,_,_,e=>by cases e
 |i::t,v::vs,_,l,l',Z,h,ht,r,e=>by
  obtain⟨d,ds,rfl,a,b⟩:=r;rw[fE,Bool.or_eq_false_iff]at ht;obtain⟨z,q⟩:=Eu.fill (h.set ht.1 λ_ z=>by cases z;exact a) ht.2 b e
  exact#[by rw[aT,aT,z],q]
def tGU(K:ao)(t:List Nat):TG:=λv Z H Q=>match t with
 |[i]=>Q (Z.set i<|aa v) H
 |t=>∃a xs,v=.ref a/\(SqT K H a xs\/H a=aa (.lst xs))/\xs.length=t.length/\Q (UP t xs Z) H
def Eu.assign{Q:L2.St->Hp->Prop}(h:Eu U H0 W l os Z H)(ht:(t.any os.contains)=aj)(r:Rep (U.ex W) H d v)(e:Pv.Zn t d l=aa l')(q:∀σ',Eu U H0 W l' os σ' H->Q σ' H):tGU K t v Z H Q:=by
 have gen:∀t:List Nat,(t.any os.contains)=aj->(match Pv.jR d with
   |some xs=>Pv.YL t xs l
   |none=>ai)=aa l'->∃a xs,v=.ref a/\(SqT K H a xs\/H a=aa (.lst xs))/\xs.length=t.length/\Q (UP t xs Z) H:=by
  intro t ht e;cases d with|tup vs=>obtain⟨p,ds,rfl,hp,rs⟩:=r.tup';obtain⟨z,y⟩:=h.fill ht rs e;exact#[p,ds,rfl,.inl<|SqT.of hp,z,q _ y]|lst vs=>obtain⟨p,ds,rfl,hp,_,rs⟩:=r.lst';obtain⟨z,y⟩:=h.fill ht rs e;exact#[p,ds,rfl,.inr hp,z,q _ y]|_=>cases e
 match t,ht,e with
 |[i],ht,e=>cases e;exact q _<|h.set (by simpa using ht) λ_ z=>by cases z;exact r
 |[],ht,e=>exact gen [] ht e
 |i::j::t,ht,e=>exact gen (i::j::t) ht e
noncomputable def noW(W:Own)(i:Nat):Own:=λj=>if j=i then ai else W j
def WB{i j:Nat}{a:aE}(z:noW W i j=aa a):j≠i/\W j=aa a:=by
 unfold noW at z;by_cases c:j=i
 .rw[T9 c]at z;cases z
 .rw[T8 c]at z;exact#[c,z]
theorem Lat.noW{i:Nat}:Lat (U.ex W) H (U.ex<|noW W i) H:=#[rfl,rfl,λ_ _ h _ _ _=>h,λ_ _ x=>x.elim .inl λ#[j,e]=>.inr #[j,(WB e).2]]
def UV{i:Nat}(h:∀i,os.contains i=(W i).isSome)(j:Nat):(os.filter (· != i)).contains j=(noW W i j).isSome:=by
 unfold noW;by_cases c:j=i
 .simp[c]
 .simp only[c,if_false]
  rw[<-h j,cy,cB,cB,bX];simp[c]
def Eu.drop{i:Nat}{o:Option D}{v:V}(h:Eu U H0 W l os Z H)(r:∀d,o=aa d->Rep (U.ex<|noW W i) H d v):Eu U H0 (noW W i) (l.set i o) (os.filter (· != i)) (Z.set i<|aa v) H:=by
 refine#[h.fut,h.xd,by rw[bG,bG];exact h.len,UV h.osW,λa b n x y=>h.inj a b n (WB x).2 (WB y).2,λj n z=>h.new j n (WB z).2,λj n z=>?_,λj w e z=>?_]
 .obtain⟨d,a,c,e⟩:=h.own j n (WB z).2
  have ij:i≠j:=Ne.symm (WB z).1;exact#[d,by rw[bf ij];exact a,by rw[bf ij];exact c,e.lat Lat.noW rfl]
 .rcases Gp e with⟨rfl,e,hl⟩|⟨c,e⟩
  .exact#[v,bg (by rw[<-h.len];exact hl),r w e]
  .rw[bf c]
   unfold Sd.noW at z;rw[T8<|Ne.symm c]at z;obtain⟨d',a,b⟩:=h.val j w e z;exact#[d',a,b.lat Lat.noW]
noncomputable def zo(W:Own)(i:Nat)(a:aE):Own:=λj=>if j=i then aa a else W j
def Eu.takeO{i:Nat}{a:aE}{d:D}(h:Eu U H0 W l os Z H)(hd:∀a,U.X a->H a≠ai)(f:Fut U H U H')(hn:H a=ai)(hx:¬(U.ex W).X a)(r:XN (U.ex<|zo W i a) H' a d)(hi:i<l.length) :
  Eu U H0 (zo W i a) (l.set i<|aa d) (i::os.filter (· != i)) (Z.set i<|aa<|.ref a) H':=by
 have h1:=h.mono f;have get:∀{j m},zo W i a j=aa m->(j=i/\a=m)\/(j≠i/\W j=aa m):=λ{j m} z=>by
  unfold zo at z;by_cases c:j=i
  .rw[T9 c]at z;exact .inl #[c,au z]
  .rw[T8 c]at z;exact .inr #[c,z]
 have na:=h.fut.new hn hd;have lt:Lat (U.ex W) H (U.ex<|zo W i a) H':=#[rfl,rfl,f.ex.lat.keep',λb hb x=>by
  rcases x with x|⟨j,x⟩
  .exact .inl x
  .rcases get x with⟨_,z⟩|⟨_,z⟩
   .exact T7 hn<|z▸hb
   .exact .inr #[j,z]]
 refine#[h1.fut,h.xd,by rw[bG,bG];exact h.len,λj=>?_,λp q m x y=>?_,λj m z=>?_,λj m z=>?_,λj w q z=>?_]
 .have:=UV (i:=i) h.osW j
  unfold zo;by_cases c:j=i
  .simp[c]
  .unfold noW at this
   rw[T8 c]at this ⊢;rw[oE,this,beq_eq_false_iff_ne.mpr c,i5]
 .rcases get x with⟨x1,x2⟩|⟨x1,x2⟩<;>rcases get y with⟨y1,y2⟩|⟨y1,y2⟩
  .rw[x1,y1]
  .exact T7 (.inr #[q,x2▸y2]) hx
  .exact T7 (.inr #[p,y2▸x2]) hx
  .exact h.inj p q m x2 y2
 .rcases get z with⟨_,z⟩|⟨_,z⟩
  .exact z▸na
  .exact h.new j m z
 .rcases get z with⟨z1,z2⟩|⟨z1,z2⟩
  .subst z1 z2
   exact#[d,bg hi,bg (by rw[<-h.len];exact hi),r]
  .obtain⟨d',p,c,q⟩:=h.own j m z2
   exact#[d',by rw[bf<|Ne.symm z1];exact p,by rw[bf<|Ne.symm z1];exact c,q.lat lt (by rcases q.ob with⟨_,e⟩|⟨_,e⟩<;>rw[vd f (h.nx z2) e,e])]
 .unfold zo at z
  by_cases c:j=i
  .rw[T9 c]at z;cases z
  .rw[T8 c]at z
   rw[bf<|Ne.symm c]at q ⊢;obtain⟨d,p,b⟩:=h.val j w q z;exact#[d,p,b.lat lt]
def Eu.take(h:Eu U H0 W l os Z H)(hd:∀a,U.X a->H a≠ai)(f:Fut U H U H')(hn:H a=ai)(hf:Pv.Xe xs=am)(r:Rep (U.ex W) H' (.lst xs) (.ref a))(hi:i<l.length) :
  Eu U H0 (zo W i a) (l.set i<|aa<|.lst xs) (i::os.filter (· != i)) (Z.set i<|aa<|.ref a) H':=by
 obtain⟨_,us,en,hs,hx,rs⟩:=r.lst';cases en;exact h.takeO hd f hn hx #[us,hs,rs.flat (U:=U.ex W) (ρ':=U.ex<|zo W i a) rfl (λ_ _ z _ _=>z) hf] hi
def Eu.mutO{i:Nat}{a:aE}{d':D}{o':HO}(h:Eu U H0 W l os Z H)(hw:W i=aa a)(r:XN (U.ex W) (upd H a o') a d'):Eu U H0 W (l.set i<|aa d') os Z (upd H a o'):=by
 obtain⟨d,p,c,e⟩:=h.own i a hw;have hi:=(aK.mp p).1;have lt:Lat (U.ex W) H (U.ex W) (upd H a o'):=Lat.own (pS #[i,hw]) e.ob
 refine#[#[rfl,λb o z=>?_],h.xd,by rw[bG];exact h.len,h.osW,h.inj,h.new,λj m z=>?_,λj w q z=>?_]
 .rw[Zj λq=>by rw[q,h.new i a hw]at z;cases z]
  exact h.fut.keep b o z
 .by_cases k:i=j
  .subst k
   rw[hw]at z;cases z;exact#[d',bg hi,c,r]
  .obtain⟨d2,a',c',e'⟩:=h.own j m z
   exact#[d2,by rw[bf k];exact a',c',e'.lat lt<|Zj λq:m=a=>k<|h.inj i j a hw<|q▸z]
 .have k:i≠j:=λk=>by rw[<-k,hw]at z;cases z
  rw[bf k]at q;obtain⟨d,a',b'⟩:=h.val j w q z;exact#[d,a',b'.lat lt]
def Eu.mut(h:Eu U H0 W l os Z H)(hw:W i=aa a)(r:Rq (U.ex W) H ys us):Eu U H0 W (l.set i<|aa<|.lst ys) os Z (upd H a<|.lst us):=by
 obtain⟨d,p,c,e⟩:=h.own i a hw;exact h.mutO hw (d':=.lst ys) #[us,Zl,r.lat<|Lat.own (pS #[i,hw]) e.ob]
def St3.mut{K:ao}{i:Nat}{a:aE}{o':HO}(st:St3 K U S H)(h:Eu U H0 W l os Z H)(hw:W i=aa a)(ht:∀ps,o'≠.tbl ps:=by intro _ z;cases z):St3 K U S (upd H a o'):=by
 obtain⟨d,p,c,e⟩:=h.own i a hw;have ne:∀b,U.X b->b≠a:=λb x z=>h.nx hw<|z▸x
 exact#[st.hk,λb x=>by rw[Zj<|ne b x];exact st.xd b x,λb x=>by rw[Zj<|ne b<|U.xz b x];exact st.dw b x,st.tb.upd (λo u z=>by rcases e.ob with⟨_,e⟩|⟨_,e⟩<;>(rw[e]at z;cases z)) ht]
structure Base(U:Mx)(H0 H1:Hp):Prop where
 fut:Fut U H0 U H1
 dom:∀a,H1 a=ai->H0 a=ai
def Eu.rebase(b:Base U H0 H1)(x:∀a,U.X a->H0 a≠ai)(h:Eu U H1 W l os Z H):Eu U H0 W l os Z H:=#[b.fut.trans h.fut,x,h.len,h.osW,h.inj,λi a e=>b.dom a<|h.new i a e,h.own,h.val]
open Classical in
noncomputable def Q7(H:Hp)(W:Own):Hp:=λa=>if ∃i,W i=aa a then ai else H a
def Eu.off(h:Eu U H0 W l os Z H)(hd:∀a,U.X a->H a≠ai):Base U H0 (Q7 H W)/\Eu U (Q7 H W) W l os Z H:=by
 have nw:∀a,H0 a≠ai->Q7 H W a=H a:=λa z=>T8 λ#[i,e]=>z<|h.new i a e
 refine#[#[#[rfl,λa o e=>?_],λa e=>?_],#[rfl,λa o e=>.inl ?_],λa x=>?_,h.len,h.osW,h.inj,λi a e=>T9 #[i,e],h.own,h.val]
 .rw[nw a (by rw[e];intro z;cases z)];exact h.fut.keep a o e
 .cases q:H0 a with
  |none=>rfl
  |some o=>
   rw[nw a<|by rw[q];intro z;cases z]at e
   rw[h.fut.new e hd]at q;cases q
 .unfold Q7 at e
  split at e
  .cases e
  .exact e
 .rw[nw a<|h.xd a x];exact hd a x
def Eu.walk(h:Eu U H0 W l os Z H)(h':Eu U (Q7 H W) W' l' os' σ' H'):Lat (U.ex W) H (U.ex W') H':=by
 refine#[rfl,rfl,λa o e x n nd=>?_,λa e x=>?_]
 .have nw:¬∃i,W i=aa a:=by
   rintro ⟨i,w⟩;obtain⟨_,_,_,z⟩:=h.own i a w;rcases z.ob with⟨us,z⟩|⟨us,z⟩<;>rw[e]at z
   .exact x us (au z)<|.inr #[i,w]
   .exact nd us (au z)<|.inr #[i,w]
  rcases h'.fut.keep a o (by unfold Q7;rw[T8 nw];exact e)with z|⟨z,xs,q⟩|⟨⟨ps,q⟩,_⟩
  .exact z
  .exact T7 (.inl<|U.xz a z)<|x xs q
  .exact T7 q<|n ps
 .rcases x with x|⟨i,x⟩
  .exact .inl x
  .have:=h'.new i a x
   unfold Q7 at this;split at this
   .exact .inr ‹_›
   .exact T7 this e
end
section
variable(X:Cx)(xw:Nat->Hp->Prop)(C:Calls)
def tF(f:Lc->Zu->R D):TE:=λZ H Q=>∃U l S,St3 X.K U S H/\LocR U H l Z/\End X.K xw (XT am H) U H Q (f l S)
structure CF(e:Expr)(i:E):Prop where
 h:PE X e (tF X xw<|Pv.pv C i)
end
def CF.ce{X:Cx}{xw:Nat->Hp->Prop}{C:Calls}{e:Expr}{i:E}(h:CF X xw C e i):CE X xw C e i:=.mk <| PE.imp h.h<|by left;exact #[U,l,S,st,lr,h.fr]
def End.newF{K:ao}{xw:Nat->Hp->Prop}{U:Mx}{H0 H:Hp}{Q:VK}{S S0:Zu}{ds:List D}{xs:List V}(h:End K xw (XT am H0) U H Q (.ok (.lst ds) S))(f:Fut U H0 U H)(s0:St3 K U S0 H0)(st:St3 K U S H)(r:Rq U H ds xs):∀p,H p=ai->Q (.ref p) (upd H p<|.lst xs):=λp hp=>
 h U _ _ (Zv hp) (st.fresh hp) #[Wy Zl (st.nx hp)<|r.mono<|Zv hp,λ_ _ _=>#[p,rfl,f.new hp st.xd]]
def Jc(K:ao)(xw:Nat->Hp->Prop)(f:Bf):List V->Hp->VK->Prop:=λvs H Q=>∃U S ds,St3 K U S H/\Rq U H ds vs/\∃H0 S0,Fut U H0 U H/\St3 K U S0 H0/\End K xw (XT am H0) U H Q (Pv.po (Pv.Xo f ds) S)
def vW{xw:Nat->Hp->Prop}:∀Z H Q,tF X xw (Pv.pv C<|.blt f is) Z H Q->tCB (Jc X.K xw f) (tA X xw<|Pv.pvs C is) Z H Q:=λZ H Q #[U,l,S,st,lr,h]=>
 #[U,l,S,st,lr,End.bind (h) λxs S1 ρ1 H1 vs f1 st1 r1 h1=>by cases f1.eq;exact#[U,S1,xs,st1,r1,H,S,f1,st,h1]]
def Zc2{X:Cx}{xw:Nat->Hp->Prop}{C:Calls}{e:Expr}{pos p:gu}{f:Bf}{id:String}{x:bn}{es:List Expr}{is:List E}(hc:ZE X (.builtin id) (Jc X.K xw f))(hm:X.mg x=ai)(ha:CA X xw C (e::es) is)(hg:Gl X x)(hv:dW x=aa (.builtin id))(hn:x≠"__name__")(hdb:(x == #[11])=aj)
  (he:aG (e::es) X.env=#[22]::aG es X.env)(hpl:(d7 pos<|aG es X.env).any (·.1)=aj):CF X xw C #[21] (.blt f is):=.mk <|
 PE.imp (Wm hc hg hm hv ha.h hn hdb he hpl) vW
def vG{X:Cx}{xw:Nat->Hp->Prop}{C:Calls}{e:Expr}{pos p:gu}{f:Bf}{id:String}{x:bn}{es:List Expr}{is:List E}(hc:ZE X (.type id) (Jc X.K xw f))(hm:X.mg x=ai)(ha:CA X xw C (e::es) is)(hg:Gl X x)(hv:dW x=aa (.type id))(hn:x≠"__name__")(hdb:(x == #[11])=aj)
  (he:aG (e::es) X.env=#[22]::aG es X.env)(hpl:(d7 pos<|aG es X.env).any (·.1)=aj):CF X xw C #[21] (.blt f is):=.mk <|
 PE.imp (Jh hc hg hm hv ha.h hn hdb he hpl) vW
def yy{X:Cx}{xw:Nat->Hp->Prop}:ZE X (.type "list") (Jc X.K xw .list):=ZE.imp Gq<|by
 rintro vs H Q ⟨U,S,ds,st,r,H0,S0,f0,s0,h⟩;obtain⟨d,v,z,rfl,r1,hz,h⟩:=Wc h r;obtain⟨xs,hx,rfl⟩:=bI.mp hz;obtain⟨p,ys,rfl,hq,r2⟩:=r1.seq hx;exact#[p,ys,rfl,by rw[<-st.hk];exact hq,h.newF f0 s0 st r2]
def Zz(fr:Bool)(K:ao)(xw:Nat->Hp->Prop)(U:Mx)(H0:Hp)(D:Ends):R Pv.FlV->Prop
 |.ok (.nx l os) S=>∀H' σ' W',St3 K U S H'->Eu U H0 W' l os σ' H'->D.nx σ' H'
 |.ok (.ret d) S=>∀H' v,Fut U H0 U H'->St3 K U S H'->XT fr H0 U H' d v->D.rt v H'
 |.ex c S=>∀H',Fut U H0 U H'->St3 K U S H'->xw c H'
 |.no=>False
section
variable{fr:Bool}{K:ao}{xw:Nat->Hp->Prop}{U:Mx}{H0 H:Hp}{B β:Type}{rep:Mx->Hp->B->β->Prop}{D:Ends}{W:Own}{l:Lc}{os:List Nat}{Z:L2.St}{S:Zu}
theorem Zz.bind{Q1:β->Hp->Prop}(he:Eu U H0 W l os Z H)(h:Zz fr K xw U H0 D (r.bind f))
  (k:∀d S H1 v,Fut U H U H1->St3 K U S H1->rep U H1 d v->Zz fr K xw U H0 D (f d S)->Q1 v H1):End K xw rep U H Q1 r:=by
 cases r with|ok d S=>exact λρ1 H1 v g st r=>by cases g.eq;exact k d S H1 v g st r h|ex c S=>exact λρ1 H1 g st=>by cases g.eq;exact h H1 (he.fut.trans g) st|no=>exact h
def Zz.bindW{Q1:β->Hp->Prop}(he:Eu U H0 W l os Z H)(h:Zz fr K xw U H0 D (r.bind f))
  (k:∀d S H1 v,Fut U H U H1->St3 K U S H1->rep (U.ex W) H1 d v->Zz fr K xw U H0 D (f d S)->Q1 v H1):End K xw rep (U.ex W) H Q1 r:=by
 cases r with|ok d S=>exact λρ1 H1 v g st r=>by cases g.eq;exact k d S H1 v #[rfl,g.keep] st.unex r h|ex c S=>exact λρ1 H1 g st=>by cases g.eq;exact h H1 (he.fut.trans #[rfl,g.keep]) st.unex|no=>exact h
def Zz.ob(h:Zz fr K xw U H0 D ((Pv.po o S).bind f)):∃a,o=aa a/\Zz fr K xw U H0 D (f a S):=by
 cases o with|none=>exact h.elim|some a=>exact#[a,rfl,h]
def Zz.guard{c:Prop}[Decidable c](h:Zz fr K xw U H0 D (if c then a else .no)):c/\Zz fr K xw U H0 D a:=by
 split at h
 .exact#[‹_›,h]
 .exact h.elim
def Zz.guardN{c:Prop}[Decidable c](h:Zz fr K xw U H0 D (if c then .no else a)):¬c/\Zz fr K xw U H0 D a:=by
 split at h
 .exact h.elim
 .exact#[‹_›,h]
theorem Zz.rebase(b:Base U H0 H1)(x:∀a,U.X a->H0 a≠ai)(h:Zz fr K xw U H0 D r):Zz fr K xw U H1 D r:=by
 cases r with
 |ok f S=>
  cases f with|nx l os=>exact λH' σ' W' st e=>h H' σ' W' st<|e.rebase b x|ret d=>exact λH' v f st r=>h H' v (b.fut.trans f) st #[r.1,λz ds y=>let #[a,e,q]:=r.2 z ds y;#[a,e,b.dom a q]]
 |ex c S=>exact λH' f st=>h H' (b.fut.trans f) st
 |no=>exact h
end
section
variable(X:Cx)(xw:Nat->Hp->Prop)(fr:Bool)
def tS3(f:Lc->List Nat->Zu->R Pv.FlV):TS:=λD Z H=>∃U H0 W l os S,St3 X.K U S H/\Eu U H0 W l os Z H/\Zz fr X.K xw U H0 D (f l os S)
variable(C:Calls)(ms:List Nat)
structure CS(st:eE)(s:Sm):Prop where
 h:PS X st (tS3 X xw fr<|Pv.rv C ms s)
structure CSs(st:List eE)(s:List Sm):Prop where
 h:PSs X st (tS3 X xw fr<|Pv.rvs C ms s)
structure CG(tg:Expr)(t:List Nat):Prop where
 h:PG X tg (tGU X.K t)
def Zh8(t:List Nat):TGs:=λvs Z H Q=>vs.length=t.length/\Q (UP t vs Z) H
structure CGs(tgs:List Expr)(t:List Nat):Prop where
 h:PGs X tgs (Zh8 t)
end
def PS.imp(h:PS X e t)(k:∀D Z H,t' D Z H->t D Z H):PS X e t':=λpq s Z H D I q=>h pq s Z H D I<|k D Z H q
def PSs.imp(h:PSs X e t)(k:∀D Z H,t' D Z H->t D Z H):PSs X e t':=λpq s Z H D I q=>h pq s Z H D I<|k D Z H q
def PG.imp(h:PG X e t)(k:∀v Z H Q,t' v Z H Q->t v Z H Q):PG X e t':=λpq s Z H v u Q I r q=>h pq s Z H v u Q I r<|k v Z H Q q
def PGs.imp(h:PGs X e t)(k:∀v Z H Q,t' v Z H Q->t v Z H Q):PGs X e t':=λpq s Z H v u Q I r q=>h pq s Z H v u Q I r<|k v Z H Q q
section
variable{X:Cx}{xw:Nat->Hp->Prop}{fr:Bool}{C:Calls}{ns:List Nat}{e a b c:Expr}{i j k:E}{pos p p' p2:gu}{s0:eE}{ss:List eE}{m0:Sm}{ms ms':List Sm}
def Zgg{es:List Expr}{is:List E}(h:CA X xw C es is):CF X xw C (.List es pos) (.lst is):=.mk <| PE.imp (Qm h.h)<|by
 left;rw[Pv.pE4]at h;refine#[U,l,S,st,lr,h.bind λxs S1 ρ1 H1 vs f1 st1 r1 h1=>?_]
 obtain⟨hl,h1⟩:=h1.guard;cases f1.eq;exact#[by rw[r1.length,<-Wl];exact hl,h1.newF f1 st st1 r1]
def Ze8:CSs X xw fr C ns [] []:=.mk <| PSs.imp GK<|by rintro D Z H ⟨U,H0,W,l,os,S,st,he,h⟩;exact h H Z W st he
def Zdl(h1:CS X xw fr C ns s0 m0)(h2:CSs X xw fr C ns ss ms):CSs X xw fr C ns (s0::ss) (m0::ms):=.mk <| PSs.imp (Yo h1.h h2.h)<|by
 rintro D Z H ⟨U,H0,W,l,os,S,st,he,h⟩;refine#[U,H0,W,l,os,S,st,he,?_];rw[Pv.rvs]at h;cases q:Pv.rv C ns m0 l os S with
 |no=>rw[q]at h;exact h
 |ex c S1=>rw[q]at h;exact h
 |ok fl S1=>
  rw[q]at h;cases fl with|nx l1 os1=>exact λH1 σ1 W1 st1 he1=>#[U,H0,W1,l1,os1,S1,st1,he1,h]|_=>exact h
def Zfl(he:CE X xw C e i):CS X xw aj C ns (.Return (aa e) pos) (.ret i):=.mk <| PS.imp (VX he.h)<|by
 right;rw[Pv.rE9]at h;exact#[U,l,S,st,en.all,Zz.bind en h λx S1 H1 v f1 st1 r1 h1=>h1 H1 v (en.fut.trans f1) st1 #[r1,λz=>by cases z]]
def yK{K:ao}{U:Mx}{H0 H:Hp}{W:Own}{l:Lc}{os:List Nat}{Z:L2.St}{S:Zu}{a:aE}(en:Eu U H0 W l os Z H)(st:St3 K U S H)(h:H a=ai):H0 a=ai:=en.fut.new h st.xd
def Zco(he:CF X xw C e i):CS X xw fr C ns (.Return (aa e) pos) (.ret i):=.mk <| PS.imp (VX he.h)<|by
 right;rw[Pv.rE9]at h;exact#[U,l,S,st,en.all,Zz.bind en h λx S1 H1 v f1 st1 r1 h1=>h1 H1 v (en.fut.trans f1) st1 #[r1.1,λ_ ds y=>let #[a,e,q]:=r1.2 rfl ds y;#[a,e,yK en st q]]]
def Zdm{n:Nat}{is:List E}(he:CE X xw C e (.call n is))(hs:fe e ai pos.line X.env=cS aj):CS X xw fr C ns (.Expr e pos) (.ex<|.call n is):=.mk <| PS.imp (zh he.h hs) λD Z H #[U,H0,W,l,os,S,st,en,h]=>
 #[U,l,S,st,en.all,Zz.bind en (h) λx S1 H1 v f1 st1 r1 h1=>h1 H1 Z W st1<|en.mono f1]
def Zg4{sa sb:List eE}(hc:CT X xw C c k)(ha:CSs X xw fr C ns sa ms)(hb:CSs X xw fr C ns sb ms'):CS X xw fr C ns (.If c sa sb pos) (.ite k ms ms'):=.mk <| PS.imp (Zaz hc.h ha.h hb.h)<|by
 right;rw[Pv.GI]at h;refine#[U,l,S,st,en.all,Zz.bind en h λx S1 H1 v f1 st1 r1 h1=>?_]
 have e1:x=v:=r1;subst e1;cases x with|true=>exact#[U,H0,W,l,os,S1,st1,en.mono f1,h1]|false=>exact#[U,H0,W,l,os,S1,st1,en.mono f1,h1]
def Zej{n:Nat}{x:bn}(hN:X.N.Nodup)(hi:X.N[n]?=aa x)(hx:L2.Loc X.env.scope x)(hf:X.fn x=am\/X.env.scope.names.lookup x=aa .local):CG X (.Name x pos) [n]:=.mk <|
 PG.imp (zc hN hi hx hf) λv Z H Q q=>q
def Zck:CGs X [] []:=.mk <| PGs.imp Zcv<|by
 rintro vs Z H Q ⟨h,q⟩;cases vs with|nil=>exact#[rfl,q]|cons _ _=>cases h
def Zcb{tgs:List Expr}{n:Nat}{t:List Nat}{x:bn}(hN:X.N.Nodup)(h2:CGs X tgs t)(hi:X.N[n]?=aa x)(hx:L2.Loc X.env.scope x)(hf:X.fn x=am\/X.env.scope.names.lookup x=aa .local)
  (hs:(cI (.Name x pos::tgs) X.env).map (·.2)=eL (.Name x pos) X.env::(cI tgs X.env).map (·.2)):CGs X (.Name x pos::tgs) (n::t):=.mk <|
 PGs.imp (Za1 (zc hN hi hx hf) h2.h hs)<|by
  rintro vs Z H Q ⟨h,q⟩;cases vs with|nil=>cases h|cons v vs=>exact#[v,vs,rfl,Nat.succ.inj h,q]
theorem Jx{E:aw->ay->Prop}(hne:t≠it):∀(n i:Nat)(s:ay)(Q:List aw->ay->Prop),s.heap.IsListIter it t i->s.heap.IsList t items->i+n<=items.size->
  (∀h',bZ.IsListIter h' it t (i+n)->eI it s.heap h'->Q ((items.toList.drop i).take n) {s with heap:=h' })->aW #[8] A (draw (.ref it) n) Q E s
 |0,i,s,Q,hit,_,_,hQ=>by
  exact ax (by simpa using hQ s.heap hit<|o8 ..)
 |n+1,i,s,Q,hit,ht,hle,hQ=>by
  have hlt:i<items.size:=by lia
  refine ae<|mJ hit ht (x:=items[i]) (by simp[hlt]) λh₁ hit₁ hs₁=>?_
  refine ae<|bP<|Jx hne n (i+1) _ _ hit₁ (ht.extBut hs₁.extBut hne) #[0] λh₂ hit₂ hs₂=>ax ?_
  have hd:items.toList.drop i=items[i]::items.toList.drop (i+1):=by simp[cq,hlt]
  have:=hQ h₂ (by rw[show i+(n+1)=i+1+n by lia];exact hit₂)<|hs₁.trans hs₂
  rw[hd,List.take_succ_cons]at this;exact this
theorem zB{E:aw->ay->Prop}{x1}{Q:Unit->ay->Prop}(hh:A.handled=ai)(ht:s.heap.IsList t items)
  (hn:(cI elts env).length=items.size)(hstar:(cI elts env).findIdx? (·.1)=ai)
  (h:∀h',fP s.heap.objs.size s.heap h'->aW #[8] A (nZ ((cI elts env).map (·.2)) items.toList) Q E {s with heap:=h' }) :
  aW #[8] A (eL (.Tuple elts x1 pos) env<|.ref t) Q E s:=by
 rw[assign_Tuple];refine ae<|gW ?_;have hlt:t≠s.heap.objs.size:=by obtain⟨o,ho,_⟩:=ht;exact a9<|aH ho
 unfold unpack;rw[hn,hstar];refine ae<|bP ?_;refine ae ?_;refine ae<|wpAny_specialOf ht.typeIs slot_list_iter.lookup ?_;refine ax ?_;simp only[cK,if_false];refine ae<|bP<|fq ht ?_;refine ae<|bP<|Jx hlt items.size 0 _ _ #[_,aI _ rfl,rfl,rfl] (ht.push _) #[0] λh₁ hit₁ hs₁=>?_
 have hall:kH items.size (tq 0 items.toList)=items.toList:=by
  rw[kY];exact cG #[2]
 rw[hall];rw[T8 #[2]]
 have ht₁:=(ht.push _).extBut hs₁.extBut hlt;refine ae<|bP<|m7 hh hit₁ ht₁ #[2] λh₂ he₂=>?_
 simp only[Option.isSome_none,cK,if_false];exact ax<|h h₂ λb o hb e=>he₂ b o hb<|hs₁.extBut b o hb<|aq _ e
def gTL(K:ao)(n:Nat)(t:TGs):TG:=λv Z H Q=>∃a xs,v=.ref a/\(SqT K H a xs\/H a=aa (.lst xs))/\xs.length=n/\t xs Z H Q
def ZhX{X:Cx}{pos:gu}{es:List Expr}{k:Nat}{t:TGs}{n:Nat}(hc:X.calm=am)(h:PGs X es t)
  (hn:(cI es X.env).length=n:=by rfl)(hst:(cI es X.env).findIdx? (·.1)=ai:=by rfl):PG X (.Tuple es k pos) (gTL X.K n t):=by
 intro pq s Z H v u Q I r hw;obtain⟨a,xs,e1,hq|hq,hl,hw⟩:=hw
 .exact Zgq hc h hn hst pq s Z H v u Q I r #[a,xs,e1,hq,hl,hw]
 .subst e1
  cases r;obtain⟨its,rv,pl,hz⟩:=I.list<|SqL.of hq;refine zB (I.ok.hd hc) pl.isList (by simp[hn,<-hl,rv.length]) hst λh' hx=>?_
  have I1:=I.kept (t':=s.toks) λb o e=>hx b o (a9<|aH e) e
  exact h pq _ Z H xs _ Q I1 (by simpa using rv) hw
def Ze6{tgs:List Expr}{q2:Nat}{n m:Nat}{r:List Nat}(hc:X.calm=am)(h:CGs X tgs (n::m::r))(hn:(cI tgs X.env).length=(n::m::r).length)(hst:(cI tgs X.env).findIdx? (·.1)=ai):CG X (.Tuple tgs q2 pos) (n::m::r):=.mk <|
 PG.imp (ZhX hc h.h hn hst)<|by rintro v Z H Q ⟨a,xs,e,hp,hl,q⟩;exact #[a,xs,e,hp,hl,hl,q]
def Zz.evA{D:Ends}{K:ao}{U:Mx}{H0 H:Hp}{W:Own}{l:Lc}{os:List Nat}{Z:L2.St}{S:Zu}{f:Pv.V->Zu->R Pv.FlV}{Q1:VK}(z:Bool)(hz:Pv.fresh i=am->z=am)(st:St3 K U S H)(en:Eu U H0 W l os Z H)(h:Zz fr K xw U H0 D ((Pv.pvA C i l os S).bind f))
  (k:∀d S1 H1 v,Fut U H U H1->St3 K U S1 H1->XT z H (U.ex W) H1 d v->Zz fr K xw U H0 D (f d S1)->Q1 v H1):∃ρ' l' S,St3 K ρ' S H/\LocR ρ' H l' Z/\End K xw (XT z H) ρ' H Q1 (Pv.pv C i l' S):=by
 have hid:Zz fr K xw U H0 D ((Pv.pv C i (Pv.hide os l) S).bind f)->∃ρ' l' S,St3 K ρ' S H/\LocR ρ' H l' Z/\End K xw (XT z H) ρ' H Q1 (Pv.pv C i l' S):=λh=>#[U.ex W,Pv.hide os l,S,en.st st,en.hid,Zz.bindW en h k]
 cases os with
 |nil=>exact hid (by rw[W6];exact h)
 |cons o os=>
  have h:Zz fr K xw U H0 D (Pv.PR.bind (match Pv.pv C i (Pv.hide (o::os) l) S with
   |.ok v s=>.ok v s
   |.ex c s=>.ex c s
   |.no=>(Pv.pv C i l S).bind λv s=>if(v.flat||Pv.fresh i&&Pv.vh v)=am then .ok v s else .no) f):=h
  cases q:Pv.pv C i (Pv.hide (o::os) l) S with
  |ok v s=>rw[q]at h;exact hid (by rw[q];exact h)
  |ex c s=>rw[q]at h;exact hid (by rw[q];exact h)
  |no=>
   rw[q]at h;have h:=h
   rw[Y9]at h;refine#[U,l,S,st,en.all,Zz.bind en h λd S1 H1 v f1 st1 r1 h1=>?_]
   by_cases c:(d.flat||Pv.fresh i&&Pv.vh d)=am
   case neg=>rw[T8 c]at h1;exact h1.elim
   rw[T9 c]at h1;refine k d S1 H1 v f1 st1 #[?_,r1.2] h1;rcases(hZ _ _).mp c with c|c
   .exact Rep.flat (U:=U) (ρ':=U.ex W) rfl (λ_ _ z _ _=>z) c r1.1
   .obtain⟨c1,c2⟩:=(aF _ _).mp c
    cases d with
    |lst xs=>
     obtain⟨a,rfl,ha⟩:=r1.2 (hz c1) xs rfl;obtain⟨_,us,e,hs,hx,rs⟩:=r1.1.lst';cases e;exact Wy hs (λx=>x.elim hx λ#[i,w]=>let #[_,_,_,z]:=en.own i a w;T7 ha z.ne)<|rs.flat (U:=U) (ρ':=U.ex W) rfl (λ_ _ z _ _=>z) c2
    |_=>cases c2
def End.unfr{K:ao}{U:Mx}{H H0:Hp}{Q:VK}{r:R D}(h:End K xw (XT aj H0) U H Q r):End K xw Rep U H Q r:=by
 cases r with|ok d S=>exact λρ' H' v f st r=>h ρ' H' v f st #[r,λz=>by cases z]|_=>exact h
def ZcS{n:Nat}{tg:Expr}(he:CE X xw C e i)(hg:CG X tg [n])(hf:Pv.fresh i=aj)(hs:eg [tg] e pos.line X.env=cS aj)(hw:ei [tg] e X.env=cS ai)
  (h1:(cI [tg] X.env).map (·.2)=[eL tg X.env]):CS X xw fr C ns (.Assign [tg] e pos) (.asg [n] i):=.mk <| PS.imp (VS he.h hg.h hs hw h1)<|by
 right;rw[Pv.rE1]at h;obtain⟨ρ',l',S',a,b,c⟩:=Zz.evA (Q1:=λx H1=>tGU X.K [n] x Z H1 D.nx) aj (λz=>by rw[hf]at z;cases z) st en h λd S1 H1 v f1 st1 r1 h1=>by
  rw[hf,Bool.and_false,T8 aR]at h1;exact h1 H1 _ _ st1<|(en.mono f1).drop (o:=aa d) λ_ z=>by cases z;exact r1.1.lat Lat.noW
 exact#[ρ',l',S',a,b,c.unfr]
def Zhz{D:Ends}{U:Mx}{H0 H:Hp}{W:Own}{l:Lc}{os:List Nat}{Z:L2.St}{S:Zu}{n:Nat}(st:St3 X.K U S H)(en:Eu U H0 W l os Z H)(h:Zz fr X.K xw U H0 D (Pv.rv C ns (.asg [n] i) l os S)):tF X xw (Pv.pv C i) Z H λx H1=>D.nx (Z.set n<|aa x) H1:=by
 rw[Pv.rE1]at h;refine Zz.evA am (λ_=>rfl) st en h λd S1 H1 v f1 st1 r1 h1=>?_
 by_cases c:(ns.contains n&&Pv.fresh i)=am
 .rw[T9 c]at h1
  cases d with
  |lst xs=>
   obtain⟨⟨hf,hl⟩,h1⟩:=Zz.guard h1;obtain⟨a,rfl,ha⟩:=r1.2 rfl xs rfl;exact h1 H1 _ _ st1<|en.take st.xd f1 ha hf r1.1 hl
  |_=>exact h1.elim
 .rw[T8 c]at h1
  exact h1 H1 _ _ st1<|(en.mono f1).drop (o:=aa d) λ_ z=>by cases z;exact r1.1.lat Lat.noW
def ZcO{n:Nat}{tg:Expr}(he:CF X xw C e i)(hg:CG X tg [n])(hs:eg [tg] e pos.line X.env=cS aj)(hw:ei [tg] e X.env=cS ai)
  (h1:(cI [tg] X.env).map (·.2)=[eL tg X.env]):CS X xw fr C ns (.Assign [tg] e pos) (.asg [n] i):=.mk <| PS.imp (VS he.h hg.h hs hw h1)<|by right;exact Zhz st en h
def ZfT{n m:Nat}{t:List Nat}{tg:Expr}(he:CE X xw C e i)(hg:CG X tg (n::m::t))(hf:Pv.fresh i=aj)(hs:eg [tg] e pos.line X.env=cS aj)(hw:ei [tg] e X.env=cS ai)
  (h1:(cI [tg] X.env).map (·.2)=[eL tg X.env]):CS X xw fr C ns (.Assign [tg] e pos) (.asg (n::m::t) i):=.mk <| PS.imp (VS he.h hg.h hs hw h1)<|by
 right;rw[Pv.rE2]at h
 .obtain⟨ρ',l',S',a,b,c⟩:=Zz.evA (Q1:=λx H1=>tGU X.K (n::m::t) x Z H1 D.nx) aj (λz=>by rw[hf]at z;cases z) st en h λd S1 H1 v f1 st1 r1 h1=>by
   obtain⟨ht,h1⟩:=h1.guardN;obtain⟨l',hl,h1⟩:=Zz.ob h1;exact(en.mono f1).assign (by simpa using ht) r1.1 hl λσ' e'=>h1 H1 σ' W st1 e'
  exact#[ρ',l',S',a,b,c.unfr]
 .intro _ z;cases z
end
theorem Eu.at{U:Mx}{H0 H:Hp}{W:Own}{l:Lc}{os:List Nat}{Z:L2.St}{i:Nat}{xs:List D}(h:Eu U H0 W l os Z H)(hi:os.contains i=am)(hx:Pv.qW l[i]?=aa xs):∃a,W i=aa a/\Z[i]?=aa (aa<|.ref a)/\∃us,H a=aa (.lst us)/\Rq (U.ex W) H xs us:=by
 rw[h.osW]at hi;obtain⟨a,w⟩:=bS.mp hi;obtain⟨d,p,c,r⟩:=h.own i a w;rw[p]at hx;cases d with|lst ys=>cases hx;exact#[a,w,c,r]|_=>cases hx
section
variable{X:Cx}{xw:Nat->Hp->Prop}{fr:Bool}{C:Calls}{ns:List Nat}{e a b c:Expr}{i j k:E}{pos p p' p2:gu}{s0:eE}{ms ms':List Sm}{n:Nat}{x:bn}
def qd{apos cpos:gu}(he:CE X xw C e i)(hN:X.N[n]?=aa x)(hv:Vis X.env.scope x)(hd:(x == #[11])=aj)
  (hcd:(x == #[19])=aj)
  (hbase:attributeBase (.Name x p) "append" X.env (c6 (.Name x p) X.env)=c6 (.Name x p) X.env)
  (hfew:((d7 cpos<|aG [e] X.env).all (λx=>!x.1)&&(backToKw cpos<|keywordEach [] X.env).all (λx=>x.1.isSome)
   && af (([e]:List Expr).length+([]:List tD).length+(if([]:List tD).isEmpty then 0 else 1)<30))=am)
  (hline:(apos.endLine == cpos.line)=am)(hs:aG [e] X.env=#[22]::aG [] X.env)(hplain:(d7 cpos<|aG [] X.env).any (·.1)=aj)
  (hw:fe (.Call (.Attribute (.Name x p) "append" apos) [e] [] cpos) ai pos.line X.env=cS aj) :
  CS X xw fr C ns (.Expr (.Call (.Attribute (.Name x p) "append" apos) [e] [] cpos) pos) (.ex<|.mt .append (.v n) [i]):=.mk <|
 PS.imp (zh (vz fK lZ l0 VJ (Yq hN hv hd hcd) (ZL he.h Yy hs) hbase hfew hline hs hplain) hw)<|by
 right;rw[Pv.Zd6]at h;obtain⟨c,h⟩:=h.guard;obtain⟨xs,hx,h⟩:=Zz.ob h;obtain⟨a,ha,q,us,e1,_⟩:=en.at c hx;refine#[.ref a,q,.inl #[rfl,us,SqL.of e1],U,l,S,st,en.all,Zz.bind en h λy S1 H1 v f1 st1 r1 h1=>?_]
 obtain⟨⟨hf,hl⟩,h1⟩:=h1.guard;have en1:=en.mono f1;obtain⟨a',ha',_,us,e2,r'⟩:=en1.at c hx;rw[ha]at ha';cases ha';exact#[a,us,v,rfl,rfl,e2,by rw[r'.length,<-Wl];exact hl,h1 _ _ W (st1.mut en1 ha)<|en1.mut ha<|r'.append<|Rq.cons (Rep.flat (U:=U) (ρ':=U.ex W) rfl (λ_ _ z _ _=>z) hf r1) Rq.nil]
def ZgU{m:Nat}{y:bn}{px py pt:gu}{kt k2 pt2}(hc:X.calm=am)(hN:X.N.Nodup)(ha:CA X xw C [a,b] [i,j])(hnm:n≠m)(hi:X.N[n]?=aa x)(hj:X.N[m]?=aa y)
  (hx:X.env.scope.names.lookup x=aa .local)(hy:X.env.scope.names.lookup y=aa .local)
  (hw:ei [.Tuple [.Name x px,.Name y py] kt pt] (.Tuple [a,b] k2 pt2) X.env=cS (aa [x,y]))
  (hs:eg [.Tuple [.Name x px,.Name y py] kt pt] (.Tuple [a,b] k2 pt2) pos.line X.env=cS aj) :
  CS X xw fr C ns (.Assign [.Tuple [.Name x px,.Name y py] kt pt] (.Tuple [a,b] k2 pt2) pos) (.par [n,m] [i,j]):=.mk <|
 PS.imp (ZgC hc hN hi hj hnm hx hy ha.h hw hs)<|by
 right;rw[Pv.rE3]at h;have fin:∀{vs:List Pv.V}{us:List V}{S1:Zu}{H1:Hp},Fut U H U H1->St3 X.K U S1 H1->Rq (U.ex W) H1 vs us->Zz fr X.K xw U H0 D (if([n,m].any os.contains)=am then .no else(Pv.po (Pv.YL [n,m] vs l) S1).bind λU s=>.ok (.nx U os) s)->∃v w,us=[v,w]/\D.nx ((Z.set n<|aa v).set m<|aa w) H1:=λ{vs us S1 H1} f1 st1 r1 h1=>by
  obtain⟨ht,h1⟩:=h1.guardN;obtain⟨l',hl,h1⟩:=Zz.ob h1;obtain⟨hz,e'⟩:=(en.mono f1).fill (by simpa using ht) r1 hl
  match us,hz,e' with
  |[v,w],_,e'=>exact#[v,w,rfl,h1 H1 _ W st1 e']
 cases os with
 |nil=>exact#[U.ex W,Pv.hide [] l,S,en.st st,en.hid,Zz.bindW en (by rw[W6];exact h) λvs S1 H1 us f1 st1 r1 h1=>fin f1 st1 r1 h1]
 |cons o os=>
  have h:Zz fr X.K xw U H0 D (Pv.PR.bind (match Pv.pvs C [i,j] (Pv.hide (o::os) l) S with
   |.ok v s=>.ok v s
   |.ex c s=>.ex c s
   |.no=>(Pv.pvs C [i,j] l S).bind λv s=>if Pv.Xe v then .ok v s else .no) _):=h
  cases q:Pv.pvs C [i,j] (Pv.hide (o::os) l) S with
  |ok v s=>rw[q]at h;exact#[U.ex W,_,S,en.st st,en.hid,Zz.bindW en (by rw[q];exact h) λvs S1 H1 us f1 st1 r1 h1=>fin f1 st1 r1 h1]
  |ex c s=>rw[q]at h;exact#[U.ex W,_,S,en.st st,en.hid,Zz.bindW en (by rw[q];exact h) λvs S1 H1 us f1 st1 r1 h1=>fin f1 st1 r1 h1]
  |no=>
   rw[q]at h;have h:Zz fr X.K xw U H0 D (((Pv.pvs C [i,j] l S).bind λv s=>if Pv.Xe v=am then Pv.PR.ok v s else .no).bind _):=h
   rw[Y9]at h;refine#[U,l,S,st,en.all,Zz.bind en h λvs S1 H1 us f1 st1 r1 h1=>?_]
   by_cases c:Pv.Xe vs=am
   case neg=>rw[T8 c]at h1;exact h1.elim
   rw[T9 c]at h1;exact fin f1 st1 (Rq.flat (U:=U) (ρ':=U.ex W) rfl (λ_ _ z _ _=>z) c r1) h1
structure AugOk(X:Cx)(op:sd)(o:Bop):Prop where
 h:∃t:TIp,PIp X op t/\∀(xw:Nat->Hp->Prop) U S H n m Q,St3 X.K U S H->End X.K xw Rep U H Q (Pv.XV o (.int n) (.int m) S)->t (.int n) (.int m) H Q
def jV:AugOk X .Add .add:=#[_,Zd1,λxw U S H n m Q st h=>#[n,m,rfl,rfl,End.ok h st<|ZM _]]
def ZbF{o:Bop}{a b:Int}{S S':Zu}{z:D}(h:Pv.Uw o a b S=.ok z S'):∃y,z=.int y:=by
 unfold Pv.Uw at h;cases o<;>simp only at h<;>first
  |(cases h;exact#[_,rfl])
  |(split at h<;>cases h;exact#[_,rfl])
def Zf1{op:sd}{o:Bop}(ho:AugOk X op o)(hN:X.N.Nodup)(he:CE X xw C e i)(hi:X.N[n]?=aa x)(hx:L2.Loc X.env.scope x)(hf:X.fn x=am\/X.env.scope.names.lookup x=aa .local) :
  CS X xw fr C ns (.AugAssign (.Name x p) op e pos) (.aug n o i):=.mk <| by
 obtain⟨t,ht,hq⟩:=ho.h;refine PS.imp (Zfv hN hi hx he.h ht hf) λD Z H #[U,H0,W,l,os,S,st,en,h]=>?_
 rw[Pv.rE4]at h;obtain⟨c,h⟩:=h.guardN;obtain⟨d,hd,h1⟩:=Zz.ob h;obtain⟨v,hv,rv⟩:=en.all.val n d (by cases q:l[n]?<;>rw[q]at hd<;>cases hd;rfl)
 refine#[v,hv,U,l,S,st,en.all,Zz.bind en h1 λy S1 H1 u f1 st1 r1 h2=>?_]
 cases d with
 |int m=>cases y with
  |int m'=>
   rw[rv.int',r1.int'];have h2:Zz fr X.K xw U H0 D ((Pv.Uw o m m' S1).bind λz S=>.ok (.nx (l.set n<|aa z) os) S):=h2
   refine hq xw U S1 H1 m m' _ st1 (show End X.K xw Rep U H1 _ (Pv.Uw o m m' S1)from ?_)
   have en1:=en.mono f1;cases q:Pv.Uw o m m' S1 with
   |no=>rw[q]at h2;exact h2
   |ex c S2=>rw[q]at h2;exact λρ1 H2 g s2=>by cases g.eq;exact h2 H2 (en1.fut.trans g) s2
   |ok z S2=>
    rw[q]at h2;obtain⟨y,rfl⟩:=ZbF q;exact λρ1 H2 w g s2 r2=>by
     cases g.eq;cases r2.int';exact h2 H2 _ W s2<|(en1.mono g).set (o:=aa<|.int y) (by simpa using c) λ_ z=>by cases z;exact ZM _
  |_=>exact False.elim h2
 |_=>exact False.elim h2
def jD{body:List eE}(hp:nL #[9] X.A X.env X.xe)(hc:CT X xw C c k)(hb:CSs X xw fr C ns body ms):CS X xw fr C ns (.While c body [] pos) (.whl k ms):=.mk <| PS.imp (ZaE hp hc.h hb.h)<|by
 right;refine#[λm σ' H'=>∃W' l' os' S',St3 X.K U S' H'/\Eu U H0 W' l' os' σ' H'/\Zz fr X.K xw U H0 D (Pv.Xl (Pv.YE C k) (Pv.rvs C ns ms) m l' os' S'),#[Ev.xj,W,l,os,S,st,en,h],?_]
 rintro m σ' H' ⟨W',l',os',S',st',en',e'⟩
 cases m with
 |zero=>exact False.elim e'
 |succ m=>
  rw[Pv.Xl]at e';refine#[U,l',S',st',en'.all,Zz.bind en' e' λb S1 H1 b' f1 st1 r1 h1=>?_]
  have eb:b=b':=r1;subst eb;cases b with
  |false=>
   rw[T8 aR]at h1 ⊢;exact h1 H1 σ' W' st1<|en'.mono f1
  |true=>
   rw[T9 rfl]at h1 ⊢;refine#[λσ2 H2=>∃W2 l2 os2 S2,St3 X.K U S2 H2/\Eu U H0 W2 l2 os2 σ2 H2/\Zz fr X.K xw U H0 D (Pv.Xl (Pv.YE C k) (Pv.rvs C ns ms) m l2 os2 S2),λσ2 H2 w=>#[m,fM m,w],U,H0,W',l',os',S1,st1,en'.mono f1,?_]
   cases q:Pv.rvs C ns ms l' os' S1 with
   |no=>rw[q]at h1;exact h1
   |ex c S2=>rw[q]at h1;exact h1
   |ok fl S2=>
    rw[q]at h1;cases fl with|nx l3 os3=>exact λH4 σ4 W4 st4 lr4=>#[W4,l3,os3,S2,st4,lr4,h1]|ret d=>exact h1
end
structure WRel(K:ao)(U:Mx)(H:Hp)(w:List D)(J:It):Prop where
 go:∀(i:Nat) ρ' S' H',Lat U H ρ' H'->St3 K ρ' S' H'->i<w.length->J.go i H'/\∀x H'',J.yld i H' x H''->Fut ρ' H' ρ' H''/\St3 K ρ' S' H''/\∀d,w[i]?=aa d->Rep ρ' H'' d x
 stop:∀ρ' S' H',Lat U H ρ' H'->St3 K ρ' S' H'->J.stop w.length H'
section
variable(X:Cx)(xw:Nat->Hp->Prop)
def tW3(f:Lc->Zu->R (List D)):TI:=λZ H Q=>∃U l S,St3 X.K U S H/\LocR U H l Z/\End X.K xw (WRel X.K) U H Q (f l S)
structure CW(C:Calls)(tg it:Expr)(w:Ev.W):Prop where
 h:PI X tg it (tW3 X xw<|Pv.pvw C w)
end
def PI.imp(h:PI X tg it t)(k:∀Z H Q,t' Z H Q->t Z H Q):PI X tg it t':=λpq s Z H R I q=>h pq s Z H R I<|k Z H R q
section
variable{X:Cx}{xw:Nat->Hp->Prop}{C:Calls}{e a b c tg it:Expr}{i j k:E}{pos p p' p2:gu}
def Zik(K:ao)(tl:TE):TI:=λZ H R=>tl Z H λx H1=>∃a,x=.ref a/\(((∃xs,SqL K H1 a xs)/\R (Itl K a) H1)\/((∃xs,SqT K H1 a xs)/\R (Itt K a) H1))
def jv(hl:PE X l tl):PI X tg l (Zik X.K tl):=by
 intro pq s Z H R I h;refine thn (hl pq s Z H _ I h) λv s1 #[x,H1,I1,r1,a,e,q]=>?_
 subst e;cases r1;rcases q with⟨⟨xs,hq⟩,q⟩|⟨⟨xs,hq⟩,q⟩
 .obtain⟨its,rv,p,hz⟩:=I1.list hq
  refine fq p.isList ?_;refine#[s1.heap.objs.size,[s1.heap.objs.size],_,_,H1,rfl,I1.kept (t':=s1.toks) λb o e=>aq _ e,uH a _,#[_,aI _ rfl,rfl,rfl],λb hb=>?_,q]
  have e:b=s1.heap.objs.size:=by simpa using hb
  subst e;exact I1.fpOk (aM _)<|I1.hok.fresh<|aM _
 .obtain⟨its,rv,p,hz⟩:=I1.tuple hq
  refine iq (p) ?_
  refine#[s1.heap.objs.size,[s1.heap.objs.size],_,_,H1,rfl,I1.kept (t':=s1.toks) λb o e=>aq _ e,wo a _,#[_,aI _ rfl,rfl,rfl],λb hb=>?_,q]
  have e:b=s1.heap.objs.size:=by simpa using hb
  subst e;exact I1.fpOk (aM _)<|I1.hok.fresh<|aM _
def VE{K:ao}{U:Mx}{H:Hp}{ds:List D}{xs:List V}{J:It}(r:Rq U H ds xs)(hg:∀ρ' H',Lat U H ρ' H'->(∀i x,xs[i]?=aa x->J.go i H'/\∀y H'',J.yld i H' y H''->H''=H'/\y=x)/\∀n,n=xs.length->J.stop n H'):WRel K U H ds J where
 go:=λi ρ' S' H' f st hi=>by
  obtain⟨v,g,r'⟩:=(r.lat f).get<|ag hi;obtain⟨a,b⟩:=(hg ρ' H' f).1 i v g;refine#[a,λx H'' y=>?_]
  obtain⟨rfl,rfl⟩:=b x H'' y;exact#[Fut.refl _ _,st,λd hd=>by rw[ag hi]at hd;cases hd;exact r']
 stop:=λρ' S' H' f st=>(hg ρ' H' f).2 _ r.length.symm
def ZbU{K K':ao}{U:Mx}{H:Hp}{ds:List D}{a:aE}{xs:List V}(hp:H a=aa (.tup xs))(r:Rq U H ds xs):WRel K U H ds (Itt K' a):=VE r λρ' H' f=>by
 have h:=SqT.of (K:=K')<|f.keep a _ hp λ_ z=>by cases z
 exact#[λi x g=>#[#[xs,x,h,g],λy H'' z=>#[z.1,by have:=z.2 xs h;rw[g]at this;exact(au this).symm]],λn e=>#[xs,h,by omega]]
def zq{K K':ao}{U:Mx}{H:Hp}{ds:List D}{a:aE}{xs:List V}(hp:∀ρ' H',Lat U H ρ' H'->SqL K' H' a xs)(r:Rq U H ds xs):WRel K U H ds (Itl K' a):=VE r λρ' H' f=>by
 have h:=hp ρ' H' f;exact#[λi x g=>#[#[xs,x,h,g],λy H'' z=>#[z.1,by have:=z.2 xs h;rw[g]at this;exact(au this).symm]],λn e=>#[xs,h,by omega]]
def Jm(lo:Int)(n:Nat):(Pv.Z5 lo n).length=n:=by unfold Pv.Z5;rw[aA,bH]
theorem JI(lo:Int):∀(l:List Nat),Rq U H (l.map λ(k:Nat)=>Pv.V.int<|lo+(k:Int)) (l.map λ(k:Nat)=>V.int<|lo+(k:Int))
 |[]=>Rq.nil
 |_::l=>Rq.cons (ZM _)<|JI lo l
def yZ{K:ao}{U:Mx}{H:Hp}{lo:Int}{n:Nat}:WRel K U H (Pv.Z5 lo n) (Itr lo n):=VE (JI lo<|aP n) λρ' H' f=>by
 refine#[λi x g=>?_,λm e=>?_]
 .have hi:i<n:=by have:=(aK.mp g).1;simpa using this
  rw[aQ,cT hi]at g;exact#[hi,λy H'' z=>#[z.1,z.2.trans<|au g]]
 .rw[aA,bH]at e;show n<=m;omega
def ZhZ(he:CE X xw C e i):CW X xw C tg e (.of i):=.mk <| PI.imp (jv he.h)<|by
 left;rw[Pv.wE7]at h;refine#[U,l,S,st,lr,h.bind λx S1 ρ1 H1 v f1 st1 r1 h1=>?_]
 obtain⟨ds,hd,h1⟩:=End.po h1;have q:∀{J},WRel X.K ρ1 H1 ds J->Q J H1:=λw=>End.ok (rep:=WRel X.K) h1 st1 w
 cases x with
 |tup ds=>cases hd;obtain⟨a,xs,rfl,hp,r⟩:=r1.tup';exact#[a,rfl,.inr #[#[xs,SqT.of hp],q<|ZbU hp r]]
 |lst ds=>cases hd;obtain⟨a,xs,rfl,hp,hx,r⟩:=r1.lst';exact#[a,rfl,.inl #[#[xs,SqL.of hp],q<|zq (λρ' H' f=>SqL.of<|f.keep a _ hp λ_ _=>hx) r]]
 |scr ns=>
  cases hd;obtain⟨a,rfl,hp⟩:=r1.scr';rw[st1.hk]at hp;refine#[a,rfl,.inl #[#[_,hp.sq],q<|zq (λρ' H' f=>?_)<|Rq.ints ns]]
  rcases hp with⟨o,hp⟩|hp
  .exact .inl<|.inr #[o,f.keep a _ hp λ_ z=>by cases z]
  .exact .inr hp
 |_=>exact Ev.nos hd
def Zem{B β:Type}{rep:Mx->Hp->B->β->Prop}{U:Mx}{l:Lc}{S:Zu}{Z:L2.St}{H:Hp}{Q:β->Hp->Prop}{Q1:List V->Hp->Prop}{g:D->Zu->R B}(st:St3 X.K U S H)(lr:LocR U H l Z)(h:End X.K xw rep U H Q ((Pv.pv C i l S).bind g))
  (k:∀x S1 ρ1 H1 v,St3 X.K ρ1 S1 H1->Rep ρ1 H1 x v->End X.K xw rep ρ1 H1 Q (g x S1)->Q1 [v] H1):tA X xw (Pv.pvs C [i]) Z H Q1:=by
 refine#[U,l,S,st,lr,?_];show End X.K xw Rq U H _ ((Pv.pv C i l S).bind λx S=>.ok [x] S)
 cases q:Pv.pv C i l S with
 |no=>rw[q]at h;exact h
 |ex c S1=>rw[q]at h;exact h
 |ok x S1=>
  rw[q]at h;intro ρ1 H1 vs f1 st1 r1;obtain⟨v,rfl,r⟩:=Zb4 r1;exact k x S1 ρ1 H1 v st1 r<|End.mono f1 h
def ZeE{B β:Type}{rep:Mx->Hp->B->β->Prop}{U:Mx}{l:Lc}{S:Zu}{Z:L2.St}{H:Hp}{Q:β->Hp->Prop}{Q1:List V->Hp->Prop}{g:D->D->Zu->R B}(st:St3 X.K U S H)(lr:LocR U H l Z)(h:End X.K xw rep U H Q ((Pv.pv C i l S).bind λx S=>(Pv.pv C j l S).bind λy S=>g x y S))
  (k:∀x y S1 ρ1 H1 v u,St3 X.K ρ1 S1 H1->Rep ρ1 H1 x v->Rep ρ1 H1 y u->End X.K xw rep ρ1 H1 Q (g x y S1)->Q1 [v,u] H1):tA X xw (Pv.pvs C [i,j]) Z H Q1:=by
 refine#[U,l,S,st,lr,?_];show End X.K xw Rq U H _ ((Pv.pv C i l S).bind λx S=>((Pv.pv C j l S).bind λy S=>.ok [y] S).bind λxs S=>.ok (x::xs) S)
 cases q:Pv.pv C i l S with
 |no=>rw[q]at h;exact h
 |ex c S1=>rw[q]at h;exact h
 |ok x S1=>
  rw[q]at h;have h:End X.K xw rep U H Q ((Pv.pv C j l S1).bind λy S=>g x y S):=h
  show End X.K xw Rq U H _ (((Pv.pv C j l S1).bind λy S=>.ok [y] S).bind λxs S=>.ok (x::xs) S)
  cases q2:Pv.pv C j l S1 with
  |no=>rw[q2]at h;exact h
  |ex c S2=>rw[q2]at h;exact h
  |ok y S2=>
   rw[q2]at h;intro ρ1 H1 vs f1 st1 r1;obtain⟨v,u,rfl,rv,ru⟩:=zS r1;exact k x y S2 ρ1 H1 v u st1 rv ru<|End.mono f1 h
def Xn(h:Ev.WJ n=am):-(2^62)<=n/\n<2^62:=T6 h
def ZcT(hm:X.mg "range" = ai)(ha:CA X xw C [a] [i])(hg:Gl X "range")(hs:aG [a] X.env=[(aj,c6 a X.env)]):CW X xw C tg (.Call (.Name "range" p) [a] [] pos) (.rng1 i):=.mk <|
 PI.imp (qD hg hm ha.h hs) λZ H Q #[U,l,S,st,lr,h]=>Zem st lr h λx S1 ρ1 H1 v st1 r h1=>by
  cases x with
  |int n=>
   obtain⟨hs,h2⟩:=End.guard h1;exact#[n,by rw[r.int'],(Xn hs).1,(Xn hs).2,End.ok h2 st1 yZ]
  |_=>exact False.elim h1
def Zcq(hm:X.mg "range" = ai)(ha:CA X xw C [a,b] [i,j])(hg:Gl X "range")(hs:aG [a,b] X.env=[(aj,c6 a X.env),(aj,c6 b X.env)])(hs2:aG [b] X.env=[(aj,c6 b X.env)]) :
  CW X xw C tg (.Call (.Name "range" p) [a,b] [] pos) (.rng2 i j):=.mk <|
 PI.imp (qf hg hm ha.h hs hs2) λZ H Q #[U,l,S,st,lr,h]=>ZeE st lr h λx y S1 ρ1 H1 v u st1 rv ru h1=>by
  cases x with
  |int n=>cases y with
   |int m=>
    obtain⟨hs,h3⟩:=End.guard h1;obtain⟨s1,s2⟩:=(aF _ _).mp hs;exact#[n,m,by rw[rv.int',ru.int'],#[(Xn s1).1,(Xn s1).2,(Xn s2).1,(Xn s2).2],End.ok h3 st1 yZ]
   |_=>exact False.elim h1
  |_=>exact False.elim h1
def vJ{D:Ends}{Z:L2.St}{U:Mx}{H0 H1:Hp}{W:Own}{l:Lc}{os:List Nat}{S1:Zu}{J:It}{wk:List Pv.V}{fr:Bool}{ns:List Nat}{ms:List Sm}{t:List Nat}(st1:St3 X.K U S1 H1)(en:Eu U H0 W l os Z H1)(r1:WRel X.K (U.ex W) H1 wk J)
  (h1:Zz fr X.K xw U H0 D (Pv.Y2 (λx U os s=>if(t.any<|l4 os)=am then(.no:Pv.PR Pv.FlV)else(Pv.po (Pv.Zn t x U) s).bind λU s=>Pv.rvs C ns ms U os s) wk l os S1)):∃W:Nat->Nat->L2.St->Hp->Prop,(∃m,W 0 m Z H1)/\∀i m Z H,W i m Z H->
   (J.stop i H/\D.nx Z H)\/(J.go i H/\∃N:L2.St->Hp->Prop,(∀σ' H',N σ' H'->∃m',m'<m/\W (i+1) m' σ' H')/\∀x H',J.yld i H x H'->tGU X.K t x Z H' λσ2 H2=>tS3 X xw fr (Pv.rvs C ns ms) {D with nx:=N,ct:=N,bk:=D.nx} σ2 H2):=by
 obtain⟨bs,en1⟩:=en.off st1.xd;have h1:=h1.rebase bs en.xd;generalize hB:(λx U os s=>if(t.any<|l4 os)=am then(.no:Pv.PR Pv.FlV)else(Pv.po (Pv.Zn t x U) s).bind λU s=>Pv.rvs C ns ms U os s)=B at h1
 let I:Nat->L2.St->Hp->Prop:=λn σ' H'=>∃W' l' os' S',St3 X.K U S' H'/\Eu U (Q7 H1 W) W' l' os' σ' H'/\Zz fr X.K xw U (Q7 H1 W) D (Pv.Y2 B (wk.drop n) l' os' S')
 refine#[λn m σ' H'=>m=wk.length-n/\n<=wk.length/\I n σ' H',#[wk.length,rfl,dM _,W,l,os,S1,st1,en1,h1],?_]
 rintro n m σ' H' ⟨rfl,hn,W',l',os',S',st',en',e'⟩
 have lat:=en.walk en';by_cases hlt:n<wk.length
 .refine .inr ?_
  rw[cq hlt,Pv.Y2]at e';obtain⟨go,yl⟩:=r1.go n _ S' H' lat (en'.st st') hlt;refine#[go,I<|n+1,λσ2 H2 q=>#[wk.length-(n+1),kf _ _ hlt,rfl,hlt,q],λx H3 y=>?_]
  obtain⟨f3,st3,rp⟩:=yl x H3 y;have rx:=rp _<|ag hlt;have f3:Fut U H' U H3:=#[rfl,f3.keep];have hBn:B wk[n] l' os' S'=if(t.any<|l4 os')=am then(.no:Pv.PR Pv.FlV)else(Pv.po (Pv.Zn t wk[n] l') S').bind λU s=>Pv.rvs C ns ms U os' s:=by rw[<-hB]
  rw[hBn]at e';by_cases c:(t.any<|l4 os')=am
  .rw[T9 c]at e';exact e'.elim
  rw[T8 c]at e';cases ha:Pv.Zn t wk[n] l' with
  |none=>rw[ha]at e';exact e'.elim
  |some l2=>
   rw[ha]at e';refine(en'.mono f3).assign (by simpa using c) rx ha λσ2 e2=>#[U,_,W',l2,os',S',st3.unex,e2,?_]
   have e':Zz fr X.K xw U (Q7 H1 W) D ((Pv.rvs C ns ms l2 os' S').bind _):=e';cases q:Pv.rvs C ns ms l2 os' S' with
   |no=>rw[q]at e';exact e'
   |ex c S2=>rw[q]at e';exact e'
   |ok fl S2=>
    rw[q]at e';cases fl with|nx l3 os3=>exact λH4 σ4 W4 st4 lr4=>#[W4,l3,os3,S2,st4,lr4,e']|ret d=>exact e'
 .refine .inl ?_
  have en2:n=wk.length:=by omega
  subst en2;rw[eN]at e';exact#[r1.stop _ S' H' lat<|en'.st st',e' H' σ' W' st' en']
def Zf6{body:List eE}{fr:Bool}{ns:List Nat}{ms:List Sm}{w:Ev.W}{t:List Nat}(hp:nL #[9] X.A X.env X.xe)(hc:X.calm=am)(hw:CW X xw C tg it w)(hg:CG X tg t)(hb:CSs X xw fr C ns body ms)
  (hs:∀x,dZ it X.env x=cS x):CS X xw fr C ns (.For tg it body [] pos) (.forr t w ms):=.mk <| PS.imp (Zbc hp hc hw.h hg.h hb.h hs)<|by
 right;rw[Pv.QZ]at h;refine#[U.ex W,Pv.hide os l,S,en.st st,en.hid,Zz.bindW en h λwk S1 H1 J f1 st1 r1 h1=>vJ st1 (en.mono f1) r1 h1]
def Zcy{body:List eE}{fr:Bool}{ns:List Nat}{ms:List Sm}{t:List Nat}(hp:nL #[9] X.A X.env X.xe)(hc:X.calm=am)(he:CF X xw C it i)(hg:CG X tg t)(hb:CSs X xw fr C ns body ms)
  (hs:∀x,dZ it X.env x=cS x):CS X xw fr C ns (.For tg it body [] pos) (.forF t i ms):=.mk <| PS.imp (Zbc hp hc (jv he.h) hg.h hb.h hs)<|by
 right;rw[Pv.Zhc]at h;refine Zz.evA am (λ_=>rfl) st en h λd S1 H1 v f1 st1 r1 h1=>?_
 cases d with|lst ds=>obtain⟨a,xs,rfl,hp,hx,r⟩:=r1.1.lst';exact#[a,rfl,.inl #[#[xs,SqL.of hp],vJ st1 (en.mono f1) (zq (λρ' H' f=>SqL.of<|f.keep a _ hp λ_ _=>hx) r) h1]]|_=>exact h1.elim
end
end
section
noncomputable def uC(env:Env):List (bn×eF)->List (bn×aE)->List (bn×aE)
 |[],acc=>acc
 |x::r,acc=>uC env r (if(x.2 == bN)=am then(x.1,(env.cells.lookup x.1).getD 0)::acc else acc)
theorem Qo{env:Env}{f:bn×eF->List (bn×aE)->oO (ForInStep<|List<|bn×aE)}:∀(names:List (bn×eF))(acc:List (bn×aE)),
  (∀x∈names,∀c,f x c=cS (.yield (if(x.2 == bN)=am then(x.1,(env.cells.lookup x.1).getD 0)::c else c)))->nA names acc f=cS (uC env names acc)
 |[],acc,_=>rfl
 |x::r,acc,h=>by
  rw[ko,h x ak,pure_bind];exact Qo r _ λy hy=>h y<|al _ hy
theorem yi :∀(names:List (bn×eF))(acc:List (bn×aE)),(uC env names acc).lookup x=aa c->acc.lookup x=aa c\/(∃y∈names,y.1=x/\y.2=.free/\c=(env.cells.lookup x).getD 0)
 |[],acc,h=>.inl h
 |y::r,acc,h=>by
  rcases yi r _ h with h|⟨z,hz,e⟩
  .by_cases hf:(y.2 == bN)=am
   .rw[T9 hf,bU]at h
    cases q:(x == y.1)with
    |true=>
     rw[q]at h;have e:=fJ q;exact .inr #[y,ak,e.symm,fJ hf,by rw[e];exact(au h).symm]
    |false=>rw[q]at h;exact .inl h
   .rw[T8 hf]at h;exact .inl h
  .exact .inr #[z,al _ hz,e]
theorem yE :∀(names:List (bn×eF))(acc:List (bn×aE)),(acc.lookup x).isSome=am->((uC env names acc).lookup x).isSome=am
 |[],acc,h=>h
 |y::r,acc,h=>by
  refine yE r _ ?_;split
  .rw[bU]
   cases(x == y.1)with|true=>rfl|false=>exact h
  .exact h
theorem zK :∀(names:List (bn×eF))(acc:List (bn×aE)),(x,bN)∈names->((uC env names acc).lookup x).isSome=am
 |[],acc,h=>by cases h
 |y::r,acc,h=>by
  rcases az.mp h with h|h
  .subst h
   refine yE r _ ?_;rw[T9 #[7],bU,beq_self_eq_true]
   rfl
  .exact zK r _ h
def WY{scope:d4}{env:Env}(h:∀y∈scope.names,y.2=.free->∃c,env.cells.lookup y.1=aa c) :
  ∃cl,iU scope env=cS cl/\(∀x c,cl.lookup x=aa c->env.cells.lookup x=aa c)/\∀x,(x,bN)∈scope.names->∃c,cl.lookup x=aa c:=by
 refine#[uC env scope.names [],?_,λx c e=>?_,λx hx=>bS.mp<|zK _ _ hx]
 .simp only[iU]
  rw[Qo (env:=env) scope.names [] (λx hx c=>by
   obtain⟨n,kind⟩:=x;by_cases hk:(kind == bN)=am
   .obtain⟨a,ha⟩:=h (n,kind) hx (fJ hk)
    have ha':=ha;simp only[hk,if_true,cellOf,ha',pure_bind,ml]
   .simp only[hk,if_false]
    rfl),pure_bind]
 .rcases yi _ _ e with e|⟨y,hy,e1,e2,e3⟩
  .cases e
  .obtain⟨a,ha⟩:=h y hy e2
   rw[e1]at ha;rw[e3,ha];rfl
theorem VT{x:bn}{c:aE}{lo:Nat}:∀(names:List (bn×eF))(h:bZ)(acc:List (bn×aE)),lo<=h.objs.size->(dN h.objs.size names acc).lookup x=aa c->
  ((x,db)∉names/\acc.lookup x=aa c)\/((x,db)∈names/\lo<=c/\(pT h names).IsCell c ai)
 |[],h,acc,_,e=>.inl #[by simp,e]
 |(name,kind)::r,h,acc,hlo,e=>by
  unfold dN at e;unfold pT;split at e
  .rename_i hk
   rw[T9 hk];have hk:=fJ hk;subst hk;rw[<-cY h {cls:=.type "cell",data:=.cell ai}]at e;rcases VT r (h.push {cls:=.type "cell",data:=.cell ai}) ((name,h.objs.size)::acc) (cc hlo<|by rw[cY];exact lO _) e with⟨e1,e2⟩|⟨e1,e2⟩
   .rw[bU]at e2
    cases hb:x == name with
    |true=>
     rw[hb]at e2;cases e2;have:=fJ hb;subst this;exact .inr #[ak,hlo,_,mX _ _ _ _<|aI _ rfl,rfl]
    |false=>
     rw[hb]at e2;refine .inl #[λhm=>?_,e2]
     rcases az.mp hm with q|q
     .cases q
      rw[beq_self_eq_true]at hb;cases hb
     .exact e1 q
   .exact .inr #[al _ e1,e2]
  .rename_i hk
   rw[T8 hk];rcases VT r _ _ hlo e with⟨e1,e2⟩|⟨e1,e2⟩
   .refine .inl #[λhm=>?_,e2]
    rcases az.mp hm with q|q
    .cases q
     exact hk rfl
    .exact e1 q
   .exact .inr #[al _ e1,e2]
theorem V0:∀(names:List (bn×eF))(n:Nat)(acc:List (bn×aE)),(∀x c,acc.lookup x=aa c->c<n)->(∀x y c,acc.lookup x=aa c->acc.lookup y=aa c->x=y)->
  ∀x y c,(dN n names acc).lookup x=aa c->(dN n names acc).lookup y=aa c->x=y
 |[],n,acc,_,h=>h
 |(name,kind)::r,n,acc,hl,h=>by
  unfold dN;split
  .refine V0 r (n+1) _ (λx c e=>?_) λx y c e1 e2=>?_
   .rw[bU]at e
    split at e
    .cases e;exact fM _
    .exact cH<|hl x c e
   .rw[bU]at e1 e2
    cases p:x == name<;>cases q:y == name<;>rw[p]at e1<;>rw[q]at e2
    .exact h x y c e1 e2
    .cases e2;exact T7 (hl x _ e1)<|bB _
    .cases e1;exact T7 (hl y _ e2)<|bB _
    .rw[fJ p,fJ q]
  .exact V0 r n acc hl h
theorem VR{x:bn}:∀(names:List (bn×eF))(n:Nat)(acc:List (bn×aE)),(∃c,acc.lookup x=aa c)\/(x,db)∈names->∃c,(dN n names acc).lookup x=aa c
 |[],n,acc,h=>h.elim (λh=>h) λh=>by cases h
 |(name,kind)::r,n,acc,h=>by
  unfold dN;split
  .refine VR r _ _ ?_
   cases hb:x == name with
   |true=>exact .inl #[n,by rw[bU,hb]]
   |false=>
    rcases h with⟨c,e⟩|h
    .exact .inl #[c,by rw[bU,hb];exact e]
    .rcases az.mp h with q|q
     .cases q
      rw[beq_self_eq_true]at hb;cases hb
     .exact .inr q
  .rename_i hk
   refine VR r _ _<|h.imp (λh=>h) λh=>?_
   rcases az.mp h with q|q
   .cases q
    exact T7 rfl hk
   .exact q
def wv{M:Model}{A:b9}{E:aw->ay->Prop}{s:ay}{scope:d4}{g:aE}{cl:List (bn×aE)}{q:bn}{env:Env}{Q:Env->ay->Prop}
  (h:Q (newEnv scope s.heap.objs.size g (dN (s.heap.objs.size+1) scope.names cl) q ai .none (aa env) oo) {s with heap:=pT (s.heap.push {cls:=.type "dict",data:=.dict #[]}) scope.names}) :
  aW M A (newFunctionEnv scope g cl [] q ai .none<|aa env) Q E s:=by
 simp only[newFunctionEnv,oD,if_true];refine ae<|rA ?_;refine ae<|wpAny_layCells _ (λname kind cells=>by cases hkc:kind == db<;>simp[hkc]) _ _ _ _ ?_
 rw[cY ..]
 exact ax h
def cxC(X:Cx)(N:List bn)(scope:d4)(cl:List (bn×aE))(s:ay)(H:Hp)(fp:List aE):Cx:=
 {X with N:=N,s₀:=s,H₀:=H,env:=compEnvC scope cl s.heap.objs.size X.env,outer:=X.stack,ex:=fp,fn:=λx=>scope.names.any λy=>y.2 == .cell&&y.1 == x,pn:=[],xe:=λ_ _=>False}
def PTs(X:Cx)(ifs:List Expr)(t:TT):Prop:=
 ∀(pq:List (aE×fH))(s:ay)(Z:L2.St)(H:Hp)(Q:Bool->Hp->Prop),Inv X pq Z H s->t Z H Q->
  aW #[9] X.A (nA ifs am λc r=>if r=am then do let ok <-isTrue c X.env (c6 c X.env);cS (kq ok)else cS (kq r)) (TP X pq Z Q) X.xe s
def ZcU :PTs X [] (λZ H Q=>Q am H):=λpq s Z H Q I h=>wpAny_tests_nil #[H,I,h]
def Zea(h:PT X c t):PTs X [c] t:=λpq s Z H Q I hq=>wpAny_tests_one<|h pq s Z H Q I hq
structure CompScope(sc:d4)(N0:List bn)(scope:d4)(N:List bn)(cap:List Nat)(nl:Nat):Prop where
 kind:scope.kind=.function
 cell:∀y∈scope.names,y.2=.cell->(y.1,bN)∉scope.names
 names:∀y∈scope.names,y.2=.local->scope.names.lookup y.1=aa .local
 free:∀y∈scope.names,y.2=.free->sc.names.lookup y.1=aa .cell\/sc.names.lookup y.1=aa .free
 apart:∀y∈scope.names,y.2=.free->scope.names.lookup y.1≠aa .local
 len:N.length=nl+cap.length
 cap:∀p∈cap.zipIdx,N[nl+p.2]?=N0[p.1]?/\(N0[p.1]?).map (λx=>af<|(x,bN)∈scope.names)=aa am
def CompScope.capt{sc:d4}{N0:List bn}{scope:d4}{N:List bn}{cap:List Nat}{nl:Nat}(h:CompScope sc N0 scope N cap nl)(i j:Nat)(e:cap[i]?=aa j):∃x,N[nl+i]?=aa x/\N0[j]?=aa x/\(x,bN)∈scope.names:=by
 have hm:(j,i)∈cap.zipIdx:=by
  rw[kr];exact e
 obtain⟨h1,h2⟩:=h.cap (j,i) hm;cases q:N0[j]? with
 |none=>rw[q]at h2;cases h2
 |some x=>
  rw[q]at h1 h2
  exact#[x,h1,rfl,T6<|au h2]
noncomputable def Xk(cap:List Nat)(nl:Nat)(Z:L2.St):L2.St:=aB nl ai++cap.map λi=>(Z[i]?).join
section
variable{X:Cx}{pq:List (aE×fH)}{Z:L2.St}{H:Hp}{s:ay}
theorem W0{env:Env}{x:bn}:∀{names:List (bn×eF)},(names.map λ(n,k)=>if(k == bN&&env.scope.kind == .function&&env.kindOf n == aa .cell)then(n,db)else(n,k)).lookup x=aa .cell\/
  (names.map λ(n,k)=>if(k == bN&&env.scope.kind == .function&&env.kindOf n == aa .cell)then(n,db)else(n,k)).lookup x=aa .free->(x,bN)∈names\/(x,db)∈names
 |[],h=>by rcases h with h|h<;>cases h
 |(n,k)::r,h=>by
  have ih:=@W0 env x r;rw[aY]at h;by_cases e:x=n
  .subst e
   by_cases c:(k == bN&&env.scope.kind == .function&&env.kindOf x == aa .cell)=am
   .have:=(aF _ _).mp c
    rw[fJ ((aF _ _).mp this.1).1];exact .inl ak
   .simp only[T8 c,bU,beq_self_eq_true,Option.some.injEq]at h
    rcases h with h|h
    .rw[h];exact .inr ak
    .rw[h];exact .inl ak
  .have hb:=beq_eq_false_iff_ne.mpr e
   refine(ih ?_).imp (al _)<|al _;by_cases c:(k == bN&&env.scope.kind == .function&&env.kindOf n == aa .cell)=am
   .simpa only[T9 c,bU,hb]using h
   .simpa only[T8 c,bU,hb]using h
theorem Zb9{N:List bn}{scope:d4}{cl:List (bn×aE)}{fp:List aE}{cap:List Nat}{nl:Nat}{h1:bZ}{tk:Nat}(I:Inv X pq Z H s)(CS:CompScope X.env.scope X.N scope N cap nl)(hN:X.N.Nodup)
  (c1:∀x c,cl.lookup x=aa c->((x,db)∉scope.names/\X.env.cells.lookup x=aa c)\/((x,db)∈scope.names/\s.heap.objs.size<=c/\h1.IsCell c ai))(c2:∀x,(x,bN)∈scope.names\/(x,db)∈scope.names->∃c,cl.lookup x=aa c)
  (c3:∀x y c,cl.lookup x=aa c->cl.lookup y=aa c->x=y)(hf:∀b∈fp,VQ X pq H b)(hb:∀b∈fp,∃o,s.heap.get? b=aa o)(hns:∃m,h1.Ns s.heap.objs.size m)(hk:∀b o,s.heap.get? b=aa o->h1.get? b=aa o) :
  Inv #[17] [] (Xk cap nl Z) H {s with heap:=h1,toks:=tk}:=by
 have bne:∀b∈fp,b≠s.heap.objs.size:=λb hb' e=>by
  obtain⟨o,ho⟩:=hb b hb';exact T7 (aH ho) (by rw[e];exact bB _)
 refine#[#[I.ok.mod,CS.kind,I.ok.glob,I.ok.blt,aM _,c3,λx hx=>c2 x<|W0 hx,λx c h e=>?_,I.ok.hd,I.ok.frames,.inl rfl,
  λb hb'=>#[bne b hb',λx c e=>(c1 x c e).elim (λq=>(hf b hb').2.2.2.2.1 x c q.2) λq z=>?_],I.bs,cc I.ok.bsz I.sz,λb o e hb'=>?_,λb hb' hm=>?_,I.stack,I.stkFree],
  rfl,I.bare,Un.kept hk,?_,λx c e=>?_,I.hok.fresh<|aM _,λx c e=>(c1 x c e).elim (λq=>I.freeC x c q.2) λq=>I.hok.fresh q.2.1,λp hp=>T7 hp (by simp[cxC]),I.hok.kept hk,?_]
 .rcases c1 x c e with q|q
  .obtain⟨y,hy,e⟩:=gI.mp h
   obtain⟨e1,e2⟩:=(aF _ _).mp e;obtain⟨y,k⟩:=y;have a1:=fJ e1;have a2:y=x:=fJ e2;subst a1 a2;exact T7 hy q.1
  .exact q.2.1
 .obtain⟨o,ho⟩:=hb b hb'
  have:=aH ho;rw[<-z]at this;exact T7 q.2.1<|Nat.not_le.mpr this
 .rcases(hf b hb').2.2.2.1 with z|z
  .exact I.ok.noex b o e z
  .exact T7 (aH e)<|Nat.not_lt.mpr<|cc I.ok.bsz z
 .rcases az.mp (I.stkSub b hm)with e|e
  .exact(hf b hb').2.1 e
  .exact(hf b hb').2.2.1 e
 .obtain⟨m1,hm1⟩:=hns
  refine#[m1,hm1,λi x v e1 e2 e3=>?_]
  obtain⟨m,hm,hl⟩:=I.loc;have hi:nl<=i:=by
   by_cases hi:nl<=i
   .exact hi
   .have z:(Xk cap nl Z)[i]?=aa ai:=by
     unfold Xk;rw[cF (by simp;lia),cX,T9 #[0]]
    rw[z]at e2;cases e2
  have e2':(cap.map λi=>(Z[i]?).join)[i-nl]?=aa (aa v):=by
   have:=e2;unfold Xk at this
   rwa [cA (by simp;exact hi),bR]at this
  rw[aQ]at e2';cases hj:cap[i-nl]? with
  |none=>rw[hj]at e2';cases e2'
  |some j=>
   rw[hj]at e2';have hv:Z[j]?=aa (aa v):=by
    have:(Z[j]?).join=aa v:=au e2';cases q:Z[j]? with
    |none=>rw[q]at this;cases this
    |some o=>rw[q]at this;cases o with|none=>cases this|some w=>cases this;rfl
   obtain⟨x',n1,n2,fr⟩:=CS.capt _ _ hj;have ex:x'=x:=by
    have:N[nl+(i-nl)]?=aa x:=by rw[show nl+(i-nl)=i by lia];exact e1
    rw[n1]at this;exact au this
   subst ex;have kd:=CS.free _ fr rfl;have vis:Vis X.env.scope x':=by
    rcases kd with z|z
    .exact .inr<|.inl z
    .exact .inr<|.inr z
   obtain⟨u,r,lk⟩:=hl j x' v n2 hv vis;refine#[u,r,?_];rcases lk with⟨k,_⟩|⟨k,c,ec,hc⟩
   .have k':X.env.scope.names.lookup x'=aa .local:=k
    rcases kd with z|z<;>(rw[z]at k';cases k')
   .obtain⟨c',ec'⟩:=c2 x' (.inl fr)
    have ecc:c'=c:=by
     have:=(c1 x' c' ec').elim (λq=>q.2) λq=>T7 fr<|CS.cell _ q.1 rfl
     rw[ec]at this;exact(au this).symm
    subst ecc;have vis2:=e3;refine .inr #[?_,c',ec',?_]
    .rcases vis2 with z|z|z
     .have z':=z
      exfalso
      have:∀(names:List (bn×eF)),(∀y∈names,y.2=eF.local->y.1≠x')->(names.map λ(n,k)=>if(k == bN&&X.env.scope.kind == .function&&X.env.kindOf n == aa .cell)then(n,db)else(n,k)).lookup x'≠aa .local:=by
       intro names
       induction names with
       |nil=>intro _ h;cases h
       |cons y r ih=>
        obtain⟨n,k⟩:=y;intro hy h;rw[aY]at h;by_cases e:x'=n
        .subst e
         by_cases c:(k == bN&&X.env.scope.kind == .function&&X.env.kindOf x' == aa .cell)=am
         .simp only[T9 c,bU,beq_self_eq_true]at h;cases h
         .simp only[T8 c,bU,beq_self_eq_true]at h
          exact hy (x',k) ak (au h) rfl
        .have hb:=beq_eq_false_iff_ne.mpr e
         refine ih (λy hy'=>hy y<|al _ hy') ?_
         by_cases c:(k == bN&&X.env.scope.kind == .function&&X.env.kindOf n == aa .cell)=am
         .simp only[T9 c,bU,hb]at h;exact h
         .simp only[T8 c,bU,hb]at h;exact h
      refine this scope.names (λy hy hl e=>?_) z'
      have l1:=CS.names y hy hl;rw[e]at l1;exact CS.apart (x',.free) fr rfl l1
     .exact .inl z
     .exact .inr z
    .obtain⟨o,ho,hd⟩:=hc
     exact#[o,hk c' o ho,hd]
 .rcases c1 x c e with q|q
  .obtain⟨v,o,ho,hd⟩:=I.cell x c q.2
   exact#[v,o,hk c o ho,hd]
  .exact#[ai,q.2.2]
 .unfold Xk
  show _=N.length;rw[aX,bR,aA,CS.len]
end
abbrev TEm:=L2.St->Hp->(L2.St->Hp->Prop)->Prop
def ZbX(X:Cx)(act:oO Fin->oO Fin)(te:TEm):Prop:=
 ∀(pq:List (aE×fH))(s:ay)(Z:L2.St)(H:Hp)(Q:L2.St->Hp->Prop)(k:oO Fin)(QF:Fin->ay->Prop)(EE:aw->ay->Prop),Inv X pq Z H s->te Z H Q->(∀s' σ' H',Inv X pq σ' H' s'->Q σ' H'->aW #[9] X.A k QF EE s')->
  aW #[9] X.A (act k) QF EE s
noncomputable def yB(ipos:gu)(tg:Expr)(ifs:List Expr)(act:oO Fin->oO Fin)(it:aw)(env:Env)(c:Code):oO Fin:=do
 oQ ipos
 match <-kl it with
 |none=>cS<|.done .next
 |some v=>
  mW tg it v
  assign tg env v
  let mut ok:=am
  for c in ifs do
   if ok then ok <-isTrue c env (c6 c env)
  if ok then act (sZ c)else sZ c
def jz(J:It)(g:TG)(tt:TT)(te:TEm)(W:Nat->Nat->L2.St->Hp->Prop)(Q:L2.St->Hp->Prop):Prop:=∀i m σ' H',W i m σ' H'->
  (J.stop i H'/\Q σ' H')\/(J.go i H'/\∀x H'',J.yld i H' x H''->g x σ' H'' λσ2 H2=>tt σ2 H2 λok H3=>if ok=am then te σ2 H3 λσ3 H4=>∃m',m'<m/\W (i+1) m' σ3 H4 else ∃m',m'<m/\W (i+1) m' σ2 H3)
def qt{tn:Nat->bZ->Prop}{Rr:se->ay->Prop}{Q:L2.St->Hp->Prop}{W:Nat->Nat->L2.St->Hp->Prop}
  (hc:Y.calm=am)(hx:∀a b,Y.xe a b->False)(hT:compTurn e depth (.ref it) acc Y.env=yB ipos tg ifs act (.ref it) Y.env (.compLoop e depth (.ref it) acc Y.env))(hquiet:(sQ e depth (.ref it) acc Y.env).isFrame=aj)
  (hq:(sQ e depth (.ref it) acc Y.env).quiet=am)(T:Turn Y.prog Y.w Y.K tg J fp it tn)(hg:PG Y tg g)(ht:PTs Y ifs tt)(he:ZbX Y act te)(stat:∀{H':Hp},(∀b∈fp,H' b=ai)->∀b∈fp,VQ Y pq H' b)
  (turn:jz J g tt te W Q)(fin:∀Z H s,Inv Y pq Z H s->Q Z H->Rr (.ok .next) s)
  (I0:Inv Y pq Z H s)(st0:tn 0 s.heap)(fr0:∀b∈fp,H b=ai)(w0:W 0 m Z H)(hden:(aS Y.prog Y.w).den (.compLoop e depth (.ref it) acc Y.env)=(compTurn e depth (.ref it) acc Y.env).onRaise (λx=>do noteFrame x Y.env;theTreesLotGoes x))
  (hund:Y.A.under (.compLoop e depth (.ref it) acc Y.env)=Y.A):gH (aS Y.prog Y.w) Y.A (.compLoop e depth (.ref it) acc Y.env) Rr s:=by
 refine codeAny_loop hq (λn s'=>∃i σ' H',Inv Y pq σ' H' s'/\tn i s'.heap/\(∀b∈fp,H' b=ai)/\W i n σ' H') (λn s5 hI=>?_) m #[0,Z,H,I0,st0,fr0,w0]
 rw[hund,hden,hT];refine wpAny_noted ?_;obtain⟨i,σ5,H5,I5,st5,fr5,w5⟩:=hI;refine ae<|gW<|ae ?_;rcases turn i n σ5 H5 w5 with⟨stop,qn⟩|⟨go,step⟩
 .refine dH (T.done Y rfl rfl rfl hc i pq s5 σ5 H5 (λ_ _=>False) I5 (stat fr5) st5 stop) (λr s6 #[hr,I6]=>?_) λ_ _ h'=>h'.elim
  subst hr;exact ax<|fin σ5 H5 s6 I6 qn
 .refine dH (T.item Y rfl rfl rfl hc i pq s5 σ5 H5 (λ_ _=>False) I5 (stat fr5) st5 go) (λr s6 #[u,hr,h6]=>?_) λ_ _ h'=>h'.elim
  subst hr;refine ae<|dH h6 (λ_ s7 #[x,H7,I7,r7,y7,st7,fr7]=>?_) λ_ _ h'=>h'.elim
  have I7':=I7.pinned (stat fr7)<|T.obj _ _ st7;have back:∀{σ8:L2.St}{H8:Hp}{s8:ay}{m':Nat},Inv Y (pq++UR fp s7.heap) σ8 H8 s8->m'<n->W (i+1) m' σ8 H8->∃m,m<n/\∃i σ' H',Inv Y pq σ' H' s8/\tn i s8.heap/\(∀b∈fp,H' b=ai)/\W i m σ' H':=λ{σ8 H8 s8 m'} I8 hm w8=>by
   refine#[m',hm,i+1,σ8,H8,I8.unpinned,T.keep _ _ _ st7 λb hb' o e=>(I8.pin (b,o)<|bu _<|bu _<|Xw hb' e).1,λb hb'=>?_,w8]
   obtain⟨o,e,d⟩:=T.obj _ _ st7 b hb';exact(I8.pin (b,o)<|bu _<|bu _<|Xw hb' e).2.1
  refine ae<|dH (hg _ s7 σ5 H7 x u _ I7' r7<|step x H7 y7) (λ_ s8 #[σ8,H8,I8,q8]=>?_) λ_ _ h'=>(hx _ _ h').elim
  refine ae<|dH (ht _ s8 σ8 H8 _ I8 q8) (λok s9 #[H9,I9,q9]=>?_) λ_ _ h'=>(hx _ _ h').elim
  cases ok with
  |false=>
   rw[T8 aR]at q9;obtain⟨m',hm,w9⟩:=q9;exact ax #[rfl,back I9 hm w9]
  |true=>
   rw[T9 rfl]at q9;exact he _ s9 σ8 H9 _ _ _ _ I9 q9<|by rintro s10 σ10 H10 I10 ⟨m',hm,w10⟩;exact ax #[rfl,back I10 hm w10]
def yS{Y:Cx}{elt:Expr}{te:TE}{D:aE}(hx:∀a b,Y.xe a b->False)(he:PE Y elt te):ZbX Y (λk=>(do let _ <-call (.builtin "list.append") [.ref D,<-c6 elt Y.env]:oO Unit) >>= λ_=>k) (λZ H Q=>te Z H λy H4=>∃ys,H4 D=aa (.lst ys)/\ys.length<ba/\Q Z (upd H4 D<|.lst<|ys++[y])):=by
 intro pq s Z H Q k QF EE I h hk;refine ae ?_;refine ae<|dH (he pq s Z H _ I h) (λxv s10 #[y,H10,I10,r10,ys,hDy,hz,q]=>?_) λ_ _ h'=>(hx _ _ h').elim
 refine ae<|dH (VJ pq s10 Z H10 (.ref D) [y] (.ref D) [xv] (λv H'=>v=.non/\H'=upd H10 D (.lst<|ys++[y])) I10 rfl (.cons r10 .nil) #[D,ys,y,rfl,rfl,hDy,hz,rfl,rfl]) (λ_ s11 #[v11,H11,I11,_,_,eH]=>?_) λ_ _ h'=>(hx _ _ h').elim
 subst eH;exact ax<|hk _ _ _ I11 q
def Zfk(wi:TI)(g:TG)(tt:TT)(te:aE->TEm)(cap:List Nat)(nl:Nat):TE:=λZ H Q=>wi Z H λJ H1=>∀D,H1 D=ai->∃W:Nat->Nat->L2.St->Hp->Prop,(∃m,W 0 m (Xk cap nl Z)<|upd H1 D<|.lst [])/\jz J g tt (te D) W λ_ H'=>Q (.ref D) H'
def Zam(wi:TI)(g:TG)(tt:TT)(te:TE)(cap:List Nat)(nl:Nat):TE:=λZ H Q=>wi Z H λJ H1=>∀D,H1 D=ai->∃W:Nat->Nat->L2.St->Hp->Prop,(∃m,W 0 m (Xk cap nl Z)<|upd H1 D<|.lst [])/\∀i m σ' H',W i m σ' H'->
  (J.stop i H'/\Q (.ref D) H')\/(J.go i H'/\∀x H'',J.yld i H' x H''->g x σ' H'' λσ2 H2=>tt σ2 H2 λok H3=>if ok=am then te σ2 H3 λy H4=>∃ys,H4 D=aa (.lst ys)/\ys.length<ba/\∃m',m'<m/\W (i+1) m' σ2 (upd H4 D<|.lst<|ys++[y])else ∃m',m'<m/\W (i+1) m' σ2 H3)
structure Gone(X:Cx)(pq:List (aE×fH))(H:Hp)(s:ay)(C:aE):Prop where
 free:H C=ai
 ns:∃m,s.heap.Ns C m
 loc:C≠X.env.locals
 big:X.s₀.heap.objs.size<=C
 cel:∀x c,X.env.cells.lookup x=aa c->c≠C
 pin:∀p∈X.pn++pq,p.1≠C
def Jg{tg iter elt:Expr}{ifs:List Expr}{scope:d4}{pos fpos:gu}{N:List bn}{cap:List Nat}{nl:Nat}{wi:TI}{g:TG}{tt:TT}{te:aE->TEm}{act:aw->Env->oO Fin->oO Fin}{rest:List Comprehension}{pq:List (aE×fH)}{s:ay}{Z:L2.St}{H:Hp}{Q:VK}{use:Option (aw->oO Unit)}{QQ:aw->ay->Prop}(hc:X.calm=am)(hN:X.N.Nodup)(CS:CompScope X.env.scope X.N scope N cap nl)(hi:PI X tg iter wi)
  (hT:∀it acc env,compTurn (.ListComp elt (#[tg,iter,ifs,0]::rest) scope pos) 0 it acc env=yB iter.pos tg ifs (act acc env) it env (.compLoop (.ListComp elt (#[tg,iter,ifs,0]::rest) scope pos) 0 it acc env))
  (hb:∀cl s H fp,PG #[17] tg g/\PTs #[17] ifs tt/\∀D,ZbX #[17] (act (.ref D) (cxC X N scope cl s H fp).env)<|te D)
  (hs:∀x,dZ iter X.env x=cS x)(I:Inv X pq Z H s)(h:Zfk wi g tt te cap nl Z H Q)
  (fin:∀D C H5 s6,Inv X pq Z H5 s6->Gone X pq H5 s6 C->Q (.ref D) H5->compPost #[9] X.A X.xe use QQ (.ref D) C (.ok .next) s6) :
  aW #[9] X.A (comprehension (.ListComp elt (#[tg,iter,ifs,0]::rest) scope pos) scope X.env fpos (newList []) aj (c6 iter X.env) use) QQ X.xe s:=by
 obtain⟨cl,hcl,c1,c2⟩:=WY λy hy hf=>I.ok.has y.1<|CS.free y hy hf
 refine wpAny_comprehension_free rfl hs hcl CS.kind CS.names ?_;refine thn (hi pq s Z H _ I h) λv s1 h1=>thn h1 λitv s2 h2=>?_
 obtain⟨it,fp,tn,J,H2,rfl,I2,T,st2,f2,q2⟩:=h2;obtain⟨W,⟨m0,w0⟩,turn⟩:=q2 s2.heap.objs.size<|I2.hok.fresh<|aM _;refine bw<|wv ?_
 dsimp only
 have I3:Inv X pq Z (upd H2 s2.heap.objs.size<|.lst []) {s2 with heap:=s2.heap.push {cls:=.type "list",dict:=ai,data:=.seq ([]:List aw).toArray},toks:=s2.toks}:=
  I2.laid (λb u e=>aq _ e) (aM _) #[dM _,[],0,.nil,aI _ rfl]
 generalize hD:s2.heap.objs.size=D at I3 w0 turn ⊢;generalize hs3:({s2 with heap:=s2.heap.push {cls:=.type "list",dict:=ai,data:=.seq ([]:List aw).toArray},toks:=s2.toks}:ay)=s3 at I3
 have hh3:s2.heap.push {cls:=.type "list",dict:=ai,data:=.seq ([]:List aw).toArray}=s3.heap:=by rw[<-hs3]
 rw[hh3];have old:∀b o,s2.heap.get? b=aa o->s3.heap.get? b=aa o:=λb o e=>by rw[<-hh3];exact aq _ e
 have neD:∀b∈fp,b≠D:=λb hb' e=>by
  obtain⟨o,ho,_⟩:=T.obj _ _ st2 b hb';exact T7 (aH ho) (by rw[e,<-hD];exact bB _)
 have f3:∀b∈fp,VQ X pq (upd H2 D<|.lst []) b:=λb hb'=>#[by rw[Zj<|neD b hb'];exact(f2 b hb').1,(f2 b hb').2]
 generalize hh4:pT (s3.heap.push {cls:=.type "dict",data:=.dict #[]}) scope.names=h₁;have keep4:∀b o,s3.heap.get? b=aa o->h₁.get? b=aa o:=λb o e=>by rw[<-hh4];exact mX _ _ b o<|aq _ e
 have hns₁:∃m,h₁.Ns s3.heap.objs.size m:=#[_,by rw[<-hh4];exact(bZ.Ns.new s3.heap<|.type "dict").keeps<|mX _ _]
 have lt3:∀x c,cl.lookup x=aa c->c<s3.heap.objs.size+1:=λx c e=>by
  obtain⟨v,q⟩:=I3.cell x c<|c1 x c e;exact cH q.lt
 have c3:=V0 scope.names _ cl lt3 λx y c h1 h2=>I.ok.inj x y c (c1 x c h1)<|c1 y c h2
 have c2':∀x,(x,bN)∈scope.names\/(x,db)∈scope.names->∃c,(dN (s3.heap.objs.size+1) scope.names cl).lookup x=aa c:=λx hx=>VR _ _ _<|hx.imp (c2 x) λh=>h
 have c1':∀x c,(dN (s3.heap.objs.size+1) scope.names cl).lookup x=aa c->((x,db)∉scope.names/\X.env.cells.lookup x=aa c)\/((x,db)∈scope.names/\s3.heap.objs.size<=c/\h₁.IsCell c ai):=λx c e=>by
  rw[<-cY s3.heap {cls:=.type "dict",data:=.dict #[]}]at e;refine(VT _ _ _ (by rw[cY];exact lO _) e).imp (λq=>#[q.1,c1 x c q.2]) λq=>?_
  rw[hh4]at q;exact q
 generalize dN (s3.heap.objs.size+1) scope.names cl=cl at c1' c2' c3;have I4:=Zb9 (tk:=s2.toks) I3 CS hN c1' c2' c3 f3 (λb hb'=>let #[o,ho,_]:=T.obj _ _ st2 b hb';#[o,old b o ho]) hns₁ keep4
 have e4:({s3 with heap:=h₁,toks:=s2.toks}:ay)={s2 with heap:=h₁,toks:=s2.toks}:=by rw[<-hs3]
 rw[e4]at I4;obtain⟨hg,ht,he⟩:=hb cl s3 (upd H2 D<|.lst []) fp;generalize hY:cxC X N scope cl s3 (upd H2 D<|.lst []) fp=Y at I4 hg ht he;have yP:Y.prog=X.prog:=by rw[<-hY];rfl
 have stat:∀{H':Hp},(∀b∈fp,H' b=ai)->∀b∈fp,VQ Y [] H' b:=λhn b hb'=>by
  subst hY;refine#[hn b hb',λe=>?_,λhm=>?_,.inl hb',λx c e=>(c1' x c e).elim (λq=>(f3 b hb').2.2.2.2.1 x c q.2) λq z=>?_,λp hp=>T7 hp (by simp[cxC])]
  .obtain⟨o,ho,_⟩:=T.obj _ _ st2 b hb'
   have:=aH<|old b o ho;rw[e]at this;exact T7 this<|bB _
  .rcases az.mp (I3.stkSub b hm)with e|e
   .exact(f3 b hb').2.1 e
   .exact(f3 b hb').2.2.1 e
  .obtain⟨o,ho,_⟩:=T.obj _ _ st2 b hb'
   have:=aH<|old b o ho;rw[<-z]at this;exact T7 q.2.1<|Nat.not_le.mpr this
 subst hY
 let Y:=cxC X N scope cl s3 (upd H2 D<|.lst []) fp
 have st4:=T.keep _ _ _ st2 λb hb' o e=>keep4 b o<|old b o e
 have fr4:=λb hb'=>(f3 b hb').1
 have loop:gH #[9] X.A (.compLoop (.ListComp elt (#[tg,iter,ifs,0]::rest) scope pos) 0 (.ref it) (.ref D)<|compEnvC scope cl s3.heap.objs.size X.env)
   (compPost #[9] X.A X.xe use QQ (.ref D) s3.heap.objs.size) {s2 with heap:=h₁,toks:=s2.toks}:=by
  refine qt (Y:=cxC X N scope cl s3 (upd H2 D<|.lst []) fp) hc (λ_ _ z=>z) (hT _ _ _) rfl rfl T hg ht (he D) stat turn (λσ5 H5 s6 I6 qn=>?_) I4 st4 fr4 w0 rfl rfl
  obtain⟨m6,hn6,_⟩:=I6.loc;have u:=I6.base;have IX:=Inv.call' (s':=s6) I3 I6.os #[u.keep,u.slot,u.free,u.there,u.tups,u.frzs,u.tbls] I6.hok I6.bare λb hb'=>#[(f3 b hb').2.2.2.1,(f3 b hb').2.1,(f3 b hb').2.2.2.2.1,λp hp e=>(f3 b hb').2.2.2.2.2 p hp e]
  refine fin D s3.heap.objs.size H5 s6 IX #[I6.free,#[m6,hn6],Ne.symm<|a9 I3.lt,I3.sz,λx c e z=>?_,λp hp z=>?_] qn
  .obtain⟨v,q⟩:=I3.cell x c e
   exact T7 q.lt (by rw[z];exact bB _)
  .exact T7 (aH (I3.pin p hp).1) (by rw[z];exact bB _)
 subst hs3;exact codeAny_compStart_list loop<|T.self _ 0 _ _ _ st4 loop
def Gone.inv(G:Gone X pq H s C)(I:Inv X pq Z H s)(hsb:eI C s.heap h'):Inv X pq Z H {s with heap:=h' }:=
 I.turned (t':=s.toks) (λb o hb e=>(hsb.2 b hb).trans e) G.free G.loc (.inr G.big) G.cel G.pin
def Zis(te:TE)(D:aE):TEm:=λZ H Q=>te Z H λy H4=>∃ys,H4 D=aa (.lst ys)/\ys.length<ba/\Q Z (upd H4 D<|.lst<|ys++[y])
def ZcB(hc:X.calm=am)(hN:X.N.Nodup)(CS:CompScope X.env.scope X.N scope N cap nl)(hi:PI X tg iter wi)
  (hb:∀cl s H fp,PG #[17] tg g/\PTs #[17] ifs tt/\PE #[17] elt te)
  (hs:∀x,dZ iter X.env x=cS x:=by intro _;rfl):PE X (.ListComp elt [#[tg,iter,ifs,0]] scope pos) (Zam wi g tt te cap nl):=by
 intro pq s Z H Q I h;rw[eval_ListComp];refine Jg (act:=λacc env k=>(do let _ <-call (.builtin "list.append") [acc,<-c6 elt env]:oO Unit) >>= λ_=>k) hc hN CS hi (λ_ _ _=>rfl) (λcl s H fp=>#[(hb cl s H fp).1,(hb cl s H fp).2.1,λD=>yS (λ_ _ z=>z) (hb cl s H fp).2.2]) hs I h λD C H5 s6 I6 G q=>?_
 obtain⟨m6,hn6⟩:=G.ns;exact#[m6,hn6,λh' hsb=>#[.ref D,H5,G.inv I6 hsb,rfl,q]]
def ZaP(hc:X.calm=am)(hN:X.N.Nodup)(CS:CompScope X.env.scope X.N scope N cap nl)(hi:PI X tg iter wi)
  (hb:∀cl s H fp,PG #[17] tg g/\PTs #[17] ifs tt/\PE #[17] elt te)
  (hsw:fe (.ListComp elt [#[tg,iter,ifs,0]] scope pos) (aa<|.Name y py) spos.line X.env=cS am)
  (hy:X.N[i]?=aa y)(hx:L2.Loc X.env.scope y)(hf:X.fn y=am\/X.env.scope.names.lookup y=aa .local)
  (hs:∀x,dZ iter X.env x=cS x:=by intro _;rfl):PS X (.Assign [.Name y py] (.ListComp elt [#[tg,iter,ifs,0]] scope pos) spos) (λD Z H=>Zam wi g tt te cap nl Z H λv H1=>D.nx (Z.set i<|aa v) H1):=by
 intro pq s Z H D I h;rw[exec_Assign_Name_used _ _ _ _ hsw];refine ae<|gW<|ae ?_;refine ae<|dH (Jg (Q:=λv H1=>D.nx (Z.set i<|aa v) H1) (act:=λacc env k=>(do let _ <-call (.builtin "list.append") [acc,<-c6 elt env]:oO Unit) >>= λ_=>k) hc hN CS hi (λ_ _ _=>rfl) (λcl s H fp=>#[(hb cl s H fp).1,(hb cl s H fp).2.1,λD=>yS (λ_ _ z=>z) (hb cl s H fp).2.2]) hs I h λA C H5 s6 I6 G q=>?_) (λ_ s' hq=>ax<|ax hq) λ_ _ e=>e
 refine oR<|JY (v:=V.ref A) I6 hN hy hx rfl (λs7 I7 #[a,hsb,ha]=>?_) hf
 have hCa:C≠a:=by
  rcases ha with e|e
  .rw[e];exact G.loc
  .exact Ne.symm<|G.cel y a e
 obtain⟨m6,hn6⟩:=G.ns;have G7:Gone X pq H5 s7 C:=#[G.free,#[m6,hn6.sameBut hsb hCa],G.loc,G.big,G.cel,G.pin];exact#[m6,hn6.sameBut hsb hCa,λh' hs'=>#[Z.set i<|aa<|.ref A,H5,G7.inv I7 hs',q]]
open Ev (E Sm Fn Bop Cop Ty Bf Mf)
section
variable{X:Cx}{xw:Nat->Hp->Prop}{C:Calls}{e a b c tg it:Expr}{i j k:E}{pos p p' p2:gu}
structure CTs(X:Cx)(xw:Nat->Hp->Prop)(C:Calls)(ifs:List Expr)(is:List E):Prop where
 h:PTs X ifs (tB3 X xw<|Pv.pvt C is)
def PTs.imp{X:Cx}{e:List Expr}{t t':TT}(h:PTs X e t)(k:∀Z H Q,t' Z H Q->t Z H Q):PTs X e t':=λpq s Z H Q I q=>h pq s Z H Q I<|k Z H Q q
def Zdn:CTs X xw C [] []:=.mk <| PTs.imp ZcU<|by left;exact End.ok (h) st rfl
def Zdc(Z:Lc)(S:Zu):Pv.pvt C [i] Z S=Pv.YE C i Z S:=by
 show((Pv.pv C i Z S).bind λx S=>(Pv.po (Pv.Zw x) S).bind λb S=>if b then Pv.pvt C [] Z S else .ok aj S)=(Pv.pv C i Z S).bind λx S=>Pv.po (Pv.Zw x) S
 congr 1
 funext x S
 cases Pv.Zw x with|none=>rfl|some b=>cases b<;>rfl
def Zcp(h:CT X xw C c i):CTs X xw C [c] [i]:=.mk <| PTs.imp (Zea h.h)<|by left;exact #[U,l,S,st,lr,by rw[<-Zdc];exact h]
def LocR.caught(lr:LocR U H l Z)(cap:List Nat)(nl:Nat):LocR U H (Pv.Z3 cap nl l) (Xk cap nl Z):=by
 refine#[by unfold Pv.Z3 Xk;simp,λn d e=>?_]
 unfold Pv.Z3 at e;by_cases hn:n<nl
 .rw[cF (by simp;exact hn),cX,T9 hn]at e
  cases e
 .rw[cA (by simp;omega),bR,aQ]at e
  unfold Xk;rw[cA (by simp;omega),bR,aQ]
  cases q:cap[n-nl]? with
  |none=>rw[q]at e;cases e
  |some m=>
   rw[q]at e;have e':(l[m]?).join=aa d:=au e;have:l[m]?=aa (aa d):=by
    cases z:l[m]? with
    |none=>rw[z]at e';cases e'
    |some o=>rw[z]at e';cases o with|none=>cases e'|some w=>cases e';rfl
   obtain⟨v,hv,r⟩:=lr.val m d this;exact#[v,by show aa ((Z[m]?).join)=_;rw[hv];rfl,r]
noncomputable def Mx.at(U:Mx)(A:aE):Mx:=#[U.K,U.n0,λa=>U.X a\/a=A,λa h=>.inl<|U.xz a h]
def XU(U:Mx)(A:aE)(H H':Hp):Prop:=∀a o,a≠A->H a=aa o->H' a=aa o\/(U.n0=aa a/\∃xs,o=.lst xs)\/((∃ps,o=.tbl ps)/\∃ps,H' a=aa (.tbl ps))
def XU.trans(f:XU U A H H1)(g:XU U A H1 H2):XU U A H H2:=λa o n h=>(f a o n h).elim (g a o n) λz=>z.elim (λz=>.inr<|.inl z)<|by
 rintro ⟨e,ps,h⟩;rcases g a _ n h with q|⟨_,xs,q⟩|⟨_,q⟩
 .exact .inr<|.inr #[e,ps,q]
 .cases q
 .exact .inr<|.inr #[e,q]
def XU.of(f:Fut (U.at A) H ρ' H1):XU U A H H1:=λa o _ h=>f.keep a o h
structure CI(K:ao)(U:Mx)(A:aE)(acc:List D)(l:Lc)(Z:L2.St)(H:Hp)(S:Zu):Prop where
 st:St3 K (U.at A) S H
 lr:LocR (U.at A) H l Z
 ac:∃us,H A=aa (.lst us)/\Rq (U.at A) H acc us
section
variable{K:ao}{U:Mx}{A:aE}{acc:List D}{l l':Lc}{Z:L2.St}{H H':Hp}{S S':Zu}
def XU.lat(f:XU U A H H')(ha:H A=aa (.lst us)):Lat (U.at A) H (U.at A) H':=#[rfl,rfl,λa o h x n _=>by
 by_cases c:a=A
 .subst c;rw[ha]at h;cases h;exact T7 (.inr rfl)<|x us rfl
 .rcases f a o c h with z|⟨z,xs,e⟩|⟨⟨ps,e⟩,_⟩
  .exact z
  .exact T7 (.inl<|U.xz a z)<|x xs e
  .exact T7 e<|n ps,λ_ _ x=>x]
theorem CI.mono(h:CI K U A acc l Z H S)(na:U.n0≠aa A)(f:Fut (U.at A) H ρ' H')(st:St3 K (U.at A) S' H'):CI K U A acc l Z H' S':=by
 obtain⟨us,e,r⟩:=h.ac;cases f.eq;exact#[st,h.lr.mono f,us,(f.keep A _ e).elim id λz=>z.elim (λz=>T7 z.1 na)<|by rintro ⟨⟨_,z⟩,_⟩;exact (by cases z),r.mono f]
def ZgX{Q:L2.St->Hp->Prop}(lr:LocR U H l Z)(r:Rep U H d v)(e:Pv.Zn t d l=aa l')(q:∀σ',LocR U H l' σ'->Q σ' H):tGU K t v Z H Q:=by
 have fill:∀{t:List Nat}{vs:List D}{us:List V}{l l':Lc}{Z:L2.St},LocR U H l Z->Rq U H vs us->Pv.YL t vs l=aa l'->us.length=t.length/\LocR U H l' (UP t us Z):=λ{t}=>by
  induction t with
  |nil=>intro vs us l l' Z h r e;cases vs with|nil=>rw[r];cases e;exact#[rfl,h]|cons _ _=>cases e
  |cons i t ih=>intro vs us l l' Z h r e;cases vs with
   |nil=>cases e
   |cons v vs=>
    obtain⟨d,ds,rfl,a,b⟩:=r;obtain⟨z,q⟩:=ih (h.set i a) b e;exact#[by rw[aT,aT,z],q]
 have gen:∀t:List Nat,(match Pv.jR d with
   |some xs=>Pv.YL t xs l
   |none=>ai)=aa l'->∃a xs,v=.ref a/\(SqT K H a xs\/H a=aa (.lst xs))/\xs.length=t.length/\Q (UP t xs Z) H:=by
  intro t e;cases d with|tup vs=>obtain⟨p,ds,rfl,hp,rs⟩:=r.tup';obtain⟨z,y⟩:=fill lr rs e;exact#[p,ds,rfl,.inl<|SqT.of hp,z,q _ y]|lst vs=>obtain⟨p,ds,rfl,hp,_,rs⟩:=r.lst';obtain⟨z,y⟩:=fill lr rs e;exact#[p,ds,rfl,.inr hp,z,q _ y]|_=>cases e
 match t,e with
 |[i],e=>cases e;exact q _<|lr.set i r
 |[],e=>exact gen [] e
 |i::j::t,e=>exact gen (i::j::t) e
theorem JZ:∀{t:List Nat}{vs:List D}{l l':Lc},Pv.YL t vs l=aa l'->l'.length=l.length/\∀j,j∉t->l'[j]?=l[j]?
 |[],[],l,l',h=>by cases h;exact#[rfl,λ_ _=>rfl]
 |[],_::_,_,_,h=>by cases h
 |_::_,[],_,_,h=>by cases h
 |i::t,v::vs,l,l',h=>by
  obtain⟨a,b⟩:=JZ (t:=t) h;exact#[by rw[a,bG],λj hj=>by rw[b j λz=>hj<|al _ z,bf λz=>hj (by rw[z];exact ak ..)]]
def yn(e:Pv.Zn t v l=aa l'):l'.length=l.length/\∀j,j∉t->l'[j]?=l[j]?:=by
 have gen:∀t:List Nat,(match Pv.jR v with
   |some xs=>Pv.YL t xs l
   |none=>ai)=aa l'->l'.length=l.length/\∀j,j∉t->l'[j]?=l[j]?:=λt e=>by
  cases q:Pv.jR v with|none=>rw[q]at e;cases e|some xs=>rw[q]at e;exact JZ e
 match t,e with
 |[i],e=>cases e;exact#[bG ..,λj hj=>bf λz=>hj (by rw[z];exact ak ..)]
 |[],e=>exact gen [] e
 |i::j::t,e=>exact gen (i::j::t) e
def LocR.back(e:Pv.Zn t v l=aa l')(hn:∀i∈t,∀d,l[i]?≠aa (aa d))(lr:LocR U H l' Z):LocR U H l Z:=by
 obtain⟨a,b⟩:=yn e;exact#[by rw[<-a];exact lr.len,λi d q=>lr.val i d (by rw[b i λz=>hn i z d q];exact q)]
end
def Zel(C:Calls)(t:List Nat)(is:List E)(G:Lc->Zu->R (List D))(l:Lc)(x:D)(S:Zu):R (List D):=(Pv.po (Pv.Zn t x l) S).bind λl S=>(Pv.pvt C is l S).bind λb S=>if b then G l S else .ok [] S
def Ga{B β:Type}{r:R B}{f:B->Zu->R β}{b:β}{S:Zu}(h:r.bind f=.ok b S):∃a S1,r=.ok a S1/\f a S1=.ok b S:=by
 cases r with|ok a S1=>exact#[a,S1,rfl,h]|ex _ _=>cases h|no=>cases h
def uz(h:Pv.mapP f (x::w) S=.ok rs S2):∃y S1 zs,f x S=.ok y S1/\Pv.mapP f w S1=.ok zs S2/\rs=y++zs:=by
 rw[Pv.mapP]at h;split at h
 .split at h
  .cases h;exact#[_,_,_,‹_›,‹_›,rfl]
  .cases h
 .cases h
def Zhf(K:ao)(U:Mx)(A:aE)(P:Lc->Prop)(te:TEm)(G:Lc->Zu->R (List D)):Prop:=∀acc l Z H S ys S2 QQ,P l->CI K U A acc l Z H S->G l S=.ok ys S2->(acc++ys).length<=Ev.lim->(∀σ3 H3,XU U A H H3->CI K U A (acc++ys) l σ3 H3 S2->QQ σ3 H3)->te Z H QQ
def ZaM{U ρw:Mx}{A:aE}{Hw:Hp}{w:List D}{J:It}(r:WRel X.K ρw Hw w J)(na:U.n0≠aa A){t:List Nat}{is:List E}{te:TEm}{G:Lc->Zu->R (List D)}{P:Lc->Prop}(em:Zhf X.K U A P te G){l:Lc}(hn:∀i∈t,∀d,l[i]?≠aa (aa d))(hP:∀x l2,Pv.Zn t x l=aa l2->P l2){acc ys:List D}{Z:L2.St}{H:Hp}{S S2:Zu}{QQ:L2.St->Hp->Prop}
  (hl:∀H',XU U A H H'->Lat ρw Hw (U.at A) H')(c:CI X.K U A acc l Z H S)(h:Pv.mapP (Zel C t is G l) w S=.ok ys S2)(hz:(acc++ys).length<=Ev.lim)(k:∀σ3 H3,XU U A H H3->CI X.K U A (acc++ys) l σ3 H3 S2->QQ σ3 H3) :
  ∃W:Nat->Nat->L2.St->Hp->Prop,(∃m,W 0 m Z H)/\jz J (tGU X.K t) (tB3 X nx<|Pv.pvt C is) te W QQ:=by
 refine#[λn m σ' H'=>m=w.length-n/\n<=w.length/\XU U A H H'/\∃ac rs S',ac++rs=acc++ys/\Pv.mapP (Zel C t is G l) (w.drop n) S'=.ok rs S2/\CI X.K U A ac l σ' H' S',#[w.length,rfl,dM _,λ_ _ _ h=>.inl h,acc,ys,S,rfl,h,c],?_]
 rintro n m σ' H' ⟨rfl,hn',ff,ac,rs,S',ea,e',c'⟩
 have lat:=hl H' ff;by_cases hlt:n<w.length
 .refine .inr ?_
  rw[cq hlt]at e';obtain⟨y1,S1,r1,q1,q2,rfl⟩:=uz e';obtain⟨go,yl⟩:=r.go n _ S' H' lat c'.st hlt;refine#[go,λx H3 y=>?_]
  obtain⟨f3,st3,rp⟩:=yl x H3 y;have rx:=rp _<|ag hlt;obtain⟨l2,Sa,ha,q1⟩:=Ga q1;obtain⟨b,Sb,hb,q1⟩:=Ga q1;have hal:Pv.Zn t w[n] l=aa l2/\Sa=S':=by
   cases z:Pv.Zn t w[n] l<;>rw[z]at ha<;>cases ha;exact#[rfl,rfl]
  obtain⟨hal,rfl⟩:=hal;have ff3:=ff.trans<|XU.of f3;have c3:=c'.mono na f3 st3;refine ZgX c3.lr rx hal λσ2 lr2=>#[U.at A,l2,Sa,st3,lr2,?_]
  rw[hb];intro ρ4 H4 b' f4 st4 eb;have eb:b=b':=eb;subst eb;cases f4.eq;have ff4:=ff3.trans<|XU.of f4;have c4:=c3.mono na f4 st4;cases b with
  |false=>
   rw[T8 aR]at q1 ⊢;cases q1;exact#[w.length-(n+1),kf _ _ hlt,rfl,hlt,ff4,ac,r1,_,ea,q2,c4.st,(lr2.mono f4).back hal hn,c4.ac]
  |true=>
   rw[T9 rfl]at q1 ⊢;refine em ac l2 σ2 H4 Sb y1 S1 _ (hP _ _ hal) #[c4.st,lr2.mono f4,c4.ac] q1 ?_ λσ3 H5 f5 c5=>#[w.length-(n+1),kf _ _ hlt,rfl,hlt,ff4.trans f5,ac++y1,r1,S1,by rw[bK];exact ea,q2,c5.st,c5.lr.back hal hn,c5.ac]
   rw[<-ea]at hz;simp only[aX]at hz ⊢;omega
 .refine .inl ?_
  have en:n=w.length:=by omega
  subst en;rw[eN]at e';cases e';rw[cz]at ea;subst ea;exact#[r.stop _ _ H' lat c'.st,k σ' H' ff c']
def ZgF{U:Mx}{A:aE}(na:U.n0≠aa A)(ie:E):Zhf X.K U A (λ_=>True) (Zis (tE X nx<|Pv.pv C ie) A) (λl S=>(Pv.pv C ie l S).bind λy S=>.ok [y] S):=λacc l Z H S ys S2 QQ _ c h hz k=>by
 obtain⟨y,S1,hy,h⟩:=Ga h;cases h;refine#[U.at A,l,S,c.st,c.lr,?_];rw[hy];intro ρ4 H4 v f4 st4 r4;cases f4.eq;have c4:=c.mono na f4 st4;obtain⟨us,e,r⟩:=c4.ac;rw[aX]at hz;have hz:acc.length+1<=Ev.lim:=hz;have fa:XU U A H4 (upd H4 A<|.lst<|us++[v]):=λa o n h=>.inl (by rw[Zj n];exact h)
 have lt:=fa.lat e;refine#[us,e,by rw[r.length,<-Wl];omega,k Z _ ((XU.of f4).trans fa) #[#[st4.hk,λb x=>?_,λb x=>?_,st4.tb.upd (λo u z=>by rw[e]at z;cases z) λ_ z=>by cases z],#[c4.lr.len,λi d q=>let #[u,a,b]:=c4.lr.val i d q;#[u,a,b.lat lt]],_,Zl,(r.lat lt).append<|Rq.cons (r4.lat lt) Rq.nil]]
 .by_cases z:b=A
  .rw[z,Zl];intro q;cases q
  .rw[Zj z];exact st4.xd b x
 .rw[Zj λz=>na (by rw[<-z];exact x)];exact st4.dw b x
def ZdR(st:St3 X.K U S H)(lr:LocR U H l Z)(hA:H A=ai):U.n0≠aa A/\CI X.K U A [] l Z (upd H A<|.lst []) S/\∀H',XU U A (upd H A<|.lst []) H'->Fut U H U H'/\Lat U H (U.at A) H':=by
 have ne:∀a,H a≠ai->a≠A:=λa h z=>h<|z▸hA
 have f:∀H',XU U A (upd H A<|.lst []) H'->Fut U H U H'/\Lat U H (U.at A) H':=λH' g=>by
  have f:Fut U H U H':=#[rfl,λa o h=>g a o (ne a<|by rw[h];intro z;cases z) (by rw[Zj<|ne a (by rw[h];intro z;cases z)];exact h)]
  exact#[f,rfl,rfl,f.lat.keep',λa h x=>x.elim id λz=>T7 z<|ne a h]
 have s:=st.fresh (o:=.lst []) hA;obtain⟨f1,lt⟩:=f _ λ_ _ _ h=>.inl h
 refine#[λz=>st.xd A (U.xz A z) hA,#[#[s.hk,λb x=>x.elim (s.xd b) λz=>(by rw[z,Zl];intro q;cases q),s.dw,s.tb],#[lr.len,λi d q=>let #[u,a,b]:=lr.val i d q;#[u,a,b.lat lt]],[],Zl,Rq.nil],f]
def qq{l:Lc}{cap:List Nat}{nl i:Nat}(h:i<nl)(v:D):(Pv.Z3 cap nl l)[i]?≠aa (aa v):=by
 unfold Pv.Z3;rw[cF (by simpa using h),cX,T9 h]
 intro z;cases z
def jQ(f0:Fut U H0 U H)(hA:H A=ai)(st:St3 X.K U S H)(f:Fut U H U H')(c:CI X.K U A ys l Z H' S')(h:End X.K nx (XT am H0) U H Q (.ok (.lst ys) S')):Q (.ref A) H':=by
 obtain⟨us,e,r⟩:=c.ac;have lt:Lat (U.at A) H' U H':=#[rfl,rfl,λ_ _ h _ _ _=>h,λ_ _ x=>.inl x]
 refine h U H' _ f #[c.st.hk,λb x=>c.st.xd b<|.inl x,c.st.dw,c.st.tb] #[Wy e (st.nx hA)<|r.lat lt,λ_ _ _=>#[A,rfl,f0.new hA st.xd]]
def Zcg{K:ao}{rep:Mx->Hp->D->V->Prop}{U:Mx}{H:Hp}{Q:VK}{r:R (List D)}(h:End K xw rep U H Q (r.bind λys s=>if ys.length<=Ev.lim then Pv.PR.ok (.lst ys) s else .no).nox):∃ys S,r=.ok ys S/\ys.length<=Ev.lim/\End K nx rep U H Q (.ok (.lst ys) S):=by
 cases r with
 |no=>exact h.elim
 |ex c S=>exact h.elim
 |ok ys S=>
  have h:=End.nox h
  obtain⟨hl,h⟩:=End.guard h;exact#[ys,S,rfl,hl,h]
def yJ{is:List E}{ie:E}{cap:List Nat}{nl:Nat}{w:Ev.W}{t:List Nat}{Z:L2.St}{H:Hp}{Q:VK}(hyp:tF X xw (Pv.pv C<|.comp1 cap nl t w is ie) Z H Q):Zam (tW3 X xw<|Pv.pvw C w) (tGU X.K t) (tB3 X nx<|Pv.pvt C is) (tE X nx<|Pv.pv C ie) cap nl Z H Q:=by
 obtain⟨U,l,S,st,lr,h⟩:=hyp;rw[Pv.qF]at h;obtain⟨ho,h⟩:=End.guard h;refine#[U,l,S,st,lr,h.bind λwk S1 ρ1 H1 J f1 st1 r1 h1=>λA hA=>?_]
 cases f1.eq;obtain⟨ys,S2,hm,hl,h1⟩:=Zcg h1;obtain⟨na,ci,ft⟩:=ZdR st1 ((lr.mono f1).caught cap nl) hA;exact ZaM (C:=C) (G:=λl S=>(Pv.pv C ie l S).bind λy S=>.ok [y] S) r1 na (ZgF na ie) (λi hi d=>qq (T6<|a8.mp ho i hi) d) (λ_ _ _=>fD) (λH' f=>(ft H' f).2) ci hm hl λσ3 H3 f3 c3=>jQ f1 hA st1 (ft H3 f3).1 c3 h1
def jJ{elt:Expr}{ifs:List Expr}{is:List E}{ie:E}{scope:d4}{N:List bn}{cap:List Nat}{nl:Nat}{w:Ev.W}{t:List Nat}(hc:X.calm=am)(hN:X.N.Nodup)(CSc:CompScope X.env.scope X.N scope N cap nl)(hi:CW X xw C tg it w)
  (hb:∀cl s H fp,CG #[17] tg t/\CTs #[17] nx C ifs is/\CE #[17] nx C elt ie)
  (hs:∀x,dZ it X.env x=cS x):CF X xw C (.ListComp elt [#[tg,it,ifs,0]] scope pos) (.comp1 cap nl t w is ie):=.mk <|
 PE.imp (ZcB hc hN CSc hi.h (λcl s H fp=>have#[a,b,c]:=hb cl s H fp;#[a.h,b.h,c.h]) hs) λZ H Q hyp=>yJ hyp
def ZaK{fr:Bool}{ns:List Nat}{elt:Expr}{ifs:List Expr}{is:List E}{ie:E}{scope:d4}{N:List bn}{cap:List Nat}{nl:Nat}{w:Ev.W}{t:List Nat}{n:Nat}{y:bn}{spos py:gu}(hc:X.calm=am)(hN:X.N.Nodup)(CSc:CompScope X.env.scope X.N scope N cap nl)(hi:CW X xw C tg it w)
  (hb:∀cl s H fp,CG #[17] tg t/\CTs #[17] nx C ifs is/\CE #[17] nx C elt ie)
  (hsw:fe (.ListComp elt [#[tg,it,ifs,0]] scope pos) (aa<|.Name y py) spos.line X.env=cS am)
  (hy:X.N[n]?=aa y)(hx:L2.Loc X.env.scope y)(hf:X.fn y=am\/X.env.scope.names.lookup y=aa .local)
  (hs:∀x,dZ it X.env x=cS x):CS X xw fr C ns (.Assign [.Name y py] (.ListComp elt [#[tg,it,ifs,0]] scope pos) spos) (.asg [n]<|.comp1 cap nl t w is ie):=.mk <|
 PS.imp (ZaP hc hN CSc hi.h (λcl s H fp=>have#[a,b,c]:=hb cl s H fp;#[a.h,b.h,c.h]) hsw hy hx hf hs)<|by right;exact yJ<|Zhz st en h
end
theorem LocR.start(r:Rq U H ds vs)(N:List bn)(n:Nat)(hn:n=N.length):LocR U H (Pv.ZN n ds) (L2.start N vs):=by
 subst hn;have hl:=r.length;refine#[by unfold Pv.ZN L2.start;simp[hl],λi d e=>?_]
 unfold Pv.ZN at e;by_cases hi:i<ds.length
 .rw[cF (by simpa using hi),aQ]at e
  cases q:ds[i]? with
  |none=>rw[q]at e;cases e
  |some d'=>
   rw[q]at e;cases e;obtain⟨v,hv,r'⟩:=r.get q;refine#[v,?_,r'];unfold L2.start;rw[cF (by simp;lia),aQ,hv]
   rfl
 .rw[cA (by simp;lia),cX]at e
  split at e<;>cases e
theorem Eu.start{K:ao}{U:Mx}{H:Hp}{S:Zu}{ds:List D}{vs:List V}(st:St3 K U S H)(r:Rq U H ds vs)(N:List bn)(n:Nat)(hn:n=N.length):Eu U H (λ_=>ai) (Pv.ZN n ds) [] (L2.start N vs) H:=by
 have lr:=LocR.start r N n hn;refine#[Fut.refl _ _,st.xd,lr.len,λ_=>rfl,λ_ _ _ h=>?_,λ_ _ h=>?_,λ_ _ h=>?_,λi d e _=>?_]
 .cases h
 .cases h
 .cases h
 .obtain⟨v,a,b⟩:=lr.val i d e
  exact#[v,a,Rep.lat (U:=U) (ρ':=U.ex λ_=>ai) #[rfl,rfl,λ_ _ h _ _ _=>h,λ_ _ x=>Or.elim x id λ#[_,z]=>by cases z] b]
section
variable{P:bv}{w:bO}{K:ao}{mg:bn->Option aw}{base:bZ}
def zk(C:Calls)(fn:Fn)(ds:List D)(S:Zu):R D:=if ds.length=fn.ps then(Pv.rvs C (Pv.muts fn.body) fn.body (Pv.ZN fn.ns ds) [] S).bind λf S=>match f with
  |.ret x=>.ok x S
  |.nx _ _=>.ok .non S
 else .no
def yV{C:Calls}{fn:Fn}{fr:Bool}{xw:Nat->Hp->Prop}{U:Mx}{H:Hp}{ds:List D}{S:Zu}{Q:VK}{E:L2.Ends}(hE:∀v H',Q v H'->E.rt v H')(hN:∀Z H',Q .non H'->E.nx Z H')(h:End K xw (XT fr H) U H Q (zk C fn ds S)):Zz fr K xw U H E (Pv.rvs C (Pv.muts fn.body) fn.body (Pv.ZN fn.ns ds) [] S):=by
 obtain⟨_,h⟩:=End.guard h;cases q:Pv.rvs C (Pv.muts fn.body) fn.body (Pv.ZN fn.ns ds) [] S with
 |no=>rw[q]at h;exact h
 |ex c S2=>rw[q]at h;exact λH' f st=>h U H' f st
 |ok fl S2=>
  rw[q]at h;cases fl with|ret x=>exact λH' v f st r=>hE v H'<|h U H' v f st r|nx l os=>exact λH' σ' W' st en=>hN σ' H'<|h U H' .non en.fut st #[UG,λ_ _ z=>by cases z]
end
section
variable{prog:bv}{w:bO}{A:b9}{E:aw->ay->Prop}{s:ay}
theorem uU(n:Nat):c9 ((n:Int)-1) (-1) (-1)=n:=by
 unfold c9;have h1:¬((-1:Int)>0):=by decide
 rw[T8 h1];by_cases h:(n:Int)-1 > -1
 .rw[T9 h,show(- -1:Int)=1 by decide,Int.ediv_one]
  lia
 .rw[T8 h]
  lia
def VH{sl:aE}{vk:aw}{n:Nat}{Q:Int×Int×Nat->ay->Prop}(hs:s.heap.IsSliceOf sl .none .none vk)(pk:kO vk (aa<|-1))
  (h:Q ((n:Int)-1,-1,n) s):aW #[8] A (kQ (.ref sl)<|cS (n:Int)) Q E s:=by
 obtain⟨os,hos,hcs,hds⟩:=id hs;refine ae<|ae<|c8 hos hds rfl<|ae<|c8 hos hds rfl<|ae<|c8 hos hds rfl<|ax ?_;refine ae<|HT.WL pk ?_;show aW _ _ (if((-1:Int) == 0)=am then _ else _) _ _ s
 rw[T8 #[1]]
 refine ae<|kP<|ae<|kP<|ae<|ax ?_;show aW _ _ (cS ((n:Int)-1,(-1:Int),c9 ((n:Int)-1) (-1)<|-1)) _ _ s;rw[uU];exact ax h
theorem ZbT(xs:Array aw):((aP xs.size).filterMap λ(k:Nat)=>xs[((xs.size:Int)-1+(k:Int) * -1).toNat]?).toArray=xs.toList.reverse.toArray:=by
 congr 1
 have e:(aP xs.size).filterMap (λ(k:Nat)=>xs[((xs.size:Int)-1+(k:Int) * -1).toNat]?)=((aP xs.size).map λk=>xs.size-1-k).filterMap (xs[·]?):=by
  rw[oA]
  congr 1
  funext k
  have:((xs.size:Int)-1+(k:Int) * -1).toNat=xs.size-1-k:=by lia
  rw[this];rfl
 rw[e,PySem.W.krv_range,List.filterMap_reverse,PySem.W.krv_all]
def Vv{Q:aw->ay->Prop}(ht:oP s.heap t items)(hs:s.heap.IsSliceOf sl .none .none vk)(pk:kO vk (aa<|-1))
  (h:Q #[25] {s with heap:=s.heap.push {cls:=.type "tuple",data:=.seq items.toList.reverse.toArray}})
  (hsz:items.size<=ba):aW #[8] A (lH (.ref t)<|.ref sl) Q E s:=by
 have htake:sizeOk (.seq items.toList.reverse.toArray):=by
  show items.toList.reverse.toArray.size<=ba;rw[aC,gV,aJ];exact hsz
 obtain⟨os,hos,hcs,hds⟩:=id hs;have hTs:s.TypeIs (.ref sl) "slice":=#[os,hos,hcs];unfold lH
 try with_reducible refine bP ?_
 first|refine ae<|ax ?_|skip
 refine ae<|lI ht.typeIs #[1] ?_
 refine ae (cC ht.typeIs cQ
  (cx cQ ht.typeIs kB ?_<|kR _ _))
 show aW _ _ (gC (.ref t) >>= _) _ _ s;refine ae<|n5 ht ?_;refine ae<|fT hTs ?_;rw[T9 #[1]]
 refine ae<|VH hs pk ?_;have hno:¬(((items.size:Int)-1 == 0&&(-1:Int) == 1&&items.size == items.size)=am):=by
  intro q;rw[aF,aF]at q;exact T7 q.1.2 #[1]
 show aW _ _ (if((items.size:Int)-1 == 0&&(-1:Int) == 1&&items.size == items.size)=am then _ else _) _ _ s
 rw[T8 hno,ZbT]
 first
  |exact ae<|bw (ax #[_,rfl,ax h]) htake
  |exact ae<|bw (ae<|ax<|ax #[_,rfl,ax h]) htake
  |exact ae<|ae<|bw (ax<|ax #[_,rfl,ax h]) htake
  |exact ae<|ae<|bw (ax #[_,rfl,ax h]) htake
end
section
variable{X:Cx}{xw:Nat->Hp->Prop}{C:Calls}{e a b c tg it:Expr}{i j k:E}{pos p p' p2 p3:gu}{q1:Option bn}
def ZgI{e1:Expr}(ha:CE X xw C a i)(h1:CE X xw C e1 (.neg<|.n 1)):CE X xw C (.Subscript a (.Slice ai ai (aa e1) p2) pos) (.rev i):=.mk <| by
 intro pq s Z H Q I hq;obtain⟨U,l,S,st,lr,h⟩:=hq;have h':=h
 refine sf<|thn (ha.h pq s Z H (λx H1=>∃ρ1 S1 d,St3 X.K ρ1 S1 H1/\LocR ρ1 H1 l Z/\Rep ρ1 H1 d x/\End X.K xw Rep ρ1 H1 Q (Pv.po (Pv.Zhu d) S1)) I #[U,l,S,st,lr,h'.bind λd S1 ρ1 H1 v f1 st1 r1 h1=>#[ρ1,S1,d,st1,lr.mono f1,r1,h1]]) λv s1 #[x,H1,I1,r1,ρ1,S1,d,st1,lr1,rd,h2]=>?_
 refine wpAny_Slice ?_;rw[n6];refine ax<|ax ?_;rw[evalPart_some];refine thn (h1.h pq s1 Z H1 (λy H2=>y=.int (-1)/\∃ρ2,Fut ρ1 H1 ρ2 H2/\St3 X.K ρ2 S1 H2) I1 #[ρ1,l,S1,st1,lr1,λρ2 H2 y f2 st2 ry=>#[ry.int',ρ2,f2,st2]]) λvk s2 #[y,H2,I2,ry,ey,ρ2,f2,st2]=>?_
 subst ey;obtain⟨t,rfl⟩:=ry;have rd2:=rd.mono f2;have h3:=End.mono f2 h2;cases d with
 |tup ds=>
  obtain⟨q,xs,rfl,hp,rs⟩:=rd2.tup';cases r1;have I4:Inv X pq Z H2 {s2 with heap:=s2.heap.push {cls:=.type "slice",data:=.fields [.none,.none,.int (-1) t].toArray}}:=I2.kept (t':=s2.toks) λb ob q=>aq _ q
  obtain⟨its,r,ht,hz⟩:=I4.tuple<|SqT.of hp;have hlen:its.toArray.size=xs.length:=by rw[aC];exact r.length.symm
  refine tail_any ht.typeIs cQ.lookup ?_ (by with_unfolding_all rfl)
  refine Vv ht (oB ..) (kO.int _ _) ?_ (by rw[hlen];exact hz)
  refine#[.ref _,_,I4.laid (t':=s2.toks) (o:=.tup xs.reverse) (λb ob q=>aq _ q) (aM _) #[by rw[gV];exact hz,_,r.reverse,iR _ _],rfl,h3.newT st2 rs.reverse _<|I4.hok.fresh<|aM _]
 |_=>exact False.elim h3
end
def zA{a b c}:aG (.Constant a b c::es) env=(aj,c6 (.Constant a b c) env)::aG es env:=rfl
def wX{a b}:aG (.Name a b::es) env=(aj,c6 (.Name a b) env)::aG es env:=rfl
def ZaD{a b c}:aG (.Tuple a b c::es) env=(aj,c6 (.Tuple a b c) env)::aG es env:=rfl
def ZaQ{a b}:aG (.List a b::es) env=(aj,c6 (.List a b) env)::aG es env:=rfl
def uh{a b c}:aG (.Dict a b c::es) env=(aj,c6 (.Dict a b c) env)::aG es env:=rfl
def jc{a b c d}:aG (.BinOp a b c d::es) env=(aj,c6 (.BinOp a b c d) env)::aG es env:=rfl
def ZeB{a b c}:aG (.UnaryOp a b c::es) env=(aj,c6 (.UnaryOp a b c) env)::aG es env:=rfl
def Zab{a b c d}:aG (.Compare a b c d::es) env=(aj,c6 (.Compare a b c d) env)::aG es env:=rfl
def Zaw{a b c}:aG (.Subscript a b c::es) env=(aj,c6 (.Subscript a b c) env)::aG es env:=rfl
def vN{a b c d}:aG (.Call a b c d::es) env=(aj,c6 (.Call a b c d) env)::aG es env:=rfl
def vZ{a b c d}:aG (.ListComp a b c d::es) env=(aj,c6 (.ListComp a b c d) env)::aG es env:=rfl
def Xh:List gL->List (Int×Int)->Prop
 |[],[]=>True
 |e::r,(k,j)::q=>(∃t,e.key=.int k t)/\e.hash=tu k/\(∃u,e.val=.int j u)/\Xh r q
 |_,_=>False
theorem Xh.mem :∀{es:List gL}{tab:List (Int×Int)},Xh es tab->∀e∈es,∃k,(hV P w).is k e.key=am/\e.hash=(hV P w).hash k
 |[],_,_,e,h=>by cases h
 |e::r,[],h,_,_=>h.elim
 |e::r,(k,j)::q,h,x,hx=>by
  obtain⟨⟨t,h1⟩,h2,_,h4⟩:=h;rcases az.mp hx with rfl|hx
  .exact#[k,by rw[h1];exact iV P w k t,h2]
  .exact Xh.mem h4 x hx
theorem Xh.find(k:Int):∀{es:List gL}{tab:List (Int×Int)},Xh es tab->(tab.lookup k=ai->(es.find? λe=>(hV P w).is k e.key)=ai)/\∀j,tab.lookup k=aa j->∃e t,(es.find? λe=>(hV P w).is k e.key)=aa e/\e.val=.int j t
 |[],[],_=>#[λ_=>rfl,λj h=>by cases h]
 |[],_::_,h=>h.elim
 |e::r,[],h=>h.elim
 |e::r,(k',j')::q,h=>by
  obtain⟨⟨t,h1⟩,h2,⟨u,h3⟩,h4⟩:=h;obtain⟨i1,i2⟩:=Xh.find k h4;rw[bU,fj];have hd:(hV P w).is k e.key=af (k=k'):=KeyKind.is_eq_decide (by rw[h1];exact iV P w k' t) k
  rw[hd];by_cases z:k=k'
  .subst z
   rw[beq_self_eq_true,T5 rfl];exact#[λz=>(by cases z),λj z=>(by cases z;exact#[e,u,rfl,h3])]
  .rw[beq_eq_false_iff_ne.mpr z,T4 z]
   exact#[i1,i2]
def Zdd{P:bv}{w:bO}{K:ao}{a:aE}{es:Array gL}{n:Nat}{tab:List (Int×Int)}(hl:K.lookup a=aa #[.type "dict",ai,.dict es n,#[]])(ht:Xh es.toList tab)(ha:(a == de)=aj):ZhT P w K a tab:=by
 refine#[ha,λk=>findBy (hV P w).is es k,λh X=>#[_,es,n,X _ _ hl,#[rfl,rfl,rfl],rfl,λe he=>ht.mem e<|Array.mem_toList_iff.mpr he,λ_=>rfl],λk=>?_]
 obtain⟨l⟩:=es;obtain⟨i1,i2⟩:=Xh.find k ht;refine#[λz=>?_,λj z=>?_]
 .show((l.toArray.find? λe=>(hV P w).is k e.key).map (·.val))=ai
  rw[oF,i1 z];rfl
 .obtain⟨e,t,q1,q2⟩:=i2 j z
  refine#[t,?_];show((l.toArray.find? λe=>(hV P w).is k e.key).map (·.val))=_
  rw[oF,q1];exact congrArg aa q2
def hu7(hr:Room k A):A.units+7<dL:=Nat.lt_of_le_of_lt #[0] hr.un
end
section
def Src(b:Bool)(h:bZ)(it l:aE)(k:Nat):Prop:=match b with
 |true=>h.IsListIter it l k
 |false=>h.IsTupleIter it l k
def YR(b:Bool)(h:bZ)(l:aE)(xs:Array aw):Prop:=match b with
 |true=>h.IsList l xs
 |false=>h.IsTuple l xs
def Src.ext(x:Src b h it l k)(e:fP c h h')(n:it≠c):Src b h' it l k:=by
 cases b
 .exact bZ.IsTupleIter.extBut x e n
 .exact bZ.IsListIter.extBut x e n
def Src.keep(x:Src b h it l k)(e:∀o,h.get? it=aa o->h'.get? it=aa o):Src b h' it l k:=by
 cases b
 .obtain⟨o,ho,r⟩:=x;exact#[o,e o ho,r]
 .obtain⟨o,ho,r⟩:=x;exact#[o,e o ho,r]
def Src.obj(x:Src b h it l k):∃o,h.get? it=aa o/\∀v,o.data≠.cell v:=by
 cases b
 .obtain⟨o,ho,_,d⟩:=x;exact#[o,ho,λv z=>by rw[d]at z;cases z]
 .obtain⟨o,ho,_,d⟩:=x;exact#[o,ho,λv z=>by rw[d]at z;cases z]
def YR.keep(x:YR b h l xs)(e:∀o,h.get? l=aa o->h'.get? l=aa o):YR b h' l xs:=by
 cases b
 .obtain⟨o,ho,r⟩:=x;exact#[o,e o ho,r]
 .obtain⟨o,ho,r⟩:=x;exact#[o,e o ho,r]
def Zb5{Q:aw->ay->Prop}(hit:s.heap.IsTupleIter it t i)(ht:s.heap.IsTuple t items)(hx:items[i]?=aa x)
  (hQ:∀h',h'.IsTupleIter it t (i+1)->eI it s.heap h'->Q x {s with heap:=h' }):aW #[8] A (fb<|.ref it) Q E s:=by
 obtain⟨o,ho,hc,hd⟩:=id hit;obtain⟨ol,hol,_,nl,hdl⟩:=ht;refine ae<|cC hit.typeIs eS<|cx eS hit.typeIs kD ?_<|ku _;show aW _ _ (field (.ref it) 0 >>= _) _ _ s;refine ae<|c8 ho hd rfl ?_;show aW _ _ (if(cW t == bz)=am then _ else _) _ _ s
 rw[T8 (by exact aR)];refine ae<|c8 ho hd rfl ?_
 refine ae<|eU hol hdl ?_;simp only[dm,hx];refine ae<|fN ho hd #[2]<|ax #[x,rfl,ax<|hQ _ #[_,dO _ ho<|eY<|dA hd _,(gv ..).trans hc,?_]<|cU ..]
 rw[dA hd];simp[fC]
def Gh{Q:aw->ay->Prop}(hh:A.handled=ai)(hit:s.heap.IsTupleIter it t i)(ht:s.heap.IsTuple t items)(hx:items[i]?=ai)
  (hE:∀h' e,fP it s.heap h'->(∃o,h'.get? e=aa o/\o.cls=.type "StopIteration")->E (.ref e) {s with heap:=h' }):aW #[8] A (fb<|.ref it) Q E s:=by
 obtain⟨o,ho,hc,hd⟩:=id hit;obtain⟨ol,hol,_,nl,hdl⟩:=ht;refine ae<|cC hit.typeIs eS<|cx eS hit.typeIs kD ?_<|ku _;show aW _ _ (field (.ref it) 0 >>= _) _ _ s;refine ae<|c8 ho hd rfl ?_;show aW _ _ (if(cW t == bz)=am then _ else _) _ _ s
 rw[T8 (by exact aR)];refine ae<|c8 ho hd rfl ?_
 refine ae<|eU hol hdl ?_;simp only[dm,hx];refine ae<|eQ<|ae<|fN ho hd #[2] ?_;show aW _ _ (tH (.type "StopIteration") [] >>= _) _ _ _
 refine ae ?_;simp only[tH,sk];refine ae<|bw ?_ (by size_fits)
 refine ae (fQ (by first|rfl|(simp only[kZ];rfl))<|bw ?_ (by size_fits))
 simp only[raiseNew];refine ae<|n8 ?_;first|rw[hh]|rw[hh]
 exact ae<|ax<|rB<|hE _ _ (((cU ..).extBut.push _).push _) #[_,aI _ rfl,rfl]
def VC{Q:aw->ay->Prop}(hit:Src b s.heap it l k)(hl:YR b s.heap l xs)(hx:xs[k]?=aa x)
  (hQ:∀h',Src b h' it l (k+1)->eI it s.heap h'->Q x {s with heap:=h' }):aW #[8] A (fb<|.ref it) Q E s:=by
 cases b
 .exact Zb5 hit hl hx hQ
 .exact wpAny_nextOf_list_item hit hl hx hQ
def GO{Q:aw->ay->Prop}(hh:A.handled=ai)(hit:Src b s.heap it l k)(hl:YR b s.heap l xs)(hx:xs[k]?=ai)
  (hE:∀h' e,fP it s.heap h'->(∃o,h'.get? e=aa o/\o.cls=.type "StopIteration")->E (.ref e) {s with heap:=h' }):aW #[8] A (fb<|.ref it) Q E s:=by
 cases b
 .exact Gh hh hit hl hx hE
 .exact wpAny_nextOf_list_end hh hit hl hx hE
noncomputable def Yw(b:Bool)(l:aE):fH:={cls:=.type (if b then "list_iterator" else "tuple_iterator"),data:=.fields [.ref l,.int 0 0].toArray}
def Ve{Q:aw->ay->Prop}(hl:YR b s.heap l xs)(h:Q #[25] {s with heap:=s.heap.push (Yw b l)}):aW #[8] A (ot<|.ref l) Q E s:=by
 cases b
 .exact iq hl h
 .exact fq hl h
structure ZipSt(b1 b2:Bool)(z TI TO i1 i2 l1 l2:aE)(k:Nat)(f0:aw)(h:bZ):Prop where
 zp:rC h z TI TO f0
 ti:mQ h TI (.ref i1) (.ref i2)
 to:∃a b,mQ h TO a b
 s1:Src b1 h i1 l1 k
 s2:Src b2 h i2 l2 k
def j4{b1 b2:Bool}{z TI TO i1 i2 l1 l2:aE}{k:Nat}{xs ys:Array aw}{x y:aw}{Q:aw->ay->Prop}(D:nB z TI TO i1 i2 l1 l2)(Z:ZipSt b1 b2 z TI TO i1 i2 l1 l2 k .none s.heap)(hl1:YR b1 s.heap l1 xs)(hl2:YR b2 s.heap l2 ys)(hx:xs[k]?=aa x)(hy:ys[k]?=aa y)
  (hQ:∀h',ZipSt b1 b2 z TI TO i1 i2 l1 l2 (k+1) (fC s.heap.objs.size) h'->mQ h' s.heap.objs.size x y->(∀c o,c∉[z,TO,i1,i2]->s.heap.get? c=aa o->h'.get? c=aa o)->Q #[25] {s with heap:=h' }) :
  aW #[8] A (dG.«zip.__next__» #[[.ref z],[]]) (λfin s'=>∃v,fin=.done (.ret v)/\Q v s') E s:=by
 obtain⟨hz,hTI,⟨a,b,hTO⟩,h1,h2⟩:=Z;show aW _ _ (field (.ref z) 2 >>= _) _ _ _;refine ae<|c8 hz rfl rfl ?_;refine ae<|c8 hz rfl rfl<|ae<|eU hTI rfl ?_;refine ae ?_;refine ae<|c8 hz rfl rfl<|ax ?_;simp only[if_true];refine ae<|eQ<|ae<|c8 hz rfl rfl<|ae<|eV hz #[2] λh₁ hz₁ hs₁=>?_
 replace hz₁:rC h₁ z TI TO .ellipsis:=by exact hz₁
 refine ae ?_;simp only[mm,rM,ko,nC];refine ae<|ae<|l6 ?_;refine ae<|VC (h1.ext hs₁.extBut D.i1z) (hl1.keep λo e=>hs₁.extBut _ o D.l1z e) hx λh₂ h1₂ hs₂=>ax ?_
 have hTO₂:mQ h₂ TO a b:=by exact hs₂.extBut _ _ D.TOi1<|hs₁.extBut _ _ D.TOz hTO
 refine ae<|eU hTO₂ rfl<|ae<|kg hTO₂ λh₃ hTO₃ hs₃=>?_
 replace hTO₃:mQ h₃ TO x b:=by exact hTO₃
 refine ae<|rE<|ax<|ae<|ae<|l6 ?_;have to3:∀c o,c≠z->c≠TO->c≠i1->s.heap.get? c=aa o->h₃.get? c=aa o:=λc o c1 c2 c3 e=>hs₃.extBut _ _ c2<|hs₂.extBut _ _ c3<|hs₁.extBut _ _ c1 e
 refine ae<|VC (h2.keep λo e=>to3 _ o D.i2z D.TOi2.symm D.i12.symm e) (hl2.keep λo e=>to3 _ o D.l2z D.l2TO D.l2i1 e) hy λh₄ h2₄ hs₄=>ax ?_
 have hTO₄:mQ h₄ TO x b:=by exact hs₄.extBut _ _ D.TOi2 hTO₃
 refine ae<|eU hTO₄ rfl<|ae<|kg hTO₄ λh₅ hTO₅ hs₅=>?_
 replace hTO₅:mQ h₅ TO x y:=by exact hTO₅
 refine ae<|rE<|ax<|ax<|ae<|eU hTO₅ rfl<|ae<|wpAny_newTuple ?_;have hsz:h₅.objs.size=s.heap.objs.size:=by rw[hs₅.1,hs₄.1,hs₃.1,hs₂.1,hs₁.1]
 have to5:=λc o c1 c2 c3 c4 e=>hs₅.extBut _ _ c2<|hs₄.extBut _ _ c4<|to3 c o c1 c2 c3 e
 have hz₅:rC h₅ z TI TO .ellipsis:=by exact hs₅.extBut _ _ D.TOz.symm<|hs₄.extBut _ _ D.i2z.symm<|hs₃.extBut _ _ D.TOz.symm<|hs₂.extBut _ _ D.i1z.symm hz₁
 have h1₅:=((h1₂.ext hs₃.extBut D.TOi1.symm).ext hs₄.extBut D.i12).ext hs₅.extBut D.TOi1.symm;have h2₅:=h2₄.ext hs₅.extBut D.TOi2.symm;have zl:=aH hz₅;refine ae ?_;have hz₆:rC (h₅.push {cls:=.type "tuple",data:=.seq [x,y].toArray}) z TI TO .ellipsis:=by exact aq _ hz₅
 refine ae<|eV hz₆ #[2] λh₇ hz₇ hs₇=>?_
 replace hz₇:rC h₇ z TI TO (fC h₅.objs.size):=by exact hz₇
 refine eV hz₇ #[2] λh₈ hz₈ hs₈=>ax #[_,rfl,?_]
 replace hz₈:rC h₈ z TI TO (fC h₅.objs.size):=by exact hz₈
 have up:∀c o,c≠z->h₅.get? c=aa o->h₈.get? c=aa o:=λc o c1 e=>by exact hs₈.extBut _ _ c1<|hs₇.extBut _ _ c1<|aq _ e
 have hT₈:mQ h₈ h₅.objs.size x y:=by exact hs₈.extBut _ _ (eJ zl)<|hs₇.extBut _ _ (eJ zl)<|aI _ rfl
 rw[hsz]at hz₈ hT₈ ⊢;refine hQ h₈ #[hz₈,up _ _ D.TIz<|to5 _ _ D.TIz D.TITO D.TIi1 D.TIi2 hTI,#[x,y,up _ _ D.TOz hTO₅],h1₅.keep λo e=>up _ o D.i1z e,h2₅.keep λo e=>up _ o D.i2z e] hT₈ λc o hc e=>?_
 simp only[az,bx,or_false,not_or]at hc;exact up c o hc.1<|to5 c o hc.1 hc.2.1 hc.2.2.1 hc.2.2.2 e
def Q3{b1 b2:Bool}{z TI TO i1 i2 l1 l2:aE}{k:Nat}{xs ys:Array aw}{Q:Fin->ay->Prop}(hh:A.handled=ai)(D:nB z TI TO i1 i2 l1 l2)(Z:ZipSt b1 b2 z TI TO i1 i2 l1 l2 k .none s.heap)(hl1:YR b1 s.heap l1 xs)(hl2:YR b2 s.heap l2 ys)(hend:xs[k]?=ai\/ys[k]?=ai)
  (hE:∀h' e,(∀c o,c∉[z,TO,i1,i2]->s.heap.get? c=aa o->h'.get? c=aa o)->(∃o,h'.get? e=aa o/\o.cls=.type "StopIteration")->E (.ref e) {s with heap:=h' }) :
  aW #[8] A (dG.«zip.__next__» #[[.ref z],[]]) Q E s:=by
 obtain⟨hz,hTI,⟨a,b,hTO⟩,h1,h2⟩:=Z;have hk:∀{c:aE},c∉[z,TO,i1,i2]->c≠z/\c≠TO/\c≠i1/\c≠i2:=λhc=>by
  simp only[az,bx,or_false,not_or]at hc;exact hc
 show aW _ _ (field (.ref z) 2 >>= _) _ _ _;refine ae<|c8 hz rfl rfl ?_;refine ae<|c8 hz rfl rfl<|ae<|eU hTI rfl ?_;refine ae ?_;refine ae<|c8 hz rfl rfl<|ax ?_;simp only[if_true];refine ae<|eQ<|ae<|c8 hz rfl rfl<|ae<|eV hz #[2] λh₁ hz₁ hs₁=>?_
 replace hz₁:rC h₁ z TI TO .ellipsis:=by exact hz₁
 refine ae ?_;simp only[mm,rM,ko,nC];refine ae<|ae<|l6 ?_;have l1₁:=hl1.keep λo e=>hs₁.extBut _ o D.l1z e
 cases hx:xs[k]? with
 |none=>
  refine ae<|GO hh (h1.ext hs₁.extBut D.i1z) l1₁ hx λh₂ e hs₂ he=>?_
  obtain⟨oe,hoe,hce⟩:=he;have hz₂:rC h₂ z TI TO .ellipsis:=by exact hs₂ _ _ D.i1z.symm hz₁
  have hez:e≠z:=λx=>by subst x;rw[hz₂]at hoe;cases hoe;simp at hce
  exact eV hz₂ #[2] λh₃ _ hs₃=>hE h₃ e (λc o hc x=>hs₃.extBut _ _ (hk hc).1<|hs₂ _ _ (hk hc).2.2.1<|hs₁.extBut _ _ (hk hc).1 x) #[oe,hs₃.extBut _ _ hez hoe,hce]
 |some x=>
  have hy:ys[k]?=ai:=by rcases hend with q|q;rw[hx]at q;cases q;exact q
  refine ae<|VC (h1.ext hs₁.extBut D.i1z) l1₁ hx λh₂ h1₂ hs₂=>ax ?_
  have hTO₂:mQ h₂ TO a b:=by exact hs₂.extBut _ _ D.TOi1<|hs₁.extBut _ _ D.TOz hTO
  refine ae<|eU hTO₂ rfl<|ae<|kg hTO₂ λh₃ hTO₃ hs₃=>?_
  refine ae<|rE<|ax<|ae<|ae<|l6 ?_;have to3:∀c o,c≠z->c≠TO->c≠i1->s.heap.get? c=aa o->h₃.get? c=aa o:=λc o c1 c2 c3 e=>hs₃.extBut _ _ c2<|hs₂.extBut _ _ c3<|hs₁.extBut _ _ c1 e
  refine ae<|GO hh (h2.keep λo e=>to3 _ o D.i2z D.TOi2.symm D.i12.symm e) (hl2.keep λo e=>to3 _ o D.l2z D.l2TO D.l2i1 e) hy λh₄ e hs₄ he=>?_
  obtain⟨oe,hoe,hce⟩:=he;have hz₄:rC h₄ z TI TO .ellipsis:=by exact hs₄ _ _ D.i2z.symm<|hs₃.extBut _ _ D.TOz.symm<|hs₂.extBut _ _ D.i1z.symm hz₁
  have hez:e≠z:=λx=>by subst x;rw[hz₄]at hoe;cases hoe;simp at hce
  exact eV hz₄ #[2] λh₅ _ hs₅=>hE h₅ e (λc o hc x=>hs₅.extBut _ _ (hk hc).1<|hs₄ _ _ (hk hc).2.2.2<|to3 c o (hk hc).1 (hk hc).2.1 (hk hc).2.2.1 x) #[oe,hs₅.extBut _ _ hez hoe,hce]
def xZ{b1 b2:Bool}{z TI TO i1 i2 l1 l2:aE}{k:Nat}{xs ys:Array aw}{x y:aw}{Q:Option aw->ay->Prop}(D:nB z TI TO i1 i2 l1 l2)(Z:ZipSt b1 b2 z TI TO i1 i2 l1 l2 k .none s.heap)(hl1:YR b1 s.heap l1 xs)(hl2:YR b2 s.heap l2 ys)(hx:xs[k]?=aa x)(hy:ys[k]?=aa y)
  (hQ:∀h',ZipSt b1 b2 z TI TO i1 i2 l1 l2 (k+1) (fC s.heap.objs.size) h'->mQ h' s.heap.objs.size x y->(∀c o,c∉[z,TO,i1,i2]->s.heap.get? c=aa o->h'.get? c=aa o)->Q (aa<|.ref s.heap.objs.size) {s with heap:=h' }) :
  aW #[8] A (kl<|.ref z) Q E s:=by
 have hT:s.TypeIs (.ref z) "zip":=#[_,Z.zp,rfl];exact ae<|gZ<|cC hT kw<|cx kw hT pU (j4 D Z hl1 hl2 hx hy λh' a1 a2 a3=>ax<|hQ h' a1 a2 a3)<|o9 _
def Qt{b1 b2:Bool}{z TI TO i1 i2 l1 l2:aE}{k:Nat}{xs ys:Array aw}{Q:Option aw->ay->Prop}(hh:A.handled=ai)(D:nB z TI TO i1 i2 l1 l2)(Z:ZipSt b1 b2 z TI TO i1 i2 l1 l2 k .none s.heap)(hl1:YR b1 s.heap l1 xs)(hl2:YR b2 s.heap l2 ys)(hend:xs[k]?=ai\/ys[k]?=ai)
  (hQ:∀h',(∀c o,c∉[z,TO,i1,i2]->s.heap.get? c=aa o->h'.get? c=aa o)->Q ai {s with heap:=h' }):aW #[8] A (kl<|.ref z) Q E s:=by
 have hT:s.TypeIs (.ref z) "zip":=#[_,Z.zp,rfl];refine ae<|gZ<|cC hT kw<|cx kw hT pU (Q3 hh D Z hl1 hl2 hend λh' e hk he=>?_)<|o9 _
 obtain⟨o,ho,hc⟩:=he;exact ae<|eO #[o,ho,hc] nD<|ax<|hQ _ hk
def zH1(h:bZ)(b1:Bool)(l1:aE):bZ:=h.push<|Yw b1 l1
def zH2(h:bZ)(b1 b2:Bool)(l1 l2:aE):bZ:=(zH1 h b1 l1).push<|Yw b2 l2
def zH3(h:bZ)(b1 b2:Bool)(l1 l2:aE):bZ:=(zH2 h b1 b2 l1 l2).push {cls:=.type "tuple",data:=.seq [.ref h.objs.size,.ref (zH1 h b1 l1).objs.size].toArray}
def zH4(h:bZ)(b1 b2:Bool)(l1 l2:aE):bZ:=(zH3 h b1 b2 l1 l2).push {cls:=.type "tuple",data:=.seq [.none,.none].toArray}
def zH5(h:bZ)(b1 b2:Bool)(l1 l2:aE):bZ:=(zH4 h b1 b2 l1 l2).push {cls:=.type "zip",data:=.fields [.none,.bool aj,.bool aj,.ref (zH2 h b1 b2 l1 l2).objs.size,.ref (zH3 h b1 b2 l1 l2).objs.size].toArray}
def Zdq(b1 b2:Bool)(l1 l2:aE)(xs ys:Array aw) :
  si (dG.«zip.__new__» #[[.type "zip",.ref l1,.ref l2],[]]) (λ_ R s=>YR b1 s.heap l1 xs/\YR b2 s.heap l2 ys/\R (.ok<|.ret<|.ref (zH4 s.heap b1 b2 l1 l2).objs.size) {s with heap:=zH5 s.heap b1 b2 l1 l2}):=
 .of_wp λprog w A R s h=>by
  obtain⟨hp,g,d,tk,os⟩:=s;obtain⟨hl1,hl2,h⟩:=h;have hsub:=sub_zip;have hL1:=hl1;have hL2:YR b2 (ay.heap #[hp.push<|Yw b1 l1,g,d,tk,os]) l2 ys:=hl2.keep λo e=>aq _ e
  wp_walk using Ve hL1,Ve hL2
  exact#[_,rfl,h]
def ZaH{Q:aw->ay->Prop}(hl1:YR b1 s.heap l1 xs)(hl2:YR b2 s.heap l2 ys)
  (h:∀h' n,n=s.heap.objs.size->ZipSt b1 b2 (n+4) (n+2) (n+3) n (n+1) l1 l2 0 .none h'->(∀c o,s.heap.get? c=aa o->h'.get? c=aa o)->Q (.ref<|n+4) {s with heap:=h' }) :
  aW #[8] A (call (.type "zip") [.ref l1,.ref l2]) Q E s:=by
 refine callType_new F.called_zip #[1] (F.typeCall_zip_2 _ _) (F.newCall_zip_2 _ _) (λobj=>F.args_object_init_3 obj _ _) F.entry_zip_new (Zdq b1 b2 l1 l2 xs ys) #[hl1,hl2,?_]
 have z1:(zH1 s.heap b1 l1).objs.size=s.heap.objs.size+1:=cY ..;have z2:(zH2 s.heap b1 b2 l1 l2).objs.size=s.heap.objs.size+2:=by unfold zH2;rw[cY,z1]
 have z3:(zH3 s.heap b1 b2 l1 l2).objs.size=s.heap.objs.size+3:=by unfold zH3;rw[cY,z2]
 have z4:(zH4 s.heap b1 b2 l1 l2).objs.size=s.heap.objs.size+4:=by unfold zH4;rw[cY,z3]
 have g5:(zH5 s.heap b1 b2 l1 l2).get? (zH4 s.heap b1 b2 l1 l2).objs.size=aa {cls:=.type "zip",data:=.fields [.none,.bool aj,.bool aj,.ref (zH2 s.heap b1 b2 l1 l2).objs.size,.ref (zH3 s.heap b1 b2 l1 l2).objs.size].toArray}:=aI _ rfl;have k4:∀c o,(zH4 s.heap b1 b2 l1 l2).get? c=aa o->(zH5 s.heap b1 b2 l1 l2).get? c=aa o:=λc o e=>aq _ e
 have k3:=λc o e=>k4 c o<|aq _ e
 have k2:=λc o e=>k3 c o<|aq _ e
 have k1:=λc o e=>k2 c o<|aq _ e
 have g4:=k4 _ _<|aI (zH3 s.heap b1 b2 l1 l2) rfl;have g3:=k3 _ _<|aI (zH2 s.heap b1 b2 l1 l2) rfl;have g2:=k2 _ _<|aI (zH1 s.heap b1 l1) rfl;have g1:=k1 _ _<|aI s.heap rfl;rw[z2,z3,z4]at g5;rw[z1,z2]at g3;rw[z3]at g4;rw[z1]at g2;rw[z4];have src:∀b l it,(zH5 s.heap b1 b2 l1 l2).get? it=aa (Yw b l)->Src b (zH5 s.heap b1 b2 l1 l2) it l 0:=λb l it e=>by
  cases b
  .exact#[_,e,rfl,rfl]
  .exact#[_,e,rfl,rfl]
 exact#[#[_,g5,rfl],h _ _ rfl #[g5,g3,#[_,_,g4],src b1 l1 _ g1,src b2 l2 _ g2] λc o e=>k1 c o<|aq _ e]
open Ev (E Sm Fn Bop Cop Ty Bf Mf)
def Wt{X:Cx}{pq:List (aE×fH)}{Z:L2.St}{H:Hp}{s:ay}{h':bZ}{t':Nat}{ch:List aE}(I:Inv X pq Z H s)(k:∀b o,b∉ch->s.heap.get? b=aa o->h'.get? b=aa o)(hf:∀b∈ch,VQ X pq H b):Inv X pq Z H {s with heap:=h',toks:=t' }:=by
 have nit:∀b u,H b=aa u->b∉ch:=λb u e z=>by have:=(hf b z).1;rw[e]at this;cases this
 refine I.step (g':=s.gens) (d':=s.drawn) (λb hb=>?_) (λb o _ _ hc e _=>k b o hc e) (λb o _ _ hc e _=>#[o.slots,k b o hc e]) (λ_ _ _ _ n=>n) (λb o hc e=>#[o,k b o hc e]) (λ_ _ e=>e) (λ_ _ _ e=>e) (λb ps e=>#[#[],by rw[e];simp]) (λm hm=>?_) (λb u e=>?_) I.bare
 .exact#[(hf b hb).2.2.2.1,(hf b hb).2.1,(hf b hb).2.2.2.2.1,(hf b hb).2.2.2.2.2]
 .obtain⟨o,es,ep,ho,r⟩:=hm
  exact#[o,es,ep,k _ o (λz=>(hf _ z).2.1 rfl) ho,r]
 .refine(I.hok b u e).stay (λc v hc q=>k c v ?_ q) (λ_ q=>q) λ_ _ q=>q
  rcases hc with z|z
  .rw[z];exact nit b u e
  .exact nit c _ z
def Jv{h:bZ}{o o':fH}{b:aE}(e:(h.push o').get? b=aa o)(n:b≠h.objs.size):h.get? b=aa o:=by
 unfold bZ.get? bZ.push at *;simp only[Array.getElem?_push]at e;rw[T8 n]at e;exact e
def We{a b:Nat}(h:a<b\/b<a):(a:aE)≠b:=λe=>by
 have e':=e;omega
def Sq(b:Bool)(K:ao)(H:Hp)(l:aE)(xs:List V):Prop:=match b with
 |true=>SqL K H l xs
 |false=>SqT K H l xs
def Y0(I:Inv X pq Z H s)(h:Sq b X.K H l xs):∃its:List aw,Vals xs its/\YR b s.heap l its.toArray:=by
 cases b
 .obtain⟨its,r,p,_⟩:=I.tuple h;exact#[its,r,p]
 .obtain⟨its,r,p,_⟩:=I.list h;exact#[its,r,p.isList]
def xT(I:Inv X pq Z H s)(h:Sq b X.K H l xs)(h':Sq b X.K H l ys):xs=ys:=by
 cases b
 .exact I.tuple_inj h h'
 .exact I.list_inj h h'
def Vk(x:YR b h l xs):l<h.objs.size:=by
 cases b
 .obtain⟨o,ho,_⟩:=x;exact aH ho
 .obtain⟨o,ho,_⟩:=x;exact aH ho
def Itz(K:ao)(b1 b2:Bool)(l1 l2:aE):It:=
 #[λi H=>∃xs ys x y,Sq b1 K H l1 xs/\Sq b2 K H l2 ys/\xs[i]?=aa x/\ys[i]?=aa y,
  λi H v H'=>∃T x y,(∀xs,Sq b1 K H l1 xs->xs[i]?=aa x)/\(∀ys,Sq b2 K H l2 ys->ys[i]?=aa y)/\H T=ai/\H'=upd H T (.tup [x,y])/\v=.ref T,
  λi H=>∃xs ys,Sq b1 K H l1 xs/\Sq b2 K H l2 ys/\(xs.length<=i\/ys.length<=i)]
def Zan{P:bv}{w:bO}{K:ao}{elts:List Expr}{kk:Nat}{tp:gu}{b1 b2:Bool}{z TI TO i1 i2 l1 l2:aE}(D:nB z TI TO i1 i2 l1 l2) :
  Turn P w K (.Tuple elts kk tp) (Itz K b1 b2 l1 l2) [z,TI,TO,i1,i2] z (λi h=>ZipSt b1 b2 z TI TO i1 i2 l1 l2 i .none h) where
 mem:=by simp
 obj:=λi h st b hb=>by
  simp only[az,bx,or_false]at hb;obtain⟨a,c,hTO⟩:=st.to;rcases hb with e|e|e|e|e<;>subst e
  .exact#[_,st.zp,λv q=>by cases q]
  .exact#[_,st.ti,λv q=>by cases q]
  .exact#[_,hTO,λv q=>by cases q]
  .exact st.s1.obj
  .exact st.s2.obj
 keep:=λi h h' st k=>by
  obtain⟨a,c,hTO⟩:=st.to;exact#[k z #[2] _ st.zp,k TI #[2] _ st.ti,#[a,c,k TO #[2] _ hTO],st.s1.keep λo e=>k i1 #[2] o e,st.s2.keep λo e=>k i2 #[2] o e]
 item:=by
  intro X hP hw hK hc i pq s Z H E I hf st hg;subst hP hw hK;obtain⟨xs,ys,x,y,hq1,hq2,hx,hy⟩:=hg;obtain⟨its,rv,o1⟩:=Y0 I hq1;obtain⟨its2,rv2,o2⟩:=Y0 I hq2;obtain⟨u,hu,ru⟩:=rv.get hx;obtain⟨u2,hu2,ru2⟩:=rv2.get hy;refine xZ D st o1 o2 (by simpa using hu) (by simpa using hu2) λh' Z' hT hk=>?_
  have hfree:=I.hok.fresh<|aM _;have ltz:∀b∈[z,TI,TO,i1,i2],b≠s.heap.objs.size:=λb hb e=>by
   simp only[az,bx,or_false]at hb;obtain⟨a,c,hTO⟩:=st.to;rcases hb with q|q|q|q|q<;>subst q
   .exact T7 (aH st.zp) (by rw[e];exact bB _)
   .exact T7 (aH st.ti) (by rw[e];exact bB _)
   .exact T7 (aH hTO) (by rw[e];exact bB _)
   .obtain⟨o,ho,_⟩:=st.s1.obj;exact T7 (aH ho) (by rw[e];exact bB _)
   .obtain⟨o,ho,_⟩:=st.s2.obj;exact T7 (aH ho) (by rw[e];exact bB _)
  have IA:Inv X pq Z (upd H s.heap.objs.size<|.tup [x,y]) {s with heap:=s.heap.push {cls:=.type "tuple",data:=.seq [u,u2].toArray},toks:=s.toks}:=
   I.laid (λb o e=>aq _ e) (aM _) #[by show 2<=ba;decide,[u,u2],.cons ru<|.cons ru2 .nil,iR _ _]
  have hf2:∀b∈[z,TI,TO,i1,i2],VQ X pq (upd H s.heap.objs.size<|.tup [x,y]) b:=λb hb=>#[by rw[Zj<|ltz b hb];exact(hf b hb).1,(hf b hb).2]
  have IB:Inv X pq Z (upd H s.heap.objs.size<|.tup [x,y]) {s with heap:=h',toks:=s.toks}:=by
   refine Wt (s:={s with heap:=s.heap.push {cls:=.type "tuple",data:=.seq [u,u2].toArray},toks:=s.toks}) (ch:=[z,TO,i1,i2]) IA (λb o hb e=>?_) λb hb=>hf2 b (by simp only[az,bx,or_false]at hb ⊢;rcases hb with q|q|q|q<;>simp[q])
   by_cases hbs:b=s.heap.objs.size
   .subst hbs
    have e':=e;rw[aI _ rfl]at e';cases e';exact hT
   .refine hk b o hb ?_
    have e':=e;have hlt:=aH e';rw[cY]at hlt;exact Jv e' hbs
  refine#[.ref s.heap.objs.size,rfl,wpAny_letOwnedTupleGo_zip Z'.zp λh2 hz2 hs2=>?_]
  have IC:Inv X pq Z (upd H s.heap.objs.size<|.tup [x,y]) {s with heap:=h2,toks:=s.toks}:=Wt (s:={s with heap:=h',toks:=s.toks}) (ch:=[z]) IB (λb o hb e=>(hs2.2 b<|by simpa using hb).trans e) λb hb=>hf2 b (by simp only[bc]at hb;simp[hb])
  obtain⟨a,c,hTO⟩:=Z'.to;refine#[.ref s.heap.objs.size,_,IC,rfl,#[_,x,y,λzs hz=>by rw[xT I hz hq1];exact hx,λzs hz=>by rw[xT I hz hq2];exact hy,hfree,rfl,rfl],?_,λb hb=>(hf2 b hb).1]
  exact#[hz2,hs2.extBut _ _ D.TIz Z'.ti,#[a,c,hs2.extBut _ _ D.TOz hTO],Z'.s1.ext hs2.extBut D.i1z,Z'.s2.ext hs2.extBut D.i2z]
 done:=by
  intro X hP hw hK hc i pq s Z H E I hf st hg;subst hP hw hK;obtain⟨xs,ys,hq1,hq2,hend⟩:=hg;obtain⟨its,rv,o1⟩:=Y0 I hq1;obtain⟨its2,rv2,o2⟩:=Y0 I hq2;have e1:=rv.length;have e2:=rv2.length;refine Qt (I.ok.hd hc) D st o1 o2 (by rcases hend with q|q;exact .inl (by simp;omega);exact .inr<|by simp;omega) λh' hk=>#[rfl,Wt (t':=s.toks) I (λb o hb e=>hk b o hb e) λb hb=>hf b (by simp only[az,bx,or_false]at hb ⊢;rcases hb with q|q|q|q<;>simp[q])]
 self:=λ_ _ _ _ _ st h=>wpAny_pyIter_zip st.zp h
def Zin(K:ao)(ta:TA):TI:=λZ H R=>ta Z H λvs H1=>∃b1 b2 l1 l2,vs=[.ref l1,.ref l2]/\(∃xs,Sq b1 K H1 l1 xs)/\(∃ys,Sq b2 K H1 l2 ys)/\R (Itz K b1 b2 l1 l2) H1
def ZfF{a b:Expr}{ta:TA}{p pos:gu}(hg:Gl X "zip")(hm:X.mg "zip" = ai)(ha:PA X [a,b] ta)(hs:aG [a,b] X.env=[(aj,c6 a X.env),(aj,c6 b X.env)]:=by rfl)(hs2:aG [b] X.env=[(aj,c6 b X.env)]:=by rfl) :
  PI X (.Tuple elts kk tp) (.Call (.Name "zip" p) [a,b] [] pos) (Zin X.K ta):=by
 intro pq s Z H R I h;refine Call_<|Xj I hg hm #[7]<|dg (thn (ha pos pq s Z H _ I h) λus s1 #[vs,H1,I1,r1,q1]=>?_) (by rw[hs,hs2]) (by rw[hs2];rfl)
 obtain⟨b1,b2,l1,l2,e,⟨xs,hq1⟩,⟨ys,hq2⟩,q⟩:=q1;subst e;cases r1 with
 |cons r rr=>
  cases rr with
  |cons r' rr=>
   cases rr;cases r;cases r';obtain⟨its,rv,o1⟩:=Y0 I1 hq1;obtain⟨its2,rv2,o2⟩:=Y0 I1 hq2;have lt1:=Vk o1;have lt2:=Vk o2;refine ZaH o1 o2 λh' n hn Y hk=>?_
   have I2:=I1.kept (t':=s1.toks) hk
   have q1:(l1:Nat)<n:=by rw[hn];exact lt1
   have q2:(l2:Nat)<n:=by rw[hn];exact lt2
   have D:nB (n+4) (n+2) (n+3) n (n+1) l1 l2:=by constructor<;>first|exact We #[3]|exact We<|.inl<|bo q1<|dS n _|exact We<|.inl<|bo q2<|dS n _|exact We<|.inl q1|exact We<|.inl q2
   refine wpAny_pyIter_zip Y.zp #[n+4,[n+4,n+2,n+3,n,n+1],_,_,H1,rfl,I2,Zan D,Y,λb hb=>?_,q]
   have hbn:s1.heap.objs.size<=b:=by
    rw[<-hn];simp only[az,bx,or_false]at hb;rcases hb with e|e|e|e|e<;>rw[e]
    .exact dS n 4
    .exact dS n 2
    .exact dS n 3
    .exact aM n
    .exact dS n 1
   exact I1.fpOk hbn<|I1.hok.fresh hbn
def Side(K:ao)(U:Mx)(H:Hp)(wk:List D)(b:Bool)(l:aE):Prop:=∀ρ' H',Lat U H ρ' H'->∃vs,Sq b K H' l vs/\Rq ρ' H' wk vs
def G4{K:ao}{U:Mx}{H:Hp}{x:D}{v:V}{wk:List D}(hk:U.K=K)(r:Rep U H x v)(h:Pv.Yx x=aa wk):∃b l,v=.ref l/\(∃xs,Sq b K H l xs)/\Side K U H wk b l:=by
 cases x with
 |tup ds=>
  obtain⟨a,xs,rfl,hp,rs⟩:=r.tup';cases h;exact#[aj,a,rfl,#[xs,SqT.of hp],λρ' H' f=>#[xs,SqT.of (f.keep a _ hp λ_ z=>by cases z),rs.lat f]]
 |lst ds=>
  obtain⟨a,xs,rfl,hp,hx,rs⟩:=r.lst';cases h;exact#[am,a,rfl,#[xs,SqL.of hp],λρ' H' f=>#[xs,SqL.of<|f.keep a _ hp λ_ _=>hx,rs.lat f]]
 |scr ns=>
  obtain⟨a,rfl,hp⟩:=r.scr';cases h;rw[hk]at hp;refine#[am,a,rfl,#[_,hp.sq],λρ' H' f=>#[_,?_,Rq.ints ns]]
  rcases hp with⟨o,hp⟩|hp
  .exact .inl<|.inr #[o,f.keep a _ hp λ_ z=>by cases z]
  .exact .inr hp
 |_=>exact Ev.nos h
def jB{K:ao}{U:Mx}{H:Hp}{v w:List D}{b1 b2:Bool}{l1 l2:aE}(h1:Side K U H v b1 l1)(h2:Side K U H w b2 l2):WRel K U H ((v.zip w).map λp=>.tup [p.1,p.2]) (Itz K b1 b2 l1 l2) where
 go:=λi ρ' S' H' f st hi=>by
  obtain⟨xs,q1,r1⟩:=h1 ρ' H' f;obtain⟨ys,q2,r2⟩:=h2 ρ' H' f;have hi':i<sO v.length w.length:=by simpa using hi
  have ha:=(oG.mp hi').1;have hb:=(oG.mp hi').2;obtain⟨x,g1,rx⟩:=r1.get<|ag ha;obtain⟨y,g2,ry⟩:=r2.get<|ag hb;refine#[#[xs,ys,x,y,q1,q2,g1,g2],λu H'' #[T,x',y',e1,e2,hT,eH,eu]=>?_]
  subst eH eu;have ex:=(e1 xs q1).symm.trans g1;have ey:=(e2 ys q2).symm.trans g2;cases ex;cases ey;refine#[Zv hT,st.fresh hT,λd hd=>?_]
  have hz:(v.zip w)[i]?=aa (v[i],w[i]):=gQ.mpr #[ag ha,ag hb];rw[aQ,hz]at hd;cases hd;exact Xd Zl<|Rq.cons (rx.mono<|Zv hT)<|Rq.cons (ry.mono<|Zv hT) Rq.nil
 stop:=λρ' S' H' f st=>by
  obtain⟨xs,q1,r1⟩:=h1 ρ' H' f;obtain⟨ys,q2,r2⟩:=h2 ρ' H' f;refine#[xs,ys,q1,q2,?_];show xs.length<=((v.zip w).map λp=>Pv.V.tup [p.1,p.2]).length\/_
  rw[r1.length,r2.length,aA,gh];omega
section
variable{X:Cx}{xw:Nat->Hp->Prop}{C:Calls}{a b:Expr}{i j:E}{pos p tp:gu}{elts:List Expr}{kk:Nat}
def Ze1(hm:X.mg "zip" = ai)(ha:CA X xw C [a,b] [i,j])(hg:Gl X "zip")(hs:aG [a,b] X.env=[(aj,c6 a X.env),(aj,c6 b X.env)])(hs2:aG [b] X.env=[(aj,c6 b X.env)]) :
  CW X xw C (.Tuple elts kk tp) (.Call (.Name "zip" p) [a,b] [] pos) (.zip i j):=.mk <|
 PI.imp (ZfF hg hm ha.h hs hs2) λZ H Q #[U,l,S,st,lr,h]=>ZeE st lr h λx y S1 ρ1 H1 v u st1 rv ru h1=>by
  cases e1:Pv.Yx x with
  |none=>rw[e1]at h1;exact False.elim h1
  |some v1=>
   cases e2:Pv.Yx y with
   |none=>rw[e1,e2]at h1;exact False.elim h1
   |some v2=>
    rw[e1,e2]at h1;obtain⟨b1,l1,rfl,s1,d1⟩:=G4 st1.hk rv e1;obtain⟨b2,l2,rfl,s2,d2⟩:=G4 st1.hk ru e2;exact#[b1,b2,l1,l2,rfl,s1,s2,End.ok h1 st1<|jB d1 d2]
end
def JV(hh:A.handled=ai)(b:Bool)(it l:aE)(hne:l≠it)(xs:Array aw) :
  Draws prog w A it [it,l] xs.size (λi v=>xs[i]?=aa v) (λi h=>Src b h it l i/\YR b h l xs) where
 live:=λ_ _ st=>let #[o,ho,_]:=st.1.obj;#[o,ho]
 frame:=λ_ _ _ st hk=>#[st.1.keep λo e=>hk it #[2] o e,st.2.keep λo e=>hk l #[2] o e]
 item:=λi s Q E hi st hQ=>VC st.1 st.2 (bp hi) λh' hit' hs'=>hQ _ h' s.toks (bp hi) #[hit',st.2.keep λo e=>hs'.extBut _ o hne e] hs'
 done:=λs Q E st hE=>GO hh st.1 st.2 (iH<|aM _) hE
def Ite(K:ao)(b:Bool)(l:aE):It:=
 #[λi H=>∃xs x,Sq b K H l xs/\xs[i]?=aa x,
  λi H v H'=>∃T x,(∀xs,Sq b K H l xs->xs[i]?=aa x)/\H T=ai/\H'=upd H T (.tup [.int i,x])/\v=.ref T,
  λi H=>∃xs,Sq b K H l xs/\xs.length=i]
def u7{P:bv}{w:bO}{K:ao}{elts:List Expr}{kk:Nat}{tp:gu}{b:Bool}{e it l:aE}(hei:e≠it)(hle:l≠e)(hli:l≠it) :
  Turn P w K (.Tuple elts kk tp) (Ite K b l) [e,it] e (λi h=>(∃old,IsEnum h e it i old)/\Src b h it l i) where
 mem:=by simp
 obj:=λi h st c hc=>by
  simp only[az,bx,or_false]at hc;obtain⟨⟨old,he⟩,hs⟩:=st;rcases hc with q|q<;>subst q
  .exact#[_,he,λv q=>by cases q]
  .exact hs.obj
 keep:=λi h h' st k=>by
  obtain⟨⟨old,he⟩,hs⟩:=st;exact#[#[old,k e #[2] _ he],hs.keep λo q=>k it #[2] o q]
 item:=by
  intro X hP hw hK hc i pq s Z H E I hf st hg;subst hP hw hK;obtain⟨xs,x,hq,hx⟩:=hg;obtain⟨its,rv,o1⟩:=Y0 I hq;obtain⟨⟨old,he⟩,hs⟩:=st;obtain⟨u,hu,ru⟩:=rv.get hx;have hlt:i<its.toArray.size:=by
   have:=(aK.mp hu).1
   simpa using this
  have hh:X.A.in1.handled=ai:=I.ok.hd hc;refine wpAny_pyNext_enum_itemD (JV hh b it l hli its.toArray) he #[hs,o1] hlt hei (by simp only[az,bx,or_false,not_or];exact#[hei,Ne.symm hle]) λx' h' tk hP ho hst hT hsz hk=>?_
  have ex:x'=u:=by
   have:its.toArray[i]?=aa u:=by simpa using hu
   rw[this]at hP;exact(au hP).symm
  subst ex;have hfree:=I.hok.fresh<|aM _;have ltz:∀c∈[e,it],c≠s.heap.objs.size:=λc hc q=>by
   simp only[az,bx,or_false]at hc;rcases hc with z|z<;>subst z
   .exact T7 (aH he) (by rw[q];exact bB _)
   .obtain⟨o,ho,_⟩:=hs.obj;exact T7 (aH ho) (by rw[q];exact bB _)
  have IA:Inv X pq Z (upd H s.heap.objs.size<|.tup [.int i,x]) {s with heap:=s.heap.push {cls:=.type "tuple",data:=.seq [.int i tk,x'].toArray},toks:=tk+1}:=
   I.laid (λc o q=>aq _ q) (aM _) #[by show 2<=ba;decide,[.int i tk,x'],.cons #[tk,rfl]<|.cons ru .nil,iR _ _]
  have hf2:∀c∈[e,it],VQ X pq (upd H s.heap.objs.size<|.tup [.int i,x]) c:=λc hc=>#[by rw[Zj<|ltz c hc];exact(hf c hc).1,(hf c hc).2]
  have IB:Inv X pq Z (upd H s.heap.objs.size<|.tup [.int i,x]) {s with heap:=h',toks:=tk+1}:=by
   refine Wt (s:={s with heap:=s.heap.push {cls:=.type "tuple",data:=.seq [.int i tk,x'].toArray},toks:=tk+1}) IA (λc o hc q=>?_) hf2
   by_cases hcs:c=s.heap.objs.size
   .subst hcs
    have q':=q;rw[aI _ rfl]at q';cases q';exact hT
   .simp only[az,bx,or_false,not_or]at hc
    exact hk c o hc.1 hc.2<|Jv q hcs
  refine#[.ref s.heap.objs.size,rfl,wpAny_letOwnedTupleGo_enum ho λh2 he2 hs2=>?_]
  have IC:Inv X pq Z (upd H s.heap.objs.size<|.tup [.int i,x]) {s with heap:=h2,toks:=tk+1}:=Wt (s:={s with heap:=h',toks:=tk+1}) (ch:=[e]) IB (λc o hc q=>(hs2.2 c<|by simpa using hc).trans q) λc hc=>hf2 c (by simp only[bc]at hc;simp[hc])
  refine#[.ref s.heap.objs.size,_,IC,rfl,#[_,x,λzs hz=>by rw[xT I hz hq];exact hx,hfree,rfl,rfl],#[#[x',by simpa using he2],hst.1.ext hs2.extBut<|Ne.symm hei],λc hc=>(hf2 c hc).1]
 done:=by
  intro X hP hw hK hc i pq s Z H E I hf st hg;subst hP hw hK;obtain⟨xs,hq,hend⟩:=hg;obtain⟨its,rv,o1⟩:=Y0 I hq;obtain⟨⟨old,he⟩,hs⟩:=st;have e1:=rv.length;have hh:X.A.in1.handled=ai:=I.ok.hd hc;have en:i=its.toArray.size:=by simp;lia
  subst en;exact wpAny_pyNext_enum_endD (JV hh b it l hli its.toArray) he #[hs,o1] λh' hx=>#[rfl,Wt (t':=s.toks) I (λc o hc q=>hx c o (λz=>hc<|by simp[z]) q) hf]
 self:=λ_ _ _ _ _ st h=>by
  obtain⟨⟨old,he⟩,_⟩:=st;exact pb he h
section
variable{prog:bv}{w:bO}{A:b9}{E:aw->ay->Prop}{s:ay}
def ZaR(l:aE)(items:Array aw)(n:Nat)(dct:Option aE)(sl:Array (Option aw)) :
  si (dG.«enumerate.__new__» #[[.type "enumerate",.ref l],[]]) (λ_ R s=>s.heap.get? l=aa {cls:=.type "tuple",dict:=dct,data:=.seq items n,slots:=sl}/\
   R (.ok<|.ret<|.ref (s.heap.push<|Yw aj l).objs.size) {s with heap:=(s.heap.push<|Yw aj l).push {cls:=.type "enumerate",data:=.fields [.none,.bool aj,.ref s.heap.objs.size,fC 0,.none,.none].toArray}}):=
 .of_wp λprog w A R s h=>by
  obtain⟨hp,g,d,tk,os⟩:=s;obtain⟨hl,h⟩:=h;have hsub:=sub_enumerate;have hL:bZ.IsTuple (ay.heap #[hp,g,d,tk,os]) l items:=#[_,hl,rfl,n,rfl]
  wp_walk using g7 hl;refine wpAny_stack_any λst=>ax ?_;split
  .rename_i c _ _ _ _ _;cases(c == on "enumerate")<;>(wp_walk using g7 hl,iq hL;exact#[_,rfl,h])
  .wp_walk using g7 hl,iq hL;exact#[_,rfl,h]
def qh{Q:aw->ay->Prop}(hL:YR b s.heap l xs)
  (h:∀h' n,n=s.heap.objs.size->IsEnum h' (n+1) n 0 .none->Src b h' n l 0->(∀c o,s.heap.get? c=aa o->h'.get? c=aa o)->Q (.ref<|n+1) {s with heap:=h' }):aW #[8] A (call (.type "enumerate") [.ref l]) Q E s:=by
 cases b with
 |true=>exact call_enumerate_list hL λh' a1 a2 _ a4=>h h' _ rfl a1 a2 a4
 |false=>
  obtain⟨⟨c,dct,dt,sl⟩,hl,hc,n,hd⟩:=hL;simp only at hc hd;subst hc hd;refine callType_new F.called_enumerate #[1] (F.typeCall_enumerate_1 _) (F.newCall_enumerate_1 _) (λobj=>F.args_object_init_2 obj _) F.entry_enumerate_new (ZaR l xs n dct sl) #[hl,?_]
  have hz:(s.heap.push<|Yw aj l).objs.size=s.heap.objs.size+1:=cY ..;have g2:=aI (s.heap.push<|Yw aj l) (o:={cls:=.type "enumerate",data:=.fields [.none,.bool aj,.ref s.heap.objs.size,fC 0,.none,.none].toArray}) rfl;have g1:((s.heap.push<|Yw aj l).push {cls:=.type "enumerate",data:=.fields [.none,.bool aj,.ref s.heap.objs.size,fC 0,.none,.none].toArray}).get? s.heap.objs.size=aa (Yw aj l):=aq _<|aI _ rfl;rw[hz]at g2 ⊢;exact#[#[_,g2,rfl],h _ _ rfl g2 #[_,g1,rfl,rfl] λc o q=>aq _<|aq _ q]
end
def Zg3(K:ao)(ta:TA):TI:=λZ H R=>ta Z H λvs H1=>∃b l,vs=[.ref l]/\(∃xs,Sq b K H1 l xs)/\R (Ite K b l) H1
def Zd8{a:Expr}{ta:TA}{p pos:gu}(hg:Gl X "enumerate")(hm:X.mg "enumerate" = ai)(ha:PA X [a] ta)(hs:aG [a] X.env=[(aj,c6 a X.env)]:=by rfl):PI X (.Tuple elts kk tp) (.Call (.Name "enumerate" p) [a] [] pos) (Zg3 X.K ta):=by
 intro pq s Z H R I h;refine Call_<|Xj I hg hm #[7]<|dg (thn (ha pos pq s Z H _ I h) λus s1 #[vs,H1,I1,r1,q1]=>?_) hs rfl
 obtain⟨b,l,e,⟨xs,hq⟩,q⟩:=q1;subst e;cases r1 with
 |cons r rr=>
  cases rr;cases r;obtain⟨its,rv,o1⟩:=Y0 I1 hq;have lt1:=Vk o1;refine qh o1 λh' n hn he hs' hk=>?_
  have I2:=I1.kept (t':=s1.toks) hk
  have q1:(l:Nat)<n:=by rw[hn];exact lt1
  refine pb he #[n+1,[n+1,n],_,_,H1,rfl,I2,u7 (We<|.inr<|fM n) (We<|.inl<|cH q1)<|We<|.inl q1,#[#[_,he],hs'],λc hc=>?_,q]
  have hbn:s1.heap.objs.size<=c:=by
   rw[<-hn];simp only[az,bx,or_false]at hc;rcases hc with e|e<;>rw[e]
   .exact lO n
   .exact aM n
  exact I1.fpOk hbn<|I1.hok.fresh hbn
def qY{lo:Int}{n i:Nat}(h:i<n):(Pv.Z5 lo n)[i]?=aa (.int<|lo+i):=by
 unfold Pv.Z5;rw[aQ,cT h];rfl
def qP{K:ao}{U:Mx}{H:Hp}{w:List D}{b:Bool}{l:aE}(h1:Side K U H w b l):WRel K U H (((Pv.Z5 0 w.length).zip w).map λp=>.tup [p.1,p.2]) (Ite K b l) where
 go:=λi ρ' S' H' f st hi=>by
  obtain⟨xs,q1,r1⟩:=h1 ρ' H' f;have hi':i<w.length:=by
   rw[aA,gh,Jm]at hi;lia
  obtain⟨x,g1,rx⟩:=r1.get<|ag hi';refine#[#[xs,x,q1,g1],λu H'' #[T,x',e1,hT,eH,eu]=>?_]
  subst eH eu;have ex:=(e1 xs q1).symm.trans g1;cases ex;refine#[Zv hT,st.fresh hT,λd hd=>?_]
  have hz:((Pv.Z5 0 w.length).zip w)[i]?=aa (.int<|0+i,w[i]):=gQ.mpr #[qY hi',ag hi'];rw[aQ,hz]at hd;cases hd;refine Xd Zl<|Rq.cons ?_<|Rq.cons (rx.mono<|Zv hT) Rq.nil;rw[show((0:Int)+i)=i by lia]
  exact ZM _
 stop:=λρ' S' H' f st=>by
  obtain⟨xs,q1,r1⟩:=h1 ρ' H' f;refine#[xs,q1,?_];show xs.length=(((Pv.Z5 0 w.length).zip w).map λp=>Pv.V.tup [p.1,p.2]).length
  rw[aA,gh,Jm,r1.length];lia
section
variable{X:Cx}{xw:Nat->Hp->Prop}{C:Calls}{a b:Expr}{i j:E}{pos p tp:gu}{elts:List Expr}{kk:Nat}
def ZcK(hm:X.mg "enumerate" = ai)(ha:CA X xw C [a] [i])(hg:Gl X "enumerate")(hs:aG [a] X.env=[(aj,c6 a X.env)]) :
  CW X xw C (.Tuple elts kk tp) (.Call (.Name "enumerate" p) [a] [] pos) (.enum i):=.mk <|
 PI.imp (Zd8 hg hm ha.h hs) λZ H Q #[U,l,S,st,lr,h]=>Zem st lr h λx S1 ρ1 H1 v st1 r h1=>by
  cases e1:Pv.Yx x with
  |none=>rw[e1]at h1;exact False.elim h1
  |some wk=>
   rw[e1]at h1;obtain⟨b1,l1,rfl,s1,d1⟩:=G4 st1.hk r e1;exact#[b1,l1,rfl,s1,End.ok h1 st1<|qP d1]
end
def VF(hh:A.handled=ai)(b:Bool)(it l:aE)(hne:l≠it)(xs:Array aw) :
  Walks prog w A it [it,l] [it] xs.size (λi v=>xs[i]?=aa v) (λi h=>Src b h it l i/\YR b h l xs):=by
 cases b
 .exact Walks.tuple hh it l hne xs
 .exact sj hh it l hne xs
def GV{b:Bool}{h:bZ}{l:aE}:Src b (h.push<|Yw b l) h.objs.size l 0:=by
 cases b
 .exact#[_,aI _ rfl,rfl,rfl]
 .exact#[_,aI _ rfl,rfl,rfl]
def Zh1{K:ao}{H:Hp}{p:aE}{xs:List V}(h:SqL K H p xs\/SqT K H p xs):∃b,Sq b K H p xs:=by
 rcases h with h|h
 .exact#[am,h]
 .exact#[aj,h]
def uI(hc:X.calm=am):ZE X (.builtin "any") (λvs H Q=>∃U ds x v bs,U.K=X.K/\vs=[v]/\Rep U H x v/\Pv.Yx x=aa ds/\Pv.Z0 ds=aa bs/\Q (.bl<|bs.any id) H):=by
 intro pq s Z H vs us Q I r h;obtain⟨U,ds,x,v,bs,hk,rfl,r1,hl,hb,q⟩:=h;obtain⟨l,xs,rfl,hsq,rx⟩:=r1.seq hl;rw[hk]at hsq;obtain⟨kb,hq⟩:=Zh1 hsq;obtain⟨u,rfl,ru⟩:=XQ r;cases ru;obtain⟨its,rv,o1⟩:=Y0 I hq;obtain⟨lb,tb⟩:=WP hb;have hlt:=Vk o1;have hlen:its.toArray.size=bs.length:=by rw[aC,<-rv.length,rx.length,lb]
 refine call_any_walk<|Ve o1 #[s.heap.objs.size,[s.heap.objs.size,l],[s.heap.objs.size],its.toArray.size,_,_,λj=>bs.getD j aj,rfl,VF (A:=X.A.in1) (I.ok.hd hc) kb s.heap.objs.size l (a9 hlt) its.toArray,#[GV,o1.keep λo q=>aq _ q],?_,?_]
 .intro j v s' Q' E' hv hQ'
  have hj:its[j]?=aa v:=by simpa using hv
  have jl:j<ds.length:=by
   have:=(aK.mp hj).1;rw[<-rv.length,rx.length]at this;exact this
  obtain⟨w',g,r'⟩:=rx.get<|ag jl;obtain⟨u',g',ru'⟩:=rv.get g;rw[hj]at g';cases g';exact Vo r' ru' (tb j _<|ag jl) s' Q' E' hQ'
 .intro h' tk hk
  rw[hlen,qL];exact#[.bl<|bs.any id,H,I.kept (t':=tk) λb o e=>hk b o (λhm=>by
   have:b=s.heap.objs.size:=by simpa using hm
   exact T7 (this▸aH e)<|bB _)<|aq _ e,rfl,q]
def uj(hc:X.calm=am):ZE X (.builtin "any") (Uy X.K xw .any):=ZE.imp (uI hc)<|by
 rintro vs H Q ⟨U,S,ds,st,r,h⟩;obtain⟨d,v,z,rfl,r1,hz,h⟩:=Wc h r;obtain⟨xs,hx,hz⟩:=bW.mp hz;obtain⟨bs,hb,rfl⟩:=bI.mp hz;exact#[U,xs,d,v,bs,st.hk,rfl,r1,hx,hb,End.ok h st<|Yc _]
theorem QK :∀{ds:List D}{is:List Int}{xs:List V},Pv.intsV ds=aa is->Rq U H ds xs->xs=is.map V.int
 |[],is,xs,h,r=>by cases h;rw[r];rfl
 |d::ds,is,xs,h,r=>by
  obtain⟨v,vs,rfl,a1,b1⟩:=r;obtain⟨n,r,rfl,e,rfl⟩:=VY h;rw[a1.int',QK e b1];rfl
def U6(f:Nat->Int)(n:Nat):pV f (n+1)=pV f n+f n:=rfl
def zL:∀(is:List Int),pV (λj=>is.getD j 0) is.length=is.sum:=by
 have gen:∀(is:List Int)(n:Nat),n<=is.length->pV (λj=>is.getD j 0) n=(is.take n).sum:=by
  intro is n
  induction n with
  |zero=>intro _;rfl
  |succ n ih=>
   intro h;rw[U6,ih #[0],lQ,List.sum_append]
   have:is[n]?=aa is[n]:=ag #[0]
   simp[this]
 intro is;rw[gen is is.length<|aM _,gK]
theorem Vy(h:∀j,-M<=f j/\f j<=M)(hM:0<=M):∀n:Nat,-(M*n)<=pV f n/\pV f n<=M*n
 |0=>by rw[show pV f 0=0 from rfl];simp
 |n+1=>by
  obtain⟨a,b⟩:=Vy h hM n;obtain⟨c,d⟩:=h n;rw[U6];have:M*((n+1:Nat):Int)=M*n+M:=by rw[rO,Int.mul_add];simp
  rw[this];lia
def uT(hc:X.calm=am):ZE X (.builtin "sum") (λvs H Q=>∃U ds v is,vs=[v]/\Rep U H (.lst ds) v/\Pv.intsV ds=aa is/\Ev.Zbd is=am/\Q (.int is.sum) H):=by
 intro pq s Z H vs us Q I r h;obtain⟨U,ds,v,is,rfl,r1,hb,hok,q⟩:=h;obtain⟨l,xs,rfl,hx,_,rx⟩:=r1.lst';obtain⟨u,rfl,ru⟩:=XQ r;cases ru;have hq:Sq am X.K H l xs:=SqL.of hx;obtain⟨its,rv,o1⟩:=Y0 I hq;have hlt:=Vk o1;have ex:=QK hb rx;subst ex;have hlen:its.toArray.size=is.length:=by rw[aC,<-rv.length,aA]
 obtain⟨k1,k2⟩:=(aF _ _).mp hok;have k1':=T6 k1;have bd:∀j,-1099511627776<=is.getD j 0/\is.getD j 0<=1099511627776:=λj=>by
  cases e:is[j]? with
  |none=>rw[aD,e];simp
  |some y=>
   have:=T6<|a8.mp k2 y<|c7 e;rw[aD,e];exact this
 refine call_sum_walk<|Ve o1 #[s.heap.objs.size,[s.heap.objs.size,l],[s.heap.objs.size],its.toArray.size,_,_,λj=>is.getD j 0,rfl,VF (A:=X.A.in1) (I.ok.hd hc) am s.heap.objs.size l (a9 hlt) its.toArray,#[GV,o1.keep λo q=>aq _ q],λb hb=>?_,λj v hv=>?_,λj hj=>?_,?_]
 .rw[cY]
  simp only[az,bx,or_false]at hb;rcases hb with q|q<;>rw[q]
  .exact fM _
  .exact cH hlt
 .have hj:its[j]?=aa v:=by simpa using hv
  have jl:j<is.length:=by
   have:=(aK.mp hj).1;rw[<-rv.length,aA]at this;exact this
  obtain⟨u',g',ru'⟩:=rv.get (by rw[aQ,ag jl];rfl)
  rw[hj]at g';cases g';obtain⟨t,e⟩:=ru';exact#[t,by rw[e];show fI is[j] t=fI (is.getD j 0) t;rw[aD,ag jl];rfl]
 .have b1:=bd j
  have b2:=Vy bd #[0]<|j+1
  have jl:j+1<=1000:=by lia
  have b3:(1099511627776:Int)*((j+1:Nat):Int)<=1099511627776*1000:=Int.mul_le_mul_of_nonneg_left #[0] #[0]
  refine#[show InLong (is.getD j 0)from ?_,?_]<;>(unfold InLong;lia)
 .intro h' tk t' hk
  rw[hlen,zL];exact#[.int is.sum,H,I.kept (t':=tk) λb o e=>hk b o (λhm=>by
   have:b=s.heap.objs.size:=by simpa using hm
   exact T7 (this▸aH e)<|bB _)<|aq _ e,#[t',rfl],q]
def v4(hc:X.calm=am):ZE X (.builtin "sum") (Uy X.K xw .sum):=ZE.imp (uT hc)<|by
 rintro vs H Q ⟨U,S,ds,st,r,h⟩;obtain⟨d,v,z,rfl,r1,hz,h⟩:=Wc h r;cases d with
 |lst ds=>
  obtain⟨is,hb,hz⟩:=bW.mp hz;split at hz
  .cases hz;exact#[U,ds,v,is,rfl,r1,hb,‹_›,End.ok h st<|ZM _]
  .cases hz
 |_=>exact Ev.nos hz
end
end Sd
namespace Tq
open PySem PyProof.Rows
noncomputable def Yl:Bool->cr->Array cr->Nat->Nat->Nat->StateT cf oO (Option Nat):=sortPriv% PySem.Builtin.gallop
def wA(lf:Bool)(k:cr)(ar:Array cr)(bs n hn:Nat):Yl lf k ar bs n hn=(do
 let bd (i:Nat):StateT cf oO (Option Bool):=do
  let x <-gR ar (bs+i)
  if lf then lt' x k else return (<-lt' k x).map (!·)
 let mut la:=0
 let mut of:=1
 let mut lo:=0
 let mut hi:=0
 let aa rt <-bd hn|return ai
 if rt then
  let mx:=n-hn
  for _ in [0:n] do
   if of>=mx then break
   let aa mo <-bd (hn+of)|return ai
   if !mo then break
   la:=of
   of:=2*of+1
  lo:=hn+la+1
  hi:=hn+sO of mx
 else
  let mx:=hn+1
  for _ in [0:n] do
   if of>=mx then break
   let aa fo <-bd (hn-of)|return ai
   if fo then break
   la:=of
   of:=2*of+1
  lo:=hn+1-sO of mx
  hi:=hn-la
 for _ in [0:n] do
  if lo>=hi then break
  let m:=lo+(hi-lo) / 2
  let aa mo <-bd m|return ai
  if mo then lo:=m+1 else hi:=m
 return aa hi):=rfl
noncomputable abbrev BT:=Option (Option Nat)×Nat×Nat
def mid{lo hi:Nat}(c:lo<hi):lo+(hi-lo) / 2<hi:=by omega
def ZbG{F:Nat->BT->StateT cf oO (ForInStep BT)}{n:Nat}{τ:cf}{B:Nat->Bool}{Q:BT->cf->Prop}
  (hF:∀i lo hi (Q:ForInStep BT->cf->Prop),hi<=n->(lo>=hi->Q (.done (ai,lo,hi)) τ)->(lo<hi->Q (.yield (ai,if B (lo+(hi-lo) / 2)=am then(lo+(hi-lo) / 2+1,hi)else(lo,lo+(hi-lo) / 2))) τ)->nq #[8] A E s (F i (ai,lo,hi)) Q τ)
  (mono:∀i j,i<=j->j<n->B j=am->B i=am)(hq:∀r,r<=n->(∀i,i<n->(B i=am↔i<r))->Q (ai,r,r) τ){lo hi:Nat}(h1:lo<=hi)(h2:hi<=n)(h3:∀i,i<lo->B i=am)(h4:∀i,hi<=i->i<n->B i=aj) :
  nq #[8] A E s (nA [0:n] ((ai,lo,hi):BT) F) Q τ:=by
 have fin:∀lo,lo<=n->(∀i,i<lo->B i=am)->(∀i,lo<=i->i<n->B i=aj)->Q (ai,lo,lo) τ:=λlo a2 a4 a5=>hq _ a2 λi hi=>by
  refine#[λhB=>?_,a4 i]
  by_cases c:i<lo
  .exact c
  .rw[a5 i #[3] hi]at hB;cases hB
 refine cV
  (I:=λi c st'=>st'=τ/\c.1=ai/\c.2.1<=c.2.2/\c.2.2<=n/\c.2.2+i<=n+c.2.1/\(∀i,i<c.2.1->B i=am)/\∀i,c.2.2<=i->i<n->B i=aj) ?_ ?_ #[rfl,rfl,h1,h2,by dsimp only;omega,h3,h4]
 .rintro i ⟨r,lo,hi⟩ st' hi0 hin ⟨rfl,rfl,a1,a2,a3,a4,a5⟩
  dsimp only at a1 a2 a3 a4 a5 ⊢
  refine hF i lo hi _ a2 (λc=>?_) λc=>?_
  .have e:lo=hi:=by omega
   subst e;exact fin lo a2 a4 a5
  .have m1:=dS lo ((hi-lo) / 2)
   have m2:=mid c;generalize lo+(hi-lo) / 2=m at *;cases hm:B m with
   |true=>
    simp only[if_true];exact#[trivial,trivial,by omega,a2,by omega,λj hj=>mono j _ #[3] #[3] hm,a5]
   |false=>
    simp only[cK,if_false];refine#[trivial,trivial,by omega,by omega,by omega,a4,λj hj hn=>?_]
    cases hj2:B j with|false=>rfl|true=>rw[mono _ j hj hn hj2]at hm;cases hm
 .rintro ⟨r,lo,hi⟩ st' ⟨rfl,rfl,a1,a2,a3,a4,a5⟩
  dsimp only at a1 a2 a3 a4 a5 ⊢
  have e:lo=hi:=by omega
  subst e;exact fin lo a2 a4 a5
def Zff{lf:Bool}{k:cr}{ar:Array cr}{bs n hn:Nat}{τ:cf}{B:Nat->Bool}{Q:Option Nat->cf->Prop}(hh:hn<n)
  (hb:∀i,i<n->∀Q:Option Bool->cf->Prop,Q (aa<|B i) τ->nq #[8] A E s (do
   let x <-gR ar (bs+i)
   if lf then lt' x k else return (<-lt' k x).map (!·)) Q τ)
  (mono:∀i j,i<=j->j<n->B j=am->B i=am)(hq:∀r,r<=n->(∀i,i<n->(B i=am↔i<r))->Q (aa r) τ):nq #[8] A E s (Yl lf k ar bs n hn) Q τ:=by
 have no:∀{i j},i<=j->j<n->B i=aj->B j=aj:=λ{i j} h hj hi=>by
  cases q:B j with|false=>rfl|true=>rw[mono i j h hj q]at hi;cases hi
 rw[wA]
 dsimp only
 refine aO<|hb hn hh _ ?_
 dsimp only
 cases h0:B hn with
 |true=>
  rw[T9 rfl];refine aO (fu (cV
   (I:=λi (c:BT) st'=>st'=τ/\c.1=ai/\c.2.1<c.2.2/\i<c.2.2/\hn+c.2.1<n/\B (hn+c.2.1)=am)
   (Q:=λ(c:BT) st'=>st'=τ/\c.1=ai/\c.2.1<c.2.2/\hn+c.2.1<n/\B (hn+c.2.1)=am/\(n<=hn+c.2.2\/B (hn+c.2.2)=aj)) ?_ ?_ #[rfl,rfl,by decide,by decide,hh,h0]) ?_)
  .rintro i ⟨r,la,f⟩ st' _ hin ⟨rfl,rfl,a1,a2,a3,a4⟩
   dsimp only at a1 a2 a3 a4 ⊢
   by_cases c:f>=n-hn
   .rw[T9 c]
    exact aU #[rfl,rfl,a1,a3,a4,.inl (by dsimp only;omega)]
   .rw[T8 c]
    refine aO<|hb _ #[3] _ ?_
    dsimp only
    cases hm:B (hn+f)with|true=>exact aU #[rfl,rfl,by dsimp only;omega,by dsimp only;omega,by dsimp only;omega,hm]|false=>exact aU #[rfl,rfl,a1,a3,a4,.inr hm]
  .rintro ⟨r,la,f⟩ st' ⟨rfl,rfl,a1,a2,a3,a4⟩
   dsimp only at a1 a2 a3 a4 ⊢
   exact#[rfl,rfl,a1,a3,a4,.inl #[3]]
  .rintro ⟨r,la,f⟩ st' ⟨rfl,rfl,a1,a3,a4,a5⟩
   dsimp only at a1 a3 a4 a5 ⊢
   refine aO (ZbG (n:=n) (B:=B) (λi lo hi Q h1 h2 h3=>by
    by_cases c:lo>=hi
    .simp only[T9 c];exact aU<|h2 c
    .simp only[T8 c]
     have c:=pW c;refine aO<|hb _ (bo (mid c) h1) _ ?_;have h3:=h3 c;cases hm:B (lo+(hi-lo) / 2)<;>(rw[hm]at h3;exact aU h3)) mono (λr hr hB=>aU<|hq r hr hB) #[3] #[3] (λi hi=>mono i _ #[3] a3 a4) λi h1 h2=>?_)
   rcases a5 with a5|a5
   .omega
   .exact no #[3] h2 a5
 |false=>
  rw[T8 #[2]]
  refine aO (fu (cV
   (I:=λi (c:BT) st'=>st'=τ/\c.1=ai/\c.2.1<c.2.2/\i<c.2.2/\c.2.1<=hn/\B (hn-c.2.1)=aj)
   (Q:=λ(c:BT) st'=>st'=τ/\c.1=ai/\c.2.1<c.2.2/\c.2.1<=hn/\B (hn-c.2.1)=aj/\(hn<c.2.2\/B (hn-c.2.2)=am)) ?_ ?_ #[rfl,rfl,by decide,by decide,dM _,h0]) ?_)
  .rintro i ⟨r,la,f⟩ st' _ hin ⟨rfl,rfl,a1,a2,a3,a4⟩
   dsimp only at a1 a2 a3 a4 ⊢
   by_cases c:f>=hn+1
   .rw[T9 c]
    exact aU #[rfl,rfl,a1,a3,a4,.inl (by dsimp only;omega)]
   .rw[T8 c]
    refine aO<|hb _ #[3] _ ?_
    dsimp only
    cases hm:B (hn-f)with|true=>exact aU #[rfl,rfl,a1,a3,a4,.inr hm]|false=>exact aU #[rfl,rfl,by dsimp only;omega,by dsimp only;omega,by dsimp only;omega,hm]
  .rintro ⟨r,la,f⟩ st' ⟨rfl,rfl,a1,a2,a3,a4⟩
   dsimp only at a1 a2 a3 a4 ⊢
   exact#[rfl,rfl,a1,a3,a4,.inl #[3]]
  .rintro ⟨r,la,f⟩ st' ⟨rfl,rfl,a1,a3,a4,a5⟩
   dsimp only at a1 a3 a4 a5 ⊢
   refine aO (ZbG (n:=n) (B:=B) (λi lo hi Q h1 h2 h3=>by
    by_cases c:lo>=hi
    .simp only[T9 c];exact aU<|h2 c
    .simp only[T8 c]
     have c:=pW c;refine aO<|hb _ (bo (mid c) h1) _ ?_;have h3:=h3 c;cases hm:B (lo+(hi-lo) / 2)<;>(rw[hm]at h3;exact aU h3)) mono (λr hr hB=>aU<|hq r hr hB) #[3] #[3] (λi hi=>?_) λi h1 h2=>no h1 h2 a4)
   rcases a5 with a5|a5
   .omega
   .exact mono i _ #[3] #[3] a5
abbrev Srt(R:B->B->Prop)(l:List B):Prop:=l.Pairwise R
abbrev lr(rk:B->Nat):B->B->Prop:=λx y=>rk x<rk y
abbrev gr(rk:B->Nat):B->B->Prop:=λx y=>rk y<rk x
structure ML(R:B->B->Prop)(T o ra rb:List B):Prop where
 perm:(o++ra++rb).Perm T
 so:Srt R o
 sa:Srt R ra
 sb:Srt R rb
 lt:∀x∈o,∀y,y∈ra\/y∈rb->R x y
def ML.as{T o xs ra rb:List B}(h:ML R T o (xs++ra) rb)(hx:∀x∈xs,∀y∈rb,R x y):ML R T (o++xs) ra rb:=by
 obtain⟨s1,s2,s3⟩:=fv.mp h.sa;refine#[by simpa[bK]using h.perm,fv.mpr #[h.so,s1,λx hx y hy=>h.lt x hx y<|.inl<|dy _ hy],s2,h.sb,λx hx2 y hy=>?_]
 rcases cp.mp hx2 with z|z
 .exact h.lt x z y<|hy.imp (bu _) id
 .rcases hy with hy|hy
  .exact s3 x z y hy
  .exact hx x z y hy
def ML.swap{T o ra rb:List B}(h:ML R T o ra rb):ML R T o rb ra:=by
 refine#[List.Perm.trans ?_ h.perm,h.so,h.sb,h.sa,λx hx y hy=>h.lt x hx y hy.symm]
 rw[bK,bK];exact List.perm_append_comm.append_left _
def ML.bs(h:ML R T o ra (xs++rb))(hx:∀x∈xs,∀y∈ra,R x y):ML R T (o++xs) ra rb:=(h.swap.as hx).swap
def ML.fin{T o ra:List B}(h:ML R T o ra []):(o++ra).Perm T/\Srt R (o++ra):=by
 have h':=ML.as (ra:=[]) (by simpa using h) λx _ y hy=>by cases hy
 exact#[by simpa using h'.perm,h'.so]
def ML.ne(h:ML R T o ra rb)(hT:(T.map rk).Nodup)(hx:x∈ra)(hy:y∈rb):rk x≠rk y:=by
 have n:=((h.perm.map rk).nodup_iff).mpr hT;rw[bV,fw]at n;exact n.2.2 _ (eG<|bu _ hx) _<|eG hy
structure Od(prog:bv)(w:bO)(A:b9)(E:aw->ay->Prop)(s:ay)(κ:gj)(In:cr->Prop)(rk:cr->Nat):Prop where
 ask:∀{x y:cr}{τ:cf}{Q:Option Bool->cf->Prop},In x->In y->kindOf τ=κ->Q (aa<|af<|rk x<rk y) τ->nq (aS prog w) A E s (lt' x y) Q τ
def Sg(τ st':cf):Prop:=kindOf st'=kindOf τ/\bh st'=bh τ/\bi st'=bi τ/\gD st'=gD τ
section
variable{In:cr->Prop}
def ZI{Q:cr->cf->Prop}(h:ar[i]?=aa x)(hq:Q x τ):nq #[8] A E s (gR ar i) Q τ:=by
 rw[elem'_eq,h];exact aU hq
def Wp{Q:Unit->cf->Prop}(hq:Q () τ):nq #[8] A E s (liftM (oU t):StateT cf oO Unit) Q τ:=wpS_lift<|eQ #[rfl,hq]
theorem vQ(O:Od prog w A E s κ In rk){Q:Option Nat->cf->Prop}(hk:kindOf τ=κ)(ik:In k)(hh:h0<n)(hn:i+n<=ar.size)(ia:∀x∈ar.toList,In x)
  (so:Srt (lr rk) ((ar.toList.drop i).take n))(ne:∀x∈(ar.toList.drop i).take n,rk x≠rk k)
  (hq:∀r,r<=n->(∀x∈((ar.toList.drop i).take n).take r,rk x<rk k)->(∀x∈((ar.toList.drop i).take n).drop r,rk k<rk x)->Q (aa r) τ):nq #[8] A E s (Yl lf k ar i n h0) Q τ:=by
 generalize hl:(ar.toList.drop i).take n=l at so ne hq;have ll:l.length=n:=by rw[<-hl,bT,bL,aJ];lia
 have at_:∀j (hj:j<n),ar[i+j]?=aa (l[j]'#[0]):=λj hj=>by
  have:ar.toList[i+j]?=aa (l[j]'#[0]):=by
   subst hl;rw[gw,gy];exact ag _
  simpa using this
 have mem:∀j (hj:j<n),In (l[j]'#[0]):=λj hj=>ia _ (by
  have h2:∀x∈l,x∈ar.toList:=λx hx=>by rw[<-hl]at hx;exact cw<|dB hx
  exact h2 _<|aZ _)
 have hB:∀j (hj:j<n),((l[j]?).any λx=>af<|rk x<rk k)=af (rk (l[j]'#[0])<rk k):=λj hj=>by
  rw[ag #[0]];rfl
 refine Zff (B:=λj=>(l[j]?).any λx=>af<|rk x<rk k) hh (λj hj Q hQ=>?_) (λa b hab hb h=>?_) λr hr hr2=>hq r hr (λx hx=>?_) λx hx=>?_
 .rw[hB j hj]at hQ
  refine aO<|ZI (at_ j hj) ?_;cases lf with
  |true=>exact O.ask (mem j hj) ik hk hQ
  |false=>
   refine aO<|O.ask ik (mem j hj) hk<|aU ?_;have e:(!decide (rk k<rk (l[j]'#[0])))=af (rk (l[j]'#[0])<rk k):=by
    have:=ne _<|aZ (n:=j) #[0]
    by_cases c:rk k<rk (l[j]'#[0])
    .rw[T5 c,T4 #[0]];rfl
    .rw[T4 c,T5 #[0]];rfl
   show Q (aa<|!decide (rk k<rk (l[j]'#[0]))) τ
   rw[e];exact hQ
 .rw[hB b hb]at h
  rw[hB a #[0]]
  rcases Nat.lt_or_eq_of_le hab with c|c
  .have:=bQ.mp so a b #[0] #[0] c
   have h:=T6 h;exact T5 #[0]
  .subst c;exact h
 .obtain⟨j,hj,rfl⟩:=cE hx
  rw[bT]at hj;have:=(hr2 j<|by lia).mpr #[0]
  rw[hB j<|by lia]at this
  rw[gw];exact T6 this
 .obtain⟨j,hj,rfl⟩:=cE hx
  rw[bL]at hj;rw[gy];have h1:=hr2 (r+j) #[0]
  rw[hB _<|by lia]at h1
  have h2:=ne _<|aZ (n:=r+j) #[0]
  have h3:¬rk (l[r+j]'#[0])<rk k:=λz=>T7 (h1.mp<|T5 z) #[0]
  lia
end
noncomputable abbrev KA:=Array cr
noncomputable abbrev SM:=StateT cf oO
noncomputable def QP:KA->KA->SM KA:=sortPriv% PySem.Builtin.mergeLo
noncomputable def JF:Nat->SM Unit:=sortPriv% PySem.Builtin.setMinGallop
def Zaf(g:Nat):JF g=modify λs=>sm (kindOf s) (bh s) (bi s) g (gD s):=rfl
noncomputable abbrev dn(a b o:KA)(i j:Nat):KA:=o++a.extract i a.size++b.extract j b.size
noncomputable abbrev ls(a b o:KA)(i j:Nat):KA:=o++b.extract j b.size++a.extract i a.size
abbrev T2:=Option KA×KA×Nat×Nat×Nat×Nat
abbrev T3:=Option KA×KA×Nat×Nat×Nat×Nat×Nat
abbrev T1:=Option KA×KA×Nat×Nat×Nat
def F1(a b:KA)(g:Nat)(c:T2):SM (ForInStep T2):=do
 let o:=c.2.1
 let i:=c.2.2.1
 let j:=c.2.2.2.1
 let ca:=c.2.2.2.2.1
 let cb:=c.2.2.2.2.2
 let aa t <-lt' (<-gR b j) (<-gR a i)|return .done (aa<|dn a b o i j,o,i,j,ca,cb)
 if t then
  let o:=o.push<|<-gR b j
  let j:=j+1
  if j == b.size then return .done (aa<|dn a b o i j,o,i,j,0,cb+1)
  if cb+1>=g then return .done (ai,o,i,j,0,cb+1)
  return .yield (ai,o,i,j,0,cb+1)
 else
  let o:=o.push<|<-gR a i
  let i:=i+1
  if i+1 == a.size then return .done (aa<|ls a b o i j,o,i,j,ca+1,0)
  if ca+1>=g then return .done (ai,o,i,j,ca+1,0)
  return .yield (ai,o,i,j,ca+1,0)
def G3(a b:KA)(g ca cb i:Nat)(o:KA)(j:Nat):SM (ForInStep T3):=do
 let o:=o.push<|<-gR a i
 let i:=i+1
 if i+1 == a.size then return .done (aa<|ls a b o i j,o,i,j,g,ca,cb)
 if ca<7&&cb<7 then return .done (ai,o,i,j,g,ca,cb)
 return .yield (ai,o,i,j,g,ca,cb)
def G2(a b:KA)(g ca cb j:Nat)(o:KA)(i:Nat):SM (ForInStep T3):=do
 let o:=o.push<|<-gR b j
 let j:=j+1
 if j == b.size then return .done (aa<|dn a b o i j,o,i,j,g,ca,cb)
 let aa k <-Yl am (<-gR a i) b j (b.size-j) 0|return .done (aa<|dn a b o i j,o,i,j,g,ca,cb)
 if k>0 then
  let o:=o++b.extract j (j+k)
  let j:=j+k
  if j == b.size then return .done (aa<|dn a b o i j,o,i,j,g,ca,k)
  else G3 a b g ca k i o j
 else G3 a b g ca k i o j
def G1(a b:KA)(o:KA)(i j ca cb g:Nat):SM (ForInStep T3):=do
 JF g
 let aa k <-Yl aj (<-gR b j) a i (a.size-i) 0|return .done (aa<|dn a b o i j,o,i,j,g,ca,cb)
 if k>0 then
  let o:=o++a.extract i (i+k)
  let i:=i+k
  if i+1 == a.size then return .done (aa<|ls a b o i j,o,i,j,g,k,cb)
  else if i == a.size then return .done (aa<|dn a b o i j,o,i,j,g,k,cb)
  else G2 a b g k cb j o i
 else G2 a b g k cb j o i
def F2(a b:KA)(c:T3):SM (ForInStep T3):=
 if c.2.2.2.2.1>1 then G1 a b c.2.1 c.2.2.1 c.2.2.2.1 c.2.2.2.2.2.1 c.2.2.2.2.2.2 (c.2.2.2.2.1-1)
 else G1 a b c.2.1 c.2.2.1 c.2.2.2.1 c.2.2.2.2.2.1 c.2.2.2.2.2.2 c.2.2.2.2.1
def F0(a b:KA)(c:T1):SM (ForInStep T1):=do
 let d <-nA [0:a.size+b.size] ((ai,c.2.1,c.2.2.1,c.2.2.2.1,0,0):T2) λ_ d=>F1 a b c.2.2.2.2 d
 k6 d.1 (λ_=>do
  oU "list.sort.gallop"
  let e <-nA [0:a.size+b.size] ((ai,d.2.1,d.2.2.1,d.2.2.2.1,c.2.2.2.2+1,d.2.2.2.2.1,d.2.2.2.2.2):T3) λ_ d=>F2 a b d
  k6 e.1 (λ_=>do
   JF (e.2.2.2.2.1+1)
   cS (.yield (ai,e.2.1,e.2.2.1,e.2.2.2.1,e.2.2.2.2.1+1))) λr=>cS<|.done (aa r,e.2.1,e.2.2.1,e.2.2.2.1,e.2.2.2.2.1)) λr=>cS<|.done (aa r,d.2.1,d.2.2.1,d.2.2.2.1,c.2.2.2.2)
def zP(a b:KA):QP a b=(do
 oU "list.sort.merge-lo"
 let y <-gR b 0
 if 1 == b.size then return dn a b #[y] 0 1
 if 0+1 == a.size then return ls a b #[y] 0 1
 let τ <-get
 let c <-nA [0:a.size+b.size] ((ai,#[y],0,1,gallopOf τ):T1) λ_ c=>F0 a b c
 k6 c.1 (λ_=>rF "internal:list.sort.merge-bound") λr=>cS r):=rfl
def WC(a:KA)(i:Nat):(a.extract i a.size).toList=a.toList.drop i:=by
 rw[kh,gS,<-aJ];exact cG (by rw[bL];exact aM _)
def wH(a:KA)(i k:Nat):(a.extract i<|i+k).toList=(a.toList.drop i).take k:=by
 rw[kh,gS,cn]
def Z9{a:KA}{i:Nat}(h:i<a.size):a.toList.drop i=a[i]::a.toList.drop (i+1):=by
 rw[cq (by simpa using h)];rfl
def td{B:Type}(l:List B)(n r:Nat):(l.drop n).take r++l.drop (n+r)=l.drop n:=by rw[<-k7,cR]
def ZO{a:KA}{i:Nat}(h:i<a.size):a[i]?=aa a[i]:=bp h
section
variable{prog:bv}{w:bO}{A:b9}{E:aw->ay->Prop}{s:ay}{κ:gj}{In:cr->Prop}{rk:cr->Nat}
def ZF{B:Type}{c:Prop}[Decidable c]{x y:SM B}{Q:B->cf->Prop}{τ:cf}(h1:c->nq #[8] A E s x Q τ)(h2:¬c->nq #[8] A E s y Q τ):nq #[8] A E s (if c then x else y) Q τ:=by
 by_cases h:c
 .rw[T9 h];exact h1 h
 .rw[T8 h];exact h2 h
theorem wY(O:Od prog w A E s κ In rk){Q:Option Nat->cf->Prop}(hk:kindOf τ=κ)(ik:In k)(hi:i<ar.size)(ia:∀x∈ar.toList,In x)(so:Srt (lr rk) (ar.toList.drop i))(ne:∀x∈ar.toList.drop i,rk x≠rk k)
  (hq:∀r,i+r<=ar.size->(∀x∈(ar.toList.drop i).take r,rk x<rk k)->(∀x∈ar.toList.drop (i+r),rk k<rk x)->Q (aa r) τ):nq #[8] A E s (Yl lf k ar i (ar.size-i) 0) Q τ:=by
 have e:(ar.toList.drop i).take (ar.size-i)=ar.toList.drop i:=cG (by rw[bL,aJ];exact aM _)
 refine vQ O hk ik (Nat.sub_pos_of_lt hi) (mR<|nQ<|gF hi) ia (e.symm▸so) (e.symm▸ne) λr h1 h2 h3=>?_
 rw[e]at h2 h3;rw[k7]at h3;exact hq r #[0] h2 h3
structure Mg(κ:gj)(In:cr->Prop)(rk:cr->Nat)(a b:KA)(T:List cr):Prop where
 nd:(T.map rk).Nodup
 ia:∀x∈a.toList,In x
 ib:∀x∈b.toList,In x
 last:∀y∈b.toList,∀x∈a.toList.drop (a.size-1),rk y<rk x
def Res(rk:cr->Nat)(T:List cr)(r:KA):Prop:=r.toList.Perm T/\Srt (lr rk) r.toList
abbrev Lo(rk:cr->Nat)(a b:KA)(T:List cr)(o:KA)(i j:Nat):Prop:=ML (lr rk) T o.toList (a.toList.drop i)<|b.toList.drop j
structure Iv(rk:cr->Nat)(a b:KA)(T:List cr)(o:KA)(i j:Nat):Prop where
 m:Lo rk a b T o i j
 hi:i+1<a.size
 hj:j<b.size
 z:o.size=i+j
variable{a b:KA}{T:List cr}
def Gb(h:Lo rk a b T o i j)(hj:(j == b.size)=am):Res rk T (dn a b o i j):=by
 have hj:=beq_iff_eq.mp hj;unfold Lo at h;rw[hj,<-aJ,eN]at h;have:=h.fin;unfold Res dn;rw[cu,cu,WC,WC,hj,<-aJ,eN,cz];exact this
def ZdK(h:Lo rk a b T o i j)(hi:(i == a.size)=am):Res rk T (dn a b o i j):=by
 have hi:=beq_iff_eq.mp hi;unfold Lo at h;rw[hi,<-aJ,eN]at h;have:=h.swap.fin;unfold Res dn;rw[cu,cu,WC,WC,hi,<-aJ,eN,cz];exact this
theorem Gk(G:Mg κ In rk a b T)(h:Lo rk a b T o i j)(hi:(i+1 == a.size)=am):Res rk T (ls a b o i j):=by
 have hi:=beq_iff_eq.mp hi;have e:a.size-1=i:=by lia
 have:=(ML.bs (by rw[cz];exact h) λy hy x hx=>G.last y (cw hy) x<|by rw[e];exact hx).fin
 unfold Res ls;rw[cu,cu,WC,WC];exact this
def jj(h:Lo rk a b T o i j)(hj:j<b.size)(hy:∀x∈a.toList.drop i,rk b[j]<rk x):Lo rk a b T (o.push b[j]) i (j+1):=by
 unfold Lo at h ⊢;rw[Z9 hj]at h;rw[fz];exact ML.bs h λx hx y hy'=>by rw[bc.mp hx];exact hy y hy'
def Zev(h:Lo rk a b T o i j)(hi:i<a.size)(hx:∀y∈b.toList.drop j,rk a[i]<rk y):Lo rk a b T (o.push a[i]) (i+1) j:=by
 unfold Lo at h ⊢;rw[Z9 hi]at h;rw[fz];exact ML.as h λx hx' y hy'=>by rw[bc.mp hx'];exact hx y hy'
def ub(h:Srt (lr rk) (x::l))(hx:rk y<rk x):∀z∈x::l,rk y<rk z:=λz hz=>by
 rcases az.mp hz with rfl|hz
 .exact hx
 .exact dF hx<|(br.mp h).1 z hz
def QL(h:m<n)(q:¬(m+1 == n)=am):m+1<n:=fU h λz=>q<|beq_iff_eq.mpr z
theorem ZhK(O:Od prog w A E s κ In rk)(G:Mg κ In rk a b T){g ca cb:Nat}{r0:Option KA}{τ:cf}{Q:ForInStep T2->cf->Prop}(hk:kindOf τ=κ)(I:Iv rk a b T o i j)
  (hd:∀r c,Res rk T r->Q (.done (aa r,c)) τ)(hb:∀o' i' j' ca cb,Iv rk a b T o' i' j'->o'.size=o.size+1->Q (.done (ai,o',i',j',ca,cb)) τ/\Q (.yield (ai,o',i',j',ca,cb)) τ):nq #[8] A E s (F1 a b g (r0,o,i,j,ca,cb)) Q τ:=by
 have hi:=eB I.hi;have ha:a[i]∈a.toList.drop i:=by rw[Z9 hi];exact ak ..
 have hb':b[j]'I.hj∈b.toList.drop j:=by rw[Z9 I.hj];exact ak ..
 have sa:=I.m.sa;have sb:=I.m.sb;rw[Z9 hi]at sa;rw[Z9 I.hj]at sb;refine aO<|ZI (ZO I.hj)<|aO<|ZI (ZO hi)<|aO<|O.ask (G.ib _<|cw hb') (G.ia _<|cw ha) hk ?_;by_cases c:rk (b[j]'I.hj)<rk a[i]
 .rw[T5 c]
  refine aO<|ZI (ZO I.hj) ?_;have m:=jj I.m I.hj (by rw[Z9 hi];exact ub sa c)
  have z:(o.push<|b[j]'I.hj).size=o.size+1:=eD ..;refine ZF (λq=>aU<|hd _ _<|Gb m q) λq=>?_
  have h:=hb _ _ _ 0 (cb+1) #[m,I.hi,QL I.hj q,by rw[z,I.z];lia] z
  exact ZF (λ_=>aU h.1) λ_=>aU h.2
 .rw[T4 c]
  refine aO<|ZI (ZO hi) ?_;have c':=fU (d9 c)<|I.m.ne G.nd ha hb';have m:=Zev I.m hi (by rw[Z9 I.hj];exact ub sb c')
  have z:(o.push a[i]).size=o.size+1:=eD ..;refine ZF (λq=>aU<|hd _ _<|Gk G m q) λq=>?_
  have h:=hb _ _ _ (ca+1) 0 #[m,QL I.hi q,I.hj,by rw[z,I.z];lia] z
  exact ZF (λ_=>aU h.1) λ_=>aU h.2
theorem Sg.trans(h:Sg s1 s2)(k:Sg s2 s3):Sg s1 s3:=#[k.1.trans h.1,k.2.1.trans h.2.1,k.2.2.1.trans h.2.2.1,k.2.2.2.trans h.2.2.2]
def UF{Q:Unit->cf->Prop}(h:∀st',Sg τ st'->Q () st'):nq #[8] A E s (JF g) Q τ:=by
 rw[Zaf];exact fV<|h _ #[rfl,rfl,rfl,rfl]
section
variable(O:Od prog w A E s κ In rk)(G:Mg κ In rk a b T)
include O G
theorem ZeT{g ca cb:Nat}{τ:cf}(m:Lo rk a b T o i j)(hi:i+1<a.size)(hj:j<b.size)(z:o.size=i+j)(hx:∀y∈b.toList.drop j,rk a[i]<rk y)
  (hd:∀r c,Res rk T r->Q (.done (aa r,c)) τ)(hb:∀o' i' j' g ca cb,Iv rk a b T o' i' j'->o'.size=o.size+1->Q (.done (ai,o',i',j',g,ca,cb)) τ/\Q (.yield (ai,o',i',j',g,ca,cb)) τ):nq #[8] A E s (G3 a b g ca cb i o j) Q τ:=by
 have hi':=eB hi;refine aO<|ZI (ZO hi') ?_;have m:=Zev m hi' hx;have z':(o.push a[i]).size=o.size+1:=eD ..;refine ZF (λq=>aU<|hd _ _<|Gk G m q) λq=>?_
 have h:=hb _ _ _ g ca cb #[m,QL hi q,hj,by rw[z',z];lia] z'
 exact ZF (λ_=>aU h.1) λ_=>aU h.2
theorem ZeX{g ca cb:Nat}{τ:cf}(hk:kindOf τ=κ)(m:Lo rk a b T o i j)(hi:i+1<a.size)(hj:j<b.size)(z:o.size=i+j)(hy:∀x∈a.toList.drop i,rk b[j]<rk x)
  (hd:∀r c,Res rk T r->Q (.done (aa r,c)) τ)(hb:∀o' i' j' g ca cb,Iv rk a b T o' i' j'->o.size<o'.size->Q (.done (ai,o',i',j',g,ca,cb)) τ/\Q (.yield (ai,o',i',j',g,ca,cb)) τ):nq #[8] A E s (G2 a b g ca cb j o i) Q τ:=by
 have hi':=eB hi;unfold G2;refine aO<|ZI (ZO hj) ?_;have m:=jj m hj hy;have z':(o.push b[j]).size=o.size+1:=eD ..;refine ZF (λq=>aU<|hd _ _<|Gb m q) λq=>?_
 have hj:=QL hj q;have ha:a[i]∈a.toList.drop i:=by rw[Z9 hi'];exact ak ..
 refine aO<|ZI (ZO hi')<|aO<|wY O hk (G.ia _<|cw ha) hj G.ib m.sb (λy hy=>(m.ne G.nd ha hy).symm) λr hr h1 h2=>?_
 refine ZF (λ_=>?_) λc=>?_
 .have m2:Lo rk a b T (o.push b[j]++b.extract (j+1) (j+1+r)) i (j+1+r):=by
   unfold Lo;rw[cu,wH];refine ML.bs ?_ λy hy x hx=>?_
   .rw[td];exact m
   .have sa:=m.sa
    rw[Z9 hi']at sa hx;exact ub sa (h1 y hy) x hx
  have z2:(o.push b[j]++b.extract (j+1) (j+1+r)).size=o.size+1+r:=by rw[iI,z',fF #[0],cn]
  refine ZF (λq=>aU<|hd _ _<|Gb m2 q) λq=>?_
  have hj2:j+1+r<b.size:=fU hr λz=>q<|beq_iff_eq.mpr z
  exact ZeT O G m2 hi hj2 (by rw[z2,z];lia) h2 hd λo' i' j' g ca cb I e=>hb o' i' j' g ca cb I #[0]
 .have e:r=0:=by lia
  subst e;exact ZeT O G m hi hj (by rw[z',z];lia) h2 hd λo' i' j' g ca cb I e=>hb o' i' j' g ca cb I #[0]
theorem Zez{g ca cb:Nat}{τ:cf}(hk:kindOf τ=κ)(I:Iv rk a b T o i j)
  (hd:∀r c st',Sg τ st'->Res rk T r->Q (.done (aa r,c)) st')(hb:∀o' i' j' g ca cb st',Sg τ st'->Iv rk a b T o' i' j'->o.size<o'.size->Q (.done (ai,o',i',j',g,ca,cb)) st'/\Q (.yield (ai,o',i',j',g,ca,cb)) st'):nq #[8] A E s (G1 a b o i j ca cb g) Q τ:=by
 obtain⟨m,hi,hj,z⟩:=I;have hi':=eB hi;have hb':b[j]∈b.toList.drop j:=by rw[Z9 hj];exact ak ..
 unfold G1;refine aO<|UF λst' sg=>aO<|ZI (ZO hj)<|aO<|wY O (sg.1.trans hk) (G.ib _<|cw hb') hi' G.ia m.sa (λx hx=>m.ne G.nd hx hb') λr hr h1 h2=>?_
 refine ZF (λ_=>?_) λc=>?_
 .have m2:Lo rk a b T (o++a.extract i (i+r)) (i+r) j:=by
   unfold Lo;rw[cu,wH];refine ML.as ?_ λx hx y hy=>?_
   .rw[td];exact m
   .have sb:=m.sb
    rw[Z9 hj]at sb hy;exact ub sb (h1 x hx) y hy
  have z2:(o++a.extract i (i+r)).size=o.size+r:=by rw[iI,fF #[0],cn]
  refine ZF (λq=>aU<|hd _ _ st' sg<|Gk G m2 q) λq=>ZF (λq=>aU<|hd _ _ st' sg<|ZdK m2 q) λq2=>?_
  have q2:i+r≠a.size:=λz=>q2<|beq_iff_eq.mpr z
  exact ZeX O G (sg.1.trans hk) m2 (QL #[0] q) hj (by rw[z2,z];lia) h2 (λr c=>hd r c st' sg) λo' i' j' g ca cb I e=>hb o' i' j' g ca cb st' sg I #[0]
 .have e:r=0:=by lia
  subst e;exact ZeX O G (sg.1.trans hk) m hi hj z h2 (λr c=>hd r c st' sg) λo' i' j' g ca cb I e=>hb o' i' j' g ca cb st' sg I #[0]
theorem Zhe{g ca cb:Nat}{r0:Option KA}{τ:cf}(hk:kindOf τ=κ)(I:Iv rk a b T o i j)
  (hd:∀r c st',Sg τ st'->Res rk T r->Q (.done (aa r,c)) st')(hb:∀o' i' j' g ca cb st',Sg τ st'->Iv rk a b T o' i' j'->o.size<o'.size->Q (.done (ai,o',i',j',g,ca,cb)) st'/\Q (.yield (ai,o',i',j',g,ca,cb)) st'):nq #[8] A E s (F2 a b (r0,o,i,j,g,ca,cb)) Q τ:=by
 exact ZF (λ_=>Zez O G hk I hd hb) λ_=>Zez O G hk I hd hb
theorem ZhN{Q:ForInStep T1->cf->Prop}(hk:kindOf τ=κ)(I:Iv rk a b T o i j)
  (hd:∀r c st',Sg τ st'->Res rk T r->Q (.done (aa r,c)) st')(hy:∀o' i' j' g st',Sg τ st'->Iv rk a b T o' i' j'->o.size<o'.size->Q (.yield (ai,o',i',j',g)) st'):nq #[8] A E s (F0 a b (r0,o,i,j,g)) Q τ:=by
 refine aO (fu (cV
  (I:=λx (c:T2) st'=>st'=τ/\c.1=ai/\Iv rk a b T c.2.1 c.2.2.1 c.2.2.2.1/\o.size+x<=c.2.1.size)
  (Q:=λ(c:T2) st'=>st'=τ/\((∃r,c.1=aa r/\Res rk T r)\/c.1=ai/\Iv rk a b T c.2.1 c.2.2.1 c.2.2.2.1/\o.size<c.2.1.size)) ?_ ?_ #[rfl,rfl,I,aM _]) ?_)
 .rintro x ⟨r,o',i',j',ca,cb⟩ st' _ _ ⟨rfl,rfl,I',hz⟩
  exact ZhK O G hk I' (λr c h=>#[rfl,.inl #[r,rfl,h]]) λo2 i2 j2 ca cb I2 e=>#[#[rfl,.inr #[rfl,I2,by dsimp only at hz ⊢;lia]],rfl,rfl,I2,by dsimp only at hz ⊢;lia]
 .rintro ⟨r,o',i',j',ca,cb⟩ st' ⟨rfl,rfl,I',hz⟩
  have:=I'.hi;have:=I'.hj;have:=I'.z;lia
 .rintro ⟨r,o',i',j',ca,cb⟩ st' ⟨rfl,⟨r',rfl,h⟩|⟨rfl,I',hz⟩⟩
  .exact aU<|hd _ _ _ #[rfl,rfl,rfl,rfl] h
  .dsimp only at I' hz
   refine aO (Wp (aO (fu (cV
    (I:=λx (c:T3) st''=>Sg st' st''/\c.1=ai/\Iv rk a b T c.2.1 c.2.2.1 c.2.2.2.1/\o'.size+x<=c.2.1.size)
    (Q:=λ(c:T3) st''=>Sg st' st''/\((∃r,c.1=aa r/\Res rk T r)\/c.1=ai/\Iv rk a b T c.2.1 c.2.2.1 c.2.2.2.1/\o'.size<c.2.1.size)) ?_ ?_ #[#[rfl,rfl,rfl,rfl],rfl,I',aM _]) ?_)))
   .rintro x ⟨r,o2,i2,j2,g,ca,cb⟩ st2 _ _ ⟨sg,rfl,I2,hz2⟩
    dsimp only at I2 hz2
    exact Zhe O G (sg.1.trans hk) I2 (λr c st3 s3 h=>#[sg.trans s3,.inl #[r,rfl,h]]) λo3 i3 j3 g ca cb st3 s3 I3 e=>#[#[sg.trans s3,.inr #[rfl,I3,by dsimp only;lia]],sg.trans s3,rfl,I3,by dsimp only;lia]
   .rintro ⟨r,o2,i2,j2,g,ca,cb⟩ st2 ⟨sg,rfl,I2,hz2⟩
    have:=I2.hi;have:=I2.hj;have:=I2.z;lia
   .rintro ⟨r,o2,i2,j2,g,ca,cb⟩ st2 ⟨sg,⟨r',rfl,h⟩|⟨rfl,I2,hz2⟩⟩
    .exact aU<|hd _ _ _ sg h
    .exact aO<|UF λst3 s3=>aU<|hy _ _ _ _ _ (sg.trans s3) I2<|dF hz hz2
theorem xB{τ:cf}{Q:KA->cf->Prop}(hk:kindOf τ=κ)(ha:0<a.size)(hb:0<b.size)(sa:Srt (lr rk) a.toList)(sb:Srt (lr rk) b.toList)(hT:(a.toList++b.toList).Perm T)(h0:∀x∈a.toList,rk b[0]<rk x)
  (hq:∀r st',Sg τ st'->Res rk T r->Q r st'):nq #[8] A E s (QP a b) Q τ:=by
 rw[zP];refine aO<|Wp<|aO<|ZI (ZO hb) ?_;have m0:Lo rk a b T #[] 0 0:=#[by simpa using hT,.nil,by simpa using sa,by simpa using sb,λx hx=>by cases hx]
 have m:=jj m0 hb (by simpa using h0)
 have sg0:Sg τ τ:=#[rfl,rfl,rfl,rfl];refine ZF (λq=>aU<|hq _ _ sg0<|Gb m q) λq1=>ZF (λq=>aU<|hq _ _ sg0<|Gk G m q) λq2=>aO (iJ (aO (fu (cV
  (I:=λx (c:T1) st''=>Sg τ st''/\c.1=ai/\Iv rk a b T c.2.1 c.2.2.1 c.2.2.2.1/\x<=c.2.1.size)
  (Q:=λ(c:T1) st''=>Sg τ st''/\∃r,c.1=aa r/\Res rk T r) ?_ ?_ #[sg0,rfl,#[m,QL ha q2,QL hb q1,rfl],dM _]) ?_)))
 .rintro x ⟨r,o,i,j,g⟩ st2 _ _ ⟨sg,rfl,I,hz⟩
  dsimp only at I hz
  exact ZhN O G (sg.1.trans hk) I (λr c st3 s3 h=>#[sg.trans s3,r,rfl,h]) λo3 i3 j3 g st3 s3 I3 e=>#[sg.trans s3,rfl,I3,by dsimp only;lia]
 .rintro ⟨r,o,i,j,g⟩ st2 ⟨sg,rfl,I,hz⟩
  have:=I.hi;have:=I.hj;have:=I.z;lia
 .rintro ⟨r,o,i,j,g⟩ st2 ⟨sg,r',rfl,h⟩
  exact aU<|hq _ _ sg h
end
end
noncomputable def QU:KA->KA->SM KA:=sortPriv% PySem.Builtin.mergeHi
noncomputable abbrev dh(a b o:KA)(i j:Nat):KA:=a.extract 0 i++b.extract 0 j++o.reverse
noncomputable abbrev fh(a b o:KA)(i j:Nat):KA:=b.extract 0 j++a.extract 0 i++o.reverse
abbrev U1:=Option KA×Nat×Nat×KA×Nat
abbrev U2:=Option KA×Nat×Nat×KA×Nat×Nat
abbrev U3:=Option KA×Nat×Nat×KA×Nat×Nat×Nat
def H1(a b:KA)(g:Nat)(c:U2):SM (ForInStep U2):=do
 let i:=c.2.1
 let j:=c.2.2.1
 let o:=c.2.2.2.1
 let ca:=c.2.2.2.2.1
 let cb:=c.2.2.2.2.2
 let aa t <-lt' (<-gR b (j-1)) (<-gR a (i-1))|return .done (aa<|dh a b o i j,i,j,o,ca,cb)
 if t then
  let i:=i-1
  let o:=o.push<|<-gR a i
  if i == 0 then return .done (aa<|dh a b o i j,i,j,o,ca+1,0)
  if ca+1>=g then return .done (ai,i,j,o,ca+1,0)
  return .yield (ai,i,j,o,ca+1,0)
 else
  let j:=j-1
  let o:=o.push<|<-gR b j
  if j == 1 then return .done (aa<|fh a b o i j,i,j,o,0,cb+1)
  if cb+1>=g then return .done (ai,i,j,o,0,cb+1)
  return .yield (ai,i,j,o,0,cb+1)
def K3(a b:KA)(g ca cb i:Nat)(o:KA)(j:Nat):SM (ForInStep U3):=do
 let i:=i-1
 let o:=o.push<|<-gR a i
 if i == 0 then return .done (aa<|dh a b o i j,i,j,o,g,ca,cb)
 if ca<7&&cb<7 then return .done (ai,i,j,o,g,ca,cb)
 return .yield (ai,i,j,o,g,ca,cb)
def K2(a b:KA)(g ca cb j:Nat)(o:KA)(i:Nat):SM (ForInStep U3):=do
 let j:=j-1
 let o:=o.push<|<-gR b j
 if j == 1 then return .done (aa<|fh a b o i j,i,j,o,g,ca,cb)
 let aa t <-Yl am (<-gR a (i-1)) b 0 j (j-1)|return .done (aa<|dh a b o i j,i,j,o,g,ca,cb)
 if j-t>0 then
  let o:=o++(b.extract t j).reverse
  if t == 1 then return .done (aa<|fh a b o i t,i,t,o,g,ca,j-t)
  else if t == 0 then return .done (aa<|dh a b o i t,i,t,o,g,ca,j-t)
  else K3 a b g ca (j-t) i o t
 else K3 a b g ca (j-t) i o j
def K1(a b:KA)(o:KA)(i j ca cb g:Nat):SM (ForInStep U3):=do
 JF g
 let aa t <-Yl aj (<-gR b (j-1)) a 0 i (i-1)|return .done (aa<|dh a b o i j,i,j,o,g,ca,cb)
 if i-t>0 then
  let o:=o++(a.extract t i).reverse
  if t == 0 then return .done (aa<|dh a b o t j,t,j,o,g,i-t,cb)
  else K2 a b g (i-t) cb j o t
 else K2 a b g (i-t) cb j o i
def H2(a b:KA)(c:U3):SM (ForInStep U3):=
 if c.2.2.2.2.1>1 then K1 a b c.2.2.2.1 c.2.1 c.2.2.1 c.2.2.2.2.2.1 c.2.2.2.2.2.2 (c.2.2.2.2.1-1)
 else K1 a b c.2.2.2.1 c.2.1 c.2.2.1 c.2.2.2.2.2.1 c.2.2.2.2.2.2 c.2.2.2.2.1
def TT(n:Nat)(f1:Nat->U2->SM (ForInStep U2))(f2:U3->SM (ForInStep U3))(c:U1):SM (ForInStep U1):=do
 let d <-nA [0:n] ((ai,c.2.1,c.2.2.1,c.2.2.2.1,0,0):U2) λ_ d=>f1 c.2.2.2.2 d
 k6 d.1 (λ_=>do
  oU "list.sort.gallop"
  let e <-nA [0:n] ((ai,d.2.1,d.2.2.1,d.2.2.2.1,c.2.2.2.2+1,d.2.2.2.2.1,d.2.2.2.2.2):U3) λ_ d=>f2 d
  k6 e.1 (λ_=>do
   JF (e.2.2.2.2.1+1)
   cS (.yield (ai,e.2.1,e.2.2.1,e.2.2.2.1,e.2.2.2.2.1+1))) λr=>cS<|.done (aa r,e.2.1,e.2.2.1,e.2.2.2.1,e.2.2.2.2.1)) λr=>cS<|.done (aa r,d.2.1,d.2.2.1,d.2.2.2.1,c.2.2.2.2)
def zE(a b:KA):QU a b=(do
 oU "list.sort.merge-hi"
 let x <-gR a (a.size-1)
 if a.size-1 == 0 then return dh a b #[x] (a.size-1) b.size
 if b.size == 1 then return fh a b #[x] (a.size-1) b.size
 let τ <-get
 let c <-nA [0:a.size+b.size] ((ai,a.size-1,b.size,#[x],gallopOf τ):U1) λ_ c=>TT (a.size+b.size) (H1 a b) (H2 a b) c
 k6 c.1 (λ_=>rF "internal:list.sort.merge-bound") λr=>cS r):=rfl
def Zbs{a:KA}{t i:Nat}:(a.extract t i).toList=(a.toList.take i).drop t:=by
 rw[kh,gS,List.drop_take]
noncomputable abbrev rv(a:KA)(i:Nat):List cr:=(a.toList.take i).reverse
def Vr{a:KA}{i:Nat}(h:0<i)(h2:i<=a.size):rv a i=a[i-1]::rv a (i-1):=by
 obtain⟨k,rfl⟩:∃k,i=k+1:=#[i-1,by lia]
 show(a.toList.take<|k+1).reverse=_;rw[List.take_succ_eq_append_getElem (by rw[aJ];exact h2),nS];rfl
def jy{a:KA}{t i:Nat}(h:t<=i):rv a i=((a.toList.take i).drop t).reverse++rv a t:=by
 rw[<-nS];have:=cR t<|a.toList.take i;rw[sr,h8 h]at this;rw[this]
section
variable{prog:bv}{w:bO}{A:b9}{E:aw->ay->Prop}{s:ay}{κ:gj}{In:cr->Prop}{rk:cr->Nat}{a b:KA}{T:List cr}
abbrev Hi(rk:cr->Nat)(a b:KA)(T:List cr)(o:KA)(i j:Nat):Prop:=ML (gr rk) T o.toList (rv a i)<|rv b j
structure Ih(rk:cr->Nat)(a b:KA)(T:List cr)(o:KA)(i j:Nat):Prop where
 m:Hi rk a b T o i j
 i0:0<i
 i1:i<=a.size
 j0:1<j
 j1:j<=b.size
 z:o.size+i+j=a.size+b.size
def Gu{l:List cr}{r:KA}(h:l.Perm T/\Srt (gr rk) l)(e:r.toList=l.reverse):Res rk T r:=by
 unfold Res;rw[e];exact#[(eC l).trans h.1,eZ.mpr h.2]
def Zc4(h:Hi rk a b T o i j)(hi:(i == 0)=am):Res rk T (dh a b o i j):=by
 cases beq_iff_eq.mp hi;refine Gu (ML.fin h.swap) ?_;simp
def Zii(h:Hi rk a b T o i j)(hj:(j == 0)=am):Res rk T (dh a b o i j):=by
 cases beq_iff_eq.mp hj;refine Gu (ML.fin h) ?_;simp
def GW(fs:∀x∈a.toList,∀y∈b.toList.take 1,rk y<rk x)(h:Hi rk a b T o i j)(hj:(j == 1)=am):Res rk T (fh a b o i j):=by
 cases beq_iff_eq.mp hj;have:=(ML.as (by rw[cz];exact h) λx hx y hy=>fs x (dB<|eP.mp hx) y<|eP.mp hy).swap.fin
 refine Gu this ?_;simp
def qX(h:Hi rk a b T o i j)(i0:0<i)(i1:i<=a.size)(hx:∀y∈rv b j,rk y<rk a[i-1]):Hi rk a b T (o.push a[i-1]) (i-1) j:=by
 unfold Hi at h ⊢;rw[Vr i0 i1]at h;rw[fz];exact ML.as h λx hx' y hy'=>by rw[bc.mp hx'];exact hx y hy'
def Zes(h:Hi rk a b T o i j)(j0:0<j)(j1:j<=b.size)(hx:∀y∈rv a i,rk y<rk b[j-1]):Hi rk a b T (o.push b[j-1]) i (j-1):=by
 unfold Hi at h ⊢;rw[Vr j0 j1]at h;rw[fz];exact ML.bs h λx hx' y hy'=>by rw[bc.mp hx'];exact hx y hy'
def wI{l:List cr}{x y:cr}(h:Srt (gr rk) (x::l))(hx:rk x<rk y):∀z∈x::l,rk z<rk y:=λz hz=>by
 rcases az.mp hz with rfl|hz
 .exact hx
 .exact dF ((br.mp h).1 z hz) hx
theorem wU(O:Od prog w A E s κ In rk){lf:Bool}{k:cr}{ar:KA}{n:Nat}{τ:cf}{Q:Option Nat->cf->Prop}(hk:kindOf τ=κ)(ik:In k)(hn:0<n)(h1:n<=ar.size)(ia:∀x∈ar.toList,In x)(so:Srt (gr rk) (rv ar n))(ne:∀x∈rv ar n,rk x≠rk k)
  (hq:∀r,r<=n->(∀x∈rv ar r,rk x<rk k)->(∀x∈((ar.toList.take n).drop r).reverse,rk k<rk x)->Q (aa r) τ):nq #[8] A E s (Yl lf k ar 0 n<|n-1) Q τ:=by
 refine vQ O hk ik (Nat.sub_lt hn Nat.one_pos) #[0] ia (eZ.mp so) (λx hx=>ne x<|eP.mpr hx) λr h2 h3 h4=>hq r h2 (λx hx=>h3 x ?_) λx hx=>h4 x<|eP.mp hx
 have hx:=eP.mp hx;rw[sr,h8 h2];exact hx
def UM{a:KA}{i:Nat}(i0:0<i)(i1:i<=a.size):a[i-1]∈rv a i:=by rw[Vr i0 i1];exact ak ..
def z6{a:KA}{i:Nat}{x:cr}(h:x∈rv a i):x∈a.toList:=dB<|eP.mp h
section
variable(O:Od prog w A E s κ In rk)(G:Mg κ In rk a b T)(fs:∀x∈a.toList,∀y∈b.toList.take 1,rk y<rk x)
include O G fs
theorem ZhS{g ca cb:Nat}{r0:Option KA}{τ:cf}{Q:ForInStep U2->cf->Prop}(hk:kindOf τ=κ)(I:Ih rk a b T o i j)
  (hd:∀r c,Res rk T r->Q (.done (aa r,c)) τ)(hb:∀o' i' j' ca cb,Ih rk a b T o' i' j'->o'.size=o.size+1->Q (.done (ai,i',j',o',ca,cb)) τ/\Q (.yield (ai,i',j',o',ca,cb)) τ):nq #[8] A E s (H1 a b g (r0,i,j,o,ca,cb)) Q τ:=by
 obtain⟨m,i0,i1,j0,j1,z⟩:=I;have j0':=eB j0;have hja:j-1<b.size:=by lia
 have hia:i-1<a.size:=by lia
 have ha:=UM i0 i1;have hb':=UM j0' j1;have sa:=m.sa;have sb:=m.sb;rw[Vr i0 i1]at sa;rw[Vr j0' j1]at sb;refine aO<|ZI (ZO hja)<|aO<|ZI (ZO hia)<|aO<|O.ask (G.ib _<|z6 hb') (G.ia _<|z6 ha) hk ?_;by_cases c:rk b[j-1]<rk a[i-1]
 .rw[T5 c]
  refine aO<|ZI (ZO hia) ?_;have m:=qX m i0 i1 (by rw[Vr j0' j1];exact wI sb c)
  have z':(o.push a[i-1]).size=o.size+1:=eD ..;refine ZF (λq=>aU<|hd _ _<|Zc4 m q) λq=>?_
  have q:i-1≠0:=λz=>q<|beq_iff_eq.mpr z
  have h:=hb _ _ _ (ca+1) 0 #[m,by lia,by lia,j0,j1,by lia] z'
  exact ZF (λ_=>aU h.1) λ_=>aU h.2
 .rw[T4 c]
  refine aO<|ZI (ZO hja) ?_;have c':=fU (d9 c)<|m.ne G.nd ha hb';have m:=Zes m j0' j1 (by rw[Vr i0 i1];exact wI sa c')
  have z':(o.push b[j-1]).size=o.size+1:=eD ..;refine ZF (λq=>aU<|hd _ _<|GW fs m q) λq=>?_
  have q:j-1≠1:=λz=>q<|beq_iff_eq.mpr z
  have h:=hb _ _ _ 0 (cb+1) #[m,i0,i1,by lia,by lia,by lia] z'
  exact ZF (λ_=>aU h.1) λ_=>aU h.2
theorem ZeN{g ca cb:Nat}{τ:cf}(I:Ih rk a b T o i j)(hx:∀y∈rv b j,rk y<rk (a[i-1]'(by have:=I.i0;have:=I.i1;lia)))
  (hd:∀r c,Res rk T r->Q (.done (aa r,c)) τ)(hb:∀o' i' j' g ca cb,Ih rk a b T o' i' j'->o'.size=o.size+1->Q (.done (ai,i',j',o',g,ca,cb)) τ/\Q (.yield (ai,i',j',o',g,ca,cb)) τ):nq #[8] A E s (K3 a b g ca cb i o j) Q τ:=by
 obtain⟨m,i0,i1,j0,j1,z⟩:=I;refine aO<|ZI (ZO<|by lia) ?_
 have m:=qX m i0 i1 hx;have z':(o.push a[i-1]).size=o.size+1:=eD ..;refine ZF (λq=>aU<|hd _ _<|Zc4 m q) λq=>?_
 have q:i-1≠0:=λz=>q<|beq_iff_eq.mpr z
 have h:=hb _ _ _ g ca cb #[m,by lia,by lia,j0,j1,by lia] z'
 exact ZF (λ_=>aU h.1) λ_=>aU h.2
theorem ZeO{g ca cb:Nat}{τ:cf}(hk:kindOf τ=κ)(I:Ih rk a b T o i j)(hy:∀y∈rv a i,rk y<rk (b[j-1]'(by have:=I.j0;have:=I.j1;lia)))
  (hd:∀r c,Res rk T r->Q (.done (aa r,c)) τ)(hb:∀o' i' j' g ca cb,Ih rk a b T o' i' j'->o.size<o'.size->Q (.done (ai,i',j',o',g,ca,cb)) τ/\Q (.yield (ai,i',j',o',g,ca,cb)) τ):nq #[8] A E s (K2 a b g ca cb j o i) Q τ:=by
 obtain⟨m,i0,i1,j0,j1,z⟩:=I;unfold K2;refine aO<|ZI (ZO<|by lia) ?_
 have m:=Zes m (eB j0) j1 hy;have z':(o.push b[j-1]).size=o.size+1:=eD ..;refine ZF (λq=>aU<|hd _ _<|GW fs m q) λq=>?_
 have q:j-1≠1:=λz=>q<|beq_iff_eq.mpr z
 have ha:=UM i0 i1;refine aO<|ZI (ZO<|by lia)<|aO<|wU O hk (G.ia _<|z6 ha) #[0] #[0] G.ib m.sb (λy hy=>(m.ne G.nd ha hy).symm) λr hr h1 h2=>?_
 refine ZF (λc=>?_) λc=>?_
 .have m2:Hi rk a b T (o.push b[j-1]++(b.extract r<|j-1).reverse) i r:=by
   unfold Hi;rw[cu,nE,Zbs];refine ML.bs ?_ λy hy x hx=>?_
   .rw[<-jy hr];exact m
   .have sa:=m.sa
    rw[Vr i0 i1]at sa hx;exact wI sa (h2 y hy) x hx
  have z2:(o.push b[j-1]++(b.extract r<|j-1).reverse).size=o.size+1+(j-1-r):=by rw[iI,z',oH,fF #[0]]
  refine ZF (λq=>aU<|hd _ _<|GW fs m2 q) λq1=>ZF (λq=>aU<|hd _ _<|Zii m2 q) λq2=>?_
  have q1:r≠1:=λz=>q1<|beq_iff_eq.mpr z
  have q2:r≠0:=λz=>q2<|beq_iff_eq.mpr z
  exact ZeN O G fs #[m2,i0,i1,by lia,by lia,by lia] h1 hd λo' i' j' g ca cb I e=>hb o' i' j' g ca cb I #[0]
 .have e:r=j-1:=by lia
  subst e;exact ZeN O G fs #[m,i0,i1,by lia,by lia,by lia] h1 hd λo' i' j' g ca cb I e=>hb o' i' j' g ca cb I #[0]
theorem ZeV{g ca cb:Nat}{τ:cf}(hk:kindOf τ=κ)(I:Ih rk a b T o i j)
  (hd:∀r c st',Sg τ st'->Res rk T r->Q (.done (aa r,c)) st')(hb:∀o' i' j' g ca cb st',Sg τ st'->Ih rk a b T o' i' j'->o.size<o'.size->Q (.done (ai,i',j',o',g,ca,cb)) st'/\Q (.yield (ai,i',j',o',g,ca,cb)) st'):nq #[8] A E s (K1 a b o i j ca cb g) Q τ:=by
 obtain⟨m,i0,i1,j0,j1,z⟩:=I;have j0':=eB j0;have hb':=UM j0' j1;unfold K1;refine aO<|UF λst' sg=>aO<|ZI (ZO<|by lia)<|aO<|wU O (sg.1.trans hk) (G.ib _<|z6 hb') i0 i1 G.ia m.sa (λx hx=>m.ne G.nd hx hb') λr hr h1 h2=>?_
 refine ZF (λc=>?_) λc=>?_
 .have m2:Hi rk a b T (o++(a.extract r i).reverse) r j:=by
   unfold Hi;rw[cu,nE,Zbs];refine ML.as ?_ λx hx y hy=>?_
   .rw[<-jy hr];exact m
   .have sb:=m.sb
    rw[Vr j0' j1]at sb hy;exact wI sb (h2 x hx) y hy
  have z2:(o++(a.extract r i).reverse).size=o.size+(i-r):=by rw[iI,oH,fF #[0]]
  refine ZF (λq=>aU<|hd _ _ st' sg<|Zc4 m2 q) λq=>?_
  have q:r≠0:=λz=>q<|beq_iff_eq.mpr z
  exact ZeO O G fs (sg.1.trans hk) #[m2,by lia,by lia,j0,j1,by lia] h1 (λr c=>hd r c st' sg) λo' i' j' g ca cb I e=>hb o' i' j' g ca cb st' sg I #[0]
 .have e:r=i:=by lia
  subst e;exact ZeO O G fs (sg.1.trans hk) #[m,i0,i1,j0,j1,z] h1 (λr c=>hd r c st' sg) λo' i' j' g ca cb I e=>hb o' i' j' g ca cb st' sg I #[0]
theorem Zhx{g ca cb:Nat}{r0:Option KA}{τ:cf}(hk:kindOf τ=κ)(I:Ih rk a b T o i j)
  (hd:∀r c st',Sg τ st'->Res rk T r->Q (.done (aa r,c)) st')(hb:∀o' i' j' g ca cb st',Sg τ st'->Ih rk a b T o' i' j'->o.size<o'.size->Q (.done (ai,i',j',o',g,ca,cb)) st'/\Q (.yield (ai,i',j',o',g,ca,cb)) st'):nq #[8] A E s (H2 a b (r0,i,j,o,g,ca,cb)) Q τ:=by
 exact ZF (λ_=>ZeV O G fs hk I hd hb) λ_=>ZeV O G fs hk I hd hb
theorem Zg1{g:Nat}{r0:Option KA}{τ:cf}{Q:ForInStep U1->cf->Prop}(hk:kindOf τ=κ)(I:Ih rk a b T o i j)
  (hd:∀r c st',Sg τ st'->Res rk T r->Q (.done (aa r,c)) st')(hy:∀o' i' j' g st',Sg τ st'->Ih rk a b T o' i' j'->o.size<o'.size->Q (.yield (ai,i',j',o',g)) st'):nq #[8] A E s (TT (a.size+b.size) (H1 a b) (H2 a b) (r0,i,j,o,g)) Q τ:=by
 refine aO (fu (cV
  (I:=λx (c:U2) st'=>st'=τ/\c.1=ai/\Ih rk a b T c.2.2.2.1 c.2.1 c.2.2.1/\o.size+x<=c.2.2.2.1.size)
  (Q:=λ(c:U2) st'=>st'=τ/\((∃r,c.1=aa r/\Res rk T r)\/c.1=ai/\Ih rk a b T c.2.2.2.1 c.2.1 c.2.2.1/\o.size<c.2.2.2.1.size)) ?_ ?_ #[rfl,rfl,I,aM _]) ?_)
 .rintro x ⟨r,i',j',o',ca,cb⟩ st' _ _ ⟨rfl,rfl,I',hz⟩
  exact ZhS O G fs hk I' (λr c h=>#[rfl,.inl #[r,rfl,h]]) λo2 i2 j2 ca cb I2 e=>#[#[rfl,.inr #[rfl,I2,by dsimp only at hz ⊢;lia]],rfl,rfl,I2,by dsimp only at hz ⊢;lia]
 .rintro ⟨r,i',j',o',ca,cb⟩ st' ⟨rfl,rfl,I',hz⟩
  have:=I'.i0;have:=I'.j0;have:=I'.z;lia
 .rintro ⟨r,i',j',o',ca,cb⟩ st' ⟨rfl,⟨r',rfl,h⟩|⟨rfl,I',hz⟩⟩
  .exact aU<|hd _ _ _ #[rfl,rfl,rfl,rfl] h
  .dsimp only at I' hz
   refine aO (Wp (aO (fu (cV
    (I:=λx (c:U3) st''=>Sg st' st''/\c.1=ai/\Ih rk a b T c.2.2.2.1 c.2.1 c.2.2.1/\o'.size+x<=c.2.2.2.1.size)
    (Q:=λ(c:U3) st''=>Sg st' st''/\((∃r,c.1=aa r/\Res rk T r)\/c.1=ai/\Ih rk a b T c.2.2.2.1 c.2.1 c.2.2.1/\o'.size<c.2.2.2.1.size)) ?_ ?_ #[#[rfl,rfl,rfl,rfl],rfl,I',aM _]) ?_)))
   .rintro x ⟨r,i2,j2,o2,g,ca,cb⟩ st2 _ _ ⟨sg,rfl,I2,hz2⟩
    dsimp only at I2 hz2
    exact Zhx O G fs (sg.1.trans hk) I2 (λr c st3 s3 h=>#[sg.trans s3,.inl #[r,rfl,h]]) λo3 i3 j3 g ca cb st3 s3 I3 e=>#[#[sg.trans s3,.inr #[rfl,I3,by dsimp only;lia]],sg.trans s3,rfl,I3,by dsimp only;lia]
   .rintro ⟨r,i2,j2,o2,g,ca,cb⟩ st2 ⟨sg,rfl,I2,hz2⟩
    have:=I2.i0;have:=I2.j0;have:=I2.z;lia
   .rintro ⟨r,i2,j2,o2,g,ca,cb⟩ st2 ⟨sg,⟨r',rfl,h⟩|⟨rfl,I2,hz2⟩⟩
    .exact aU<|hd _ _ _ sg h
    .exact aO<|UF λst3 s3=>aU<|hy _ _ _ _ _ (sg.trans s3) I2<|dF hz hz2
theorem xK{τ:cf}{Q:KA->cf->Prop}(hk:kindOf τ=κ)(ha:0<a.size)(hb:0<b.size)(sa:Srt (lr rk) a.toList)(sb:Srt (lr rk) b.toList)(hT:(a.toList++b.toList).Perm T)
  (hq:∀r st',Sg τ st'->Res rk T r->Q r st'):nq #[8] A E s (QU a b) Q τ:=by
 rw[zE];refine aO<|Wp<|aO<|ZI (ZO<|by lia) ?_
 have ea:rv a a.size=a.toList.reverse:=by show(a.toList.take a.size).reverse=_;rw[<-aJ,gK]
 have eb:rv b b.size=b.toList.reverse:=by show(b.toList.take b.size).reverse=_;rw[<-aJ,gK]
 have m0:Hi rk a b T #[] a.size b.size:=by
  unfold Hi;rw[ea,eb];exact#[by simpa using((eC _).append<|eC _).trans hT,.nil,eZ.mpr sa,eZ.mpr sb,λx hx=>by cases hx]
 have m:=qX m0 ha (aM _) λy hy=>G.last y (z6 hy) _ (by rw[Z9 #[0]];exact ak ..)
 have sg0:Sg τ τ:=#[rfl,rfl,rfl,rfl];refine ZF (λq=>aU<|hq _ _ sg0<|Zc4 m q) λq1=>ZF (λq=>aU<|hq _ _ sg0<|GW fs m q) λq2=>?_
 have q1:a.size-1≠0:=λz=>q1<|beq_iff_eq.mpr z
 have q2:b.size≠1:=λz=>q2<|beq_iff_eq.mpr z
 refine aO (iJ (aO (fu (cV
  (I:=λx (c:U1) st''=>Sg τ st''/\c.1=ai/\Ih rk a b T c.2.2.2.1 c.2.1 c.2.2.1/\x<=c.2.2.2.1.size)
  (Q:=λ(c:U1) st''=>Sg τ st''/\∃r,c.1=aa r/\Res rk T r) ?_ ?_ #[sg0,rfl,#[m,by dsimp only;lia,by dsimp only;lia,by dsimp only;lia,aM _,by show 1+(a.size-1)+b.size=_;lia],dM _]) ?_)))
 .rintro x ⟨r,i,j,o,g⟩ st2 _ _ ⟨sg,rfl,I,hz⟩
  dsimp only at I hz
  exact Zg1 O G fs (sg.1.trans hk) I (λr c st3 s3 h=>#[sg.trans s3,r,rfl,h]) λo3 i3 j3 g st3 s3 I3 e=>#[sg.trans s3,rfl,I3,by dsimp only;lia]
 .rintro ⟨r,i,j,o,g⟩ st2 ⟨sg,rfl,I,hz⟩
  have:=I.i0;have:=I.j0;have:=I.z;lia
 .rintro ⟨r,i,j,o,g⟩ st2 ⟨sg,r',rfl,h⟩
  exact aU<|hq _ _ sg h
end
end
noncomputable def Kr(rk:cr->Nat)(xs:Array cr)(i:Nat):Nat:=match xs[i]? with
 |some p=>rk p
 |none=>0
def Vn(h:xs[i]?=ys[j]?):Kr rk xs i=Kr rk ys j:=by unfold Kr;rw[h]
structure Sb(κ:gj)(a₀:Array cr)(P:Array (Nat×Nat×Nat))(lo:Nat)(L:List cr)(τ:cf):Prop where
 kd:kindOf τ=κ
 pm:(bh τ).Perm a₀
 fl:gD τ=ai
 pd:bi τ=P
 ah:(bh τ).toList.take lo=L
def Up(rk:cr->Nat)(xs:Array cr)(lo m:Nat):Prop:=∀i j,lo<=i->i<j->j<lo+m->Kr rk xs i<Kr rk xs j
def Dn(rk:cr->Nat)(xs:Array cr)(lo m:Nat):Prop:=∀i j,lo<=i->i<j->j<lo+m->Kr rk xs j<Kr rk xs i
section
variable{κ:gj}{a₀:Array cr}{P:Array (Nat×Nat×Nat)}{lo:Nat}{L:List cr}{τ:cf}{In:cr->Prop}{rk:cr->Nat}
theorem Sb.size(h:Sb κ a₀ P lo L τ):(bh τ).size=a₀.size:=h.pm.size_eq
def Sb.in(h:Sb κ a₀ P lo L τ)(ia:∀x∈a₀.toList,In x):∀x∈(bh τ).toList,In x:=λx hx=>ia x<|(bD.mp h.pm).mem_iff.mp hx
def zC(hi:i<xs.size):Kr rk xs i=rk xs[i]:=by unfold Kr;rw[bp hi]
theorem Sb.ne(h:Sb κ a₀ P lo L τ)(nd:(a₀.toList.map rk).Nodup)(hi:i<a₀.size)(hj:j<a₀.size)(e:Kr rk (bh τ) i=Kr rk (bh τ) j):i=j:=by
 have hs:=h.size;have n:=(((bD.mp h.pm).map rk).nodup_iff).mpr nd;have g:∀k,k<a₀.size->((bh τ).toList.map rk)[k]?=aa (Kr rk (bh τ) k):=λk hk=>by
  rw[aQ,bq,bp #[0],zC #[0]];rfl
 exact(iK (by rw[aA,aJ];lia) n).mp (by rw[g i hi,g j hj,e])
def Sb.setA(h:Sb κ a₀ P lo L τ)(hp:xs.Perm (bh τ))(hf:∀k,k<lo->xs[k]?=(bh τ)[k]?):Sb κ a₀ P lo L (sw τ xs):=
 #[h.kd,hp.trans h.pm,h.fl,h.pd,by
  rw[<-h.ah];refine ck λk=>?_
  rw[cL,cL];split
  .rw[bq,bq];exact hf k ‹_›
  .rfl]
variable{prog:bv}{w:bO}{A:b9}{E:aw->ay->Prop}{s:ay}
theorem Jk(O:Od prog w A E s κ In rk)(h:Sb κ a₀ P lo L τ)(ia:∀x∈a₀.toList,In x){Q:Option Bool->cf->Prop}(hi:i<a₀.size)(hj:j<a₀.size)(q:Q (aa<|af<|Kr rk (bh τ) i<Kr rk (bh τ) j) τ):nq #[8] A E s (ltAt' i j) Q τ:=by
 have hs:=h.size;have m:∀k (hk:k<(bh τ).size),In (bh τ)[k]:=λk hk=>h.in ia _ #[2]
 rw[ltAt'_eq];refine aO<|iJ ?_;refine aO<|ZI (ZO<|by lia)<|aO<|ZI (ZO<|by lia) ?_
 rw[zC #[0],zC<|by lia]at q
 exact O.ask (m i _) (m j _) h.kd q
theorem ZfQ(xs:Array cr):Up rk xs lo 1:=λi j a b c=>by lia
theorem Zc1(h1:1<=m)(u:Up rk xs lo m)(c:Kr rk xs (lo+m-1)<Kr rk xs (lo+m)):Up rk xs lo (m+1):=λi j a b d=>by
 by_cases z:j=lo+m
 .subst z
  by_cases y:i=lo+m-1
  .rw[y];exact c
  .exact dF (u i (lo+m-1) a #[0]<|by lia) c
 .exact u i j a b #[0]
theorem Zd3(h1:1<=m)(u:Dn rk xs lo m)(c:Kr rk xs (lo+m)<Kr rk xs (lo+m-1)):Dn rk xs lo (m+1):=λi j a b d=>by
 by_cases z:j=lo+m
 .subst z
  by_cases y:i=lo+m-1
  .rw[y];exact c
  .exact dF c<|u i (lo+m-1) a #[0] #[0]
 .exact u i j a b #[0]
theorem ZbD(O:Od prog w A E s κ In rk)(ia:∀x∈a₀.toList,In x)(nd:(a₀.toList.map rk).Nodup){n0 nrem:Nat}{F:Nat->AscSt->StateT cf oO (ForInStep AscSt)}{Q:AscSt->cf->Prop}
  (hF:∀i m (Q:ForInStep AscSt->cf->Prop),1<=m->m<nrem->(Kr rk (bh τ) (lo+m)<Kr rk (bh τ) (lo+m-1)->Q (.done (ai,m)) τ)->(¬Kr rk (bh τ) (lo+m)<Kr rk (bh τ) (lo+m-1)->Q (.yield (ai,m+1)) τ)->nq #[8] A E s (F i (ai,m)) Q τ)
  (hn:lo+nrem<=a₀.size)(h1:1<=n0)(hl:n0<=nrem)(hB:Sb κ a₀ P lo L τ)(u:Up rk (bh τ) lo n0)
  (q:∀m,n0<=m->m<=nrem->Up rk (bh τ) lo m->(m<nrem->Kr rk (bh τ) (lo+m)<Kr rk (bh τ) (lo+m-1))->Q (ai,m) τ):nq #[8] A E s (nA [n0:nrem] ((ai,n0):AscSt) F) Q τ:=by
 refine cV (I:=λi c st'=>st'=τ/\c=(ai,i)/\Up rk (bh τ) lo i) ?_ ?_ #[rfl,rfl,u]
 .rintro i c st' ha hb ⟨rfl,rfl,u⟩
  refine hF i i _ #[0] hb (λc=>q i ha #[0] u λ_=>c) λc=>#[rfl,rfl,Zc1 #[0] u ?_]
  have:Kr rk (bh st') (lo+i-1)≠Kr rk (bh st') (lo+i):=λe=>by
   have:=hB.ne nd #[0] #[0] e
   lia
  lia
 .rintro c st' ⟨rfl,rfl,u⟩
  have e:max n0 nrem=nrem:=mn #[0]
  rw[e]at u ⊢;exact q nrem hl (aM _) u λz=>T7 z<|bB _
theorem ZbQ(O:Od prog w A E s κ In rk)(ia:∀x∈a₀.toList,In x)(nd:(a₀.toList.map rk).Nodup){nrem:Nat}{Q:Option Nat->cf->Prop}(hn:lo+nrem<=a₀.size)(h1:1<=nrem)(hB:Sb κ a₀ P lo L τ)
  (q:∀m st',Sb κ a₀ P lo L st'->1<=m->m<=nrem->Up rk (bh st') lo m->Q (aa m) st'):nq #[8] A E s (countRun' lo nrem) Q τ:=by
 rw[countRun'_eq];refine aO<|ZbD O ia nd (λi m Q a b k1 k2=>?_) hn (aM _) h1 hB (ZfQ _) λm m1 m2 u c=>?_
 .refine aO (Jk O hB ia (by dsimp only;lia) (by dsimp only;lia) ?_)
  dsimp only
  split
  .exact aU<|k1<|T6 ‹_›
  .exact aU<|k2 λz=>‹¬_› (T5 z)
 dsimp only
 by_cases e:m=nrem
 .rw[T9 (by simpa using e)]
  exact aU<|q m τ hB m1 m2 u
 rw[T8 (by simpa using e)]
 by_cases c1:m>1
 .rw[T9 c1]
  refine aO<|Jk O hB ia #[0] #[0] ?_
  dsimp only
  rw[T9<|T5<|u lo (lo+m-1) (aM _) #[0] #[0]]
  exact aU<|q m τ hB m1 m2 u
 rw[T8 c1];obtain rfl:m=1:=by lia
 refine aO<|Wp ?_;have nl:∀i j,i<a₀.size->j<a₀.size->i≠j->¬Kr rk (bh τ) i<Kr rk (bh τ) j->Kr rk (bh τ) j<Kr rk (bh τ) i:=λi j hi hj ne c=>by
  have:Kr rk (bh τ) i≠Kr rk (bh τ) j:=λe=>ne<|hB.ne nd hi hj e
  lia
 have d2:Dn rk (bh τ) lo 2:=λi j a b d=>by
  obtain⟨rfl,rfl⟩:i=lo/\j=lo+1:=by lia
  exact c #[0]
 refine aO<|fu (cV (I:=λi c st'=>st'=τ/\c=(ai,i,0)/\Dn rk (bh τ) lo i) (Q:=λc st'=>st'=τ/\∃i,c=(ai,i,0)/\2<=i/\i<=nrem/\Dn rk (bh τ) lo i) ?_ ?_ #[rfl,rfl,d2]) ?_
 .rintro i c st' ha hb ⟨rfl,rfl,u⟩
  dsimp only
  refine aO<|Jk O hB ia #[0] #[0] ?_
  dsimp only
  split
  .rw[T8<|bB 0]
   exact aU #[rfl,rfl,Zd3 #[0] u<|T6 ‹_›]
  .refine aO (Jk O hB ia #[0] #[0] ?_)
   dsimp only
   rw[T9<|T5<|nl (lo+i) (lo+i-1) #[0] #[0] #[0] λz=>‹¬_› (T5 z)]
   exact aU #[rfl,i,rfl,by lia,by lia,u]
 .rintro c st' ⟨rfl,rfl,u⟩
  have e:max (1+1) nrem=nrem:=mn #[0]
  rw[e]at u ⊢;exact#[rfl,nrem,rfl,by lia,aM _,u]
 .rintro c st' ⟨rfl,i,rfl,h2,hi,u⟩
  dsimp only
  rw[T8<|bB 0];refine aO<|wpS_reverse ?_;have hs:=hB.size;have gm:=λk=>getElem?_mirror_all (xs:=bh st') (i:=lo) (j:=lo+i) #[0] k
  have hB2:Sb κ a₀ P lo L (sw st'<|mirror (bh st') lo (lo+i)<|(lo+i-lo) / 2):=hB.setA (mirror_perm ..) λk hk=>by
   rw[gm k,T8 #[0]]
  have u2:Up rk (mirror (bh st') lo (lo+i)<|(lo+i-lo) / 2) lo i:=λa b h1 h2 h3=>by
   have e:∀k,lo<=k->k<lo+i->Kr rk (mirror (bh st') lo (lo+i)<|(lo+i-lo) / 2) k=Kr rk (bh st') (lo+(lo+i-1-k)):=λk ka kb=>Vn (by rw[gm k,T9 #[ka,kb],Nat.sub_sub,Nat.sub_sub,Nat.add_sub_assoc #[0]])
   rw[e a h1 #[0],e b #[0] h3]
   exact u _ _ (dS ..) (Nat.add_lt_add_left (Nat.sub_lt_sub_left (bo h2<|Nat.le_sub_one_of_lt h3) h2) _) #[0]
  refine aO<|ZbD O ia nd (τ:=sw st'<|mirror (bh st') lo (lo+i)<|(lo+i-lo) / 2) (λi m Q a b k1 k2=>?_) hn #[0] hi hB2 u2 λm m1 m2 u c=>?_
  .refine aO (Jk O hB2 ia (by dsimp only;lia) (by dsimp only;lia) ?_)
   dsimp only
   split
   .exact aU<|k1<|T6 ‹_›
   .exact aU<|k2 λz=>‹¬_› (T5 z)
  .exact aU<|q m _ hB2 #[0] m2 u
theorem Zc7(O:Od prog w A E s κ In rk)(ia:∀x∈a₀.toList,In x)(nd:(a₀.toList.map rk).Nodup){n ok:Nat}{Q:Bool->cf->Prop}(hn:lo+n<=a₀.size)(h1:1<=ok)(hok:ok<=n)(hB:Sb κ a₀ P lo L τ)(u:Up rk (bh τ) lo ok)
  (q:∀st',Sb κ a₀ P lo L st'->Up rk (bh st') lo n->Q am st'):nq #[8] A E s (binarySort' lo n ok) Q τ:=by
 rw[binarySort'_eq];refine aO<|fu (cV (I:=λk c st'=>c=(ai,())/\Sb κ a₀ P lo L st'/\Up rk (bh st') lo k) (Q:=λc st'=>c=(ai,())/\Sb κ a₀ P lo L st'/\Up rk (bh st') lo n) ?_ ?_ #[rfl,hB,by rw[rP h1];exact u]) ?_
 .rintro k c st' ha hb ⟨rfl,B,u⟩
  have hs:=B.size;refine aO (fu (cV (I:=λx c st2=>st2=st'/\∃l r,c=(ai,l,r)/\l<=r/\r<=k/\r+x<=k+l/\(∀i,i<l->Kr rk (bh st') (lo+i)<Kr rk (bh st') (lo+k))/\∀i,r<=i->i<k->Kr rk (bh st') (lo+k)<Kr rk (bh st') (lo+i))
   (Q:=λc st2=>st2=st'/\∃l r,c=(ai,l,r)/\l<=k/\(∀i,i<l->Kr rk (bh st') (lo+i)<Kr rk (bh st') (lo+k))/\∀i,l<=i->i<k->Kr rk (bh st') (lo+k)<Kr rk (bh st') (lo+i)) ?_ ?_ #[rfl,0,k,rfl,by lia,by lia,by lia,λi hi=>by lia,λi a b=>by lia]) ?_)
  .rintro x c st2 _ hx ⟨rfl,l,r,rfl,g1,g2,g3,g4,g5⟩
   dsimp only
   by_cases c:l>=r
   .rw[T9 c]
    exact aU #[rfl,l,r,rfl,by lia,g4,λi a b=>g5 i #[0] b]
   .rw[T8 c]
    have m1:l<=(l+r) / 2:=by lia
    have m2:(l+r) / 2<r:=by lia
    generalize (l+r) / 2=m at *;refine aO<|Jk O B ia #[0] #[0] ?_
    dsimp only
    split
    .have cm:=T6 ‹_›
     refine aU #[rfl,l,m,rfl,by lia,by lia,by lia,g4,λi a b=>?_]
     by_cases y:i=m
     .rw[y];exact cm
     .exact dF cm<|u _ _ #[0] #[0] #[0]
    .have cm:Kr rk (bh st2) (lo+m)<Kr rk (bh st2) (lo+k):=by
      have z:¬Kr rk (bh st2) (lo+k)<Kr rk (bh st2) (lo+m):=λz=>‹¬_› (T5 z)
      have:Kr rk (bh st2) (lo+k)≠Kr rk (bh st2) (lo+m):=λe=>by
       have:=B.ne nd #[0] #[0] e
       lia
      lia
     refine aU #[rfl,m+1,r,rfl,by lia,by lia,by lia,λi a=>?_,g5]
     by_cases y:i=m
     .rw[y];exact cm
     .exact dF (u _ _ #[0] #[0]<|by lia) cm
  .rintro c st2 ⟨rfl,l,r,rfl,g1,g2,g3,g4,g5⟩
   exact#[rfl,l,r,rfl,by lia,g4,λi a b=>g5 i #[0] b]
  .rintro c st2 ⟨rfl,l,r,rfl,g2,g4,g5⟩
   dsimp only
   rw[moveDown'_eq];refine aO<|fV<|aU ?_;have gb:=λi=>getElem?_bubble (xs:=bh st2) (src:=lo+k) #[0] (lo+k-(lo+l)) #[0] i
   rw[Nat.sub_sub_self<|Nat.add_le_add_left g2 lo]at gb;refine#[rfl,B.setA (bubble_perm ..) λi hi=>?_,λi j a b d=>?_]
   .rw[gb i,T8 #[0],T8 #[0]]
   .have e:∀i,Kr rk (bubble (bh st2) (lo+k)<|lo+k-(lo+l)) i=if i=lo+l then Kr rk (bh st2) (lo+k)else if lo+l<i/\i<=lo+k then Kr rk (bh st2) (i-1)else Kr rk (bh st2) i:=λi=>by
     have h:=gb i;split at h
     .rw[T9 ‹_›];exact Vn h
     .rw[T8 ‹_›]
      split at h
      .rw[T9 ‹_›];exact Vn h
      .rw[T8 ‹_›];exact Vn h
    show Kr rk (bubble _ _ _) i<Kr rk (bubble _ _ _) j;rw[e i,e j];have low:∀x,lo<=x->x<lo+l->Kr rk (bh st2) x<Kr rk (bh st2) (lo+k):=λx a b=>by
     obtain⟨y,rfl⟩:=mq a;exact g4 y<|lD b
    have high:∀x,lo+l<=x->x<lo+k->Kr rk (bh st2) (lo+k)<Kr rk (bh st2) x:=λx a b=>by
     obtain⟨y,rfl⟩:=mq<|Nat.le_of_add_right_le a;exact g5 y (Nat.le_of_add_le_add_left a)<|lD b
    by_cases ci:i=lo+l
    .rw[T9 ci,T8 #[0],T9 #[0]]
     exact high _ #[0] #[0]
    .rw[T8 ci]
     by_cases cj:j=lo+l
     .rw[T9 cj,T8 #[0]]
      exact low _ a #[0]
     .rw[T8 cj]
      by_cases di:lo+l<i/\i<=lo+k
      .rw[T9 di,T9 #[0]];exact u _ _ #[0] #[0] #[0]
      .rw[T8 di]
       by_cases dj:lo+l<j/\j<=lo+k
       .obtain⟨m,rfl⟩:=mr dj.1
        rw[T9 dj];exact u _ (lo+l+m) a #[0] #[0]
       .rw[T8 dj];exact u _ _ a b #[0]
 .rintro c st' ⟨rfl,B,u⟩
  have e:max (max ok 1) n=n:=by rw[rP h1,mn hok]
  rw[e]at u;exact#[rfl,B,u]
 .rintro c st' ⟨rfl,B,u⟩
  exact aU<|q st' B u
end
def xo(i:Nat):mergeAt' i=(do
 let t <-get
 let (aa (ia,ma,pw),aa (ib,mb,_)):=((bi t)[i]?,(bi t)[i+1]?)|unsupported "internal:list.sort.pending"
 set (iu t<|((bi t).setIfInBounds i (ia,ma+mb,pw)).eraseIdxIfInBounds<|i+1)
 let aa r <-Yl aj (<-gR (bh t) ib) (bh t) ia ma 0|return aj
 let (ja,la):=(ia+r,ma-r)
 if la == 0 then return am
 let aa lb <-Yl am (<-gR (bh t) (ja+la-1)) (bh t) ib mb (mb-1)|return aj
 if lb == 0 then return am
 let u:=(bh t).extract ja ib
 let v:=(bh t).extract ib<|ib+lb
 let mg <-if la<=lb then QP u v else QU u v
 modify λt=>sw t<|mg.toList.zipIdx.foldl (λa (p,j)=>a.setIfInBounds (ja+j) p)<|bh t
 return (gD<|<-get).isNone):=rfl
theorem zM(b:Nat):∀(m:List cr)(j:Nat)(a:Array cr),b+j+m.length<=a.size->((m.zipIdx j).foldl (λa q=>a.setIfInBounds (b+q.2) q.1) a).toList=a.toList.take (b+j)++m++a.toList.drop (b+j+m.length)
 |[],j,a,h=>by simp
 |x::r,j,a,h=>by
  rw[aT]at h;rw[mm,dE,zM b r (j+1) _ (by rw[Array.size_setIfInBounds];lia)]
  dsimp only
  rw[k8,aT,<-ek b j 1,lQ,List.take_set_of_le<|aM _,bg (by simpa using(by lia:b+j<a.size)),List.drop_set_of_lt #[0]]
  simp[ek,iG 1]
def Runs(rk:cr->Nat):List (Nat×Nat)->Nat->Nat->List cr->Prop
 |[],a,b,_=>a=b
 |(i,n)::r,a,b,l=>i=a/\1<=n/\Srt (lr rk) ((l.drop a).take n)/\Runs rk r (a+n) b l
section
theorem Runs.le:∀{r:List (Nat×Nat)}{a b:Nat}{l:List cr},Runs rk r a b l->a+r.length<=b
 |[],a,b,l,h=>mR h
 |(i,n)::r,a,b,l,#[_,h1,_,h]=>by have:=h.le;rw[aT];lia
theorem Runs.app:∀{r q:List (Nat×Nat)}{a b:Nat}{l:List cr},Runs rk (r++q) a b l↔∃c,Runs rk r a c l/\Runs rk q c b l
 |[],q,a,b,l=>#[λh=>#[a,rfl,h],λ#[c,h1,h2]=>by cases h1;exact h2]
 |(i,n)::r,q,a,b,l=>by
  constructor
  .rintro ⟨h1,h2,h3,h4⟩
   obtain⟨c,h5,h6⟩:=Runs.app.mp h4;exact#[c,#[h1,h2,h3,h5],h6]
  .rintro ⟨c,⟨h1,h2,h3,h4⟩,h5⟩
   exact#[h1,h2,h3,Runs.app.mpr #[c,h4,h5]]
theorem Runs.congr:∀{r:List (Nat×Nat)}{a b:Nat}{l l':List cr},Runs rk r a b l->(∀k,a<=k->k<b->l'[k]?=l[k]?)->Runs rk r a b l'
 |[],a,b,l,l',h,_=>h
 |(i,n)::r,a,b,l,l',#[h1,h2,h3,h4],e=>by
  have:=h4.le;refine#[h1,h2,?_,h4.congr λk ha hb=>e k #[0] hb]
  have:(l'.drop a).take n=(l.drop a).take n:=ck λk=>by
   rw[cL,cL,eW,eW];split
   .exact e _ #[0] #[0]
   .rfl
  rw[this];exact h3
def Gm(hx:Srt (lr rk) x)(hy:Srt (lr rk) y)(h:∀a∈x,∀b∈y,rk a<rk b):Srt (lr rk) (x++y):=fv.mpr #[hx,hy,h]
structure Sc(κ:gj)(a₀:Array cr)(τ:cf):Prop where
 kd:kindOf τ=κ
 pm:(bh τ).Perm a₀
 fl:gD τ=ai
variable{In:cr->Prop}
theorem xV(O:Od prog w A E s κ In rk)(ia:∀x∈a₀.toList,In x)(nd:(a₀.toList.map rk).Nodup){Q:Bool->cf->Prop}{i a na nb pw qw:Nat}{U X Y Z:List cr}(h:Sc κ a₀ τ)(h1:(bi τ)[i]?=aa (a,na,pw))(h2:(bi τ)[i+1]?=aa (a+na,nb,qw))
  (hl:(bh τ).toList=U++(X++(Y++Z)))(lU:U.length=a)(lX:X.length=na)(lY:Y.length=nb)(xa:1<=na)(yb:1<=nb)(sx:Srt (lr rk) X)(sy:Srt (lr rk) Y)
  (q:∀st' M,Sc κ a₀ st'->bi st'=((bi τ).setIfInBounds i (a,na+nb,pw)).eraseIdxIfInBounds (i+1)->(bh st').toList=U++(M++Z)->M.length=na+nb->Srt (lr rk) M->Q am st'):nq #[8] A E s (mergeAt' i) Q τ:=by
 have hp:=bD.mp h.pm;have ial:∀x∈(bh τ).toList,In x:=λx hx=>ia x<|hp.mem_iff.mp hx
 have ndl:=((hp.map rk).nodup_iff).mpr nd;have hsz:(bh τ).size=a+(na+(nb+Z.length)):=by rw[<-aJ,hl];simp[lU,lX,lY]
 have dX:((bh τ).toList.drop a).take na=X:=by rw[hl,<-lU,k9,<-lX,lg]
 have dY:((bh τ).toList.drop<|a+na).take nb=Y:=by rw[hl,<-bK,<-lU,<-lX,<-aX,k9,<-lY,lg]
 have ndXY:∀x∈X,∀y∈Y,rk x≠rk y:=λx hx y hy e=>by
  rw[hl,bV,fw,bV,fw]at ndl;exact ndl.2.1.2.2 _ (eG hx) _ (by rw[bV];exact dy _<|eG hy) e
 have inX:∀x∈X,In x:=λx hx=>ial x (by rw[hl];simp[hx])
 have inY:∀y∈Y,In y:=λy hy=>ial y (by rw[hl];simp[hy])
 obtain⟨y0,Y',rfl⟩:∃y0 Y',Y=y0::Y':=by cases Y with|nil=>simp at lY;lia|cons y Y'=>exact#[y,Y',rfl]
 have e0:(bh τ)[a+na]?=aa y0:=by
  rw[<-bq,hl,<-bK,cA (by simp;lia)]
  simp[lU,lX]
 rw[xo];refine aO<|iJ ?_;rw[h1,h2]
 dsimp only
 refine aO<|fV (f:=λ_=>iu τ<|((bi τ).setIfInBounds i (a,na+nb,pw)).eraseIdxIfInBounds<|i+1) ?_
 generalize hst:iu τ (((bi τ).setIfInBounds i (a,na+nb,pw)).eraseIdxIfInBounds<|i+1)=st1;have S1:Sc κ a₀ st1:=by rw[<-hst];exact#[h.kd,h.pm,h.fl]
 have P1:bi st1=((bi τ).setIfInBounds i (a,na+nb,pw)).eraseIdxIfInBounds (i+1):=by rw[<-hst]
 have A1:bh st1=bh τ:=by rw[<-hst]
 refine aO<|ZI e0<|aO<|vQ O S1.kd (inY y0<|ak ..) xa #[0] ial (by rw[dX];exact sx) (by rw[dX];exact λx hx=>ndXY x hx y0<|ak ..) λr hr r1 r2=>?_
 rw[dX]at r1 r2
 dsimp only
 have lowY:∀x∈X.take r,∀y∈y0::Y',rk x<rk y:=λx hx y hy=>by
  rcases az.mp hy with rfl|hy
  .exact r1 x hx
  .exact dF (r1 x hx)<|(br.mp sy).1 y hy
 by_cases c:na-r=0
 .rw[T9 (by simpa using c)]
  have:X.take r=X:=cG #[0]
  rw[this]at lowY;exact aU<|q st1 (X++y0::Y') S1 P1 (by rw[A1,hl,bK]) (by rw[aX,lX,lY])<|Gm sx sy lowY
 rw[T8 (by simpa using c)]
 obtain⟨d,hd⟩:=mr<|Nat.lt_of_sub_ne_zero c;have n9:na-r=d+1:=by rw[hd,ek,cn]
 rw[n9];have hd':r+d<X.length:=by lia
 have exl:(bh τ)[a+r+(d+1)-1]?=X[r+d]?:=by
  show(bh τ)[a+r+d]?=_;rw[<-bq,hl,<-lU,ek,cA<|dS ..,cn,cF hd']
 have xl:X[r+d]?=aa (X[r+d]'hd'):=ag _;generalize hx0:X[r+d]'hd'=x0 at xl;have mx0:x0∈X:=c7 xl;have mx1:x0∈X.drop r:=c7 (i:=d) (by rw[eW,<-xl])
 have maxX:∀x∈X,x=x0\/rk x<rk x0:=λx hx=>by
  obtain⟨k,hk,rfl⟩:=nF.mp hx;by_cases z:k=r+d
  .subst z;exact .inl hx0
  .refine .inr ?_;rw[<-hx0];exact bQ.mp sx k (r+d) hk hd' #[0]
 refine aO<|ZI (exl.trans xl)<|aO<|vQ O S1.kd (inX x0 mx0) #[0] #[0] ial (by rw[dY];exact sy) (by rw[dY];exact λy hy=>Ne.symm<|ndXY x0 mx0 y hy) λt ht t1 t2=>?_
 rw[dY]at t1 t2
 dsimp only
 have t0:t≠0:=λz=>by
  subst z;have a1:=r2 x0 mx1;have a2:=t2 y0<|ak ..;lia
 rw[T8 (by simpa using t0)]
 generalize hY:y0::Y'=Y at *;have eu:((bh τ).extract (a+r)<|a+na).toList=X.drop r:=by
  have:a+na=(a+r)+(d+1):=by lia
  rw[this,wH,<-k7,hl,<-lU,k9,ki #[0]]
  rw[show d+1=(X.drop r).length by rw[bL,lX,n9],lg]
 have ev:((bh τ).extract (a+na)<|a+na+t).toList=Y.take t:=by
  rw[wH,hl,<-bK,<-lU,<-lX,<-aX,k9,kj #[0]]
 generalize hu:(bh τ).extract (a+r) (a+na)=u at *;generalize hv:(bh τ).extract (a+na) (a+na+t)=v at *;have ul:u.size=d+1:=by rw[<-aJ,eu,bL,lX,n9]
 clear n9;have vl:v.size=t:=by rw[<-aJ,ev,fW #[0]]
 have su:Srt (lr rk) u.toList:=by rw[eu];exact sx.sublist<|pc ..
 have sv:Srt (lr rk) v.toList:=by rw[ev];exact sy.sublist<|lG ..
 have v0:∀x∈u.toList,rk (v[0]'#[0])<rk x:=λx hx=>by
  have:v.toList[0]?=aa y0:=by
   rw[ev,<-hY];obtain⟨t',rfl⟩:=Nat.exists_eq_succ_of_ne_zero t0;rfl
  have e:v[0]'#[0]=y0:=by
   rw[bq,bp<|by lia]at this
   exact au this
  rw[e];exact r2 x (by rw[<-eu];exact hx)
 have G:Mg κ In rk u v (u.toList++v.toList):=by
  refine#[?_,λx hx=>inX x<|cw<|eu▸hx,λy hy=>inY y<|dB<|ev▸hy,λy hy x hx=>?_]
  .rw[bV,fw]
   have nx:∀{z:List cr},Srt (lr rk) z->(z.map rk).Nodup:=λ{z} hz=>dq.mpr<|hz.imp λhab=>a9 hab
   refine#[nx su,nx sv,λp hp p' hp' e=>?_]
   obtain⟨x,hx,rfl⟩:=aN.mp hp;obtain⟨y,hy,rfl⟩:=aN.mp hp';exact ndXY x (cw<|eu▸hx) y (dB<|ev▸hy) e
  .have hx:x=x0:=by
    rw[eu,ul,k7,oI,cq hd',show r+d+1=X.length by lia,eN,bc]at hx
    rw[hx];exact hx0
   rw[hx];exact t1 y (by rw[<-ev];exact hy)
 have fin:∀r' st',Sg st1 st'->Res rk (u.toList++v.toList) r'->nq #[8] A E s (do
   modify λt=>sw t<|r'.toList.zipIdx.foldl (λz (p,j)=>z.setIfInBounds (a+r+j) p)<|bh t
   return (gD<|<-get).isNone) Q st':=λr' st' sg hr'=>by
  obtain⟨g1,g2,g3,g4⟩:=sg;obtain⟨k1,k2⟩:=hr';have rl:r'.toList.length=(d+1)+t:=by rw[k1.length_eq,aX,aJ,aJ,ul,vl]
  refine aO<|fV<|aO<|iJ<|aU ?_;have fo:=zM (a+r) r'.toList 0 (bh τ) #[0]
  have el:((r'.toList.zipIdx.foldl (λz (q:cr×Nat)=>z.setIfInBounds (a+r+q.2) q.1)<|bh τ).toList)=U++((X.take r++(r'.toList++Y.drop t))++Z):=by
   rw[fo,Nat.add_zero,hl,<-lU,List.take_append,pX,rl];have e2:U.length+r+(d+1+t)-U.length=na+t:=by rw[ek,cn,hd,<-ek,<-ek]
   rw[cn,e2,cG #[0],mS #[0],hU,kj #[0],<-lX,pX,mS #[0],hU,cn,ki #[0]]
   simp[bK]
  have hX:X.take r++X.drop r=X:=cR ..;have hYt:Y.take t++Y.drop t=Y:=cR ..;have pM:(X.take r++(r'.toList++Y.drop t)).Perm (X++Y):=by
   rw[eu,ev]at k1;have:(X.take r++(r'.toList++Y.drop t)).Perm (X.take r++((X.drop r++Y.take t)++Y.drop t)):=(k1.append_right _).append_left _;refine this.trans<|rQ ?_;rw[bK<|X.drop r,hYt,<-bK,hX]
  show Q (gD st').isNone _;rw[g4,S1.fl];refine q (sw st'<|r'.toList.zipIdx.foldl (λz (q:cr×Nat)=>z.setIfInBounds (a+r+q.2) q.1)<|bh st') (X.take r++(r'.toList++Y.drop t)) #[g1.trans S1.kd,?_,g4.trans S1.fl] (g3.trans P1) (by rw[<-el,<-A1,<-g2]) (by rw[pM.length_eq,aX,lX,lY]) ?_
  .refine(bD.mpr ?_).trans h.pm
   show(mI<|List.foldl _ (bh st') _).Perm _;rw[g2,A1,el,hl,<-bK X Y Z];exact(pM.append_right _).append_left _
  .have memR:∀z∈r'.toList,z∈X.drop r\/z∈Y.take t:=λz hz=>by
    have:=k1.mem_iff.mp hz;rw[eu,ev]at this;exact cp.mp this
   have sX:=fv.mp<|hX.symm▸sx;have sY:=fv.mp<|hYt.symm▸sy;refine Gm sX.1 (Gm k2 sY.2.1 λp hp y hy=>?_) λx hx z hz=>?_
   .rcases memR p hp with m|m
    .have:=t2 y hy
     rcases maxX p (cw m)with rfl|m
     .exact this
     .exact dF m this
    .exact sY.2.2 p m y hy
   .rcases cp.mp hz with m|m
    .rcases memR z m with m|m
     .exact sX.2.2 x hx z m
     .exact lowY x hx z<|dB m
    .exact lowY x hx z<|cw m
 by_cases cl:d+1<=t
 .rw[T9 cl]
  exact aO<|xB O G S1.kd #[0] #[0] su sv (cZ _) v0 λr' st' sg hr'=>fin r' st' sg hr'
 .rw[T8 cl]
  have fs:∀x∈u.toList,∀y∈v.toList.take 1,rk y<rk x:=λx hx y hy=>by
   have e:=Z9 (a:=v) (i:=0) #[0]
   rw[kY]at e;rw[e]at hy;rw[bc.mp hy];exact v0 x hx
  exact aO<|xK O G fs S1.kd #[0] #[0] su sv (cZ _) λr' st' sg hr'=>fin r' st' sg hr'
end
section
variable{In:cr->Prop}
noncomputable abbrev g2(q:Nat×Nat×Nat):Nat×Nat:=(q.1,q.2.1)
def pl(τ:cf):List (Nat×Nat):=(bi τ).toList.map g2
def cut2{B:Type}{l:List B}{i:Nat}{x y:B}(h1:l[i]?=aa x)(h2:l[i+1]?=aa y):l=l.take i++(x::y::l.drop (i+2)):=by
 obtain⟨a,e1⟩:=aK.mp h1;obtain⟨b,e2⟩:=aK.mp h2
 conv=>lhs;rw[<-cR i l,cq a,cq b,e1,e2]
theorem WO(O:Od prog w A E s κ In rk)(ia:∀x∈a₀.toList,In x)(nd:(a₀.toList.map rk).Nodup){Q:Bool->cf->Prop}{i b:Nat}{R3:List (Nat×Nat)}(h:Sc κ a₀ τ)(hi:i+1<(bi τ).size)(hb:b<=a₀.size)(hr:Runs rk (pl τ++R3) 0 b (bh τ).toList)
  (q:∀st',Sc κ a₀ st'->(bi st').size=(bi τ).size-1->Runs rk (pl st'++R3) 0 b (bh st').toList->Q am st'):nq #[8] A E s (mergeAt' i) Q τ:=by
 obtain⟨⟨a,na,pw⟩,h1⟩:∃x,(bi τ)[i]?=aa x:=#[_,bp #[0]]
 obtain⟨⟨b1,nb,qw⟩,h2⟩:∃x,(bi τ)[i+1]?=aa x:=#[_,bp hi];have e:=cut2 (l:=(bi τ).toList) (by rw[bq];exact h1) (by rw[bq];exact h2)
 generalize hA:(bi τ).toList.take i=RA at e;generalize hC:(bi τ).toList.drop (i+2)=RC at e;have lA:RA.length=i:=by rw[<-hA,bT,aJ];lia
 unfold pl at hr;rw[e,bV,bK]at hr;obtain⟨c,r1,r2⟩:=Runs.app.mp hr;obtain⟨z1,n1,s1,z2,n2,s2,r3⟩:=r2
 dsimp only[g2]at z1 n1 s1 z2 n2 s2 r3
 subst z1 z2;have hle:=r3.le;have hsz:(bh τ).toList.length=a₀.size:=by rw[aJ];exact h.pm.size_eq
 generalize hl:(bh τ).toList=l at *;have el:l=l.take a++((l.drop a).take na++((l.drop<|a+na).take nb++l.drop (a+na+nb))):=by
  rw[td,td,cR]
 have lU:(l.take a).length=a:=fW #[0]
 refine xV O ia nd h h1 h2 (hl.trans el) lU (fW<|by rw[bL];exact m9<|by lia) (fW<|by rw[bL];exact m9<|by lia) n1 n2 s1 s2 λst' M S' hp' hl' lM sM=>?_
 have hpl:(bi st').toList=RA++((a,na+nb,pw)::RC):=by
  rw[hp',Array.toList_eraseIdxIfInBounds,k8,e,List.set_append_right _ _ #[0],lA,Nat.sub_self]
  rw[List.eraseIdx_append_of_length_le #[0],lA,cn]
  rfl
 refine q st' S' ?_ ?_
 .rw[<-aJ,hpl,<-aJ,e]
  simp
 .have at_:∀k,(k<a\/a+na+nb<=k)->(bh st').toList[k]?=l[k]?:=λk hk=>by
   rw[hl'];rcases hk with hk|hk
   .rw[cF<|lU.symm▸hk,cL,T9 hk]
   .obtain⟨d,rfl⟩:=Nat.le.dest hk
    have e1:(l.take a++M).length=a+na+nb:=by rw[aX,lU,lM,ek]
    rw[<-bK,cA<|e1▸hk,e1,cn,eW]
  unfold pl;rw[hpl,bV,bK];refine Runs.app.mpr #[a,r1.congr λk _ hk=>at_ k<|.inl hk,rfl,by dsimp only[g2];lia,?_,?_]
  .show Srt (lr rk) (((bh st').toList.drop a).take<|na+nb)
   rw[hl',<-lM,List.drop_left' lU,lg];exact sM
  .show Runs rk _ (a+(na+nb)) b _
   rw[<-ek];exact r3.congr λk hk _=>at_ k<|.inr hk
theorem Zba{lo n:Nat}{xs:Array cr}(hn:lo+n<=xs.size)(u:Up rk xs lo n):Srt (lr rk) ((xs.toList.drop lo).take n):=by
 refine bQ.mpr λi j hi hj hij=>?_
 rw[bT,bL,aJ]at hi hj;have g:∀k (hk:k<((xs.toList.drop lo).take n).length),((xs.toList.drop lo).take n)[k]=xs[lo+k]'(by rw[bT,bL,aJ]at hk;lia):=λk hk=>by
  rw[gw,gy,Array.getElem_toList]
 rw[g,g];have:=u (lo+i) (lo+j) #[0] #[0] #[0]
 rw[zC #[0],zC<|by lia]at this
 exact this
def Jz{P:Array (Nat×Nat×Nat)}{k pw:Nat}:(P.modify k λq=>(q.1,q.2.1,pw)).toList.map g2=P.toList.map g2:=by
 refine ck λi=>?_
 rw[aQ,aQ,bq,bq,Array.getElem?_modify];split
 .cases P[i]?<;>rfl
 .rfl
theorem sort_ok(O:Od prog w A E s κ In rk)(ia:∀x∈a₀.toList,In x)(nd:(a₀.toList.map rk).Nodup){Q:Unit->cf->Prop}(hk:kindOf τ=κ)(ha:bh τ=a₀)(hp:bi τ = #[])(hf:gD τ=ai)(h1:1<=a₀.size)
  (q:∀st',(bh st').Perm a₀->gD st'=ai->Srt (lr rk) (bh st').toList->Q () st'):nq #[8] A E s sortRuns' Q τ:=by
 rw[sortRuns'_eq];refine aO<|iJ ?_;rw[ha]
 dsimp only
 have S0:Sc κ a₀ τ:=#[hk,by rw[ha],hf]
 refine aO (fu (cV
  (I:=λx c st'=>∃lo,c=(ai,lo)/\x<=lo/\lo<=a₀.size/\Sc κ a₀ st'/\Runs rk (pl st') 0 lo (bh st').toList)
  (Q:=λc st'=>c=(ai,a₀.size)/\Sc κ a₀ st'/\Runs rk (pl st') 0 a₀.size (bh st').toList) ?_ ?_ #[0,rfl,aM _,dM _,S0,by unfold pl;rw[hp];rfl]) ?_)
 .rintro x c st1 _ hx ⟨lo,rfl,g1,g2',S1,R1⟩
  dsimp only
  by_cases c:lo>=a₀.size
  .rw[T9 c]
   obtain rfl:lo=a₀.size:=by lia
   exact aU #[rfl,S1,R1]
  rw[T8 c];have B1:Sb κ a₀ (bi st1) lo ((bh st1).toList.take lo) st1:=#[S1.kd,S1.pm,S1.fl,rfl,rfl];refine aO<|ZbQ O ia nd #[0] #[0] B1 λm st2 B2 m1 m2 u2=>?_
  dsimp only
  have done:∀n st3,1<=n->lo+n<=a₀.size->Sc κ a₀ st3->Runs rk (pl st3++[(lo,n)]) 0 (lo+n) (bh st3).toList->∃lo',((ai,lo+n):Option PUnit×Nat)=(ai,lo')/\x+1<=lo'/\lo'<=a₀.size/\Sc κ a₀ (iu st3<|(bi st3).push (lo,n,0))/\Runs rk (pl<|iu st3<|(bi st3).push (lo,n,0)) 0 lo' (bh st3).toList:=λn st3 n1 n2 S3 R3=>
   #[lo+n,rfl,by lia,n2,#[S3.kd,S3.pm,S3.fl],by
    have:pl (iu st3<|(bi st3).push (lo,n,0))=pl st3++[(lo,n)]:=by
     show nG g2 ((bi st3).push (lo,n,0)).toList=_;rw[fz,bV];rfl
    rw[this];exact R3]
  by_cases c2:m<rX a₀.size a₀.size 0
  .rw[T9 c2]
   refine aO<|Wp<|aO<|Zc7 (n:=sO (a₀.size-lo)<|rX a₀.size a₀.size 0) O ia nd #[0] m1 #[0] B2 u2 λst5 B u=>?_
   have n1:1<=sO (a₀.size-lo) (rX a₀.size a₀.size 0):=by lia
   have n2:lo+sO (a₀.size-lo) (rX a₀.size a₀.size 0)<=a₀.size:=by lia
   simp only[i6,cK,if_false];generalize sO (a₀.size-lo) (rX a₀.size a₀.size 0)=n at *;clear B2 u2;refine aO<|iJ ?_;have S5:Sc κ a₀ st5:=#[B.kd,B.pm,B.fl];have hz:(bh st5).size=a₀.size:=B.size;have R5:Runs rk (pl st5++[(lo,n)]) 0 (lo+n) (bh st5).toList:=Runs.app.mpr #[lo,by
    unfold pl at R1 ⊢;rw[B.pd];refine R1.congr λk _ hk=>?_
    have e:(kH lo _)[k]?=(kH lo _)[k]?:=congrArg (λl=>l[k]?) B.ah
    rw[cL,cL,T9 hk,T9 hk]at e;exact e,rfl,n1,Zba #[0] u,rfl]
   cases hbk:(bi st5).back? with
   |none=>
    exact aO<|fV<|aU<|done n st5 n1 n2 S5 R5
   |some q5=>
    obtain⟨x1,x2,x3⟩:=q5
    dsimp only
    refine aO<|fu (cV (I:=λ_ c st3=>c=(ai,())/\Sc κ a₀ st3/\Runs rk (pl st3++[(lo,n)]) 0 (lo+n) (bh st3).toList) ?_ (λc st3 h=>h) #[rfl,S5,R5]) ?_
    .rintro x c st3 _ _ ⟨rfl,S3,R3⟩
     refine aO<|iJ ?_;by_cases c:(bi st3).size>1
     .rw[T9 c,bp<|show(bi st3).size-2<(bi st3).size by lia]
      dsimp only
      split
      .exact aU #[rfl,S3,R3]
      .refine aO (WO O ia nd S3 #[0] n2 R3 λst4 S4 _ R4=>?_)
       simp only[i6,cK,if_false];exact aU #[rfl,S4,R4]
     .rw[T8 c]
      exact aU #[rfl,S3,R3]
    .rintro c st3 ⟨rfl,S3,R3⟩
     dsimp only
     exact aO (fV (aO (fV (aU (done n (iu st3 _) n1 n2 #[S3.kd,S3.pm,S3.fl] (by
      show Runs rk (nG g2 (Array.modify _ _ _).toList++_) _ _ _;rw[Jz];exact R3))))))
  .rw[T8 c2]
   have n2:lo+m<=a₀.size:=by lia
   refine aO<|iJ ?_;have S5:Sc κ a₀ st2:=#[B2.kd,B2.pm,B2.fl];have hz:(bh st2).size=a₀.size:=B2.size;have R5:Runs rk (pl st2++[(lo,m)]) 0 (lo+m) (bh st2).toList:=Runs.app.mpr #[lo,by
    unfold pl at R1 ⊢;rw[B2.pd];refine R1.congr λk _ hk=>?_
    have e:(kH lo _)[k]?=(kH lo _)[k]?:=congrArg (λl=>l[k]?) B2.ah
    rw[cL,cL,T9 hk,T9 hk]at e;exact e,rfl,m1,Zba #[0] u2,rfl]
   cases hbk:(bi st2).back? with
   |none=>
    exact aO<|fV<|aU<|done m st2 m1 n2 S5 R5
   |some q5=>
    obtain⟨x1,x2,x3⟩:=q5
    dsimp only
    refine aO<|fu (cV (I:=λ_ c st3=>c=(ai,())/\Sc κ a₀ st3/\Runs rk (pl st3++[(lo,m)]) 0 (lo+m) (bh st3).toList) ?_ (λc st3 h=>h) #[rfl,S5,R5]) ?_
    .rintro x c st3 _ _ ⟨rfl,S3,R3⟩
     refine aO<|iJ ?_;by_cases c:(bi st3).size>1
     .rw[T9 c,bp<|show(bi st3).size-2<(bi st3).size by lia]
      dsimp only
      split
      .exact aU #[rfl,S3,R3]
      .refine aO (WO O ia nd S3 #[0] n2 R3 λst4 S4 _ R4=>?_)
       simp only[i6,cK,if_false];exact aU #[rfl,S4,R4]
     .rw[T8 c]
      exact aU #[rfl,S3,R3]
    .rintro c st3 ⟨rfl,S3,R3⟩
     dsimp only
     exact aO (fV (aO (fV (aU (done m (iu st3 _) m1 n2 #[S3.kd,S3.pm,S3.fl] (by
      show Runs rk (nG g2 (Array.modify _ _ _).toList++_) _ _ _;rw[Jz];exact R3))))))
 .rintro c st1 ⟨lo,rfl,g1,g2',S1,R1⟩
  obtain rfl:lo=a₀.size:=by lia
  exact#[rfl,S1,R1]
 .rintro c st1 ⟨rfl,S1,R1⟩
  dsimp only
  have len1:=R1.le;refine aO (fu (cV
   (I:=λx c st2=>c=(ai,())/\Sc κ a₀ st2/\Runs rk (pl st2) 0 a₀.size (bh st2).toList/\(bi st2).size<=max 1 (a₀.size-x))
   (Q:=λc st2=>c=(ai,())/\Sc κ a₀ st2/\Runs rk (pl st2) 0 a₀.size (bh st2).toList/\(bi st2).size<=1) ?_ ?_ #[rfl,S1,R1,by unfold pl at len1;rw[aA,aJ]at len1;lia]) ?_)
  .rintro x c st2 _ hx ⟨rfl,S2,R2,l2⟩
   refine aO<|iJ ?_;by_cases c:(bi st2).size<=1
   .rw[T9 c]
    exact aU #[rfl,S2,R2,c]
   rw[T8 c];generalize hj:(if(Option.any (λx=>af<|x<((bi st2)[(bi st2).size-2+1]?).elim 0 λx=>x.2.1)<|if(bi st2).size-2>0 then Option.map (λx=>x.2.1) (bi st2)[(bi st2).size-2-1]? else ai)=am then(bi st2).size-2-1 else(bi st2).size-2)=j
   have hj1:j+1<(bi st2).size:=by
    have g:∀b:Bool,(if b=am then(bi st2).size-2-1 else(bi st2).size-2)+1<(bi st2).size:=λb=>by cases b<;>simp<;>lia
    rw[<-hj];exact g _
   refine aO<|WO (R3:=[]) O ia nd S2 hj1 (aM _) (by rw[cz];exact R2) λst3 S3 l3 R3=>?_
   rw[cz]at R3;simp only[i6,cK,if_false];exact aU #[rfl,S3,R3,by lia]
  .rintro c st2 ⟨rfl,S2,R2,l2⟩
   exact#[rfl,S2,R2,by lia]
  .rintro c st2 ⟨rfl,S2,R2,l2⟩
   dsimp only
   refine aU<|q st2 S2.pm S2.fl ?_;have hz:(bh st2).toList.length=a₀.size:=by rw[aJ];exact S2.pm.size_eq
   unfold pl at R2
   match hP:(bi st2).toList,R2 with
   |[],R2=>exact T7 (show 0=a₀.size from R2) #[0]
   |[(i,n,pw)],R2=>
    obtain⟨_,_,z,e⟩:=R2;have e:0+n=a₀.size:=e;rw[kY,cG<|by dsimp only[g2];lia]at z
    exact z
   |_::_::_,_=>rw[<-aJ,hP]at l2;simp at l2
end
end Tq
namespace Sq
open PySem PySem.W PyProof.Rows
structure Ord(n:Nat)(lt:Nat->Nat->Bool):Prop where
 tot:∀i j,i<n->j<n->i≠j->lt i j=aj->lt j i=am
 asy:∀i j,i<n->j<n->lt i j=am->lt j i=aj
 tr:∀i j k,i<n->j<n->k<n->lt i j=am->lt j k=am->lt i k=am
noncomputable abbrev g(p:Array Nat)(i:Nat):Nat:=p.getD i 0
def Pm(n:Nat)(p:Array Nat):Prop:=p.Perm<|du<|aP n
theorem Pm.size(h:Pm n p):p.size=n:=by have:=Array.Perm.size_eq h;simpa using this
def ZcC(h:i<p.size):p[i]?=aa (g p i):=by simp[g,h]
def Pm.lt(h:Pm n p)(hi:i<n):g p i<n:=by
 have hs:=h.size;have h1:g p i∈p.toList:=by
  have:p.toList[i]?=aa (g p i):=by rw[bq];exact ZcC #[0]
  exact c7 this
 have h2:p.toList.Perm (aP n):=by simpa using bD.mp h
 exact aV.mp<|h2.mem_iff.mp h1
def Up(lt:Nat->Nat->Bool)(p:Array Nat)(m:Nat):Prop:=∀i j,i<j->j<m->lt (g p i) (g p j)=am
theorem J2{B:Type}{p q:B->Bool}:∀{l:List B},(∀x∈l,p x=am->q x=am)->(∃x∈l,q x=am/\p x=aj)->l.countP p<l.countP q
 |[],_,#[x,hx,_]=>by cases hx
 |y::l,h,#[x,hx,h1,h2]=>by
  have hm:=List.countP_mono_left λz hz=>h z<|al _ hz
  rw[pY,pY];rcases az.mp hx with rfl|hx
  .rw[h1,h2,T9 rfl,T8 aR];lia
  .have:=J2 (λz hz=>h z<|al _ hz) #[x,hx,h1,h2]
   have hy:=h y<|ak ..;cases e:p y with|false=>rw[T8 aR];lia|true=>rw[hy e,T9 rfl];lia
noncomputable def rank(n:Nat)(lt:Nat->Nat->Bool)(i:Nat):Nat:=(aP n).countP λj=>lt j i
def UL{n:Nat}{lt:Nat->Nat->Bool}(O:Ord n lt){i j:Nat}(hi:i<n)(hj:j<n):af (rank n lt i<rank n lt j)=lt i j:=by
 have irr:∀k,k<n->lt k k=aj:=λk hk=>by
  cases e:lt k k with|false=>rfl|true=>rw[<-e];exact O.asy k k hk hk e
 have up:=λ{a b} ha hb e=>
  J2 (λx hx h=>O.tr x a b (aV.mp hx) ha hb h e) #[a,aV.mpr ha,e,irr a ha]
 cases e:lt i j with
 |true=>exact T5<|up hi hj e
 |false=>
  refine T4 λh=>?_
  by_cases z:i=j
  .subst z;exact bB _ h
  .exact Nat.lt_asymm h<|up hj hi<|O.tot i j hi hj z e
section
open Classical
noncomputable def idx(vs:List aw)(v:aw):Nat:=if h:∃i:Nat,vs[i]?=aa v then choose h else 0
def xJ(nd:vs.Nodup)(h:vs[i]?=aa v):idx vs v=i:=by
 have hx:∃i:Nat,vs[i]?=aa v:=#[i,h];unfold idx;rw[dif_pos hx];have e:=choose_spec hx;have hl:=(aK.mp e).1;exact(iK hl nd).mp<|e.trans h.symm
end
def Zfp{vs:List aw}{κ:gj}{lt:Nat->Nat->Bool}(nd:vs.Nodup)(h1:1<=vs.length)(O:Ord vs.length lt)
  (ask:∀i j,i<vs.length->j<vs.length->∀(C:Bool->ay->Prop)(E:aw->ay->Prop),C (lt i j) s->aW #[8] A (keyLt' κ (vs.getD i bz)<|vs.getD j bz) C E s) :
  aW #[8] A ((sortRuns').run<|sm κ (vs.toArray.zip vs.toArray) #[] 7 ai) (λr s'=>s'=s/\∃p,Pm vs.length p/\Up lt p vs.length/\gD r.2=ai/\(bh r.2).map (·.2)=du (p.toList.map λi=>vs.getD i bz)) E s:=by
 have hz:(vs.toArray.zip vs.toArray).toList=vs.map λv=>(v,v):=by
  rw[ksk_zip];clear ask O h1 nd
  induction vs with|nil=>rfl|cons v l ih=>rw[cM,ih];rfl
 let rk:cr->Nat:=λx=>rank vs.length lt<|idx vs x.1
 let In:cr->Prop:=λx=>∃i:Nat,vs[i]?=aa x.1/\x=(x.1,x.1)
 have atI:∀{x:cr},In x->idx vs x.1<vs.length/\vs.getD (idx vs x.1) bz=x.1:=λ{x} #[i,e,_]=>by
  rw[xJ nd e];exact#[(aK.mp e).1,by rw[aD,e];rfl]
 have od:Tq.Od prog w A E s κ In rk:=⟨λ{x y τ Q} ix iy hk q=>by
  obtain⟨a1,a2⟩:=atI ix;obtain⟨b1,b2⟩:=atI iy;rw[lt'_eq];refine aO<|iJ ?_;rw[hk];have:=ask _ _ a1 b1 (λb s'=>s'=s/\b=lt (idx vs x.1) (idx vs y.1)) (λ_ _=>False) #[rfl,rfl]
  rw[a2,b2]at this;refine aO<|wpS_lift<|gZ<|dH this (λb s' h=>?_) λ_ _ h=>h.elim
  obtain⟨rfl,rfl⟩:=h;refine#[rfl,aU ?_];rw[<-UL O a1 b1];exact q⟩
 have ia:∀x∈(vs.toArray.zip vs.toArray).toList,In x:=λx hx=>by
  rw[hz]at hx;obtain⟨v,hv,rfl⟩:=aN.mp hx;obtain⟨i,hi,e⟩:=nF.mp hv;exact#[i,by rw[ag hi,e],rfl]
 have rks:(vs.toArray.zip vs.toArray).toList.map rk=(aP vs.length).map (rank vs.length lt):=by
  rw[hz,cg];refine ck λi=>?_
  rw[aQ,aQ];by_cases h:i<vs.length
  .rw[cT h,ag h]
   exact congrArg (λk=>aa<|rank vs.length lt k)<|xJ nd<|ag h
  .rw[bM #[0],bM (by rw[bH];lia)];rfl
 have ndr:((vs.toArray.zip vs.toArray).toList.map rk).Nodup:=by
  rw[rks];refine dq.mpr<|l7 ?_ re;intro a b ha hb ne e;have ha:=aV.mp ha;have hb:=aV.mp hb;have h1:=UL O ha hb;have h2:=UL O hb ha;rw[e,T4<|bB _]at h1 h2;exact T7 (O.tot a b ha hb ne h1.symm) (by rw[<-h2];simp)
 have sz:(vs.toArray.zip vs.toArray).size=vs.length:=by rw[<-aJ,hz,aA]
 refine Tq.sort_ok (Q:=λ_ st'=>∃p,Pm vs.length p/\Up lt p vs.length/\gD st'=ai/\(bh st').map (·.2)=du (p.toList.map λi=>vs.getD i bz)) od ia ndr rfl rfl rfl rfl #[0] λst' pm fl so=>?_
 have pl:=bD.mp pm;have inS:=λx hx=>ia x<|pl.mem_iff.mp hx
 have pp:((bh st').toList.map λx=>idx vs x.1).Perm (aP vs.length):=by
  refine(pl.map _).trans<|rQ ?_;rw[hz,cg];refine ck λi=>?_
  rw[aQ];by_cases h:i<vs.length
  .rw[cT h,ag h]
   exact congrArg aa<|xJ nd<|ag h
  .rw[bM #[0],bM (by rw[bH];lia)];rfl
 have sl:(bh st').toList.length=vs.length:=by rw[pl.length_eq,hz,aA]
 refine#[du<|(bh st').toList.map λx=>idx vs x.1,bD.mpr pp,λi j hij hj=>?_,fl,?_]
 .have gk:∀k (hk:k<(bh st').toList.length),g (du<|(bh st').toList.map λx=>idx vs x.1) k=idx vs ((bh st').toList[k]).1:=λk hk=>by
   show((du<|(bh st').toList.map λx=>idx vs x.1).getD k 0)=_
   rw[Array.getD_eq_getD_getElem?,List.getElem?_toArray,aQ,ag hk];rfl
  rw[gk i #[0],gk j #[0]]
  have:=bQ.mp so i j #[0] #[0] hij
  rw[<-UL O (atI<|inS _<|aZ _).1 (atI<|inS _<|aZ _).1];exact T5 this
 .apply iW.mp
  rw[rg,cg];refine dJ λx hx=>?_
  have hi:=inS x hx;show x.2=vs.getD (idx vs x.1) bz;rw[(atI hi).2];obtain⟨_,_,e⟩:=hi;rw[e]
open PySem.Calls
def Lat(h h':bZ):Prop:=∀b o,h.get? b=aa o->h'.get? b=aa o
structure Asks(prog:bv)(w:bO)(A:b9)(h:bZ)(vs:List aw)(κ:gj)(lt:Nat->Nat->Bool):Prop where
 kind:2<=vs.length->∀(s':ay)(E:aw->ay->Prop)(Q:gj->ay->Prop),Lat h s'.heap->Q κ s'->aW (aS prog w) A (keyKind' vs.toArray) Q E s'
 nd:vs.Nodup
 cmp:∀i j,i<vs.length->j<vs.length->∀(s':ay)(C:Bool->ay->Prop)(E:aw->ay->Prop),Lat h s'.heap->C (lt i j) s'->aW (aS prog w) A (keyLt' κ (vs.getD i bz)<|vs.getD j bz) C E s'
noncomputable def ltR(b:Bool)(n:Nat)(lt:Nat->Nat->Bool):Nat->Nat->Bool:=λi j=>if b=am then lt (n-1-i) (n-1-j)else lt i j
def ZcL(O:Ord n lt):Ord n (ltR b n lt):=by
 cases b
 .exact O
 .exact#[λi j hi hj ne h=>O.tot _ _ #[0] #[0] #[0] h,λi j hi hj h=>O.asy _ _ #[0] #[0] h,λi j k hi hj hk h1 h2=>O.tr _ _ _ #[0] #[0] #[0] h1 h2]
def yA(hi:i<vs.length):(l8 b vs).getD i bz=vs.getD (if b=am then vs.length-1-i else i) bz:=by
 cases b
 .rfl
 .show vs.reverse.getD i bz=vs.getD (vs.length-1-i) bz
  simp only[aD];rw[ng hi]
def uy(vs:List aw):(aP vs.length).map (λi=>vs.getD i bz)=vs:=by
 apply ck
 intro i;rw[aQ];by_cases h:i<vs.length
 .rw[cT h];simp[h]
 .simp[d9 h]
def list_sort_rev{P:PySem.Fin->ay->Prop}(ho:s.heap.get? a=aa (fG "list" vs.toArray n))(h64:vs.length<=100000)
  (h00:∀b o,h0.get? b=aa o->b≠a/\s.heap.get? b=aa o)(O:Ord vs.length lt)(K:Asks prog w A h0 vs κ lt)
  (h:∀p,Pm vs.length p->Up (ltR b vs.length lt) p vs.length->P (.done<|.ret .none) {s with heap:=sortedHeap s.heap a vs (du<|l8 b<|p.toList.map λi=>(l8 b vs).getD i bz)}) :
  aW #[8] A (dG.«list.sort» #[[.ref a],[(pe "reverse",.bool b)]]) P E s:=by
 rw[lh];have ha:=aH ho;refine ae<|listItems_at ho rfl ?_;refine ae<|oa ho rfl ?_;obtain⟨e1,ho1⟩:∃e1,(s.heap.update a<|eR λ_=>#[]).get? a=aa (fG "list" #[] e1):=#[_,get?_update_seq ho λ_=>#[]]
 refine ae<|rG ho1 rfl ?_;refine ae<|wpAny_newTuple ?_;refine ae<|l9 ?_;refine bP ?_;have ho6:(((s.heap.update a<|eR λ_=>#[]).push<|fG "tuple" vs.toArray 0).push<|fG "list" #[] 0).get? a=aa (fG "list" #[] e1):=by
  rw[iL _ _ _ (by rw[oJ,mv];exact a9<|cH ha),iL _ _ _ (by rw[mv];exact a9 ha)]
  exact ho1
 have lat:Lat h0 (((s.heap.update a<|eR λ_=>#[]).push<|fG "tuple" vs.toArray 0).push<|fG "list" #[] 0):=λb o e=>by
  obtain⟨nb,e⟩:=h00 b o e;exact aq _<|aq _ (by rw[nU _ _ _ _ nb];exact e)
 generalize hs':((s.heap.update a<|eR λ_=>#[]).push<|fG "tuple" vs.toArray 0).push (fG "list" #[] 0)=h1 at ho6 lat ⊢
 dsimp only
 have step:∀t:oO PySem.Fin,aW #[8] A t P E {s with heap:=h1}->aW #[8] A (if b=am then(do let _ <-oU "list.sort.reverse";t)else t) P E {s with heap:=h1}:=by
  intro t ht;split
  .exact ae<|eQ ht
  .exact ht
 refine step _ ?_;have hrl:=rY b vs;have fin:∀out:List aw,out.length=vs.length->(∃p,Pm vs.length p/\Up (ltR b vs.length lt) p vs.length/\out=p.toList.map λi=>(l8 b vs).getD i bz)->
   P (.done<|.ret .none) {s with heap:=h1.update a (eR λ_=>du<|l8 b out)}:=by
  rintro out _ ⟨p,h1',h2',rfl⟩
  subst hs';exact h p h1' h2'
 by_cases h2:vs.toArray.size<2
 .rw[T9 h2,T9 h2]
  refine ae<|ax ?_;rw[StateT.run_pure];refine ae<|ax ?_
  dsimp only
  have hz:((bh<|sm general' (if b=am then(vs.toArray.zip vs.toArray).reverse else vs.toArray.zip vs.toArray) #[] 7 ai).map (·.2))=du (l8 b vs):=by
   rw[kat_pairs b rfl];apply iW.mp;rw[rg,ksk_zip];exact List.map_snd_zip<|aM _
  rw[hz];refine ae<|rG ho6 rfl ?_;rw[kat_outs];refine ae<|oa ho6 rfl ?_ (hsz2:=by rw[aC];(try rw[rY]);(try rw[rY]);rw[dz];lia)
  simp only[bne_self_eq_false,cK,if_false];refine ax<|fin (l8 b vs) (rY b vs) #[du<|aP vs.length,Array.Perm.refl _,λi j a1 a2=>by rw[aC]at h2;lia,?_]
  rw[<-hrl];exact(uy _).symm
 .rw[T8 h2,T8 h2]
  have l2:2<=vs.length:=by rw[aC]at h2;lia
  refine ae<|K.kind l2 _ _ _ lat ?_;rw[kat_pairs b rfl];have ndR:(l8 b vs).Nodup:=by
   cases b
   .exact K.nd
   .exact(eC vs).nodup_iff.mpr K.nd
  refine ae (dH (Zfp ndR #[0] (by rw[hrl];exact ZcL (b:=b) O) (by
    rw[hrl];intro i j hi hj C E hC;rw[yA hi,yA hj];cases b
    .exact K.cmp i j hi hj _ _ _ lat hC
    .exact K.cmp _ _ (by simp only[if_true];lia) (by simp only[if_true];lia) _ _ _ lat hC)) ?_ λ_ _ x=>x)
  rintro ⟨⟨⟩,st'⟩ s' ⟨rfl,p,e2,e3,hf,har⟩
  rw[hrl]at e2 e3
  dsimp only
  rw[har];have hl:(p.toList.map λi=>(l8 b vs).getD i bz).length=vs.length:=by rw[aA,aJ,e2.size]
  refine ae<|rG ho6 rfl ?_;rw[kat_outs];refine ae<|oa ho6 rfl ?_ (hsz2:=by rw[aC];(try rw[rY]);rw[hl,dz];lia)
  rw[hf];simp only[bne_self_eq_false,cK,if_false];exact ax<|fin _ hl #[p,e2,e3,rfl]
def xO{l:aE}{vs:List aw}{b:Bool}{κ:gj}{lt:Nat->Nat->Bool}{Q:aw->ay->Prop}(hl:s.heap.IsList l vs.toArray)(h64:vs.length<=100000)(O:Ord vs.length lt)(K:Asks prog w A.in1.in1 s.heap vs κ lt)
  (h:∀p,Pm vs.length p->Up (ltR b vs.length lt) p vs.length->Q (.ref<|s.heap.objs.size+1) {s with heap:=sortedAll s.heap vs (du<|l8 b<|p.toList.map λi=>(l8 b vs).getD i bz)}) :
  aW #[8] A (call (.builtin "sorted") [.ref l] [(pe "reverse",.bool b)]) Q E s:=by
 refine call_function_entry_kw rH pf pi (args_sorted_rev _ _) ?_;unfold dG.«sorted»;refine ae (m:=checkCount "sorted" 1 1 _)<|ax ?_;refine ae<|collect_list hl ?_;refine ae<|l9 ?_;have hsz:((s.heap.push<|fG "list" #[] 0).update s.heap.objs.size (eR (·++vs.toArray))).objs.size=s.heap.objs.size+1:=by
  rw[mv,oJ]
 have hoL:(((s.heap.push<|fG "list" #[] 0).update s.heap.objs.size (eR (·++vs.toArray))).push<|fG "list" vs.toArray 0).get? (s.heap.objs.size+1)=aa (fG "list" vs.toArray 0):=by
  rw[<-hsz];exact aI _ rfl
 show aW _ _ _ _ _ {s with heap:=((s.heap.push<|fG "list" #[] 0).update s.heap.objs.size (eR (·++vs.toArray))).push (fG "list" vs.toArray 0)}
 rw[hsz];refine ae<|bP<|wpAny_call_entry_kw nH #[_,hoL,rfl] mY (list_sort_rev (h0:=s.heap) hoL h64 (λb o e=>?_) O K  λp a1 a2=>#[_,rfl,?_])<|args_list_sort_rev _ _
 .have hlt:b<s.heap.objs.size:=aH e
  refine#[a9<|cH hlt,?_];rw[iL _ _ _ (by rw[hsz];exact a9<|cH hlt),nU _ _ _ _<|a9 hlt,iL _ _ _<|a9 hlt]
  exact e
 .exact ax #[_,rfl,h p a1 a2]
def Jp(a:aE):dG.«list.sort» #[[.ref a],[]]=dG.«list.sort» #[[.ref a],[(pe "reverse",.bool aj)]]:=by
 rw[PyProof.Rows.list_sort_plain,lh];rfl
end Sq
namespace Sd
open PySem PySem.Spec PyProof.Rows L2
open Ev (E Sm Fn Bop Cop Ty Bf Mf)
end Sd
namespace Sd
open Ev (ltI YO Zy)
theorem Gi:∀{x y:List Int},x≠y->ltI x y=aj->ltI y x=am
 |[],[],h,_=>T7 rfl h
 |[],_::_,_,h=>by cases h
 |_::_,[],_,_=>rfl
 |a::x,b::y,h,e=>by
  unfold ltI at e ⊢;by_cases c:a=b
  .subst c
   rw[T9 rfl]at e ⊢;exact Gi (λz=>h<|by rw[z]) e
  .rw[T8 c]at e
   rw[T8<|Ne.symm c];have:=of_decide_eq_false e;exact T5 #[3]
theorem UE:∀{x y:List Int},ltI x y=am->ltI y x=aj
 |[],[],h=>by cases h
 |[],_::_,_=>rfl
 |_::_,[],h=>by cases h
 |a::x,b::y,e=>by
  unfold ltI at e ⊢;by_cases c:a=b
  .subst c
   rw[T9 rfl]at e ⊢;exact UE e
  .rw[T8 c]at e
   rw[T8<|Ne.symm c];have:=T6 e;exact T4 #[3]
theorem wt:∀{x y z:List Int},ltI x y=am->ltI y z=am->ltI x z=am
 |[],[],_,h,_=>by cases h
 |_::_,[],_,h,_=>by cases h
 |_,_::_,[],_,h=>by cases h
 |[],_::_,_::_,_,_=>rfl
 |a::x,b::y,c::z,e,f=>by
  unfold ltI at e f ⊢;by_cases h1:a=b
  .subst h1
   rw[T9 rfl]at e;by_cases h2:a=c
   .subst h2
    rw[T9 rfl]at f ⊢;exact wt e f
   .rw[T8 h2]at f ⊢;exact f
  .rw[T8 h1]at e
   have e':=T6 e;by_cases h2:b=c
   .subst h2
    rw[T8 h1];exact e
   .rw[T8 h2]at f
    have f':=T6 f;rw[T8 #[3]]
    exact T5 #[3]
theorem V1(x:List Int):∀l:List #[15],(YO x l).Perm (x::l)
 |[]=>cZ _
 |y::r=>by
  unfold YO;split
  .exact cZ _
  .exact((V1 x r).cons y).trans<|lj x y r
theorem YW:∀l:List #[15],(Zy l).Perm l
 |[]=>cZ _
 |x::r=>(V1 x<|Zy r).trans<|(YW r).cons x
theorem Ub(x:List Int):∀{l:List #[15]},(∀y∈l,x≠y)->l.Pairwise (λa b=>ltI a b=am)->(YO x l).Pairwise (λa b=>ltI a b=am)
 |[],_,_=>by exact mw ..
 |y::r,hn,h=>by
  rw[br]at h;unfold YO;split
  .rename_i c
   rw[br,br];refine#[λz hz=>?_,h]
   rcases az.mp hz with rfl|hz
   .exact c
   .exact wt c<|h.1 z hz
  .rename_i c
   rw[br];refine#[λz hz=>?_,Ub x (λy hy=>hn y<|al _ hy) h.2]
   rcases az.mp ((V1 x r).mem_iff.mp hz)with rfl|hz
   .exact Gi (hn y<|ak ..) (by simpa using c)
   .exact h.1 z hz
theorem XA:∀{l:List #[15]},l.Nodup->(Zy l).Pairwise (λa b=>ltI a b=am)
 |[],_=>lJ
 |x::r,h=>by
  rw[dD]at h;exact Ub x (λy hy e=>h.1<|by rw[e];exact(YW r).mem_iff.mp hy)<|XA h.2
theorem XY:∀{a b:List #[15]},a.Perm b->a.Pairwise (λx y=>ltI x y=am)->b.Pairwise (λx y=>ltI x y=am)->a=b
 |[],b,p,_,_=>(List.Perm.nil_eq p)
 |x::a,[],p,_,_=>by have:=p.length_eq;simp at this
 |x::a,y::b,p,ha,hb=>by
  rw[br]at ha hb;have e:x=y:=by
   rcases az.mp (p.mem_iff.mp<|ak ..)with h|h
   .exact h
   .rcases az.mp (p.mem_iff.mpr (ak))with h2|h2
    .exact h2.symm
    .have z1:=hb.1 x h
     have z2:=ha.1 y h2;rw[UE z1]at z2;cases z2
  subst e;rw[XY (List.perm_cons x |>.mp p) ha.2 hb.2]
open PySem PySem.Spec PyProof.Rows L2
open Ev (E Sm Fn Bop Cop Ty Bf Mf Z7 QX X5 ltP YQ)
noncomputable def Q4(fin:Bool):List Int->List Int->Bool
 |[],_=>fin
 |_::_,[]=>fin
 |a::x,b::y=>if a=b then Q4 fin x y else af (a<b)
theorem J9:∀(x y:List Int),Q4 (af<|x.length<y.length) x y=ltI x y
 |[],[]=>rfl
 |[],_::_=>by unfold Q4 ltI;simp
 |_::_,[]=>by unfold Q4 ltI;simp
 |a::x,b::y=>by
  unfold Q4 ltI;have:af ((a::x).length<(b::y).length)=af (x.length<y.length):=by simp
  rw[this,J9 x y]
theorem zx{C:Bool->ay->Prop}:∀{x y:List Int}{u v:List aw}{i:Nat},Vals (x.map V.int) u->Vals (y.map V.int) v->C (Q4 fin x y) s->PySem.W.KatLex prog w A b fin C (u.zip v) i s
 |[],_,_,_,_,.nil,_,h=>by rw[lR];exact rR h
 |_::_,[],_,_,_,_,.nil,h=>by rw[ln];exact rR h
 |a::x,c::y,_,_,i,.cons ra ta,.cons rb tb,h=>by
  obtain⟨t,rfl⟩:=ra;obtain⟨t',rfl⟩:=rb;rw[cM];refine PySem.W.kat_cons<|mf ?_;unfold Q4 at h;by_cases e:a=c
  .rw[T9 e]at h
   rw[beq_iff_eq.mpr e];exact PySem.W.kat_yes<|zx ta tb h
  .rw[T8 e]at h
   rw[beq_eq_false_iff_ne.mpr e];refine PySem.W.kat_no ?_;cases q:(b&&i == 0)with|true=>exact oneLt_int h|false=>exact PySem.W.kat_one _ _<|lt_int h
inductive RowsAt(h:bZ):List (List Int)->List aw->Prop where
 |nil:RowsAt h [] []
 |cons {r:List Int} {rs:List (List Int)} {vs:List aw} {a:aE} {o:fH} {us:List aw} {m:Nat} (ho:h.get? a=aa o) (hc:o.cls=.type "tuple") (hd:o.data=.seq us.toArray m) (hv:Vals (r.map V.int) us) (t:RowsAt h rs vs):RowsAt h (r::rs) (.ref a::vs)
theorem UO:∀{ks:List D}{k:List Int},Pv.intsV ks=aa k->ks=k.map Pv.V.int
 |[],k,h=>by cases h;rfl
 |d::ks,k,h=>by
  obtain⟨n,r,rfl,e,rfl⟩:=VY h;rw[UO e];rfl
def qS(h:Pv.Yh (d::ds)=aa rs):∃a b,d=Pv.Zc a/\Pv.Yh ds=aa b/\rs=a::b:=by
 cases d with
 |tup x=>
  have h:(match Pv.intsV x,Pv.Yh ds with
   |some a,aa b=>aa (a::b)
   |_,_=>ai)=aa rs:=h
  cases q1:Pv.intsV x with
  |none=>rw[q1]at h;cases h
  |some a=>
   cases q2:Pv.Yh ds with
   |none=>rw[q1,q2]at h;cases h
   |some b=>
    rw[q1,q2]at h;exact#[a,b,congrArg Pv.V.tup<|UO q1,rfl,(au h).symm]
 |_=>exact Ev.nos h
theorem Rq.intsV:∀{r:List Int}{xs:List V},Rq U H (r.map Pv.V.int) xs->xs=r.map V.int
 |[],xs,h=>by exact h
 |n::r,xs,h=>by
  have h':=h;obtain⟨v,vs,rfl,a,b⟩:=h';rw[a.int',Rq.intsV b];rfl
theorem W5(I:Inv X pq Z H s):∀{ds:List D}{rs:List #[15]}{xs:List V}{its:List aw},Pv.Yh ds=aa rs->Rq U H ds xs->Vals xs its->RowsAt s.heap rs its/\ds=rs.map Pv.Zc
 |[],rs,xs,its,h,r,v=>by
  subst r;cases v;cases h;exact#[.nil,rfl]
 |d::ds,rs,xs,its,h,r,v=>by
  obtain⟨x,xs',rfl,r1,r2⟩:=r;cases v with
  |cons v1 v2=>
   obtain⟨a,b,rfl,q2,rfl⟩:=qS h;obtain⟨t,e⟩:=W5 I q2 r2 v2;obtain⟨p,ys,rfl,hp,ry⟩:=r1.tup';have ey:=Rq.intsV ry;subst ey;cases v1;obtain⟨us,rv,⟨o,ho,hc,m,hd⟩,_⟩:=I.tuple<|SqT.of hp;exact#[.cons ho hc hd rv t,by rw[e];rfl]
theorem RowsAt.length{h:bZ}:∀{rs:List #[15]}{vs:List aw},RowsAt h rs vs->rs.length=vs.length
 |_,_,.nil=>rfl
 |_,_,.cons _ _ _ _ t=>by rw[aT,aT,RowsAt.length t]
theorem RowsAt.at{h:bZ}:∀{rs:List #[15]}{vs:List aw}(i:Nat),RowsAt h rs vs->i<vs.length->∃a o us m,vs.getD i bz=.ref a/\h.get? a=aa o/\o.data=.seq us.toArray m/\Vals ((rs.getD i []).map V.int) us
 |_,_,_,.nil,hi=>by simp at hi
 |_,_,0,.cons ho hc hd hv t,_=>#[_,_,_,_,rfl,ho,hd,hv]
 |_,_,i+1,.cons ho hc hd hv t,hi=>by
  obtain⟨a,o,us,m,e1,e2,e3,e4⟩:=RowsAt.at i t (by simpa using hi)
  exact#[a,o,us,m,by simpa using e1,e2,e3,by simpa using e4]
theorem RowsAt.tups(k:Sq.Lat h h'):∀{rs:List #[15]}{vs:List aw},RowsAt h rs vs->(∀r∈rs,r≠[])->∃fs,PySem.W.KatTups h' vs fs/\fs.length=vs.length/\∀v∈fs,∃n t,v=fI n t
 |_,_,.nil,_=>#[[],.nil,rfl,λv hv=>by cases hv]
 |_,_,.cons (r:=r) ho hc hd hv t,hn=>by
  obtain⟨fs,t1,t2,t3⟩:=RowsAt.tups k t λr hr=>hn r<|al _ hr
  have hr:=hn r<|ak ..;cases r with
  |nil=>exact T7 rfl hr
  |cons n r=>
   obtain⟨u,g,rel⟩:=hv.get (i:=0) rfl;refine#[u::fs,.cons (k _ _ ho) hc hd (by simpa using g) t1,by rw[aT,aT,t2],λv hv=>?_]
   rcases az.mp hv with rfl|hv
   .obtain⟨tk,e⟩:=rel
    exact#[n,tk,e]
   .exact t3 v hv
theorem QR:∀{x y:List Int}{us:List aw},Vals (x.map V.int) us->Vals (y.map V.int) us->x=y
 |[],[],_,_,_=>rfl
 |[],_::_,_,.nil,h=>by cases h
 |_::_,[],_,h,.nil=>by cases h
 |a::x,b::y,_,.cons r t,.cons r' t'=>by
  obtain⟨k,rfl⟩:=r;obtain⟨k',e⟩:=r';cases e;rw[QR t t']
def Zb6{B:Type}{df:B}{rs:List B}{vs:List aw}(hl:rs.length=vs.length)(nd:rs.Nodup)(h:∀i j,i<vs.length->j<vs.length->vs.getD i bz=vs.getD j bz->rs.getD i df=rs.getD j df):vs.Nodup:=by
 refine bQ.mpr λi j hi hj hij e=>?_
 have:=h i j hi hj (by simp[hi,hj,e])
 simp only[aD,ag (show i<rs.length by lia),ag (show j<rs.length by lia)]at this
 exact bQ.mp nd i j #[0] #[0] hij this
def JB{prog:bv}{w:bO}{A:b9}{h:bZ}{rs:List #[15]}{vs:List aw}(R:RowsAt h rs vs)(nd:rs.Nodup)(hn:∀r∈rs,r≠[]):Sq.Asks prog w A h vs (tuples' am) (λi j=>ltI (rs.getD i [])<|rs.getD j []):=by
 refine#[λh2 s' E Q k q=>?_,Zb6 (df:=[]) R.length nd λi j hi hj e=>?_,λi j hi hj s' C E k q=>?_]
 .obtain⟨fs,t1,t2,t3⟩:=R.tups k hn
  exact PySem.W.kat_kind (T:=.type "int") t1 #[0] (λv hv=>by obtain⟨n,t,rfl⟩:=t3 v hv;exact PySem.W.Looks.of_pure rfl) rfl q
 .obtain⟨a,o,us,m,e1,e2,e3,e4⟩:=R.at i hi
  obtain⟨a',o',us',m',f1,f2,f3,f4⟩:=R.at j hj;rw[e1,f1]at e;cases e;rw[e2]at f2;cases f2;rw[e3]at f3;cases f3;exact QR e4 f4
 .obtain⟨a,o,us,m,e1,e2,e3,e4⟩:=R.at i hi
  obtain⟨a',o',us',m',f1,f2,f3,f4⟩:=R.at j hj;rw[e1,f1];refine PySem.W.kat_lt (k _ _ e2) e3 (k _ _ f2) f3<|zx e4 f4 ?_;have l1:us.toArray.size=(rs.getD i []).length:=by rw[aC,<-e4.length,aA]
  have l2:us'.toArray.size=(rs.getD j []).length:=by rw[aC,<-f4.length,aA]
  rw[l1,l2,J9];exact q
def zJ{rs:List #[15]}{n:Nat}(hn:rs.Nodup)(hl:rs.length=n):Sq.Ord n (λi j=>ltI (rs.getD i [])<|rs.getD j []):=by
 have hd:∀i j,i<n->j<n->i≠j->rs.getD i []≠rs.getD j []:=λi j hi hj ne e=>by
  simp only[aD]at e;have hi':i<rs.length:=by lia
  have hj':j<rs.length:=by lia
  refine ne<|(iK hi' hn).mp ?_;rw[ag hi',ag hj']at e ⊢;exact congrArg aa e
 exact#[λi j hi hj ne e=>Gi (hd i j hi hj ne) e,λi j _ _ e=>UE e,λi j k _ _ _ e f=>wt e f]
def Qp{B β:Type}(b:Bool)(f:B->β)(l:List B):bF b (l.map f)=(bF b l).map f:=by
 cases b
 .rfl
 .exact rh.symm
def yr{B:Type}(b:Bool)(l:List B):(bF b l).Perm l:=by
 cases b
 .exact cZ _
 .exact eC l
def Uk{B:Type}{d:B}{b:Bool}{vs:List B}{i:Nat}(hi:i<vs.length):(bF b vs).getD i d=vs.getD (if b=am then vs.length-1-i else i) d:=by
 cases b
 .rfl
 .show vs.reverse.getD i d=vs.getD (vs.length-1-i) d
  simp only[aD];rw[ng hi]
def zH{rs:List #[15]}{b:Bool}{p:Array Nat}(hn:rs.Nodup)(h1:Sq.Pm rs.length p)(h2:Sq.Up (Sq.ltR b rs.length λi j=>ltI (rs.getD i [])<|rs.getD j []) p rs.length) :
  (p.toList.map λi=>(bF b rs).getD i [])=Zy rs:=by
 have hp:p.toList.Perm (aP rs.length):=by simpa using bD.mp h1
 have hl:p.toList.length=rs.length:=by rw[hp.length_eq,bH]
 refine XY ?_ ?_<|XA hn
 .refine((hp.map _).trans ?_).trans (YW rs).symm
  have e:(aP rs.length).map (λi=>(bF b rs).getD i [])=bF b rs:=by
   apply ck
   intro i;rw[aQ];by_cases h:i<rs.length
   .have:i<(bF b rs).length:=by rw[h9];exact h
    rw[cT h];simp[this]
   .have:(bF b rs).length<=i:=by rw[h9];lia
    simp[d9 h,this]
  rw[e];exact yr b rs
 .rw[dq,bQ]
  intro i j hi hj hij;have g1:p.toList[i]=Sq.g p i:=by
   have:=Sq.ZcC (by simpa using hi)
   rw[<-bq,ag hi]at this;exact au this
  have g2:p.toList[j]=Sq.g p j:=by
   have:=Sq.ZcC (by simpa using hj)
   rw[<-bq,ag hj]at this;exact au this
  rw[g1,g2,Uk (h1.lt #[0]),Uk<|h1.lt #[0]]
  have:=h2 i j hij #[0]
  cases b
  .exact this
  .exact this
def yg{F:List Nat}{xs:List V}{rs:List #[15]}(h:Rq U H (rs.map Pv.Zc) xs)(hF:∀i∈F,i<rs.length):Rq U H ((F.map λi=>rs.getD i []).map Pv.Zc) (F.map λi=>xs.getD i V.non):=by
 induction F with
 |nil=>exact Rq.nil
 |cons i F ih=>
  refine Rq.cons ?_<|ih λj hj=>hF j<|al _ hj
  have hi:=hF i<|ak ..;obtain⟨v,g,r⟩:=h.get (by rw[aQ,ag hi];rfl)
  show Rep U H (Pv.Zc<|rs.getD i []) (xs.getD i V.non);rw[aD,aD,g,ag hi];exact r
def zU{F:List Nat}{xs:List V}{us:List aw}(h:Vals xs us)(hF:∀i∈F,i<xs.length):Vals (F.map λi=>xs.getD i V.non) (F.map λi=>us.getD i bz):=by
 induction F with
 |nil=>exact .nil
 |cons i F ih=>
  refine .cons ?_<|ih λj hj=>hF j<|al _ hj
  have hi:=hF i<|ak ..;obtain⟨u,g,r⟩:=h.get<|ag hi;show Zx (xs.getD i V.non) (us.getD i bz);rw[aD,aD,g,ag hi];exact r
def zF(h:Rq U H ds xs):Rq U H (bF b ds) (bF b xs):=by
 cases b
 .exact h
 .exact h.reverse
def zD :∀{xs:List V}{us:List aw},Vals xs us->Vals (bF b xs) (bF b us):=by
 cases b
 .exact λh=>h
 .have snoc:∀{xs:List V}{us:List aw}{x:V}{u:aw},Vals xs us->Zx x u->Vals (xs++[x]) (us++[u]):=by
   intro xs us x u h r
   induction h with|nil=>exact .cons r .nil|cons a _ ih=>exact .cons a ih
  intro xs us h;show Vals xs.reverse us.reverse
  induction h with|nil=>exact .nil|cons r t ih=>rw[fm,fm];exact snoc ih r
def Zek(b:Bool):List V->Hp->VK->Prop:=λvs H Q=>∃U ds rws v,vs=[v]/\Rep U H (.lst ds) v/\Pv.Yh ds=aa rws/\Z7 rws=am/\∀ys,Rq U H ((if b then(Zy rws).reverse else Zy rws).map Pv.Zc) ys->∀p,H p=ai->Q (.ref p) (upd H p<|.lst ys)
def uN{pq:List (aE×fH)}{s:ay}{Z:L2.St}{H:Hp}{vs:List V}{us:List aw}{Q:VK}{b:Bool}(I:Inv X pq Z H s)(r:Vals vs us)(h:Zek b vs H Q) :
  ∃(l:aE)(its:List aw)(rs:List #[15]),us=[.ref l]/\s.heap.IsList l its.toArray/\its.length<=100000/\rs.length=its.length/\Sq.Ord its.length (λi j=>ltI (rs.getD i [])<|rs.getD j [])/\(∀A,Sq.Asks X.prog X.w A s.heap its (tuples' am) λi j=>ltI (rs.getD i [])<|rs.getD j [])/\
   ∀p,Sq.Pm its.length p->Sq.Up (Sq.ltR b its.length λi j=>ltI (rs.getD i [])<|rs.getD j []) p its.length->
    EP X pq Z Q (.ref<|s.heap.objs.size+1) {s with heap:=sortedAll s.heap its (du<|bF b<|p.toList.map λi=>(bF b its).getD i bz)}:=by
 obtain⟨U,ds,rws,v,rfl,r1,hrw,hok,h3⟩:=h;obtain⟨l,xs,rfl,hx,_,rx⟩:=r1.lst';obtain⟨u,rfl,ru⟩:=XQ r;cases ru;obtain⟨its,rv,pl,hz⟩:=I.list<|SqL.of hx;obtain⟨RA,ed⟩:=W5 I hrw rx rv;obtain⟨hok1,hok3⟩:=(aF _ _).mp hok;obtain⟨hok1,hok2⟩:=(aF _ _).mp hok1;have h64:=T6 hok1;have hnd:=T6 hok2;have hne:∀r∈rws,r≠[]:=λr hr e=>by
  have:=a8.mp hok3 r hr;rw[e]at this;cases this
 have hlen:=RA.length;refine#[l,its,rws,rfl,pl.isList,by lia,hlen,zJ hnd hlen,λA=>JB RA hnd hne,λp hp hu=>?_]
 rw[<-hlen]at hp hu;have out:=zH hnd hp hu;have hmem:∀i∈p.toList,i<rws.length:=λi hi=>by
  have hp':p.toList.Perm (aP rws.length):=by simpa using bD.mp hp
  exact aV.mp<|hp'.mem_iff.mp hi
 subst ed;have xl:xs.length=rws.length:=by rw[rx.length,aA]
 have rx1:Rq U H ((bF b rws).map Pv.Zc) (bF b xs):=by rw[<-Qp];exact zF rx
 have rx2:=yg rx1 (by rw[h9];exact hmem)
 rw[out]at rx2;have rx3:=zF (b:=b) rx2;have rv2:=zD (b:=b)<|zU (zD (b:=b) rv) (by rw[h9,xl];exact hmem)
 have eb:(if b=am then(Zy rws).reverse else Zy rws)=bF b (Zy rws):=rfl
 rw[eb,<-Qp]at h3;obtain⟨ep,he⟩:=sortedAll_at s.heap its<|du<|bF b<|p.toList.map λi=>(bF b its).getD i bz
 refine#[.ref<|s.heap.objs.size+1,_,I.laid (t':=s.toks) (λb ob q=>sortedAll_old q) (lO _) ?_,rfl,h3 _ rx3 _<|I.hok.fresh<|lO _]
 refine#[?_,_,ep,rv2,he];rw[h9,aA,aJ,hp.size,dz];lia
def xN{kp kp2:gu}{q0}(hm:X.mg "sorted" = ai)(ha:CA X xw C [e] [i])(hg:Gl X "sorted")
  (he:d7 pos (aG [e] X.env)=#[22]::d7 pos (aG [] X.env))(hpl:(d7 pos<|aG [e] X.env).any (·.1)=aj) :
  CE X xw C (.Call (.Name "sorted" p) [e] [#[aa "reverse",.Constant (.bool am) q0 kp,kp2]] pos) (.blt .sortedR [i]):=.mk <| by
 intro pq s Z H Q I hq;obtain⟨U,l,S,st,lr,h⟩:=hq;refine dR<|Xj I hg hm (show dW "sorted" = aa (.builtin "sorted")from rfl) ?_ #[1] #[1]
 refine callWith_kw (thn (ha.h pos pq s Z H (λvs H1=>Zek am vs H1 Q) I ?_) λus s1 #[vs,H1,I1,r1,q1]=>?_) he hpl rfl rfl
 .refine#[U,l,S,st,lr,End.bind (show End X.K xw Rep U H Q ((Pv.pvs C [i] l S).bind λxs S=>Pv.po (Pv.Xo .sortedR xs) S)from h) λxs S1 ρ1 H1 vs f1 st1 r1 h1=>?_]
  obtain⟨d,v,z,rfl,r1,hz,h1⟩:=Wc h1 r1;cases d with
  |lst ds=>
   obtain⟨rws,hr,hz⟩:=bW.mp hz;split at hz
   .cases hz;exact#[ρ1,ds,rws,v,rfl,r1,hr,‹_›,λys r=>h1.newL st1 r]
   .cases hz
  |_=>exact Ev.nos hz
 .refine kws_cons (thn (zN pq s1 Z H1 (λv H2=>v=.bl am/\H2=H1) I1 #[rfl,rfl]) λu s2 #[x,H2,I2,r2,e1,e2]=>kws_nil ?_)
  subst e1 e2;cases r2;obtain⟨l,its,rs,rfl,h1,h2,h3,h4,h5,h6⟩:=uN I2 r1 q1;exact Sq.xO (b:=am) h1 h2 h4 (h5 _) λp a b=>h6 p a b
end Sd
namespace Sd
open PySem PySem.Spec PyProof.Rows L2
open Ev (ltI)
open PySem.SeqAt PySem.MeetsSeq PySem.MeetsSeq2 PySem.MeetsSeq3 PySem.SeqRoads2
open PySem.AutoSeq1 (wpAny_loadPart')
def xF(l b:aE)(u v:List aw)(n n2:Nat)(dd dd2:Option aE)(sl sl2:Array (Option aw))(x y:List Int)(hx:Vals (x.map V.int) u)(hy:Vals (y.map V.int) v) :
  si (dG.«tuple.__lt__» #[[.ref l,.ref b],[]]) (λA R s=>s.heap.get? l=aa {cls:=.type "tuple",dict:=dd,data:=.seq u.toArray n,slots:=sl}/\s.heap.get? b=aa {cls:=.type "tuple",dict:=dd2,data:=.seq v.toArray n2,slots:=sl2}/\R (.ok<|.ret<|.bool<|ltI x y) s):=
 .of_wp λprog w A R s h=>by
  obtain⟨hp,g,d,tk,os⟩:=s;obtain⟨hl,hb,h⟩:=h;have f2:=ej;rw[<-J9]at h
  wp_walk using kx hl,kx hb,wpAny_forIn_list _ (λrest b s'=>b.1=ai/\s'=#[hp,g,d,tk,os]/\∃x' y' u' v',rest=List.zip u' v'/\Vals (nG V.int x') u'/\Vals (nG V.int y') v'/\R (.ok<|.ret<|.bool<|Q4 (af<|x.length<y.length) x' y') #[hp,g,d,tk,os]) _
  case turn=>
   rintro ⟨a,c⟩ rest b s' ⟨hb',rfl,x',y',u',v',hz,hx',hy',hR⟩
   match x',y',u',v',hx',hy',hz,hR with
   |i::x',j::y',_::u',_::v',.cons ra ta,.cons rb tb,hz,hR=>
    obtain⟨t,rfl⟩:=ra;obtain⟨t',rfl⟩:=rb;rw[cM]at hz;injection hz with h1 h2
    cases h1;unfold Q4 at hR;refine ae<|mf ?_;by_cases e:i=j
    .rw[T9 e]at hR
     rw[beq_iff_eq.mpr e]
     wp_walk
     exact#[rfl,rfl,x',y',u',v',h2,ta,tb,hR]
    .rw[T8 e]at hR
     rw[beq_eq_false_iff_ne.mpr e];simp only[sA,if_true];refine ae<|eQ<|ae<|PyProof.Rows.lt_int ?_
     wp_walk
     exact#[_,rfl,by simpa using hR]
   |[],_,_,_,.nil,_,hz,_=>rw[lR]at hz;cases hz
   |_::_,[],_,_,_,.nil,hz,_=>rw[ln]at hz;cases hz
  case fin=>
   rintro ⟨b1,b2⟩ s' ⟨hb',rfl,x',y',u',v',hz,hx',hy',hR⟩
   simp only at hb';subst hb';have hf:Q4 (af<|x.length<y.length) x' y'=af (x.length<y.length):=by
    match x',y',u',v',hx',hy',hz with
    |[],_,_,_,_,_,_=>rfl
    |_::_,[],_,_,_,_,_=>rfl
    |_::_,_::_,_::_,_::_,.cons _ _,.cons _ _,hz=>rw[cM]at hz;cases hz
   rw[hf]at hR;have l1:u.length=x.length:=by rw[<-hx.length,aA]
   have l2:v.length=y.length:=by rw[<-hy.length,aA]
   wp_walk
   exact#[_,rfl,by simpa[iO,l1,l2]using hR]
  case h=>
   exact#[rfl,rfl,x,y,u,v,by simp,hx,hy,h]
def ZcQ{E:aw->ay->Prop}{Q:aw->ay->Prop}(ha:s.heap.get? a=aa o)(hc:o.cls=.type "tuple")(hd:o.data=.seq u.toArray m)(hx:Vals (x.map V.int) u)
  (hb:s.heap.get? b=aa o')(hc':o'.cls=.type "tuple")(hd':o'.data=.seq v.toArray m')(hy:Vals (y.map V.int) v)(hu:A.units<dL)(q:Q (.bool<|ltI x y) s):aW #[8] A (cO .Lt (.ref a)<|.ref b) Q E s:=by
 obtain⟨cls,dd,data,sl⟩:=o;obtain⟨cls2,dd2,data2,sl2⟩:=o';simp only at hc hd hc' hd';subst hc hd hc' hd';exact mT (op:=.Lt) #[_,ha,rfl] #[_,hb,rfl] rS rj (pj _ _) (xF a b u v m m' dd dd2 sl sl2 x y hx hy) #[ha,hb,#[(λx=>nomatch x),q]] hu
end Sd
namespace Sd
open Ev (ltI ltP QX X5)
open PySem PySem.Spec PyProof.Rows L2
theorem GG:∀{x:List Int}{u:List aw}{j:Nat}(h:j<u.length),Vals (x.map V.int) u->∃t,u[j]=fI (x.getD j 0) t
 |[],[],_,h,.nil=>by simp at h
 |_::_,_::_,0,_,.cons ra _=>by obtain⟨t,rfl⟩:=ra;exact#[t,rfl]
 |_::x,_::u,j+1,h,.cons _ ta=>by
  obtain⟨t,e⟩:=GG (by simpa using h) ta
  exact#[t,by simpa using e]
def ZhH:∀{x y:List Int},((aP<|sO x.length y.length).all (λj=>x.getD j 0 == y.getD j 0)&&x.length == y.length)=af (x=y):=by
 intro x y;rw[cy,aF,a8,decide_eq_true_iff]
 constructor
 .rintro ⟨h1,h2⟩
  have h2:x.length=y.length:=by simpa using h2
  apply iX h2;intro i hi hj;have:=h1 i<|aV.mpr #[0]
  simpa[hi,hj]using this
 .rintro rfl
  exact#[λj _=>by simp,by simp]
def yQ(h:bZ)(r:List Int)(v:aw):Prop:=∃a o us m,v=.ref a/\h.get? a=aa o/\o.cls=.type "tuple"/\o.data=.seq us.toArray m/\Vals (r.map V.int) us
def Zdy(hx:yQ s.heap x v)(hy:yQ s.heap y u)(hu:A.units<dL):iT A s v u (af<|x=y):=by
 obtain⟨a,o,us,m,rfl,ho,hc,hd,hv⟩:=hx;obtain⟨b,o',us',m',rfl,ho',hc',hd',hv'⟩:=hy;have l1:us.toArray.size=x.length:=by rw[aC,<-hv.length,aA]
 have l2:us'.toArray.size=y.length:=by rw[aC,<-hv'.length,aA]
 by_cases e:a=b
 .subst e
  rw[ho]at ho';cases ho';rw[hd]at hd';injection hd' with h1 h2
  have h1:us=us':=by simpa using h1
  subst h1;rw[T5<|QR hv hv'];exact km _
 .refine kX e ?_
  have:=lN #[o,ho,hc,m,hd] #[o',ho',hc',m',hd'] hu (λj h1 h2=>by
   obtain⟨t,e1⟩:=GG (by simpa using h1) hv
   obtain⟨t',e2⟩:=GG (by simpa using h2) hv'
   rw[show us.toArray[j]=us[j]'(by simpa using h1) by simp,show us'.toArray[j]=us'[j]'(by simpa using h2) by simp,e1,e2]
   exact oC _ _ _ _)
  rw[l1,l2,ZhH]at this;exact this
def ZaT{E:aw->ay->Prop}{Q:aw->ay->Prop}(hx:yQ s.heap x v)(hy:yQ s.heap y u)(hu:A.units<dL)(q:Q (.bool<|ltI x y) s):aW #[8] A (cO .Lt v u) Q E s:=by
 obtain⟨a,o,us,m,rfl,ho,hc,hd,hv⟩:=hx;obtain⟨b,o',us',m',rfl,ho',hc',hd',hv'⟩:=hy;exact ZcQ ho hc hd hv ho' hc' hd' hv' hu q
def zI(fin:Bool):List #[15]->List #[15]->Bool
 |[],_=>fin
 |_::_,[]=>fin
 |a::x,b::y=>if a=b then zI fin x y else ltI a b
theorem vm:∀(x y:List #[15]),zI (af<|x.length<y.length) x y=ltP x y
 |[],[]=>rfl
 |[],_::_=>by unfold zI ltP;simp
 |_::_,[]=>by unfold zI ltP;simp
 |a::x,b::y=>by
  unfold zI ltP;have:af ((a::x).length<(b::y).length)=af (x.length<y.length):=by simp
  rw[this,vm x y]
inductive RowsIn(h:bZ):List (List Int)->List aw->Prop where
 |nil:RowsIn h [] []
 |cons {r:List Int} {rs:List (List Int)} {v:aw} {vs:List aw} (a:yQ h r v) (t:RowsIn h rs vs):RowsIn h (r::rs) (v::vs)
theorem RowsIn.length :∀{rs:List #[15]}{vs:List aw},RowsIn h rs vs->rs.length=vs.length
 |_,_,.nil=>rfl
 |_,_,.cons _ t=>by rw[aT,aT,RowsIn.length t]
open Ev (E Sm Fn Bop Cop Ty Bf Mf YO Zy Z7 YQ)
section
variable{X:Cx}{pq:List (aE×fH)}{Z:L2.St}{H:Hp}{s:ay}{U:Mx}
theorem RowsAt.ins{h:bZ}:∀{rs:List #[15]}{vs:List aw},RowsAt h rs vs->RowsIn h rs vs
 |_,_,.nil=>.nil
 |_,_,.cons ho hc hd hv t=>.cons #[_,_,_,_,rfl,ho,hc,hd,hv]<|RowsAt.ins t
end
open PySem.SeqAt PySem.MeetsSeq PySem.MeetsSeq2 PySem.MeetsSeq3 PySem.SeqRoads2
open PySem.AutoSeq1 (wpAny_loadPart')
def wz(l b:aE)(u v:List aw)(n n2:Nat)(dd dd2:Option aE)(sl sl2:Array (Option aw))(x y:List #[15]) :
  si (dG.«tuple.__lt__» #[[.ref l,.ref b],[]]) (λA R s=>s.heap.get? l=aa {cls:=.type "tuple",dict:=dd,data:=.seq u.toArray n,slots:=sl}/\s.heap.get? b=aa {cls:=.type "tuple",dict:=dd2,data:=.seq v.toArray n2,slots:=sl2}/\A.units+1<dL/\RowsIn s.heap x u/\RowsIn s.heap y v/\R (.ok<|.ret<|.bool<|ltP x y) s):=
 .of_wp λprog w A R s h=>by
  obtain⟨hp,g,d,tk,os⟩:=s;obtain⟨hl,hb,hu,hx,hy,h⟩:=h;have f2:=ej;rw[<-vm]at h
  wp_walk using kx hl,kx hb,wpAny_forIn_list _ (λrest b s'=>b.1=ai/\s'=#[hp,g,d,tk,os]/\∃x' y' u' v',rest=List.zip u' v'/\RowsIn hp x' u'/\RowsIn hp y' v'/\R (.ok<|.ret<|.bool<|zI (af<|x.length<y.length) x' y') #[hp,g,d,tk,os]) _
  case turn=>
   rintro ⟨a,c⟩ rest b s' ⟨hb',rfl,x',y',u',v',hz,hx',hy',hR⟩
   match x',y',u',v',hx',hy',hz,hR with
   |i::x',j::y',_::u',_::v',.cons ra ta,.cons rb tb,hz,hR=>
    rw[cM]at hz;injection hz with h1 h2
    cases h1;unfold zI at hR;refine ae<|Zdy ra rb #[0] prog w _ _ ?_
    by_cases e:i=j
    .rw[T9 e]at hR
     rw[T5 e]
     wp_walk
     exact#[rfl,rfl,x',y',u',v',h2,ta,tb,hR]
    .rw[T8 e]at hR
     rw[T4 e];simp only[sA,if_true];refine ae<|eQ<|ae<|ZaT ra rb #[0] ?_
     wp_walk
     exact#[_,rfl,by simpa using hR]
   |[],_,_,_,.nil,_,hz,_=>rw[lR]at hz;cases hz
   |_::_,[],_,_,_,.nil,hz,_=>rw[ln]at hz;cases hz
  case fin=>
   rintro ⟨b1,b2⟩ s' ⟨hb',rfl,x',y',u',v',hz,hx',hy',hR⟩
   simp only at hb';subst hb';have hf:zI (af<|x.length<y.length) x' y'=af (x.length<y.length):=by
    match x',y',u',v',hx',hy',hz with
    |[],_,_,_,_,_,_=>rfl
    |_::_,[],_,_,_,_,_=>rfl
    |_::_,_::_,_::_,_::_,.cons _ _,.cons _ _,hz=>rw[cM]at hz;cases hz
   rw[hf]at hR;have l1:u.length=x.length:=by rw[<-hx.length]
   have l2:v.length=y.length:=by rw[<-hy.length]
   wp_walk
   exact#[_,rfl,by simpa[iO,l1,l2]using hR]
  case h=>
   exact#[rfl,rfl,x,y,u,v,by simp,hx,hy,h]
def Zch{E:aw->ay->Prop}{Q:aw->ay->Prop}(ha:s.heap.get? a=aa o)(hc:o.cls=.type "tuple")(hd:o.data=.seq u.toArray m)(hx:RowsIn s.heap x u)
  (hb:s.heap.get? b=aa o')(hc':o'.cls=.type "tuple")(hd':o'.data=.seq v.toArray m')(hy:RowsIn s.heap y v)(hu:A.units+3<dL)(q:Q (.bool<|ltP x y) s):aW #[8] A (cO .Lt (.ref a)<|.ref b) Q E s:=by
 obtain⟨cls,dd,data,sl⟩:=o;obtain⟨cls2,dd2,data2,sl2⟩:=o';simp only at hc hd hc' hd';subst hc hd hc' hd';exact mT (op:=.Lt) #[_,ha,rfl] #[_,hb,rfl] rS rj (pj _ _) (wz a b u v m m' dd dd2 sl sl2 x y) #[ha,hb,by first|exact hu|(lia)|lia,hx,hy,#[(λx=>nomatch x),q]] #[0]
def wO(hu:X.A.units+7<dL):Xs X xw .Lt .lt:=by
 intro pq s Z H v0 u0 v u Q I rv ru #[U,S,x,y,st,rx,ry,h];rcases Zhv st rx ry h with z|⟨a,b,A,B,rfl,rfl,hA,hB,q⟩
 .exact ZhD pq s Z H v0 u0 v u Q I rv ru z
 .obtain⟨p1,xs,rfl,hp1,r1⟩:=rx.tup'
  obtain⟨p2,ys,rfl,hp2,r2⟩:=ry.tup';cases rv;cases ru;obtain⟨us,w1,⟨o,ho,hc,m,hd⟩,_⟩:=I.tuple<|SqT.of hp1;obtain⟨us',w2,⟨o',ho',hc',m',hd'⟩,_⟩:=I.tuple<|SqT.of hp2;obtain⟨ra,_⟩:=W5 I hA r1 w1;obtain⟨rb,_⟩:=W5 I hB r2 w2;exact Zch ho hc hd ra.ins ho' hc' hd' rb.ins #[0] #[.bl<|ltP A B,H,I,rfl,q]
end Sd
namespace Sd
open PySem PySem.Spec PyProof.Rows L2
open Ev (E Sm Fn Bop Cop Ty Bf Mf)
section
variable{prog:bv}{w:bO}{A:b9}{E:aw->ay->Prop}{s:ay}{it d:aE}{i n ep:Nat}{od:fH}{es:Array gL}
def uB{Q:aw->ay->Prop}(hd:(d == de)=aj)(ho:s.heap.get? d=aa od)(hc:od.ExactDict)(hdat:od.data=.dict es ep)
  (hQ:Q #[25] {s with heap:=s.heap.push {cls:=.type "dict_keyiterator",data:=.fields [.ref d,.int 0 0,.int es.size 0,.int ep 0].toArray}}) :
  aW #[8] A (ot<|.ref d) Q E s:=by
 have hT:s.TypeIs (.ref d) "dict":=#[_,ho,hc.1];refine lS hT rm<|cx rm hT F.entry_dict_iter ?_<|F.args_dict_iter_1 _;unfold dG.«dict.__iter__»;refine ae ?_;refine ae<|ni hT<|ax (show aW _ _ (nj d >>= _) _ _ s from ?_)
 unfold nj;rw[T8 (by rw[hd];exact aR)]
 refine ae<|ax<|ae<|pz ho hdat<|ae<|wpAny_dictEpoch ho hdat ?_;refine ae<|bw<|ax #[_,rfl,"dict_keyiterator",_,#[_,aI _ rfl,rfl],ky.lookup,?_]
 simpa[fC]using hQ
def JO{Q:Option aw->ay->Prop}(hit:s.heap.IsKeyIter it d i es.size ep)(ho:s.heap.get? d=aa od)(hdat:od.data=.dict es ep)
  (h1:∀(hlt:i<es.size) h',h'.IsKeyIter it d (i+1) es.size ep->eI it s.heap h'->Q (aa es[i].key) {s with heap:=h' })
  (h2:es.size<=i->A.handled=ai/\∀h',fP it s.heap h'->Q ai {s with heap:=h' }):aW #[8] A (kl<|.ref it) Q E s:=by
 obtain⟨o,hi,hc,hd⟩:=id hit;unfold kl;refine ae (gZ (cC hit.typeIs ky
  (cx ky hit.typeIs F.entry_dict_keyiterator_next ?_<|F.args_dict_keyiterator_next_1 _)))
 refine ae<|ax<|ae<|ae ?_
 first|refine ae<|fR hit.typeIs<|ax ?_|refine ae<|g8 hit.typeIs<|ax ?_
 refine ae<|wpAny_fieldsOf hi hd ?_;have hown:dG.Dict_items.ownsTuple "dict_keyiterator" = aj:=by decide
 simp only[hown,cK,if_false];show aW _ _ (if(cW d == bz)=am then _ else _) _ _ s
 rw[T8<|show¬((cW d == bz)=am)from aR]
 refine ae<|ax<|ae<|pz ho hdat ?_;rw[T8 #[2]]
 refine ae<|ax<|ae<|wpAny_dictEpoch ho hdat ?_;rw[T8 #[2]]
 refine ax ?_;by_cases hlt:i<es.size
 .simp only[by omega,if_false,dm,bp hlt]
  refine ae ?_
  first|refine ae<|fR hit.typeIs<|ax ?_|refine ae<|g8 hit.typeIs<|ax ?_
  refine ae<|nk hit.typeIs (show aW _ _ (setField (.ref it) 1 (fC<|(i:Int)+1) >>= _) _ _ s from ae<|fN hi hd #[2] ?_)
  have hit':(s.heap.update it (oh (·.setIfInBounds 1 (fC<|(i:Int)+1)))).IsKeyIter it d (i+1) es.size ep:=
   #[_,dO _ hi<|eY<|dA hd _,(gv ..).trans hc,by rw[dA hd];simp[fC]]
  refine ae<|bP<|ae<|nk hit'.typeIs ?_
  exact ax<|ax #[_,rfl,ax<|h1 hlt _ hit'<|cU ..]
 .obtain⟨hh,hQ⟩:=h2 #[3]
  simp only[by omega,if_false,dm,iH (show es.size<=i by omega)]
  refine ae ?_
  first|refine ae<|fR hit.typeIs<|ax ?_|refine ae<|g8 hit.typeIs<|ax ?_
  show aW _ _ (setField (.ref it) 0 .none >>= _) _ _ s;refine ae<|fN hi hd #[2]<|ae ?_
  simp only[tH,sk];refine ae<|bw ?_ (by size_fits)
  refine ae (fQ (a:=bz) (by first|rfl|(simp only[kZ];rfl))<|bw ?_ (by size_fits))
  simp only[raiseNew];refine ae<|n8 ?_;rw[hh]
  refine ae<|ax<|rB ?_;refine ae<|eO (T:="StopIteration") (b:=am) #[_,aI _ rfl,rfl] nD ?_;exact ax<|hQ _<|((cU ..).extBut.push _).push _
end
theorem JS{B β:Type}{F:B->β->Prop}:∀{l:List B}{m:List β}{i:Nat}{p:B},Paired F l m->l[i]?=aa p->∃q,m[i]?=aa q/\F p q
 |_,_,_,_,.nil,e=>by simp at e
 |_,_,0,_,.cons r t,e=>by simp at e;subst e;exact#[_,rfl,r]
 |_,_,i+1,_,.cons r t,e=>by
  obtain⟨q,h1,h2⟩:=JS t (by simpa using e)
  exact#[q,by simpa using h1,h2]
def GU:kS (.type "list") "keys" = cS ai:=by rw[kz,gp];kernel_rfl
def wl:isSubtype (.type "AttributeError") (.type "AttributeError")=cS am:=by rw[lq];kernel_rfl
section
variable{prog:bv}{w:bO}{A:b9}{E:aw->ay->Prop}{s:ay}{a:aE}{B:Type}{name msg:bn}
def qm{Q:Unit->ay->Prop}(he:s.heap.get? e=aa {cls:=.type "AttributeError",data:=.fields vs})(h6:vs[6]?=aa unsetMember)(h7:vs[7]?=aa unsetMember)
  (hQ:∀h',fP e s.heap h'->(∃ob,h'.get? e=aa ob/\ob.cls=.type "AttributeError")->Q () {s with heap:=h' }):aW #[8] A (noteAttr (.ref e) ov nm) Q E s:=by
 have hT:s.TypeIs (.ref e) "AttributeError":=#[_,he,rfl];refine ae<|ae<|eO hT wl ?_;simp only[i6,cK,if_false];refine ae<|kL he ?_;simp only[h6,h7];rw[T8 #[1],T8 #[1]]
 refine ax ?_;simp only[if_true];refine ae<|eQ<|ae<|fT hT ?_;simp only[layMembers];refine ae<|kL he<|wpAny_update he<|hQ _ (cU ..).extBut #[_,dO _ he<|eY<|dA rfl _,gv ..]
def ww{Q:B->ay->Prop}(hh:A.handled=ai)(hm:msg.length<=ba)(hq:∀h' t' e,(∀b o,s.heap.get? b=aa o->h'.get? b=aa o)->(∃ob,h'.get? e=aa ob/\ob.cls=.type "AttributeError")->E (.ref e) {s with heap:=h',toks:=t' }):aW #[8] A (raiseAttrError (.ref a) name msg:oO B) Q E s:=by
 refine ae<|wpAny_mkStr ?_ hm;simp only[tH,sk];refine ae<|ae<|bw ?_ (by size_fits)
 refine ae (fQ (by first|rfl|(simp only[kZ];rfl)) ?_)
 refine bw ?_ (by size_fits)
 refine ae<|wpAny_mkText<|ae<|qm (aI _ rfl) rfl rfl λh' eb ob=>?_
 refine wpAny_raiseNew_none hh<|hq _ _ _ (λb o e=>eb b o (λz=>?_)<|aq _<|aq _ e) ob
 have q:=aH e;subst z;exact T7 q (by show¬(s.heap.push _).objs.size<s.heap.objs.size;rw[cY];omega)
end
section
variable{prog:bv}{w:bO}{A:b9}{E:aw->ay->Prop}{h:bZ}{g:Array rZ}{d:Drawn}{t:Nat}{os:OsState}{a:aE}{its:Array aw}{n:Nat}
def xD{Q:Fin->ay->Prop}(hx:h.get? a=aa {cls:=.type "list",data:=.seq its n})(hh:A.handled=ai)(hq:∀h' t' e,(∀b o,h.get? b=aa o->h'.get? b=aa o)->(∃ob,h'.get? e=aa ob/\ob.cls=.type "AttributeError")->E (.ref e) #[h',g,d,t',os]) :
  aW #[8] A (dG.«object.__getattribute__» #[[.ref a,.str "keys" tk],[]]) Q E #[h,g,d,t,os]:=by
 have hT:(#[h,g,d,t,os]:ay).TypeIs (.ref a) "list":=#[_,hx,rfl];have f4:=GU
 repeat(any_goals (first|assumption|wp_step))
 exact ww hh #[20] hq
def qx{R:se->ay->Prop}(hx:h.get? a=aa {cls:=.type "list",data:=.seq its n})(hh:A.handled=ai)(hq:∀h' t' e,(∀b o,h.get? b=aa o->h'.get? b=aa o)->(∃ob,h'.get? e=aa ob/\ob.cls=.type "AttributeError")->R (.error<|.ref e) #[h',g,d,t',os]) :
  gH #[8] A (.call (.builtin "list.__getattribute__") #[[.ref a,.str "keys" tk],[]]) R #[h,g,d,t,os]:=
 gE F.slot_list_getattribute.plain F.entry_list_ga (F.slot_list_getattribute.check _ _ _ _ _ _ _ _ (#[_,hx,rfl]) (F.args_list_getattribute_2 _ _)<|xD hx hh hq)
def Zei{Q:aw->ay->Prop}(hx:h.get? a=aa {cls:=.type "list",data:=.seq its n})(hh:A.handled=ai)(hq:∀h' t' e,(∀b o,h.get? b=aa o->h'.get? b=aa o)->(∃ob,h'.get? e=aa ob/\ob.cls=.type "AttributeError")->E (.ref e) #[h',g,d,t',os]):aW #[8] A (getAttrBy (.ref a) (.str "keys" tk) aj) Q E #[h,g,d,t,os]:=by
 have hT:(#[h,g,d,t,os]:ay).TypeIs (.ref a) "list":=#[_,hx,rfl];have f2:=F.slot_list_getattribute.lookup;have f3:=F.slot_list_getattribute.bind<|.ref a
 repeat(any_goals (first|assumption|wp_step))
 refine qx hx hh λh' t' e k ob=>?_
 have hTe:(#[h',g,d,t',os]:ay).TypeIs (.ref e) "AttributeError":=ob;have f9:kS (.type "list") "__getattr__" = cS ai:=by rw[kz,gp];kernel_rfl
 have hE:=hq h' t' e k ob
 repeat(any_goals (first|assumption|with_reducible apply eO hTe wl|wp_step))
def u9{Q:Option aw->ay->Prop}(hx:h.get? a=aa {cls:=.type "list",data:=.seq its n})(hh:A.handled=ai)(hq:∀h' t',(∀b o,h.get? b=aa o->h'.get? b=aa o)->Q ai #[h',g,d,t',os]):aW #[8] A (sB (.ref a) "keys") Q E #[h,g,d,t,os]:=by
 unfold sB getAttrBy?
 refine ae<|wpAny_mkText<|ae<|gZ<|Zei hx hh λh' t' e k ob=>?_
 exact ae<|eO (ob) wl<|ax<|hq h' t' k
end
def Wz:plainId "dict.update.loop" = am:=by decide +kernel
def JU:sC table "dict.update.loop" = aa dG.«dict.update.loop»:=entryFor_of_tree (by kernel_rfl)
section
variable{prog:bv}{w:bO}{A:b9}{E:aw->ay->Prop}
def xH{Q:List aw->ay->Prop}(hp:oP s.heap p its)(h:Q its.toList s):aW #[8] A (dG.Dict.pairItems<|.ref p) Q E s:=by
 obtain⟨o,ho,hc,n,hd⟩:=hp;refine ae<|fT #[_,ho,hc] ?_;rw[T9 #[1]]
 unfold seqItems?
 refine ae<|ae<|kL ho ?_;rw[hd];exact ax<|ax h
def vY{K:Type}[DecidableEq K]{knd:KeyKind prog w K}{h h':bZ}{k:List K}{a:aE}(x:(d6 knd).is h k a)(hk:∀o,h.get? a=aa o->h'.get? a=aa o):(d6 knd).is h' k a:=by
 obtain⟨o,its,n,h1,r⟩:=x;exact#[o,its,n,hk _ h1,r]
def WM{K:Type}[DecidableEq K]{knd:KeyKind prog w K}{h h':bZ}{d:aE}{xs:List (List K×aE×aw)}(x:h.DictOfH (d6 knd) d xs)(hd:∀o,h.get? d=aa o->h'.get? d=aa o)(hx:∀x∈xs,∀o,h.get? x.2.1=aa o->h'.get? x.2.1=aa o):h'.DictOfH (d6 knd) d xs:=by
 obtain⟨o,es,ep,h1,h2,h3,h4,h5,h6⟩:=x;exact#[o,es,ep,hd _ h1,h2,h3,h4,λy hy=>vY (h5 y hy)<|hx y hy,h6]
abbrev Pr:=List Key×aE×aE
def Zb7{I d:aE}{fp wr:List aE}{its:Array aw}{St:Nat->bZ->Prop}{R:se->ay->Prop}{h0:bZ}{ps:List Pr}{res:aw}(W:Walks prog w A.in1 I fp wr its.size (λi v=>its[i]?=aa v) St)(hu:A.units+2<dL)(hf:d∉fp)
  (hl:ps.length=its.size)(hi:∀(i:Nat)(p:Pr),ps[i]?=aa p->its[i]?=aa (cW p.2.2))
  (hp:∀p∈ps,oP h0 p.2.2 [cW p.2.1,bJ am].toArray/\(d6<|ZQ prog w).is h0 p.1 p.2.1/\p.2.2∉wr/\p.2.2≠d/\p.2.1∉wr/\p.2.1≠d)(hn:(ps.map (·.1)).Nodup)(hz:ps.length<=ba) :
  ∀(k i:Nat)(s:ay),i+k=its.size->i<=its.size->St i s.heap->(∀b o,b∉wr->b≠d->h0.get? b=aa o->s.heap.get? b=aa o)->
  s.heap.DictOfH (d6<|ZQ prog w) d ((ps.take i).map λp=>(p.1,p.2.1,bJ am))->
  (∀h' tk,(∀b o,b∉wr->b≠d->h0.get? b=aa o->h'.get? b=aa o)->h'.DictOfH (d6<|ZQ prog w) d (ps.map λp=>(p.1,p.2.1,bJ am))->R (.ok<|.ret res) {s with heap:=h',toks:=tk})->
  gH #[8] A (.builtin "dict.update.loop" #[[.ref d,.ref I,fC i,res],[]]) R s:=by
 intro k
 induction k with
 |zero=>
  intro i s hk hi' hst kp dd hR;subst hk;refine d5 JU ?_;rw[dU Wz _];show aW _ A.in1 (kl (.ref I) >>= _) _ _ s;refine ae<|W.done s _ _ hst λh' tk hk'=>?_
  refine ae<|ax<|ax<|hR h' tk (λb o hb hd z=>hk' b o hb<|kp b o hb hd z) ?_
  rw[cG<|by omega]at dd
  exact WM dd (λo e=>hk' _ o (λz=>hf<|W.sub _ z) e) λx hx o e=>by
   obtain⟨y,hy,rfl⟩:=aN.mp hx;exact hk' _ o (hp y hy).2.2.2.2.1 e
 |succ k ih=>
  intro i s hk hi' hst kp dd hR;have hlt:i<its.size:=by omega
  have hp':=hp _<|aZ (l:=ps) (n:=i) #[3]
  have hv:=hi i _<|ag (l:=ps) (i:=i) #[3]
  refine d5 JU ?_;rw[dU Wz _];show aW _ A.in1 (kl (.ref I) >>= _) _ _ s;refine ae<|W.item i s _ _ hlt hst λv h' tk hP hst' hk'=>?_
  rw[hv]at hP;cases hP;obtain⟨p1,p2,p3,p4,p5,p6⟩:=hp';have kp2:∀b o,b∉wr->b≠d->h0.get? b=aa o->h'.get? b=aa o:=λb o hb hd z=>hk' b o hb<|kp b o hb hd z
  have dd2:h'.DictOfH (d6<|ZQ prog w) d ((ps.take i).map λp=>(p.1,p.2.1,bJ am)):=WM dd (λo e=>hk' _ o (λz=>hf<|W.sub _ z) e) λx hx o e=>by
   obtain⟨y,hy,rfl⟩:=aN.mp hx;exact hk' _ o (hp y<|dB hy).2.2.2.2.1 e
  obtain⟨po,g1,g2,pn,g3⟩:=p1;refine ae<|bP<|ae<|wpAny_tryCatch<|xH (its:=[cW ps[i].2.1,bJ am].toArray) #[po,kp2 _ _ p3 p4 g1,g2,pn,g3] ?_;have hsz:((ps.take i).map λp=>(p.1,p.2.1,bJ am)).length<=ba:=by rw[aA,bT];exact cc (pK ..) hz
  refine bP<|oK (hsz:=hsz) (ip<|by omega) (vY p2 λo e=>kp2 _ o p5 p6 e) dd2 λh2 dd3 sb=>?_
  refine ax #[i7 Wz _,ih (i+1) _ #[3] hlt (W.frame _ _ _ hst' λb hb o e=>(sb.2 b λz=>hf<|z▸hb).trans e) (λb o hb hd z=>(sb.2 b hd).trans<|kp2 b o hb hd z) ?_ hR]
  have hnew:o0 ((ps.take i).map λp=>(p.1,p.2.1,bJ am)) ps[i].1=ai:=by
   unfold o0;rw[mU,oM];intro x hx z;obtain⟨y,hy,rfl⟩:=aN.mp hx;have hn2:=hn;rw[<-cR i ps,bV,fw,cq<|by omega]at hn2
   exact hn2.2.2 _ (eG hy) _ (eG ak)<|T6 z
  rw[storedH_new hnew]at dd3;rw[lQ,ag #[3],bV]
  exact dd3
def wx{s:ay}{l:aE}{its:Array aw}{n:Nat}{ps:List Pr}{Q:aw->ay->Prop}(hh:A.handled=ai)(hu:A.units+3<dL)(hx:s.heap.get? l=aa {cls:=.type "list",data:=.seq its n})
  (hl:ps.length=its.size)(hi:∀(i:Nat)(p:Pr),ps[i]?=aa p->its[i]?=aa (cW p.2.2))
  (hp:∀p∈ps,oP s.heap p.2.2 [cW p.2.1,bJ am].toArray/\(d6<|ZQ prog w).is s.heap p.1 p.2.1)(hn:(ps.map (·.1)).Nodup)(hz:ps.length<=ba)
  (h:∀h' tk,(∀b o,s.heap.get? b=aa o->h'.get? b=aa o)->h'.DictOfH (d6<|ZQ prog w) s.heap.objs.size (ps.map λp=>(p.1,p.2.1,bJ am))->Q #[25] {s with heap:=h',toks:=tk}) :
  aW #[8] A (call (.type "dict") [.ref l]) Q E s:=by
 refine callType_codes (Q₁:=λobj s₁=>obj=.ref s.heap.objs.size/\s₁={s with heap:=s.heap.push {cls:=.type "dict",data:=.dict #[]}}) F.kt_called_dict (F.kt_typeCall_dict_1 _) F.entry_dict_init (kt_code_dict_new _ #[rfl,rfl]) ?_
 rintro obj s₁ ⟨rfl,rfl⟩
 have hnew:(s.heap.push {cls:=.type "dict",data:=.dict #[]}).DictOfH (d6<|ZQ prog w) s.heap.objs.size []:=bZ.DictOfH.new s.heap;have hx':=aq {cls:=.type "dict",data:=.dict #[]} hx;refine#[hnew.typeIs (s:={s with heap:=_}),F.args_dict_init_2 _ _,?_]
 unfold dG.«dict.__init__»;refine ae ?_;unfold dG.Dict.selfAndRest;refine ae<|ni (hnew.typeIs (s:={s with heap:=_})) ?_
 show aW _ _ (cS (s.heap.objs.size,[cW l])) _ _ _;refine ax ?_;show aW _ _ (my "dict.__init__" s.heap.objs.size (.ref l) [] .none) _ _ _;unfold my;refine ae<|fT (T:="list") #[_,hx',rfl] ?_;rw[T9 #[1]]
 refine ae<|u9 hx' hh λh1 t1 k1=>?_
 rw[T9<|show(ai:Option aw).isNone=am from rfl]
 have hx1:=k1 _ _ hx';obtain⟨od,es,ep,g1,g2⟩:=id hnew;have hd1:s.heap.objs.size<h1.objs.size:=aH<|k1 _ _ g1;have hl0:l<s.heap.objs.size:=aH hx;refine ae<|eQ<|ae<|fq (items:=its) #[_,hx1,rfl,n,rfl]<|ax #[i7 Wz _,?_];have lt:∀{b:aE}{o:fH},s.heap.get? b=aa o->b∉[h1.objs.size]/\b≠s.heap.objs.size:=λ{b o} e=>by
  have q:=aH e;exact#[λz=>T7 (bc.mp z)<|a9<|dF q hd1,a9 q]
 refine Zb7 (A:=A.in1) (h0:=s.heap) (ps:=ps) (i:=0) (s:={s with heap:=h1.push<|Yw am l,toks:=t1}) (VF (A:=A.in1.in1) hh am h1.objs.size l (a9<|dF hl0 hd1) its) (by show A.units+1+2<dL;omega) (λz=>?_) hl hi (λp hq=>?_) hn hz _ (pA _) (dM _) #[GV,?_] (λb o _ _ e=>aq _<|k1 _ _<|aq _ e) ?_ λh' tk kp dd=>#[rfl,h h' tk (λb o e=>kp b o (lt e).1 (lt e).2 e) dd]
 .simp only[az,bx,or_false]at z
  rcases z with z|z
  .exact a9 hd1 z
  .exact eJ hl0 z
 .obtain⟨x1,x2⟩:=hp p hq
  obtain⟨_,y1,_⟩:=id x1;obtain⟨_,_,_,y2,_⟩:=id x2;exact#[x1,x2,(lt y1).1,(lt y1).2,(lt y2).1,(lt y2).2]
 .exact#[_,aq _ hx1,rfl,n,rfl]
 .exact WM hnew (λo e=>aq _<|k1 _ _ e) λx hx=>by cases hx
end
section
variable{X:Cx}{xw:Nat->Hp->Prop}{U:Mx}{H:Hp}
theorem yo:∀{ds:List D}{ks:List #[15]}{ys:List V},Pv.WT ds=aa ks->Rq U H ds ys->∃ps:List Pr,ps.map (·.1)=ks.map (·.map da)/\ps.length=ys.length/\
  ∀(i:Nat)(p:Pr),ps[i]?=aa p->ys[i]?=aa (.ref p.2.2)/\H p.2.2=aa (.tup [.ref p.2.1,.bl am])/\H p.2.1=aa (.tup<|p.1.map kV)
 |[],ks,ys,h,r=>by
  cases h;subst r;exact#[[],rfl,rfl,λi p e=>by simp at e]
 |d::ds,ks,ys,h,r=>by
  obtain⟨v,vs,rfl,r1,r2⟩:=r;obtain⟨a,e1,h⟩:=bW.mp (h)
  obtain⟨b,e2,rfl⟩:=bI.mp h;obtain⟨ps,h1,h2,h3⟩:=yo e2 r2;unfold Pv.ZeQ at e1;split at e1
  .split at e1
   .rename_i k b hb
    subst hb;obtain⟨p,zs,rfl,hp,rz⟩:=r1.tup';obtain⟨u,u2,rfl,ru,ru2⟩:=zS rz;rw[ru2.bl']at hp;obtain⟨q,ws,rfl,hq,rw'⟩:=ru.tup';rw[Xv e1 rw']at hq;refine#[(a.map da,q,p)::ps,by rw[aY,h1];rfl,by simp[h2],λi y hy=>?_]
    cases i with|zero=>simp at hy;subst hy;exact#[rfl,hp,hq]|succ i=>exact h3 i y (by simpa using hy)
   .cases e1
  .cases e1
def Q8(hc:X.calm=am)(hu:X.A.units+7<dL):ZE X (.type "dict") (Uy X.K xw .dictP):=by
 intro pq s Z H vs us Q I r h;obtain⟨U,S,ds,st,rs,h⟩:=h;obtain⟨d,v,z,rfl,r1,hz,h3⟩:=Wc h rs;have hd:∃ds ks,d=.lst ds/\Pv.WT ds=aa ks/\Ev.Qz ks=am/\z=.dct (.inr ks):=by
  cases d with
  |lst ds=>
   obtain⟨ks,hk,hz⟩:=bW.mp hz;split at hz
   .cases hz;exact#[ds,ks,rfl,hk,‹_›,rfl]
   .cases hz
  |_=>exact Ev.nos hz
 obtain⟨ds,ks,rfl,hk,hok,rfl⟩:=hd;obtain⟨l,ys,rfl,hl,_,ry⟩:=r1.lst';obtain⟨u,rfl,ru⟩:=XQ r;cases ru;obtain⟨ps,p1,p2,p3⟩:=yo hk ry;obtain⟨_,its,c,rv,hg⟩:=(show ZZ X.prog X.w H s.heap l (.lst ys)from I.hok l _ hl)
 obtain⟨k1,k2⟩:=(aF _ _).mp hok;have hn:(ps.map (·.1)).Nodup:=by
  rw[p1];exact List.Pairwise.map _ (λa b ne e=>ne<|GX e)<|T6 k2
 have hlen:ps.length=ks.length:=by have:=congrArg iz p1;simpa using this
 have hz:ps.length<=ba:=by rw[hlen,<-Wl];exact T6 k1
 have hp0:H s.heap.objs.size=ai:=I.hok.fresh<|aM _;refine wx (I.ok.hd hc) #[3] hg (by rw[p2,rv.length,aC]) (λi p e=>?_) (λp hp=>?_) hn hz λh' tk kp dd=>?_
 .obtain⟨w',g',ru'⟩:=rv.get (p3 i p e).1
  rw[show w'=.ref p.2.2 from ru']at g'
  simpa using g'
 .obtain⟨i,hi,e⟩:=cE hp
  obtain⟨_,a2,a3⟩:=p3 i p (by rw[<-e];exact ag hi)
  obtain⟨_,zs,rz,tz⟩:=(show ZZ X.prog X.w H s.heap p.2.2 (.tup [.ref p.2.1,.bl am])from I.hok _ _ a2)
  refine#[?_,V8 I.hok a3];cases rz with
  |cons x rz=>cases rz with
   |cons y rz=>
    cases rz;cases(show _=cW p.2.1 from x)
    cases(show _=bJ am from y)
    exact tz
 .obtain⟨od,es,ep,g1,g2,g3,g4,g5,g6⟩:=dd
  have hb:(s.heap.objs.size == de)=aj:=beq_eq_false_iff_ne.mpr<|eJ I.big;have hpr:∀{l:List Pr},(∀p∈l,H p.2.1=aa (.tup<|p.1.map kV))->Paired (λ(p:List Key×V) (q:List Key×aE×aw)=>p.1=q.1/\upd H s.heap.objs.size (.frz od<|.dT<|ps.map λp=>(p.1,V.bl am)) q.2.1=aa (.tup<|p.1.map kV)/\Zx p.2 q.2.2) (l.map λp=>(p.1,V.bl am)) (l.map λp=>(p.1,p.2.1,bJ am)):=λ{l}=>by
   induction l with|nil=>intro _;exact .nil|cons p l ih=>intro hl;exact .cons #[rfl,by rw[Zj<|Ye (hl p ak) hp0];exact hl p ak,rfl]<|ih λq hq=>hl q<|al _ hq
  refine#[.ref s.heap.objs.size,upd H s.heap.objs.size<|.frz od<|.dT<|ps.map λp=>(p.1,V.bl am),I.laid (t':=tk) kp (aM _) (show ZZ X.prog X.w _ h' _ (.frz od<|.dT<|ps.map λp=>(p.1,V.bl am))from#[g1,by rw[aA];exact hz,hb,ps.map λp=>(p.1,p.2.1,bJ am),hpr λp hp=>?_,od,es,ep,g1,g2,g3,g4,g6]),rfl,?_]
  .obtain⟨i,hi,e⟩:=cE hp
   exact(p3 i p<|by rw[<-e];exact ag hi).2.2
  .exact h3 U _ _ (Zv hp0) (st.fresh hp0) (by unfold Rep;exact#[_,rfl,od,_,Zl,by rw[cg];exact p1])
end
section
variable{X:Cx}{xw:Nat->Hp->Prop}{fr:Bool}{C:Calls}{ns:List Nat}{e a:Expr}{i:E}{pos p p' p2:gu}{n:Nat}{x:bn}{q:Option bn}
def Zeh{q}(ha:CE X xw C a i):CE X xw C (.Subscript a (.Constant (.int 0) q p2) pos) (.dix i aj):=.mk <| PE.imp (vO UC ha.h U8<|by intro _ _;with_unfolding_all rfl)<|by
 left;rw[Pv.Zeg]at h;refine#[U,l,S,st,lr,h.bind λx S1 ρ1 H1 v f1 st1 r1 h1=>?_]
 cases x with|drw=>obtain⟨p,rfl,hn⟩:=r1.drw';exact#[p,_,0,_,rfl,rfl,SqL.of (st1.dw p hn).1,rfl,End.ok h1 st1<|ZM _]|_=>exact h1.elim
def ZdQ{q}(ha:CE X xw C a i):CE X xw C (.Subscript a (.Constant (.int 1) q p2) pos) (.dix i am):=.mk <| PE.imp (vO UC ha.h U8<|by intro _ _;with_unfolding_all rfl)<|by
 left;rw[Pv.Zeg]at h;refine#[U,l,S,st,lr,h.bind λx S1 ρ1 H1 v f1 st1 r1 h1=>?_]
 cases x with|drw=>obtain⟨p,rfl,hn⟩:=r1.drw';exact#[p,_,1,_,rfl,rfl,SqL.of (st1.dw p hn).1,rfl,End.ok h1 st1<|Yc _]|_=>exact h1.elim
def ZcI{q}(he:CE X xw C e i)(hN:X.N[n]?=aa x)(hv:Vis X.env.scope x)(hd:(x == #[11])=aj)
  (hcd:(x == #[19])=aj)
  (ha:∀v,eL (.Subscript (.Name x p') (.Constant (.int 0) q p2) p) X.env v=(do
   let ov <-lE [v] (c6 (.Name x p') X.env)
   let iv <-lE [v,ov] (c6 (.Constant (.int 0) q p2) X.env)
   oQ p
   lE [v,ov,iv] (tx ov iv v)
   release [v,ov,iv] []))(hs:eg [.Subscript (.Name x p') (.Constant (.int 0) q p2) p] e pos.line X.env=cS aj)(hw:ei [.Subscript (.Name x p') (.Constant (.int 0) q p2) p] e X.env=cS ai)
  (h1:(cI [.Subscript (.Name x p') (.Constant (.int 0) q p2) p] X.env).map (·.2)=[eL (.Subscript (.Name x p') (.Constant (.int 0) q p2) p) X.env]):CS X xw fr C ns (.Assign [.Subscript (.Name x p') (.Constant (.int 0) q p2) p] e pos) (.dset n i):=.mk <|
 PS.imp (VS he.h (Zgr (Yq hN hv hd hcd) U8 (Zb0 (X:=X)) ha) hs hw h1)<|by
 right;rw[Pv.Zgz]at h;refine#[U,l,S,st,en.all,Zz.bind en h λy S1 H1 v f1 st1 r1 h1=>?_]
 cases y with
 |int y=>
  obtain⟨hk,h1⟩:=h1.guard;have hx:l[n]?=aa (aa .drw):=by
   cases z:l[n]? with
   |none=>rw[z]at h1;exact h1.elim
   |some o=>cases o with
    |none=>rw[z]at h1;exact h1.elim
    |some d=>cases d<;>rw[z]at h1<;>first|rfl|exact h1.elim
  rw[hx]at h1;obtain⟨u,hu,r⟩:=(en.mono f1).all.val n .drw hx;obtain⟨a,rfl,hn⟩:=r.drw';obtain⟨e1,_⟩:=st1.dw a hn;refine#[.ref a,hu,a,_,0,0,rfl,rfl,e1,rfl,?_];rw[r1.int'];have f2:Fut U H1 U (upd H1 a<|.lst [.int y,.bl S1.2]):=#[rfl,λb o z=>by
   by_cases c:b=a
   .subst c;rw[e1]at z;cases z;exact .inr<|.inl #[hn,_,rfl]
   .exact .inl (by rw[Zj c];exact z)]
  refine h1 _ Z W #[st1.hk,λb x=>?_,λb x=>?_,st1.tb.upd (λo u z=>by rw[e1]at z;cases z) λ_ z=>by cases z]<|(en.mono f1).mono f2
  .by_cases c:b=a
   .rw[c];show upd _ _ _ _≠ai;rw[Zl];intro z;cases z
   .show upd _ _ _ _≠ai;rw[Zj c];exact st1.xd b x
  .rw[hn]at x
   cases x;exact#[Zl,hk]
 |_=>exact h1.elim
end
open Ev in
noncomputable def WQ:Fn:=#[2,4,
 [.ite (.dix (.v 0) am) [.asg [2]<|.bin .mod (.dix (.v 0) aj)<|.v 1,
  .dset 0 (.bin .fdiv (.dix (.v 0) aj)<|.v 1),
  .ret (.v 2)] [],
  .dset 0 (.bin .mod (.bin .add (.bin .mul (.dix (.v 0) aj)<|.n 48271)<|.n 29)<|.n 2147483647),
  .asg [3] (.bin .mod (.bin .add (.bin .add (.bin .mul (.dix (.v 0) aj)<|.dix (.v 0) aj)<|.bin .mul (.n 39373)<|.dix (.v 0) aj)<|.n 7)<|.n 2147483629),
  .asg [3] (.bin .mod (.bin .add (.bin .mul (.v 3)<|.v 3)<|.bin .mul (.n 16807)<|.v 3)<|.n 2147483587),
  .ret (.bin .mod (.bin .fdiv (.v 3)<|.n 8)<|.v 1)]]
open Ev Pv in
def Ww(h0:0<=a)(h:a<4294967296):fits a=am:=by
 refine T5 ?_;have h1:a.natAbs<2^32:=by lia
 exact bo h1<|dC #[1] #[1]
open Ev Pv in
def Yr{C:Calls}{s:Zu}{m:Int}(h:okS s.1 s.2=am)(m0:0<m)(m1:m<1073741824):zk C WQ [.drw,.int m] s=.ok (.int (XZ s m).1) (XZ s m).2:=by
 obtain⟨a,b⟩:=s;unfold okS at h;have hm:muts WQ.body=[]:=rfl;unfold zk;rw[hm];have ha:0<=a:=T6 ((aF _ _).mp h).1;have lt8:(8:Int)<big:=Zac #[1]
 cases b with
 |true=>
  have o2:okS (a / m) am=am:=by simp[okS];exact Int.ediv_nonneg ha #[0]
  simp[WQ,XZ,rvs,rE1,rE9,GI,Zgz,pvA,pE1,pE2,pE7,Zeg,YE,PR.bind,po,Zw,ZN,ofD,Vu,Pv.Uw,m0,m1,Zac m1,o2,hide]
 |false=>
  have hb:a<2147483647:=by simpa using((aF _ _).mp h).2
  have h1:=Ww ha #[0]
  have x0:0<=(a*48271+29)%2147483647:=by lia
  have x1:(a*48271+29)%2147483647<2147483647:=by lia
  generalize hxx:(a*48271+29)%2147483647=x at x0 x1;have y0:0<=(x*x+39373*x+7)%2147483629:=by lia
  have y1:(x*x+39373*x+7)%2147483629<2147483629:=by lia
  generalize hyy:(x*x+39373*x+7)%2147483629=y at y0 y1;have f1:=Ww x0 #[0]
  have f2:=Ww y0 #[0]
  have f3:fits 48271=am:=Ww #[0] #[0]
  have f4:fits 39373=am:=Ww #[0] #[0]
  have f5:fits 16807=am:=Ww #[0] #[0]
  have o2:okS x aj=am:=by simp[okS,x0,x1]
  simp[WQ,XZ,rvs,rE1,rE9,GI,Zgz,pvA,pE1,pE2,pE7,Zeg,YE,PR.bind,po,Zw,ZN,ofD,Vu,Pv.Uw,m0,m1,lt8,h1,hxx,hyy,f1,f2,f3,f4,f5,o2,hide]
def ZcN{K:ao}{F:List Fn}{tk d:Nat}:∀U S H ds vs,St3 K U S H->Rq U H ds vs->Pv.Zk F tk (d+1) tk ds S=.no\/Pv.Zk F tk (d+1) tk ds S=zk (Pv.Zk F tk d) WQ ds S:=λU S H ds vs st r=>by
 rw[Pv.Zk,T9 rfl];unfold Pv.ZeR;split
 .rename_i m
  obtain⟨v,u,rfl,r1,_⟩:=zS r;obtain⟨a,_,hn⟩:=r1.drw';split
  .rename_i hm
   exact .inr (Yr (st.dw a hn).2 hm.1 hm.2).symm
  .exact .inl rfl
 .exact .inl rfl
def vL{K:ao}{F:List Fn}{tk n d:Nat}{fn:Fn}(hn:n≠tk)(hf:F[n]?=aa fn):∀U S H ds vs,St3 K U S H->Rq U H ds vs->Pv.Zk F tk (d+1) n ds S=.no\/Pv.Zk F tk (d+1) n ds S=zk (Pv.Zk F tk d) fn ds S:=λU S H ds vs st r=>by
 rw[Pv.Zk,T8 hn,hf]
 all_goals exact .inr rfl
def Zec(h:Pv.Qq v=aa d):v=.lst [.int d.1,.bl d.2]/\Pv.okS d.1 d.2=am:=by
 unfold Pv.Qq at h;split at h
 .split at h
  .cases h;exact#[rfl,‹_›]
  .cases h
 .cases h
def yh{l:Lc}{i:Nat}{d:D}(h:(l.map Pv.JM)[i]?=aa (aa d)):l[i]?=aa (aa d)/\d.flat=am:=by
 rw[aQ]at h;cases q:l[i]? with
 |none=>rw[q]at h;cases h
 |some o=>
  rw[q]at h;have h:=au h;obtain⟨a,b⟩:=Option.filter_eq_some_iff.mp h;exact#[by rw[a],b]
def ZbB{n:Nat}{l:Lc}{i:Nat}{d:D}(h:(Pv.Vd n l)[i]?=aa (aa d)):l[i]?=aa (aa d)/\d.flat=am:=by
 unfold Pv.Vd at h;rw[List.getElem?_append]at h;split at h
 .obtain⟨a,b⟩:=yh h
  rw[cL]at a;split at a
  .exact#[a,b]
  .cases a
 .rw[cX]at h
  split at h<;>cases h
def yR :(Pv.Vd n l).length=l.length:=by
 unfold Pv.Vd;rw[aX,aA,bT,bR];omega
def tCl(X:Cx)(xw:Nat->Hp->Prop)(C:Calls)(fi:Nat)(is:List E):TE:=λZ H Q=>tA X xw (Pv.pvs C is) Z H λvs H1=>∃U ds S,St3 X.K U S H1/\Rq U H1 ds vs/\End X.K xw (XT am H1) U H1 Q (C fi ds S)
def Zfi{xw:Nat->Hp->Prop}{fi:Nat}{y:bn}{es:List Expr}{is:List E}{ss:List eE}{B:List Sm}(hc:PE X (.Call (.Name y p') (e::es) [] p) (tCl X xw C fi is))(hB:CSs X xw fr C ns ss B)(hN:X.N.Nodup)
  (hi:X.N[n]?=aa x:=by rfl)(hx:L2.Loc X.env.scope x:=by first|exact Or.inl rfl|exact pS rfl)(hf:X.fn x=am\/X.env.scope.names.lookup x=aa .local:=by first|exact .inl rfl|exact .inr rfl)
  (hs:eg [.Name x px] (.Call (.Name y p') (e::es) [] p) pos.line X.env=cS aj:=by rfl)(hw:ei [.Name x px] (.Call (.Name y p') (e::es) [] p) X.env=cS ai:=by rfl)
  (h1:(cI [.Name x px] X.env).map (·.2)=[eL (.Name x px) X.env]:=by rfl) :
  CSs X xw fr C ns (.Assign [.Name x px] (.Call (.Name y p') (e::es) [] p) pos::ss) [.cel n fi is B]:=.mk <|
 PSs.imp (Yo (VS hc (zc hN hi hx hf) hs hw h1) hB.h)<|by
 right;have h:Zz fr X.K xw U H0 D (Pv.rv C ns (.cel n fi is B) l os S):=by
  rw[Pv.rvs]at h;cases q:Pv.rv C ns (.cel n fi is B) l os S with|no=>rw[q]at h;exact h|ex c s=>rw[q]at h;exact h|ok g s=>rw[q]at h;cases g<;>exact h
 rw[Pv.Zh3]at h;obtain⟨ho,h⟩:=h.guard;refine#[U,l,S,st,en.all,Zz.bind en h λxs S1 H1 vs f1 st1 r1 h1=>?_]
 refine#[U,xs,S1,st1,r1,Zz.bind (rep:=XT am H1) (en.mono f1) h1 λv S2 H2 u f2 st2 r2 h2=>?_]
 obtain⟨d,hd,h3⟩:=Zz.ob h2;obtain⟨rfl,hok⟩:=Zec hd;obtain⟨a,rfl,na⟩:=r2.2 rfl _ rfl;obtain⟨_,us,z,ea,_,ru⟩:=r2.1.lst';cases z;obtain⟨u1,u2,rfl,q1,q2⟩:=zS ru;cases q1.int';cases q2.bl';have en2:=(en.mono f1).mono f2;have nX:∀q,U.X q->q≠a:=λq x z=>st1.xd q x<|z▸na
 let ρ':Mx:=#[U.K,aa a,λq=>U.X q\/q=a,λq h=>.inr (au h).symm]
 have st':St3 X.K ρ' d H2:=#[st2.hk,λq x=>x.elim (st2.xd q) λz=>(by rw[z,ea];intro w;cases w),λq x=>(by cases x;exact#[ea,hok]),st2.tb]
 have en':Eu ρ' H2 (λ_=>ai) ((Pv.Vd n l).set n<|aa .drw) [] (Z.set n<|aa<|.ref a) H2:=by
  refine#[Fut.refl _ _,st'.xd,by rw[bG,bG,yR];exact en.len,λ_=>rfl,λ_ _ _ z=>?_,λ_ _ z=>?_,λ_ _ z=>?_,λi w q _=>?_]
  .cases z
  .cases z
  .cases z
  .rcases Gp q with⟨rfl,z,hl⟩|⟨c,z⟩
   .cases z
    exact#[.ref a,bg (by rw[<-en.len,<-yR (n:=n)];exact hl),by unfold Rep;exact#[a,rfl,rfl]]
   .obtain⟨z,hfl⟩:=ZbB z
    obtain⟨v,hv,r⟩:=en2.all.val i w z;exact#[v,by rw[bf c];exact hv,Rep.flat (U:=U) (ρ':=ρ'.ex λ_=>ai) rfl (λ_ _ z _ _=>z) hfl r]
 have n0:∀{b},b≠a->ρ'.n0≠aa b:=λc w=>T7 (au w).symm c
 have keep:∀{H'},Fut ρ' H2 ρ' H'->∀b o,b≠a->H2 b=aa o->(∀ps,o≠.tbl ps)->H' b=aa o:=λ{H'} f b o c z n=>(f.keep b o z).elim id λw=>w.elim (λw=>T7 w.1<|n0 c) λ#[#[ps,e],_]=>T7 e<|n ps
 have back:∀{H':Hp}{s:Zu},Fut ρ' H2 ρ' H'->St3 X.K ρ' s H'->St3 X.K U S2 H'/\Fut U H0 U H':=λ{H' s} f w=>by
  refine#[#[st2.hk,λq x=>?_,λq x=>?_,w.tb],rfl,λb o z=>?_]
  .exact f.there (n0<|nX q x)<|st2.xd q x
  .obtain⟨e1,e2⟩:=st2.dw q x
   exact#[keep f q _ (nX q<|U.xz q x) e1 (by intro _ z;cases z),e2]
  .have ne:b≠a:=λc=>by rw[c,yK (en.mono f1) st1 na]at z;cases z
   rcases en2.fut.keep b o z with y|y|⟨e,ps,y⟩
   .rcases f.keep b o y with q|q|q
    .exact .inl q
    .exact T7 q.1<|n0 ne
    .exact .inr<|.inr q
   .exact .inr<|.inl y
   .rcases f.keep b _ y with q|⟨_,xs,q⟩|⟨_,q⟩
    .exact .inr<|.inr #[e,ps,q]
    .cases q
    .exact .inr<|.inr #[e,q]
 have backE:∀{H':Hp}{s:Zu}{W':Own}{l':Lc}{os':List Nat}{σ':L2.St},Eu ρ' H2 W' l' os' σ' H'->St3 X.K ρ' s H'->St3 X.K U S2 H'/\Eu U H0 (λ_=>ai) (l'.map Pv.JM) [] σ' H':=λ{H' s W' l' os' σ'} g w=>by
  obtain⟨a1,a2⟩:=back g.fut w;refine#[a1,a2,en.xd,by rw[aA];exact g.len,λ_=>rfl,λ_ _ _ z=>?_,λ_ _ z=>?_,λ_ _ z=>?_,λi w q _=>?_]
  .cases z
  .cases z
  .cases z
  .obtain⟨z,hfl⟩:=yh q
   obtain⟨v,hv,r⟩:=g.all.val i w z;exact#[v,hv,Rep.flat (U:=ρ') (ρ':=U.ex λ_=>ai) rfl (λ_ _ z _ _=>z) hfl r]
 refine#[ρ',H2,λ_=>ai,_,[],d,st',en',?_]
 cases q:Pv.rvs C ns B ((Pv.Vd n l).set n<|aa .drw) [] d with
 |no=>rw[q]at h3;exact h3
 |ex c s=>rw[q]at h3;exact h3.elim
 |ok g s=>
  rw[q]at h3;cases g with
  |nx l' os'=>exact λH' σ' W' w g=>let #[a1,a2]:=backE g w;h3 H' σ' _ a1 a2
  |ret v=>
   obtain⟨hfl,h3⟩:=Zz.guard h3;exact λH' v' f w r=>let #[a1,a2]:=back f w;h3 H' v' a2 a1 #[Rep.flat (U:=ρ') (ρ':=U) rfl (λ_ _ z _ _=>z) hfl r.1,λ_ ds z=>by rw[z]at hfl;cases hfl]
open Ev (ltI YO Zy Z7)
section
variable{prog:bv}{w:bO}{A:b9}{E:aw->ay->Prop}{s:ay}{d:aE}{ep:Nat}{od:fH}{es:Array gL}
def ua(lo:(d == de)=aj)(hc:od.ExactDict)(hdat:od.data=.dict es ep):lu prog w "dict" d d es.size (λi v=>(es[i]?).map (·.key)=aa v) (λh=>h.get? d=aa od) where
 type:=λ_ hm=>#[_,hm,hc.1]
 there:=λ_ hm=>#[aH hm,aH hm]
 keep:=λ_ _ hm hk=>hk d (.inl rfl) _ hm
 notList:=by decide
 notTuple:=by decide
 hint:=λ_ _ _ _ hm hq=>PySem.W.kdl_hint_dict #[_,hm,hc.1] hq
 iter:=λA s hh hm=>by
  have hne:=a9<|aH hm;refine#[_,λi h=>h.IsKeyIter s.heap.objs.size d i es.size ep/\h.get? d=aa od,λE Q hq=>uB lo hm hc hdat hq,?_,#[_,aI _ rfl,rfl,rfl],aq _ hm]
  exact{
   sub:=λb hb=>by simp at hb;simp[hb]
   frame:=λ_ _ _ st hk=>#[st.1.at λo e=>hk _ #[2] o e,hk d #[2] _ st.2]
   item:=λi s' Q E hi st hQ=>JO st.1 st.2 hdat (λhlt h' hit' sb=>hQ _ h' s'.toks (by simp[hlt]) #[hit',sb.extBut _ _ hne st.2] λb o hb e=>sb.extBut b o (λz=>hb<|by simp[z]) e) λz=>T7 hi #[3]
   done:=λs' Q E st hQ=>JO st.1 st.2 hdat (λhlt _ _ _=>T7 hlt<|by omega) λ_=>#[hh,λh' eb=>hQ h' s'.toks λb o hb e=>eb b o (λz=>hb<|by simp[z]) e]
   self:=λ_ _ _ _ st hQ=>wpAny_pyIter_keyiter st.1 hQ}
def vX{acc:Array aw}(h:tI (λi v=>(es[i]?).map (·.key)=aa v) acc es.size):acc.toList=es.toList.map (·.key):=by
 refine ck λi=>?_
 by_cases hi:i<es.size
 .have hl:i<acc.size:=by rw[h.1];exact hi
  have:=h.2 i acc[i]<|bp hl;rw[aQ,bq,bq,this,bp hl]
 .rw[bM (by rw[aJ,h.1];omega),bM (by simp;omega)]
def yq{T:String}{r:aE}{n:Nat}{P:Nat->aw->Prop}{OK:bZ->Prop}{R:List aw->ay->Prop}(K:lu prog w T r d n P OK)(hh:A.handled=ai)(hok:OK s.heap)(hn:n<=ba)
  (h:∀h' tk acc,(∀b o,s.heap.get? b=aa o->h'.get? b=aa o)->s.heap.objs.size<=h'.objs.size->tI P acc n->R acc.toList {s with heap:=h',toks:=tk}):aW #[8] A (collect<|.ref r) R E s:=by
 obtain⟨l1,l2⟩:=K.there _ hok
 let S:=s.heap.objs.size
 have hS:(s.heap.push {cls:=.type "list",data:=.seq #[]}).get? S=aa {cls:=.type "list",data:=.seq #[]}:=aI _ rfl;have fin:∀{h':bZ}{tk c:Nat}{acc:Array aw},(∀b o,b≠S->(s.heap.push {cls:=.type "list",data:=.seq #[]}).get? b=aa o->h'.get? b=aa o)->h'.get? S=aa {cls:=.type "list",dict:=ai,data:=.seq acc c,slots:=#[]}->tI P acc n->R acc.toList {s with heap:=h',toks:=tk}:=
  λk e i=>h _ _ _ (λb o z=>k b o (a9<|aH z)<|aq _ z) (gF<|aH e) i
 refine ae<|wpAny_runValue<|d5 entry_proto_collect' ?_;rw[dU PySem.F.plain_proto_collect _];refine ae<|bw<|ax #[i7 mz _,d5 entry_list_iadd' ?_];rw[dU mz _];refine dH (PySem.W.kdl_extend (R:=λq s'=>∃h' tk acc c,q=.ok (.ret<|.ref S)/\s'={s with heap:=h',toks:=tk}/\h'.get? S=aa {cls:=.type "list",dict:=ai,data:=.seq acc c,slots:=#[]}/\R acc.toList s') K hh (K.keep _ _ hok λb _ o e=>aq _ e) S (eJ l1) (eJ l2) _ 0 hS (λh' tk acc c k e i=>#[h',tk,acc,c,rfl,rfl,e,fin k e i]) hn) (λf s' x=>?_) λe s' x=>?_
 .cases f with
  |done f=>
   obtain⟨h',tk,acc,c,z,rfl,e,q⟩:=x;cases z;exact ae<|kL e<|ax q
  |again c'=>
   refine#[x.1,fS x.2 λy s2 z=>?_]
   obtain⟨h',tk,acc,c,rfl,rfl,e,q⟩:=z;exact ae<|kL e<|ax q
 .obtain⟨_,_,_,_,z,_⟩:=x
  cases z
def xh{κ:gj}{lt:Nat->Nat->Bool}{vs:List aw}{Q:aw->ay->Prop}(hh:A.handled=ai)(lo:(d == de)=aj)(ho:s.heap.get? d=aa od)(hc:od.ExactDict)(hdat:od.data=.dict es ep)(hv:es.toList.map (·.key)=vs)(h64:vs.length<=100000)
  (O:Sq.Ord vs.length lt)(K:Sq.Asks prog w A.in1.in1 s.heap vs κ lt)
  (h:∀p h' tk D n,Sq.Pm vs.length p->Sq.Up (Sq.ltR aj vs.length lt) p vs.length->(∀b o,s.heap.get? b=aa o->h'.get? b=aa o)->s.heap.objs.size<=D->h'.get? D=aa (fG "list" (du<|bF aj<|p.toList.map λi=>(bF aj vs).getD i bz) n)->Q (.ref D) {s with heap:=h',toks:=tk}) :
  aW #[8] A (call (.builtin "sorted") [.ref d]) Q E s:=by
 have hl:vs.length=es.size:=by rw[<-hv];simp
 refine Calls.call_function_entry rH pf pi (args_sorted1 _) ?_;unfold dG.«sorted»;refine ae<|ax ?_;refine ae<|yq (ua lo hc hdat) hh ho (by rw[dz];omega) λh1 tk acc hk big hacc=>?_
 rw[vX hacc,hv];refine ae<|l9 ?_ (by rw[dz];omega)
 have hoL:(h1.push<|fG "list" vs.toArray 0).get? h1.objs.size=aa (fG "list" vs.toArray 0):=aI _ rfl;refine ae (bP (cx nH #[_,hoL,rfl] mY (by
  rw[Sq.Jp];exact Sq.list_sort_rev hoL h64 (λb o e=>by
   have hlt:=aH<|hk b o e;exact#[a9 hlt,aq _<|hk b o e]) O K λp a1 a2=>#[_,rfl,ax #[_,rfl,by
    obtain⟨n,hn⟩:=sortedHeap_at hoL;exact h p _ tk _ n a1 a2 (λb o e=>by
     have hlt:=aH<|hk b o e;rw[sortedHeap_old (a9 hlt) (by rw[oJ];exact cH hlt)]
     exact aq _<|hk b o e) big hn]])<|args_list_sort _))
end
def Zfx(tk tv:TE):TE:=λZ H Q=>∀p,H p=ai->xR [(tk,tv)] Z (upd H p<|.dT []) λps H2=>∃b r z,ps=[(.ref b,z)]/\H2 b=aa (.tup<|r.map kV)/\H2 p=aa (.dT [])/\Q (.ref p) (upd H2 p<|.dT [(r,z)])
def Zbu{X:Cx}{k v:Expr}{tk tv:TE}{pos:gu}(hu:X.A.units+7<dL)(hk:PE X k tk)(hv:PE X v tv):PE X (.Dict [aa k] [v] pos) (Zfx tk tv):=by
 intro pq s Z H Q I h;have I1:=I.laid (t':=s.toks) (λ_ _ q=>aq _ q) (aM _)<|Zao s.heap I.big
 rw[arm_eval_Dict,zip_pairTrees [aa k] [v] X.env pos rfl rfl,dictDisplay_pairs (pairTrees [aa k] [v] X.env pos) (by simp[pairTrees]) (by rw[pairTrees_length _ _ _ _ rfl rfl];show 1<17;omega)]
 refine ae<|gW<|ae ?_;refine ae<|rA<|ae<|bP ?_;rw[T9 (by rw[pairTrees_length _ _ _ _ rfl rfl];show 1<=15;omega)]
 refine ae<|thn (Zb1 hk hv Zc6 pq _ Z _ _ I1<|h _<|I.hok.fresh<|aM s.heap.objs.size) λws s2 #[ps,H2,I2,rel,b,r,z,e,hb,hp,q]=>?_
 subst e;cases rel with
 |@cons _ y _ ys h1 t=>
  cases t;obtain⟨u,x⟩:=y;obtain⟨h1,h2⟩:=h1;cases(h1);obtain⟨zz,hd,xs,rl,dd⟩:=ZeJ I2.hok hp;cases rl;refine bP ?_;rw[ko];refine ae (ae<|ae<|oK ((show X.A.units<dL by omega)) (V8 I2.hok hb) dd λh' dd' hs=>ax ?_)
  show aW _ _ (nA [] _ _) _ _ _;rw[nC];refine ax<|ax<|ax<|ax #[.ref s.heap.objs.size,_,?_,rfl,q];obtain⟨o,es,ep,hq,g2,g3,g4,_,g5⟩:=dd';refine G8 I2 (by rw[hp];exact fD) hs #[o,hq] #[by show 1<=ba;decide,hd,[(r,b,x)],.cons #[rfl,?_,h2] .nil,o,es,ep,hq,g2,g3,g4,g5]
  rw[Zj (Zeo hb hp (λz=>nomatch z))]
  exact hb
def xk{U:Mx}{H:Hp}{d:D}{v:V}{r:List Int}(h:Rep U H d v)(e:Pv.Zf5 d=aa r):∃b,v=.ref b/\H b=aa (.tup<|(r.map (da:Int->Key)).map kV):=by
 cases d with|tup ks=>obtain⟨b,xs,rfl,hb,rs⟩:=h.tup';exact#[b,rfl,by rw[hb,Xv e rs]]|_=>exact Ev.nos e
def Zdg{U:Mx}{H:Hp}{d:D}{v:V}(h:Rep U H d v)(e:Pv.isT d=am):v=.bl am:=by
 cases d with
 |bl b=>cases b with|true=>exact h.bl'|false=>cases e
 |_=>cases e
def qE{ks:List #[15]}{vs:List (List Key×V)}{r:List Int}{v:V}(h:vs.map (·.1)=ks.map (·.map (da:Int->Key))):(WW vs (r.map da) v).map (·.1)=(Pv.YG ks r).map (·.map da):=by
 have hv:=VL (k:=r) h;unfold Pv.YG;cases c:ks.contains r with
 |true=>
  rw[c]at hv;unfold WW;rw[X8,hv,T9 rfl,cg,T9 rfl,<-h];refine dJ λx _=>?_
  show(if x.1=_ then(x.1,v)else x).1=x.1
  split<;>rfl
 |false=>
  rw[c]at hv;rw[ZaF v (by simpa using hv),bV,h,T8 aR,bV]
  rfl
section
variable{X:Cx}{xw:Nat->Hp->Prop}{fr:Bool}{C:Calls}{ns:List Nat}{e a b c tg:Expr}{i j k:E}{pos p p' p2 dp:gu}{n:Nat}{x:bn}
def Zge{q:Nat}(hu:X.A.units+7<dL)(he:CE X xw C e i)(hg:CG X tg [n])(hs:eg [tg] (.Dict [aa e] [.Constant (.bool am) q p] dp) pos.line X.env=cS aj)(hw:ei [tg] (.Dict [aa e] [.Constant (.bool am) q p] dp) X.env=cS ai)
  (h1:(cI [tg] X.env).map (·.2)=[eL tg X.env]):CS X xw fr C ns (.Assign [tg] (.Dict [aa e] [.Constant (.bool am) q p] dp) pos) (.dnw n i):=.mk <| PS.imp (VS (Zbu hu he.h zN) hg.h hs hw h1) λD Z H #[U,H0,W,l,os,S,st,en,h]=>λa ha=>by
 rw[Pv.Zh7]at h;have f0:Fut U H U (upd H a<|.dT []):=Zv ha;have en0:=en.mono f0;refine#[U,l,S,st.fresh ha,en0.all,Zz.bind en0 h λy S1 H1 v f1 st1 r1 h1=>?_]
 obtain⟨r,hr,h1⟩:=Zz.ob h1;obtain⟨hl,h1⟩:=h1.guard;obtain⟨b,rfl,hb⟩:=xk r1 hr;have nx:=st.nx ha;have hp:=vd f1 nx Zl;have hx:¬(U.ex W).X a:=λz=>z.elim nx λ#[j,w]=>let #[_,_,_,z]:=en.own j a w;T7 ha z.ne
 have f2:Fut U H U (upd H1 a<|.dT [(r.map da,.bl am)]):=#[rfl,λc o z=>by
  have ne:c≠a:=λq=>by rw[q,ha]at z;cases z
  rw[Zj ne];exact(f0.trans f1).keep c o z]
 refine#[b,r.map da,.bl am,rfl,hb,hp,h1 _ _ _ ?_<|en.takeO st.xd f2 ha hx #[_,Zl,rfl] hl];exact#[st1.hk,λc z=>by rw[Zj λq:c=a=>nx (by rw[<-q];exact z)];exact st1.xd c z,λc z=>by rw[Zj λq:c=a=>nx (by rw[<-q];exact U.xz c z)];exact st1.dw c z,st1.tb.upd (λo u z=>by rw[hp]at z;cases z) λ_ z=>by cases z]
def Zds{ix:Expr}{ii:E}(hu:X.A.units+7<dL)(hi:CE X xw C ix ii)(he:CE X xw C e i)(hN:X.N[n]?=aa x)(hv:Vis X.env.scope x)(hd:(x == #[11])=aj)(hcd:(x == #[19])=aj)
  (hs:fe e (aa<|.Subscript (.Name x p') ix p) pos.line X.env=cS aj):CS X xw fr C ns (.Assign [.Subscript (.Name x p') ix p] e pos) (.dput (.v n) ii i):=.mk <| PS.imp (ZdS #[3] (Yq hN hv hd hcd) hi.h he.h hs)<|by
 right;rw[Pv.rE7]at h;obtain⟨c,h⟩:=h.guard;refine#[U,l,S,st,en.all,Zz.bind en h λy S1 H1 v f1 st1 r1 h1=>?_]
 obtain⟨ht,h1⟩:=h1.guard;obtain⟨ks,hk,h1⟩:=Zz.ob h1;have en1:=en.mono f1;obtain⟨a,ha⟩:=bS.mp<|(en.osW n).symm.trans c;have own:∀{H2},Eu U H0 W l os Z H2->Z[n]?=aa (aa<|.ref a)/\∃vs,H2 a=aa (.dT vs)/\vs.map (·.1)=ks.map (·.map da):=λ{H2} en=>by
  obtain⟨d,p,q,r⟩:=en.own n a ha;rw[p]at hk;cases d with|dow ks'=>cases hk;exact#[q,r]|_=>cases hk
 refine#[.ref a,(own en1).1,U,l,S1,st1,en1.all,Zz.bind en1 h1 λz S2 H2 w f2 st2 r2 h2=>?_]
 obtain⟨r,hr,h2⟩:=Zz.ob h2;obtain⟨hl,h2⟩:=h2.guard;have en2:=en1.mono f2;obtain⟨b,rfl,hb⟩:=xk r2 hr;obtain⟨_,vs,e2,e3⟩:=own en2;have hz:vs.length<ba:=by
  have:=congrArg iz e3;rw[aA,aA]at this;rw[this,<-Wl];exact hl
 rw[Zdg r1 ht];exact#[a,_,rfl,DPut.t e2 hb hz,h2 _ _ W (st2.mut en2 ha)<|en2.mutO ha #[_,Zl,qE e3]]
def Zhs{P:bv}{w:bO}{H:Hp}{h:bZ}{a:aE}{kvs:List (List Key×V)}(ok:HOk P w H h)(e:H a=aa (.dT kvs)):(a == de)=aj/\kvs.length<=ba/\
  ∃(o:fH)(es:Array gL)(ep:Nat),h.get? a=aa o/\o.ExactDict/\o.data=.dict es ep/\es.size=kvs.length/\∃qs:List aE,es.toList.map (·.key)=qs.map cW/\qs.length=kvs.length/\∀(i:Nat)(p:List Key×V),kvs[i]?=aa p->∃q,qs[i]?=aa q/\H q=aa (.tup<|p.1.map kV):=by
 obtain⟨z,y,xs,r,o,es,ep,h1,h2,h3,h4,h5⟩:=(ok a _ e);have hl:es.size=kvs.length:=by
  have:=congrArg iz h4;rw[aA,<-Paired.length r]at this
  simpa using this
 refine#[y,z,o,es,ep,h1,h2,h3,hl,xs.map (·.2.1),?_,by rw[aA,<-Paired.length r],λi p hp=>?_]
 .rw[h4,cg,cg];rfl
 .obtain⟨q,hq,e1,e2,e3⟩:=JS r hp
  exact#[q.2.1,by rw[aQ,hq];rfl,e2]
theorem JK{U:Mx}{H:Hp}:∀{ks:List #[15]}{qs:List aE},qs.length=ks.length->(∀(i:Nat)(k:List Int),ks[i]?=aa k->∃q,qs[i]?=aa q/\H q=aa (.tup<|k.map V.int))->Rq U H (ks.map Pv.Zc) (qs.map V.ref)
 |[],[],_,_=>Rq.nil
 |k::ks,q::qs,hl,h=>by
  obtain⟨q',e,hq⟩:=h 0 k rfl;cases e;exact Rq.cons (Xd hq<|Rq.ints k)<|JK (by simpa using hl) λi k e=>h (i+1) k e
 |[],_::_,hl,_=>by cases hl
 |_::_,[],hl,_=>by cases hl
theorem V4:∀qs:List aE,Vals (qs.map V.ref) (qs.map cW)
 |[]=>.nil
 |q::qs=>.cons rfl<|V4 qs
theorem yp:∀ks:List #[15],Pv.Yh (ks.map Pv.Zc)=aa ks
 |[]=>rfl
 |k::ks=>by
  have hi:∀k:List Int,Pv.intsV (k.map Pv.V.int)=aa k:=λk=>by
   induction k with|nil=>rfl|cons n k ih=>show(Pv.intsV<|k.map Pv.V.int).map (n :: ·)=_;rw[ih];rfl
  show(match Pv.intsV (k.map Pv.V.int),Pv.Yh (ks.map Pv.Zc)with|some a,aa b=>aa (a::b)|_,_=>ai)=_
  rw[hi,yp ks]
def Zbj{U:Mx}{pq:List (aE×fH)}{s:ay}{Z:L2.St}{H:Hp}{v:V}{ks:List #[15]}(I:Inv X pq Z H s)(r:Rep U H (.dow ks) v):∃(a:aE)(o:fH)(es:Array gL)(ep:Nat)(qs:List aE),v=.ref a/\(a == de)=aj/\ks.length<=ba/\s.heap.get? a=aa o/\o.ExactDict/\o.data=.dict es ep/\es.size=ks.length/\es.toList.map (·.key)=qs.map cW/\qs.length=ks.length/\Rq U H (ks.map Pv.Zc) (qs.map V.ref):=by
 obtain⟨a,vs,e,ha,_,hk⟩:=r.dow';obtain⟨lo,hz,o,es,ep,g1,g2,g3,hl,qs,e1,e2,e3⟩:=Zhs I.hok ha;have hn:vs.length=ks.length:=by have:=congrArg iz hk;simpa using this
 refine#[a,o,es,ep,qs,e,lo,by omega,g1,g2,g3,by omega,e1,by omega,JK #[3] λi k q=>?_]
 have e4:=congrArg (·[i]?) hk
 simp only[aQ,q,rT]at e4;obtain⟨p,e5,e6⟩:=bI.mp e4;obtain⟨q',e7,e8⟩:=e3 i p e5;rw[e6,cg]at e8;exact#[q',e7,e8]
def qG(hc:X.calm=am):ZE X (.type "list") (Jc X.K xw .listD):=by
 intro pq s Z H vs us Q I r h;obtain⟨U,S,ds,st,rs,H0,S0,f0,s0,h⟩:=h;obtain⟨d,v,z,rfl,r1,hz,h⟩:=Wc h rs;cases d with
 |dow ks=>
  cases hz;obtain⟨a,o,es,ep,qs,rfl,lo,hn,g1,g2,g3,g4,g5,g6,rq⟩:=Zbj I r1;obtain⟨u,rfl,ru⟩:=XQ r;cases ru;refine PySem.W.kdl_call (ua lo g2 g3) (I.ok.hd hc) g1 #[3] λh' tk acc c' kp hL hacc=>?_
  refine#[.ref _,_,I.laid (o:=.lst<|qs.map V.ref) kp (aM _) #[by rw[aA];omega,acc.toList,c',by rw[vX hacc,g5];exact V4 qs,hL],rfl,h.newF f0 s0 st rq _<|I.hok.fresh<|aM _]
 |_=>exact Ev.nos hz
def yt(hc:X.calm=am):ZE X (.builtin "sorted") (Jc X.K xw .sortedD):=by
 intro pq s Z H vs us Q I r h;obtain⟨U,S,ds,st,rs,H0,S0,f0,s0,h⟩:=h;obtain⟨d,v,z,rfl,r1,hz,h⟩:=Wc h rs;cases d with
 |dow ks=>
  have hz:(if Z7 ks=am then aa (Pv.V.lst<|(Zy ks).map Pv.Zc)else ai)=aa z:=hz
  split at hz
  case isFalse=>cases hz
  rename_i hok
  cases hz;obtain⟨a,o,es,ep,qs,rfl,lo,hn,g1,g2,g3,g4,g5,g6,rq⟩:=Zbj I r1;obtain⟨u,rfl,ru⟩:=XQ r;cases ru;have rv:=V4 qs;obtain⟨RA,_⟩:=W5 I (yp ks) rq rv;obtain⟨hok1,hok3⟩:=(aF _ _).mp hok;obtain⟨hok1,hok2⟩:=(aF _ _).mp hok1;have h64:=T6 hok1;have hnd:=T6 hok2;have hne:∀r∈ks,r≠[]:=λr hr e=>by
   have:=a8.mp hok3 r hr;rw[e]at this;cases this
  have hlen:=RA.length;refine xh (I.ok.hd hc) lo g1 g2 g3 g5 #[3] (zJ hnd hlen) (JB RA hnd hne) λp h' tk D n hp hu kp hD hL=>?_
  rw[<-hlen]at hp hu;have out:=zH hnd hp hu;have hmem:∀i∈p.toList,i<ks.length:=λi hi=>by
   have hp':p.toList.Perm (aP ks.length):=by simpa using bD.mp hp
   exact aV.mp<|hp'.mem_iff.mp hi
  have rx2:=yg rq hmem;have out:(p.toList.map λi=>ks.getD i [])=Zy ks:=out
  rw[out]at rx2;have rv2:=zU rv (by rw[aA,g6];exact hmem)
  refine#[.ref D,_,I.laid (o:=.lst<|p.toList.map λi=>(qs.map V.ref).getD i V.non) kp hD #[?_,_,n,rv2,hL],rfl,h.newF f0 s0 st rx2 _<|I.hok.fresh hD]
  rw[aA,aJ,hp.size];exact hn
 |_=>exact Ev.nos hz
end
end Sd
namespace Sd
open PySem PySem.Spec PyProof.Rows
section
noncomputable def pl(b:Nat):List Nat:=(aP 6).filter b.testBit
def tbl(b:Nat)(led:Bool):SetTable:={mask:=if 5<=(pl b).length then 31 else 7,place:=(pl b).toArray,dummies:=#[],finger:=0,led,moves:=if 5<=(pl b).length then 1 else 0,plain:=am}
def ju(b k:Nat):Nat:=(pl b).countP (· < k)
def G0(b k:Nat)(led:Bool):Bool:=
 b.testBit k||(
  let b':=b ||| 2^k
  let t':=((tbl b led).put k).1
  let n:=(pl b').length
  decide ((tbl b led).freeSlot k=aa (k,aj))&&af (((tbl b led).put k).2=ju b k)&&af (fA (pl b).toArray (ju b k) k=(pl b').toArray)&&t'.fits n&&t'.plain &&
  (if t'.tooFull then af (t'.relaid ((pl b').map kI).toArray (sD n)=aa (tbl b' led,rJ n))&&coversAll (rJ n) n&&(tbl b' led).fits n else af (t'=tbl b' led))&&af (b'<64))
def ZaL:(aP 64).all (λb=>(aP 6).all λk=>G0 b k am&&G0 b k aj)=am:=by decide +kernel
def ZdO{b k:Nat}{led:Bool}(hb:b<64)(hk:k<6):G0 b k led=am:=by
 have h:=a8.mp (a8.mp ZaL b<|aV.mpr hb) k<|aV.mpr hk;obtain⟨h1,h2⟩:=(aF _ _).mp h;cases led
 .exact h2
 .exact h1
def Z2(b:Nat)(tg:Nat->Nat):Array (Int×aw):=((pl b).map λk:Nat=>(((k:Nat):Int),fI k<|tg k)).toArray
def G9{B β:Type}(f:B->β)(xs:Array B)(p:Nat)(x:B):fA (xs.map f) p (f x)=(fA xs p x).map f:=by
 unfold fA;simp
def Zh4{b k:Nat}(h:k∈pl b):k<6:=aV.mp (bX.mp h).1
def wq{b k:Nat}(hk:k<6):k∈pl b↔b.testBit k=am:=#[λh=>(bX.mp h).2,λh=>bX.mpr #[aV.mpr hk,h]]
def Zgj{b k u:Nat}{tg:Nat->Nat}(hk:k<6)(hn:b.testBit k=aj)(h:fA (pl b).toArray (ju b k) k=(pl (b ||| 2^k)).toArray) :
  fA (Z2 b tg) (ju b k) ((k:Int),fI k u)=Z2 (b ||| 2^k) λi=>if i=k then u else tg i:=by
 have e:Z2 b tg=(pl b).toArray.map λi:Nat=>((i:Int),fI i (if i=k then u else tg i)):=by
  unfold Z2;rw[mB]
  congr 1
  refine dJ λi hi=>?_
  rw[T8]
  rintro rfl
  rw[wq hk,hn]at hi;cases hi
 have:=G9 (λi:Nat=>((i:Int),fI i (if i=k then u else tg i))) (pl b).toArray (ju b k) k
 rw[<-e,h,T9 rfl]at this;rw[this,mB];rfl
def Yd(b:Nat)(tg:Nat->Nat):(Z2 b tg).size=(pl b).length:=by simp[Z2]
def vA(b:Nat)(tg:Nat->Nat):(Z2 b tg).map (·.1)=((pl b).map kI).toArray:=by
 unfold Z2;rw[mB,cg];rfl
def ZdL{b k u:Nat}{tg:Nat->Nat}{led:Bool}(hb:b<64)(hk:k<6)(hn:b.testBit k=aj):∃t',layNew (tbl b led) (Z2 b tg) (k:Int) (.int k u)=(Z2 (b ||| 2^k) λi=>if i=k then u else tg i,t',aj,aj)/\t'.plain=am/\t'.fits (pl (b ||| 2^k)).length=am/\b ||| 2^k<64/\
  (if t'.tooFull=am then relayAll t' (Z2 (b ||| 2^k) λi=>if i=k then u else tg i) (sD (pl (b ||| 2^k)).length)=(Z2 (b ||| 2^k) λi=>if i=k then u else tg i,tbl (b ||| 2^k) led,aj)else t'=tbl (b ||| 2^k) led):=by
 have h:=ZdO (led:=led) hb hk;unfold G0 at h;rw[hn,i5]at h;simp only[aF,T0]at h;obtain⟨⟨⟨⟨⟨⟨h1,h2⟩,h3⟩,h4⟩,h5⟩,h6⟩,h7⟩:=h;refine#[((tbl b led).put k).1,?_,h5,h4,h7,?_]
 .unfold layNew
  rw[h1]
  dsimp only
  rw[h2,Zgj hk hn h3,Yd];unfold SetTable.orStandIn;rw[h4];rfl
 .cases q:((tbl b led).put k).1.tooFull with
  |false=>
   rw[q]at h6;rw[T8 #[2]]
   rw[T8<|by simp]at h6
   exact T6 h6
  |true=>
   rw[q,T9 rfl]at h6;simp only[aF,T0]at h6;obtain⟨⟨a1,a2⟩,a3⟩:=h6;rw[T9 rfl];unfold relayAll;rw[vA,a1]
   dsimp only
   have e:(rJ (pl (b ||| 2^k)).length).filterMap (λx=>(Z2 (b ||| 2^k) λi=>if i=k then u else tg i)[x]?)=Z2 (b ||| 2^k) λi=>if i=k then u else tg i:=by
    refine iW.mp ?_;rw[Array.toList_filterMap,Array.toList_range,<-Yd (b ||| 2^k) λi=>if i=k then u else tg i]
    exact filterMap_getElem?_range _
   rw[e,Yd,a2,a3];rfl
def ZdZ:(aP 64).all (λb=>(aP 6).all λk=>!b.testBit k||decide (b ||| 2^k=b))=am:=by decide +kernel
def ZhP{b k:Nat}(hb:b<64)(hk:k<6)(h:b.testBit k=am):b ||| 2^k=b:=by
 have:=a8.mp (a8.mp ZdZ b<|aV.mpr hb) k<|aV.mpr hk;rw[h]at this;exact T6 (by simpa using this)
def Zdh:(aP 64).all (λb=>(tbl b am).fits (pl b).length&&(tbl b aj).fits (pl b).length)=am:=by decide +kernel
def W9{b:Nat}{led:Bool}{tg:Nat->Nat}(hb:b<64):(tbl b led).fits (Z2 b tg).size=am:=by
 rw[Yd];obtain⟨h1,h2⟩:=(aF _ _).mp<|a8.mp Zdh b<|aV.mpr hb;cases led
 .exact h2
 .exact h1
def ZeH:∀k,k<6->tu ((k:Nat):Int)=k:=by decide
def Gd(b:Nat):(pl b).length<=6:=cc (gq _ _) #[1]
def jn(prog:bv)(w:bO)(b:Nat)(tg:Nat->Nat):ElemsOf (hV prog w) (Z2 b tg).toList:=λe he=>by
 obtain⟨k,hk,rfl⟩:=aN.mp he;exact#[#[k,iV _ _ _ _,(ZeH k<|Zh4 hk).symm],rfl]
def Xu(h:bZ)(a:aE)(b:Nat)(led:Bool):Prop:=∃o ep tg,h.get? a=aa o/\o.ExactSet/\o.data=.set (Z2 b tg) ep (tbl b led)
def Xu.keep{h h':bZ}{a:aE}{b:Nat}{led:Bool}(S:Xu h a b led)(k:∀o,h.get? a=aa o->h'.get? a=aa o):Xu h' a b led:=
 let #[o,ep,tg,ho,r]:=S;#[o,ep,tg,k o ho,r]
def Xu.store{h:bZ}{a:aE}{o:fH}{es es':Array (Int×aw)}{ep:Nat}{t t':SetTable}(ho:h.get? a=aa o)(hd:o.data=.set es ep t):(h.update a<|sE es' t').get? a=aa {o with data:=.set es' (ep+1) t' }:=by
 have:=dO (sE es' t') ho (by rw[putSet_of es' t' hd];rfl)
 rwa [putSet_of es' t' hd]at this
section
variable{prog:bv}{w:bO}{A:b9}{E:aw->ay->Prop}{s:ay}{a:aE}{b k u:Nat}{led:Bool}
def Zdj{Q:Bool->ay->Prop}(hb:b<64)(hk:k<6)(hS:Xu s.heap a b led)(h:∀r h',eI a s.heap h'->Xu h' a (b ||| 2^k) led->b ||| 2^k<64->Q r {s with heap:=h' }) :
  aW #[8] A (setAddHashed a (.int k u)<|tu k) Q E s:=by
 obtain⟨o,ep,tg,ho,hex,hd⟩:=hS;have hf:=W9 (led:=led) (tg:=tg) hb;have hel:=jn prog w b tg;have hsz:(Z2 b tg).size<scanBound:=by rw[Yd];have:=Gd b;unfold scanBound;omega
 refine bP<|ae<|iM ho hd hf ?_
 dsimp only
 rw[byScan_of rfl hsz hel,T9 rfl];refine ae<|ae<|eQ<|ae<|wpAny_setScan_of (iV _ _ _ _) ho hd hf hel ?_;cases hr:List.findIdx? (λe:Int×aw=>(hV prog w).is (k:Int) e.2) (Z2 b tg).toList with
 |some j=>
  obtain⟨hj,hp,_⟩:=List.findIdx?_eq_some_iff_getElem.mp hr;have hm:=aZ hj;generalize (Z2 b tg).toList[j]=e at hm hp;obtain⟨i,hi,rfl⟩:=aN.mp hm;have:=(hV prog w).inj _ _ _ hp<|iV _ _ _ _;have:=kI.inj this;subst this;have hin:=ZhP hb hk<|(wq hk).mp hi;exact ax<|ax<|h aj s.heap (o8 a s.heap) (by rw[hin];exact#[o,ep,tg,ho,hex,hd]) (by rw[hin];exact hb)
 |none=>
  have hn:b.testBit k=aj:=by
   cases q:b.testBit k with
   |false=>rfl
   |true=>
    have hm:(((k:Nat):Int),fI k<|tg k)∈(Z2 b tg).toList:=aN.mpr #[k,(wq hk).mpr q,rfl];have:=List.findIdx?_eq_none_iff.mp hr _ hm;rw[iV]at this;cases this
  obtain⟨t',e1,pn,ft,b64,e2⟩:=ZdL hb hk hn;have b6:=Gd (b ||| 2^k);rw[ZeH k hk,e1]
  dsimp only
  generalize hes:(Z2 (b ||| 2^k) λi=>if i=k then u else tg i)=es' at e2
  have hz:es'.size=(pl (b ||| 2^k)).length:=by rw[<-hes,Yd]
  have hz':es'.size<=ba:=by rw[hz,dz];omega
  refine ae<|ax ?_;rw[T9 pn,hashByValue_scannable 8 rfl];refine ae<|ax ?_;rw[T9 (show plainKind (.int (k:Int) u)=am from rfl)]
  refine ae<|pB ho hd ?_ hz';have g1:=Xu.store (es':=es') (t':=t') ho hd;have sb1:=cU s.heap a<|sE es' t';rw[<-hz]at e2;cases q:t'.tooFull with
  |false=>
   rw[q,T8 aR]at e2;subst e2;exact ax<|ax<|h am _ sb1 #[_,ep+1,λi=>if i=k then u else tg i,g1,hex,by rw[hes]] b64
  |true=>
   rw[q,T9 rfl]at e2;rw[e2];refine ae<|ax<|ae<|pB g1 rfl ?_ hz';exact ax<|ax<|h am _ (sb1.trans<|cU _ a _) #[_,ep+1+1,λi=>if i=k then u else tg i,Xu.store g1 rfl,hex,by rw[hes]] b64
end
noncomputable def bt(v:Nat->Nat):Nat->Nat
 |0=>0
 |i+1=>bt v i ||| 2^v i
def Zar(led:Bool)(tg:Nat->Nat):Data.set #[] 0 (.fresh 0 0 led)=.set (Z2 0 tg) 0 (tbl 0 led):=by
 have:pl 0=[]:=by decide
 unfold Z2 tbl;rw[this];rfl
noncomputable def YK(w:bO):Bool:=!w.params.followText "set-order"
section
variable{prog:bv}{w:bO}{A:b9}{E:aw->ay->Prop}{s:ay}
def jX{R:se->ay->Prop}{I:aE}{fp wr:List aE}{n:Nat}{P:Nat->aw->Prop}{St:Nat->bZ->Prop}{led:Bool}(W:Walks prog w A.in1 I fp wr n P St)(S:aE)(hSf:S∉fp)(v:Nat->Nat)(hv:∀i x,P i x->v i<6/\∃t,x=.int (v i) t) :
  ∀(k i:Nat)(s:ay),n-i=k->i<=n->St i s.heap->bt v i<64->Xu s.heap S (bt v i) led->
   (∀h' tk,(∀b o,b∉S::wr->s.heap.get? b=aa o->h'.get? b=aa o)->Xu h' S (bt v n) led->R (.ok<|.ret .none) {s with heap:=h',toks:=tk})->gH #[8] A (.builtin "set.update.loop" #[[.ref S,.ref I],[]]) R s:=by
 have hSw:=λz=>hSf<|W.sub _ z
 intro k
 induction k with
 |zero=>
  intro i s hk hi st hb hS hR;obtain rfl:i=n:=by omega
  refine d5 mC ?_;rw[dU iD _];show aW _ A.in1 (kl (.ref I) >>= _) _ _ s;exact ae<|W.done s _ _ st λh' tk kp=>ax<|hR h' tk (λb o z e=>kp b o (λy=>z<|al _ y) e)<|hS.keep λo e=>kp S o hSw e
 |succ k ih=>
  intro i s hk hi st hb hS hR;have lt:i<n:=by omega
  refine d5 mC ?_;rw[dU iD _];show aW _ A.in1 (kl (.ref I) >>= _) _ _ s;refine ae<|W.item i s _ _ lt st λx h1 tk hP st1 kp=>?_
  obtain⟨h6,t,rfl⟩:=hv i x hP;refine ae<|bP ?_;refine bP<|ae<|(hV prog w).pyHash (iV _ _ _ _) ?_;refine Zdj hb h6 (hS.keep λo e=>kp S o hSw e) λr h2 sb hS2 b64=>?_
  refine ax #[i7 iD _,ih (i+1) _ #[3] lt (W.frame _ _ _ st1 λb z o e=>?_) b64 hS2 λh3 tk3 kp3 hS3=>hR h3 tk3 (λb o z e=>kp3 b o z ?_) hS3]
  .rw[sb.2 b λy=>hSf<|y▸z];exact e
  .rw[sb.2 b λy=>z (by rw[y];exact ak)];exact kp b o (λy=>z<|al _ y) e
def Zdo(a:aw){Q:aw->ay->Prop}(h:Q #[25] {s with heap:=s.heap.push {cls:=.type "set",dict:=ai,data:=.set #[] 0 (.fresh 0 0<|YK w)}}) :
  gH #[8] A (.call (.builtin "set.__new__") #[[.type "set",a],[]]) (wants Q E) s:=by
 refine codeAny_of_tree ?_;show aW _ A.in1 (do mD "set.__new__" #[[.type "set",a],[]];sZ (.builtin "set.__new__" #[[.type "set",a],[]])) _ _ s;refine ae<|fQ (F.newCall_set_1 a)<|ax #[i7 rV _,d5 F.entry_set_new ?_];rw[dU rV _];unfold dG.«set.__new__» dG.Frozenset.newClass;have hsub:=sub_set_self;obtain⟨hp,g,d,tk,os⟩:=s
 wp_walk
 refine gM<|ax ?_;dsimp only;simp only[newObj];exact ae<|rA<|ax<|ax h
set_option maxHeartbeats 3200000 in
def ZbN{l:aE}{items:Array aw}{v:Nat->Nat}{Q:aw->ay->Prop}(hh:A.handled=ai)(hl:s.heap.IsList l items)(hv:∀i x,items[i]?=aa x->v i<6/\∃t,x=.int (v i) t)
  (h:∀h' tk,Xu h' s.heap.objs.size (bt v items.size) (YK w)->(∀b o,s.heap.get? b=aa o->h'.get? b=aa o)->Q #[25] {s with heap:=h',toks:=tk}):aW #[8] A (call (.type "set") [.ref l]) Q E s:=by
 obtain⟨c,tl,hmro⟩:=F.called_set.mro;have hmade:=F.called_set.made;have hsub:=F.called_set.sub;refine ox<|codeAny_of_tree ?_;show aW _ _ (callAny (.type "set") _) _ _ _;refine ax #[oN _ #[20],d5 F.entry_type_call ?_];rw[b9.under_plain (weight_type_call_type "set" [.ref l] []) rfl]
 have h1:=F.called_set.notType;have h2:=F.called_set.canCreate;have hct:=F.typeCall_set_1<|.ref l
 repeat(any_goals (first|assumption|wp_step))
 let so:fH:={cls:=.type "set",dict:=ai,data:=.set #[] 0 (.fresh 0 0<|YK w)}
 refine fS (Zdo (.ref l) (E:=E) (Q:=λobj s1=>obj=.ref s.heap.objs.size/\s1={s with heap:=s.heap.push so}) #[rfl,rfl]) λr s1 hr=>?_
 cases r with
 |error e=>exact hr
 |ok fl=>
  cases fl with
  |ret obj=>
   obtain⟨rfl,rfl⟩:=hr;have hS:(s.heap.push so).get? s.heap.objs.size=aa so:=aI _ rfl;have hT:ay.TypeIs {s with heap:=s.heap.push so} #[25] "set":=#[_,hS,rfl]
   have hli:=F.called_set.init.lookup;have hbi:=F.called_set.init.bind<|.ref s.heap.objs.size
   repeat(any_goals (first|assumption|wp_step))
   refine fS (gE (R:=wants (λr s2=>r=.none/\∃h' tk,s2={s with heap:=h',toks:=tk}/\Xu h' s.heap.objs.size (bt v items.size) (YK w)/\∀b o,s.heap.get? b=aa o->h'.get? b=aa o) E) F.called_set.init.plain F.entry_set_init<|check_set_init_1 hT ?_) λr2 s2 hr2=>?_
   .obtain⟨⟨ocls,odict,odata,oslots⟩,hol,hcl,nl,hdl⟩:=hl
    simp only at hcl hdl;subst hcl hdl;have hol':(s.heap.push so).get? l=aa {cls:=.type "list",dict:=odict,data:=.seq items nl,slots:=oslots}:=aq _ hol;have hsls:=F.sub_list_set;have hslf:=F.sub_list_frozenset;have hne:(on "list" == on "dict")=aj:=by decide
    have hl1:(s.heap.push so).IsList l items:=#[_,hol',rfl,nl,rfl];unfold dG.«set.__init__» noKeywords dG.Frozenset.updateFrom;generalize hPI:ot=PI
    wp_walk
    subst hPI;refine fq hl1<|ae<|wpAny_runValue ?_;have hlS:=aH hol;have sz:(s.heap.push so).objs.size=s.heap.objs.size+1:=cY ..;have hh3:A.in1.in1.in1.handled=ai:=by simp[hh]
    refine jX (sj hh3 _ l (by rw[sz];exact a9<|cH hlS) items) s.heap.objs.size (by rw[sz];intro z;rcases az.mp z with z|z;exact T7 z<|a9<|fM _;exact T7 (bc.mp z)<|eJ hlS) v hv (items.size-0) 0 _ #[3] (dM _) #[#[_,aI _ rfl,rfl,rfl],hl1.push _] (show 0<64 by decide) #[so,0,λ_=>0,aq _ hS,#[rfl,rfl,rfl],Zar _ _] λh' tk kp hS'=>?_
    refine ax ?_;show aW _ _ (sN bz) _ _ _;refine ax #[rfl,h',tk,rfl,hS',λb o e=>kp b o ?_<|aq _<|aq _ e]
    have:=aH e;rw[sz];intro z;rcases az.mp z with z|z;exact T7 z<|a9 this;exact T7 (bc.mp z)<|a9<|cH this
   .cases r2 with
    |error e=>exact hr2
    |ok fl2=>
     cases fl2 with
     |ret r=>
      obtain⟨rfl,h',tk,rfl,hS',hk'⟩:=hr2
      repeat(any_goals (first|assumption|wp_step))
      exact h _ _ hS' hk'
     |_=>exact hr2.elim
  |_=>exact hr.elim
end
def Va:Slot "set_iterator" "__next__" "set_iterator.__next__":=.of (owner:="set_iterator") (n:="__next__") (by rw[kz,gp];kernel_rfl) #[20] #[20] #[20] (by first|(refine .inl ?_;decide +kernel)|(refine .inr ?_;decide +kernel)) (by rw[lq];kernel_rfl)
def zV:Slot "set_iterator" "__iter__" "set_iterator.__iter__":=.of (owner:="set_iterator") (n:="__iter__") (by rw[kz,gp];kernel_rfl) #[20] #[20] #[20] (by first|(refine .inl ?_;decide +kernel)|(refine .inr ?_;decide +kernel)) (by rw[lq];kernel_rfl)
def uZ:sC table "set_iterator.__next__" = aa dG.«set_iterator.__next__»:=entryFor_of_tree (by kernel_rfl)
def ux:sC table "set_iterator.__iter__" = aa dG.«dict_keyiterator.__iter__»:=entryFor_alias (id':="dict_keyiterator.__iter__") (by kernel_rfl) rfl #[20] (by kernel_rfl)
def wy:sC table "set.__iter__" = aa dG.«frozenset.__iter__»:=entryFor_alias (id':="frozenset.__iter__") (by kernel_rfl) rfl #[20] (by kernel_rfl)
def Za8:Manifest.owners.lookup (String.ofList ['r','o','t','a','r','e','t','i','_','t','e','s'].reverse)=aa Manifest.sig_set_iterator:=by kernel_rfl
def jN(a:aw):argsOk "set_iterator.__next__" #[[a],[]]:=by unfold argsOk;rw[signature?_of (n:=['_','_','t','x','e','n','_','_']) (by kernel_rfl) Za8];kernel_rfl
def ZaN(a:aw):argsOk "set_iterator.__iter__" #[[a],[]]:=by unfold argsOk;rw[signature?_of (n:=['_','_','r','e','t','i','_','_']) (by kernel_rfl) Za8];kernel_rfl
theorem wZ{B:Type}{nx:Nat->Nat}:∀(n k:Nat)(l:List B)(out:Array B),l.length=n->(pC nx n k l out).toList.Perm (out.toList++l)
 |0,k,l,out,h=>by
  cases l with|nil=>simp[pC]|cons=>cases h
 |n+1,k,l,out,h=>by
  have hj:nx k%l.length<l.length:=Nat.mod_lt _ #[3]
  unfold pC;rw[ag hj];refine(wZ n (k+1) _ _<|by rw[List.length_eraseIdx_of_lt hj];omega).trans ?_
  rw[fz,bK];refine List.Perm.append_left _ ?_;rw[List.eraseIdx_eq_take_drop_succ];have e:=cR (nx k%l.length) l;rw[cq hj]at e;have p:(kH (nx k%l.length) l++l[nx k%l.length]::tq (nx k%l.length+1) l).Perm (l[nx k%l.length]::(kH (nx k%l.length) l++tq (nx k%l.length+1) l)):=List.perm_middle;exact p.symm.trans (by rw[e])
noncomputable def WH(w:bO)(a:aE)(ep:Nat)(es:Array (Int×aw)):Array (Int×aw):=if w.params.followText "set-order" = am then pickOrder (w.params.setOrder a ep) es else es
def yY{w:bO}{a:aE}{ep:Nat}{es:Array (Int×aw)}:(WH w a ep es).toList.Perm es.toList:=by
 unfold WH;split
 .unfold pickOrder
  simpa using wZ es.size 0 es.toList #[] #[2]
 .exact cZ _
def xn{w:bO}{a:aE}{ep:Nat}{es:Array (Int×aw)}:(WH w a ep es).size=es.size:=by
 rw[<-aJ,yY.length_eq,aJ]
def zW(b i:Nat):Nat:=if i=0 then 0 else(pl b).getD (i-1) 0+1
def Y4(w:bO)(b i:Nat):Nat:=if w.params.followText "set-order" = am then 0 else zW b i
def qH:(aP 64).all (λb=>(aP<|(pl b).length+1).all λi=>af<|sF (pl b).toArray (zW b i)=i)=am:=by decide +kernel
def Za3{b i:Nat}(hb:b<64)(hi:i<=(pl b).length):sF (pl b).toArray (zW b i)=i:=
 T6 (a8.mp (a8.mp qH b<|aV.mpr hb) i<|aV.mpr<|Nat.lt_succ_of_le hi)
section
variable{prog:bv}{w:bO}{A:b9}{E:aw->ay->Prop}{s:ay}{a it:aE}{b i ep:Nat}{o:fH}{tg:Nat->Nat}
def xu{Q:Option (aw×Nat)->ay->Prop}(hb:b<64)(hi:i<=(pl b).length)(ho:s.heap.get? a=aa o)(hd:o.data=.set (Z2 b tg) ep (tbl b<|YK w))(h:Q (((WH w a ep<|Z2 b tg)[i]?).map λe=>(e.2,Y4 w b<|i+1)) s) :
  aW #[8] A (setNext a (Y4 w b i) i ep) Q E s:=by
 have hf:=W9 (led:=YK w) (tg:=tg) hb;unfold setNext;refine ae<|iM ho hd hf ?_
 dsimp only
 refine ae<|ae<|gM<|ax ?_;unfold WH Y4 at h;unfold Y4;show aW _ _ (if w.params.followText "set-order" = am then _ else _) _ _ _
 by_cases c:w.params.followText "set-order" = am
 .rw[T9 c]
  rw[T9 c,T9 c]at h;rw[T8 #[2]]
  refine ae<|ae<|iM ho hd hf ?_
  dsimp only
  refine ae<|ae<|gM<|ax ?_;show aW _ _ (if w.params.followText "set-order" = am then _ else _) _ _ _
  rw[T9 c];refine ae<|gM<|ax<|ax ?_;rw[T9 c];exact h
 .rw[T8 c]
  rw[T8 c,T8 c]at h;have hl:YK w=am:=by unfold YK;simp[c]
  rw[hl];have bl:=Za3 hb hi;split
  .rename_i z
   exact T7 (show(!true&&af ((Z2 b tg).size>1))=am from z) #[2]
  .refine ae (fQ (a:=()) rfl<|ax ?_)
   rw[show(tbl b am).place=(pl b).toArray from rfl,bl]
   by_cases lt:i<(pl b).length
   .have e1:(Z2 b tg)[i]?=aa ((((pl b)[i]:Nat):Int),fI (pl b)[i]<|tg (pl b)[i]):=by unfold Z2;simp[lt]
    have e2:(pl b).toArray[i]?=aa (pl b)[i]:=by simp[lt]
    rw[e1]at h;rw[e1,e2];have e3:zW b (i+1)=(pl b)[i]+1:=by unfold zW;simp[List.getD,lt]
    rw[e3]at h;exact h
   .have e1:(Z2 b tg)[i]?=ai:=iH (by rw[Yd];omega)
    rw[e1]at h;rw[e1];exact h
def Xx(w:bO)(h:bZ)(it a:aE)(b i ep:Nat):Prop:=∃o,h.get? it=aa o/\o.cls=.type "set_iterator"/\o.data=.fields [.int (Y4 w b i) 0,.int i 0,.ref a,.int (pl b).length 0,.int ep 0].toArray
def jk{Q:aw->ay->Prop}(hb:b<64)(ho:s.heap.get? a=aa o)(hex:o.ExactSet)(hd:o.data=.set (Z2 b tg) ep (tbl b<|YK w))
  (hQ:Q #[25] {s with heap:=s.heap.push {cls:=.type "set_iterator",data:=.fields [.int (Y4 w b 0) 0,.int 0 0,.ref a,.int (pl b).length 0,.int ep 0].toArray}}):aW #[8] A (ot<|.ref a) Q E s:=by
 have hf:=W9 (led:=YK w) (tg:=tg) hb;have hT:s.TypeIs (.ref a) "set":=#[_,ho,hex.1];refine lS hT rW<|cx rW hT wy ?_<|F.args_set_iter_1 _;unfold dG.«frozenset.__iter__» dG.Frozenset.slot0 slotArgs dG.Frozenset.addrOf dG.Frozenset.sizeOf;refine ae<|fQ rfl<|ae<|ae<|nV ho hd hf<|ax ?_;refine ae<|ae<|iM ho hd hf<|ae<|ae<|gM<|ax<|ax ?_;have nd:∀x:Bool,(!x&&(!(tbl b<|YK w).plain&&af ((Z2 b tg).size>1)))=aj:=λx=>by rw[show(tbl b<|YK w).plain=am from rfl];simp
 split
 .rename_i z
  exact T7 ((nd _).symm.trans z) #[2]
 .refine ae (ax<|ae<|wpAny_setEpoch_of ho hd hf ?_)
  refine ae<|bw<|ax #[_,rfl,"set_iterator",_,#[_,aI _ rfl,rfl],Va.lookup,?_];have z0:Y4 w b 0=0:=by unfold Y4;split<;>rfl
  rw[z0]at hQ;rw[Yd]
  simpa[fC]using hQ
def jZ{Q:aw->ay->Prop}(hit:Xx w s.heap it a b i ep)(h:Q (.ref it) s):aW #[8] A (ot<|.ref it) Q E s:=by
 have hT:s.TypeIs (.ref it) "set_iterator":=let #[o,h1,h2,_]:=hit;#[o,h1,h2];refine lS hT zV<|cx zV hT ux (ax #[_,rfl,"set_iterator",_,hT,Va.lookup,h])<|ZaN _
def yL{Q:Option aw->ay->Prop}(hb:b<64)(hi:i<=(pl b).length)(hit:Xx w s.heap it a b i ep)(ho:s.heap.get? a=aa o)(hd:o.data=.set (Z2 b tg) ep (tbl b<|YK w))
  (h1:∀e,(WH w a ep<|Z2 b tg)[i]?=aa e->∀h',Xx w h' it a b (i+1) ep->eI it s.heap h'->Q (aa e.2) {s with heap:=h' })
  (h2:i=(pl b).length->A.handled=ai/\∀h',fP it s.heap h'->Q ai {s with heap:=h' }):aW #[8] A (kl<|.ref it) Q E s:=by
 have hf:=W9 (led:=YK w) (tg:=tg) hb;obtain⟨oi,hq,hc,hdi⟩:=id hit;have hT:s.TypeIs (.ref it) "set_iterator":=#[oi,hq,hc];unfold kl;refine ae<|gZ<|cC hT Va<|cx Va hT uZ ?_<|jN _;unfold dG.«set_iterator.__next__» slotArgs;refine ae<|fQ rfl<|ae<|wpAny_fieldsOf hq hdi ?_
 dsimp only
 refine ae<|nV ho hd hf ?_;rw[Yd,T8 #[2]]
 simp only[dm];refine ae<|xu hb hi ho hd ?_;cases q:(WH w a ep<|Z2 b tg)[i]? with
 |some e=>
  refine ae<|fN hq hdi #[2] ?_
  have g1:=dO (oh (·.setIfInBounds 0 (fC ((Y4 w b (i+1):Nat):Int)))) hq<|eY<|dA hdi _
  have d1:=dA hdi (·.setIfInBounds 0 (fC ((Y4 w b (i+1):Nat):Int)))
  refine ae<|fN g1 d1 #[2] ?_
  have g2:=dO (oh (·.setIfInBounds 1 (fC<|(i:Int)+1))) g1<|eY<|dA d1 _
  refine ax #[_,rfl,ax<|h1 e q _ #[_,g2,?_,?_]<|(cU ..).trans<|cU ..]
  .exact(gv ..).trans<|(gv ..).trans hc
  .rw[dA d1];simp[fC]
 |none=>
  have hn:i=(pl b).length:=by
   have:=Array.getElem?_eq_none_iff.mp q;rw[xn,Yd]at this;omega
  obtain⟨hh,hQ⟩:=h2 hn;refine ae<|fN hq hdi #[2]<|ae ?_
  simp only[tH,sk];refine ae<|bw ?_ (by size_fits);refine ae (fQ (by first|rfl|(simp only[kZ];rfl))<|bw ?_ (by size_fits))
  simp only[raiseNew];refine ae<|n8 ?_;rw[hh];refine ae<|ax<|rB ?_;refine ae<|eO (b:=am) #[_,aI _ rfl,rfl] nD ?_;exact ax<|hQ _<|((cU ..).extBut.push _).push _
def Xx.at{h h':bZ}(hit:Xx w h it a b i ep)(k:∀o,h.get? it=aa o->h'.get? it=aa o):Xx w h' it a b i ep:=
 let #[o,h1,r]:=hit;#[o,k o h1,r]
def Zat{Q:Bool->ay->Prop}(hT:s.TypeIs (.ref a) "set")(h:Q aj s):aW #[8] A (kF<|.ref a) Q E s:=by
 unfold kF;refine ae<|wpAny_specialOf hT F.slot_set_len.lookup ?_;generalize hid:("set.__len__" : String)=id0
 wp_delta
 rw[show splitId id0=aa ("set","__len__")from by subst hid;decide +kernel];subst hid
 refine ae<|eO (b:=am) hT (by rw[lq];kernel_rfl) ?_;refine wpAny_ite_split (λz=>T7 z<|by decide) (λ_=>wpAny_ite_split (λ_=>ae<|fT hT<|ax h) λz=>T7 #[20] z)
def ZcH(hb:b<64)(hex:o.ExactSet)(hd:o.data=.set (Z2 b tg) ep (tbl b<|YK w)):lu prog w "set" a a (pl b).length (λi v=>((WH w a ep<|Z2 b tg)[i]?).map (·.2)=aa v) (λh=>h.get? a=aa o) where
 type:=λ_ hm=>#[_,hm,hex.1]
 there:=λ_ hm=>#[aH hm,aH hm]
 keep:=λ_ _ hm hk=>hk a (.inl rfl) _ hm
 notList:=by decide
 notTuple:=by decide
 hint:=λ_ _ _ _ hm hq=>Zat #[_,hm,hex.1] hq
 iter:=λA s hh hm=>by
  have hne:=a9<|aH hm;refine#[{cls:=.type "set_iterator",data:=.fields [.int (Y4 w b 0) 0,.int 0 0,.ref a,.int (pl b).length 0,.int ep 0].toArray},λi h=>i<=(pl b).length/\Xx w h s.heap.objs.size a b i ep/\h.get? a=aa o,λE Q hq=>?_,?_,dM _,#[_,aI _ rfl,rfl,rfl],aq _ hm]
  .exact jk hb hm hex hd hq
  .exact{
    sub:=λb hb=>by simp at hb;simp[hb]
    frame:=λ_ _ _ st hk=>#[st.1,st.2.1.at λo e=>hk _ #[2] o e,hk a #[2] _ st.2.2]
    item:=λi s' Q E hi st hQ=>yL hb st.1 st.2.1 st.2.2 hd (λe q h' hit' sb=>hQ _ h' s'.toks (by rw[q];rfl) #[hi,hit',sb.extBut _ _ hne st.2.2] λb o hb e=>sb.extBut b o (λz=>hb<|by simp[z]) e) λz=>T7 hi #[3]
    done:=λs' Q E st hQ=>yL hb st.1 st.2.1 st.2.2 hd (λe q _ _ _=>T7 (Array.getElem?_eq_some_iff.mp q).1<|by rw[xn,Yd];omega) λ_=>#[hh,λh' eb=>hQ h' s'.toks λb o hb e=>eb b o (λz=>hb<|by simp[z]) e]
    self:=λ_ _ _ _ st hQ=>jZ st.2.1 hQ}
end
open L2
section
variable{prog:bv}{w:bO}{A:b9}{E:aw->ay->Prop}{s:ay}{d:aE}
def wm{T:String}{n:Nat}{P:Nat->aw->Prop}{OK:bZ->Prop}{κ:gj}{lt:Nat->Nat->Bool}{vs:List aw}{Q:aw->ay->Prop}(src:lu prog w T d d n P OK)(hh:A.handled=ai)(hok:OK s.heap)(hv:∀acc,tI P acc n->acc.toList=vs)(hn:n<=100000)(hl:vs.length=n)
  (O:Sq.Ord vs.length lt)(K:Sq.Asks prog w A.in1.in1 s.heap vs κ lt)
  (h:∀p h' tk D n,Sq.Pm vs.length p->Sq.Up (Sq.ltR aj vs.length lt) p vs.length->(∀b o,s.heap.get? b=aa o->h'.get? b=aa o)->s.heap.objs.size<=D->h'.get? D=aa (fG "list" (du<|bF aj<|p.toList.map λi=>(bF aj vs).getD i bz) n)->Q (.ref D) {s with heap:=h',toks:=tk}) :
  aW #[8] A (call (.builtin "sorted") [.ref d]) Q E s:=by
 refine Calls.call_function_entry rH pf pi (args_sorted1 _) ?_;unfold dG.«sorted»;refine ae<|ax ?_;refine ae<|yq src hh hok (by rw[dz];omega) λh1 tk acc hk big hacc=>?_
 rw[hv acc hacc];refine ae<|l9 ?_ (by rw[dz];omega)
 have hoL:(h1.push<|fG "list" vs.toArray 0).get? h1.objs.size=aa (fG "list" vs.toArray 0):=aI _ rfl;refine ae (bP (cx nH #[_,hoL,rfl] mY (by
  rw[Sq.Jp];exact Sq.list_sort_rev hoL #[3] (λb o e=>by
   have hlt:=aH<|hk b o e;exact#[a9 hlt,aq _<|hk b o e]) O K λp a1 a2=>#[_,rfl,ax #[_,rfl,by
    obtain⟨n,hn⟩:=sortedHeap_at hoL;exact h p _ tk _ n a1 a2 (λb o e=>by
     have hlt:=aH<|hk b o e;rw[sortedHeap_old (a9 hlt) (by rw[oJ];exact cH hlt)]
     exact aq _<|hk b o e) big hn]])<|args_list_sort _))
def uP{h:bZ}{ns:List Int}{vs:List aw}(hi:iZ vs ns)(nd:ns.Nodup):Sq.Asks prog w A h vs oneType' (λi j=>af<|ns.getD i 0<ns.getD j 0):=by
 have hl:=iZ.length hi;refine#[λh2 s' E Q k q=>fQ (ksk_kind (by simpa using hi)<|by simpa using h2) q,?_,λi j hi' hj s' C E k q=>?_]
 .refine bQ.mpr λi j h1 h2 hij e=>?_
  obtain⟨t1,e1⟩:=hi.int_at i vs[i]<|ag h1;obtain⟨t2,e2⟩:=hi.int_at j vs[j]<|ag h2;rw[e1,e2]at e;have e:=(fI.inj e).1;have g1:i<ns.length:=by omega
  have g2:j<ns.length:=by omega
  rw[aD,aD,ag g1,ag g2]at e;exact T7 e<|bQ.mp nd i j g1 g2 hij
 .have g1:vs[i]?=aa (vs.getD i bz):=by simp[hi']
  have g2:vs[j]?=aa (vs.getD j bz):=by simp[hj]
  obtain⟨t1,e1⟩:=hi.int_at i _ g1;obtain⟨t2,e2⟩:=hi.int_at j _ g2;rw[e1,e2,keyLt'_oneType];exact oneLt_int q
def Zbq{ns:List Int}{n:Nat}(nd:ns.Nodup)(hl:ns.length=n):Sq.Ord n (λi j=>af<|ns.getD i 0<ns.getD j 0):=by
 refine#[λi j hi hj ne e=>?_,λi j _ _ e=>?_,λi j k _ _ _ e f=>?_]
 .have:ns.getD i 0≠ns.getD j 0:=λe=>by
   simp only[aD]at e;have hi':i<ns.length:=by omega
   have hj':j<ns.length:=by omega
   refine ne<|(iK hi' nd).mp ?_;rw[ag hi',ag hj']at e ⊢;exact congrArg aa e
  have e:=of_decide_eq_false e;exact T5 #[3]
 .have e:=T6 e
  exact T4 #[3]
 .have e:=T6 e
  have f:=T6 f;exact T5 #[3]
def Zcc{ns l:List Int}{p:Array Nat}(hp:l.Perm ns)(hs:l.Pairwise (· < ·))(h1:Sq.Pm ns.length p)(h2:Sq.Up (Sq.ltR aj ns.length λi j=>af<|ns.getD i 0<ns.getD j 0) p ns.length):(p.toList.map λi=>ns.getD i 0)=l:=by
 have hq:p.toList.Perm (aP ns.length):=by simpa using bD.mp h1
 have hl:p.toList.length=ns.length:=by rw[hq.length_eq,bH]
 refine List.Perm.eq_of_pairwise (λa b _ _ x y=>by omega) ?_ hs ?_
 .rw[dq,bQ]
  intro i j hi hj hij;have g:=λk hk=>by
   have:=Sq.ZcC (p:=p) (i:=k) (by simpa using hk)
   rw[<-bq,ag hk]at this;exact au this
  rw[g i hi,g j hj];exact T6<|h2 i j hij #[3]
 .refine((hq.map _).trans ?_).trans hp.symm
  have e:(aP ns.length).map (λi=>ns.getD i 0)=ns:=by
   refine ck λi=>?_
   rw[aQ];by_cases h:i<ns.length
   .rw[cT h];simp[h]
   .simp[d9 h]
  rw[e]
def qM:(aP 64).all (λb=>af (((pl b).map kI).Pairwise (· < ·)))=am:=by decide +kernel
theorem Vf:∀{l:List (Int×aw)},(∀e∈l,∃t,e.2=.int e.1 t)->iZ (l.map (·.2)) (l.map (·.1))
 |[],_=>.nil
 |(n,v)::l,h=>by
  obtain⟨t,e⟩:=h (n,v) ak;have e:v=.int n t:=e;subst e;exact .cons n t<|Vf λe he=>h e<|al _ he
theorem Jr{vs:List aw}{ns:List Int}(hi:iZ vs ns):∀{l:List Nat},(∀i∈l,i<vs.length)->iZ (l.map λi=>vs.getD i bz) (l.map λi=>ns.getD i 0)
 |[],_=>.nil
 |i::l,h=>by
  obtain⟨t,e⟩:=hi.int_at i (vs.getD i bz) (by simp[h i ak])
  rw[aY,aY,e];exact .cons _ t<|Jr hi λj hj=>h j<|al _ hj
def wu{b:Nat}{Q:aw->ay->Prop}(hh:A.handled=ai)(hb:b<64)(S:Xu s.heap d b (YK w))
  (h:∀h' tk D n us,iZ us ((pl b).map kI)->(∀b o,s.heap.get? b=aa o->h'.get? b=aa o)->s.heap.objs.size<=D->h'.get? D=aa (fG "list" us.toArray n)->Q (.ref D) {s with heap:=h',toks:=tk}) :
  aW #[8] A (call (.builtin "sorted") [.ref d]) Q E s:=by
 obtain⟨o,ep,tg,ho,hex,hd⟩:=S;have pm:(WH w d ep<|Z2 b tg).toList.Perm (Z2 b tg).toList:=yY;generalize hsq:WH w d ep (Z2 b tg)=sq at pm;have hI:=Vf λe he=>by
  have:=pm.mem_iff.mp he;obtain⟨k,_,rfl⟩:=aN.mp this;exact#[tg k,rfl]
 have hP:((pl b).map kI).Perm (sq.toList.map (·.1)):=by
  have:=pm.map (·.1)
  have e:(Z2 b tg).toList.map (·.1)=(pl b).map kI:=by
   have:=congrArg mI<|vA b tg
   simpa using this
  rw[e]at this;exact this.symm
 have hS:=T6<|a8.mp qM b<|aV.mpr hb;have hnd:=hP.nodup_iff.mp<|hS.imp λh e=>by omega
 have hlen:(sq.toList.map (·.2)).length=(pl b).length:=by
  rw[aA,pm.length_eq,aJ,Yd]
 have hl2:(sq.toList.map (·.1)).length=(sq.toList.map (·.2)).length:=by simp
 refine wm (ZcH hb hex hd) hh ho (λacc ha=>?_) (by have:=Gd b;omega) hlen (Zbq hnd hl2) (uP hI hnd) λp h' tk D n h1 h2 kp hD hL=>?_
 .rw[hsq]at ha
  refine ck λi=>?_
  by_cases hi:i<(pl b).length
  .have hl:i<acc.size:=by rw[ha.1];exact hi
   have:=ha.2 i acc[i]<|bp hl;rw[aQ,bq,bq,this,bp hl]
  .rw[bM (by rw[aJ,ha.1];omega),bM (by rw[hlen];omega)]
 .have hq:p.toList.Perm (aP (sq.toList.map (·.2)).length):=by simpa using bD.mp h1
  have out:=Jr hI λi hi=>aV.mp<|hq.mem_iff.mp hi
  rw[<-hl2]at h1 h2;rw[Zcc hP hS h1 h2]at out;exact h h' tk D n _ out kp hD hL
end
def Ziy(te:TE):TE:=λZ H Q=>te Z H λv H1=>∃(a:aE)(ks:List Nat),v=.ref a/\H1 a=aa (.lst (ks.map λk:Nat=>V.int k))/\(∀k∈ks,k<6)/\∀D,H1 D=ai->Q (.ref D) (upd H1 D (.lst ((pl (bt (ks.getD · 0) ks.length)).map λk:Nat=>V.int k)))
theorem ZeP{v:Nat->Nat}:∀{n:Nat},(∀i,i<n->v i<6)->bt v n<64
 |0,_=>by show 0<64;decide
 |n+1,h=>Nat.or_lt_two_pow (ZeP λi hi=>h i<|by omega)<|Nat.pow_lt_pow_right #[1]<|h n #[3]
theorem UT{us:List aw}:∀{ns:List Nat},iZ us (ns.map kI)->Vals (ns.map λk:Nat=>V.int k) us
 |[],h=>by cases h;exact .nil
 |n::ns,h=>by
  cases h with|cons _ t h=>exact .cons #[t,rfl]<|UT h
def xW{X:Cx}{e:Expr}{te:TE}{p p2 p3 pos:gu}(hc:X.calm=am)(he:PE X e te)(hm1:X.mg "sorted" = ai)(hm2:X.mg "set" = ai)(hg1:Gl X "sorted")(hg2:Gl X "set")
  (hs1:aG [e] X.env=#[22]::aG [] X.env)(hs2:aG [.Call (.Name "set" p2) [e] [] p3] X.env=(aj,c6 (.Call (.Name "set" p2) [e] [] p3) X.env)::aG [] X.env) :
  PE X (.Call (.Name "sorted" p) [.Call (.Name "set" p2) [e] [] p3] [] pos) (Ziy te):=by
 intro pq s Z H Q I h;refine dR<|Xj I hg1 hm1 #[7] ?_ #[1] #[1]
 refine iS ?_ hs2 rfl;rw[hs2];refine Calls.spliced_cons ?_;refine dR<|Xj I hg2 hm2 #[7] ?_ #[1] #[1]
 refine dg ?_ hs1 rfl;rw[hs1];refine Calls.spliced_cons<|thn (he pq s Z H _ I h) λu s1 #[x,H1,I1,r1,a,ks,ex,ha,h6,q1]=>Calls.spliced_nil ?_
 subst ex;cases(r1);obtain⟨hz,us,n,rel,ho⟩:=I1.hok a _ ha;have hlen:us.length=ks.length:=by rw[<-rel.length,aA]
 have hh:=I1.ok.hd hc;have h6':∀i,i<ks.length->ks.getD i 0<6:=λi hi=>by
  rw[aD,ag hi];exact h6 _<|aZ hi
 refine ZbN (v:=(ks.getD · 0)) hh #[_,ho,rfl,n,rfl] (λi x hx=>?_) λh2 tk2 hS k2=>?_
 .have hx':us[i]?=aa x:=by simpa using hx
  have hi:=(aK.mp hx').1;refine#[h6' i #[3],?_]
  obtain⟨y,hy,ry⟩:=rel.get (x:=V.int<|ks.getD i 0) (by rw[aQ,ag (show i<ks.length by omega),aD,ag (show i<ks.length by omega)];rfl)
  rw[hx']at hy;cases hy;exact ry
 .refine Calls.spliced_nil ?_
  have b64:bt (ks.getD · 0) us.toArray.size<64:=ZeP λi hi=>h6' i (by simpa[hlen]using hi)
  refine wu hh b64 hS λh3 tk3 D m vs hI k3 hD hL=>?_
  have sz:us.toArray.size=ks.length:=by simpa using hlen
  rw[sz]at hI;have le:s1.heap.objs.size<=D:=by
   obtain⟨o,_,_,hg,_⟩:=hS;exact cc (gF<|aH hg) hD
  refine#[.ref D,_,I1.laid (o:=.lst ((pl (bt (ks.getD · 0) ks.length)).map λk:Nat=>V.int k)) (λb o e=>k3 b o<|k2 b o e) le #[?_,vs,m,UT hI,hL],rfl,q1 D<|I1.hok.fresh le]
  rw[aA,dz];have:=Gd (bt (ks.getD · 0) ks.length)
  omega
theorem Zbm{v:Nat->Nat}{k:Nat}:∀{n:Nat},(bt v n).testBit k=((aP n).map v).contains k
 |0=>by simp[bt]
 |n+1=>by
  show(bt v n ||| 2^v n).testBit k=_;rw[Nat.testBit_or,Zbm,List.range_succ,bV,List.contains_append,Nat.testBit_two_pow];simp[eq_comm]
def Zhr{ks:List Nat}:pl (bt (ks.getD · 0) ks.length)=(aP 6).filter ks.contains:=by
 refine List.filter_congr λk _=>?_
 rw[Zbm];have e:(aP ks.length).map (λi=>ks.getD i 0)=ks:=by
  refine ck λi=>?_
  rw[aQ];by_cases h:i<ks.length
  .rw[cT h];simp[h]
  .simp[d9 h]
 rw[e]
open Ev (E Sm Fn Bop Cop Ty Bf Mf)
theorem UU{U:Mx}{H:Hp}:∀{ds:List D}{ks:List Nat}{vs:List V},Pv.WV ds=aa ks->Rq U H ds vs->vs=ks.map (λk:Nat=>V.int k)/\∀k∈ks,k<6
 |[],ks,vs,e,h=>by
  cases e;exact#[h,λ_ z=>by cases z]
 |x::r,ks,vs,e,h=>by
  obtain⟨v,us,rfl,h1,h2⟩:=h;cases x with
  |int i=>
   have e:(if 0<=i/\i<6 then(Pv.WV r).map (i.toNat :: ·)else ai)=aa ks:=e
   split at e
   .rename_i hi
    obtain⟨ks',e1,rfl⟩:=bI.mp e;obtain⟨rfl,h6⟩:=UU e1 h2;refine#[by rw[h1.int',aY,kC hi.1],λk hk=>?_]
    rcases az.mp hk with rfl|hk
    .omega
    .exact h6 k hk
   .cases e
  |_=>exact Ev.nos e
theorem JR{U:Mx}{H:Hp}:∀l:List Nat,Rq U H (l.map λk:Nat=>Pv.V.int k) (l.map λk:Nat=>V.int k)
 |[]=>Rq.nil
 |k::l=>Rq.cons (ZM (k:Int))<|JR l
def wb{X:Cx}{xw:Nat->Hp->Prop}{C:Calls}{e:Expr}{i:E}{p p2 p3 pos:gu}(hc:X.calm=am)(he:CE X xw C e i)(hm1:X.mg "sorted" = ai)(hm2:X.mg "set" = ai)(hg1:Gl X "sorted")(hg2:Gl X "set")
  (hs1:aG [e] X.env=#[22]::aG [] X.env)(hs2:aG [.Call (.Name "set" p2) [e] [] p3] X.env=(aj,c6 (.Call (.Name "set" p2) [e] [] p3) X.env)::aG [] X.env) :
  CF X xw C (.Call (.Name "sorted" p) [.Call (.Name "set" p2) [e] [] p3] [] pos) (.blt .sortedS [i]):=.mk <| PE.imp (xW hc he.h hm1 hm2 hg1 hg2 hs1 hs2)<|by
 left;rw[Pv.Ys,Pv.pvs,Y9]at h;refine#[U,l,S,st,lr,h.bind λx S1 ρ1 H1 v f1 st1 r1 h1=>?_]
 cases f1.eq;rw[Pv.pvs]at h1;obtain⟨z,hz,h1⟩:=End.po h1;cases x with
 |lst ds=>
  obtain⟨ks,e1,rfl⟩:=bI.mp hz;obtain⟨a,us,rfl,ha,_,rs⟩:=r1.lst';obtain⟨rfl,h6⟩:=UU e1 rs;exact#[a,ks,rfl,ha,h6,by rw[Zhr];exact h1.newF f1 st st1<|JR _]
 |_=>exact Ev.nos hz
end
section
open L2
end
section
open L2
open Ev (ltI YO Zy)
open Ev (E Sm Fn Bop Cop Ty Bf Mf spcs Zhd Z7)
end
end Sd
namespace Sd
open PySem PyProof.Rows L2 Ev
variable{X:Cx}{xw:Nat->Hp->Prop}{C:Calls}{ns:List Nat}{e:Expr}{i:E}{pos:gu}
end Sd
namespace Sd
open PySem PySem.Spec PyProof.Rows L2
open Ev (ltP QX X5)
open Ev (E Sm Fn Bop Cop Ty Bf Mf ZgY YQ)
open Ev (So)
open PySem.Builtin.Str (occurrences partsBetween strKind)
end Sd
namespace Gn
open PySem PySem.Spec PyProof.Rows L2
open Ev (E Sm Fn Bop Cop Ty Bf Mf)
open Sd (Calls CompScope cxC hu7)
structure FR where
 x:bn
 st:eE
 N:List bn
 k:Nat
noncomputable def FR.ps(r:FR):List bn:=r.N.take r.k
noncomputable def scB(N:List bn)(k:Nat)(sc:d4):Bool:=
 (match sc.kind with|.function=>am|_=>aj)&&(!sc.isCoroutine&&(!sc.isGenerator&&(decide N.Nodup&&((N.take k).all (λx=>af (sc.names.lookup x=aa .local)||decide (sc.names.lookup x=aa .cell))&&sc.names.all λy=>af<|y.2≠.free))))
def VM(h:scB N k sc=am):FnScope N (N.take k) sc:=by
 unfold scB at h;simp only[aF,lT,T0,a8,hZ]at h;obtain⟨h1,h2,h3,h4,h5,h6⟩:=h;refine#[?_,h2,h3,h4,?_,h5,h6]
 .cases e:sc.kind<;>rw[e]at h1<;>first|rfl|cases h1
 .rw[bT]
  by_cases hk:k<=N.length
  .rw[h8 hk]
  .rw[Nat.min_eq_right #[3],gK,cG #[3]]
inductive Gv where
 |int (n:Int)|tab (t:List (Int×Int))|str (x:bn)
 deriving DecidableEq
def ZhC(K:ao)(mg:bn->Option aw)(x:bn):Gv->Prop
 |.int n=>∃t:sW,mg x=aa (.int n t)
 |.str z=>∃t:sW,mg x=aa (.str z t)
 |.tab t=>∃tb:aE,(∀P w,Sd.ZhT P w K tb t)/\mg x=aa (.ref tb)
structure Top(K:ao)(mg:bn->Option aw)(fs:List FR)(zs:List bn)(gs:List (bn×Gv))(f:Nat->aE)(fd:Nat->cP):Prop where
 d:∀i r,fs[i]?=aa r->Fun K r.x r.x r.st (f i) (fd i)
 b:∀i r,fs[i]?=aa r->Ue K (fd i) r.ps []
 m:∀i r,fs[i]?=aa r->mg r.x=aa (.ref<|f i)
 z:∀x∈zs,mg x=ai
 g:∀y∈gs,ZhC K mg y.1 y.2
def J3(r:FR):Prop:=∀(kV doc pm:aw)(an:Option aE)(cdv ct:aw)(us:List aw),us.length=r.ps.length->nt (eK r.x r.x (Xg r.st) (ZB r.st) (Zg r.st) .none kV doc pm an cdv ct) #[us,[]]=cS (r.ps.zip us)
section
variable{x:bn}{st:eE}
abbrev bA(x:bn)(st:eE)(kV doc pm:aw)(an:Option aE)(cdv ct:aw)(us:List aw):=nt (eK x x (Xg st) (ZB st) (Zg st) .none kV doc pm an cdv ct) #[us,[]]
def bd1(h:∀kV doc pm an cdv ct a0,bA x st kV doc pm an cdv ct [a0]=cS ((N.take n).zip [a0]))(hl:(N.take n).length=1:=by rfl):J3 #[x,st,N,n]:=λkV doc pm an cdv ct us e=>match us,e.trans hl with|[a0],_=>h kV doc pm an cdv ct a0
def bd2(h:∀kV doc pm an cdv ct a0 a1,bA x st kV doc pm an cdv ct [a0,a1]=cS ((N.take n).zip [a0,a1]))(hl:(N.take n).length=2:=by rfl):J3 #[x,st,N,n]:=λkV doc pm an cdv ct us e=>match us,e.trans hl with|[a0,a1],_=>h kV doc pm an cdv ct a0 a1
def bd3(h:∀kV doc pm an cdv ct a0 a1 a2,bA x st kV doc pm an cdv ct [a0,a1,a2]=cS ((N.take n).zip [a0,a1,a2]))(hl:(N.take n).length=3:=by rfl):J3 #[x,st,N,n]:=λkV doc pm an cdv ct us e=>match us,e.trans hl with|[a0,a1,a2],_=>h kV doc pm an cdv ct a0 a1 a2
def bd4(h:∀kV doc pm an cdv ct a0 a1 a2 a3,bA x st kV doc pm an cdv ct [a0,a1,a2,a3]=cS ((N.take n).zip [a0,a1,a2,a3]))(hl:(N.take n).length=4:=by rfl):J3 #[x,st,N,n]:=λkV doc pm an cdv ct us e=>match us,e.trans hl with|[a0,a1,a2,a3],_=>h kV doc pm an cdv ct a0 a1 a2 a3
end
inductive FnsAt(K:ao):List FR->List aE->List cP->Prop
 |nil:FnsAt K [] [] []
 |cons {x:bn} {st:eE} {N:List bn} {n:Nat} {a:aE} {rs:List FR} {as:List aE} {fds:List cP} {oc kV dc pm cd ct:aw} {od an:Option aE} {sl:Array (Option aw)}
   (h1:gN K bC x=aa (aa<|.ref a)) (h2:K.lookup a=aa #[oc,od,.func<|eK x x (Xg st) (ZB st) (Zg st) .none kV dc pm an cd ct,sl])
   (h3:kM K cd x=am) (h4:gB K (.ref a)=am) (h5:J3 #[x,st,N,n]) (t:FnsAt K rs as fds) :
   FnsAt K (#[x,st,N,n]::rs) (a::as) (eK x x (Xg st) (ZB st) (Zg st) .none kV dc pm an cd ct::fds)
inductive ZsAt(K:ao):List bn->Prop
 |nil:ZsAt K []
 |cons {x:bn} {zs:List bn} (h:gN K bC x=aa ai) (t:ZsAt K zs):ZsAt K (x::zs)
inductive GsAt(K:ao):List (bn×Gv)->Prop
 |nil:GsAt K []
 |cons {x:bn} {n:Int} {u:sW} {gs:List (bn×Gv)} (h:gN K bC x=aa (aa<|.int n u)) (t:GsAt K gs):GsAt K ((x,.int n)::gs)
 |tab {x:bn} {a:aE} {es:Array gL} {n:Nat} {tb:List (Int×Int)} {gs:List (bn×Gv)} (h:gN K bC x=aa (aa<|.ref a)) (h2:K.lookup a=aa #[.type "dict",ai,.dict es n,#[]]) (h3:Sd.Xh es.toList tb) (h4:(a == de)=aj) (t:GsAt K gs):GsAt K ((x,.tab tb)::gs)
 |str {x z:bn} {u:sW} {gs:List (bn×Gv)} (h:gN K bC x=aa (aa<|.str z u)) (t:GsAt K gs):GsAt K ((x,.str z)::gs)
theorem GsAt.get{K:ao}{h:bZ}{mg:bn->Option aw}(X:K.In h)(G:h.Ns bC mg):∀{gs:List (bn×Gv)},GsAt K gs->∀y∈gs,ZhC K mg y.1 y.2
 |_,.nil,x,h=>by simp at h
 |_,.cons h t,x,m=>by
  rcases az.mp m with rfl|m
  .exact#[_,i8 X G h]
  .exact t.get X G x m
 |_,.str h t,x,m=>by
  rcases az.mp m with rfl|m
  .exact#[_,i8 X G h]
  .exact t.get X G x m
 |_,.tab h h2 h3 h4 t,x,m=>by
  rcases az.mp m with rfl|m
  .exact#[_,λP w=>Sd.Zdd h2 h3 h4,i8 X G h]
  .exact t.get X G x m
theorem FnsAt.get{K:ao}{fd0:cP}:∀{fs:List FR}{as:List aE}{fds:List cP},FnsAt K fs as fds->∀i r,fs[i]?=aa r->
  gN K bC r.x=aa (aa<|.ref<|as.getD i 0)/\Fun K r.x r.x r.st (as.getD i 0) (fds.getD i fd0)/\J3 r
 |_,_,_,.nil,i,r,e=>by simp at e
 |_,_,_,.cons h1 h2 h3 h4 h5 t,0,r,e=>by
  simp at e;subst e;exact#[h1,Zgw h2 h3 h4,h5]
 |_,_,_,.cons h1 h2 h3 h4 h5 t,i+1,r,e=>by
  obtain⟨a,b,c⟩:=t.get i r (by simpa using e)
  exact#[by simpa using a,by simpa using b,c]
theorem ZsAt.get{K:ao}:∀{zs:List bn},ZsAt K zs->∀x∈zs,gN K bC x=aa ai
 |_,.nil,x,h=>by simp at h
 |_,.cons h t,x,m=>by
  rcases az.mp m with rfl|m
  .exact h
  .exact t.get x m
def Top.no{K:ao}{mg:bn->Option aw}{x:bn}(T:Top K mg fs zs gs f fd)(h:zs.contains x=am):mg x=ai:=T.z x (by simpa using h)
noncomputable def csB(sc:d4)(N0:List bn)(scope:d4)(N:List bn)(cap:List Nat)(nl:Nat):Bool:=
 ((N.take nl).all (λx=>af (scope.names.lookup x=aa .local)||decide (scope.names.lookup x=aa .cell))&&(af (N.length=nl+cap.length)&&(cap.zipIdx.all (λp=>af (N[nl+p.2]?=N0[p.1]?)&&af ((N0[p.1]?).map (λx=>af<|(x,bN)∈scope.names)=aa am)) &&
  ((match scope.kind with|.function=>am|_=>aj)&&scope.names.all λy=>(!decide (y.2=.cell) || !decide ((y.1,bN)∈scope.names))&&((!decide (y.2=.local)||decide (scope.names.lookup y.1=aa .local))&&(!decide (y.2=.free)||((af (sc.names.lookup y.1=aa .cell)||decide (sc.names.lookup y.1=aa .free))&&af (scope.names.lookup y.1≠aa .local))))))))
def ZgJ{sc:d4}{N0:List bn}{scope:d4}{N:List bn}{cap:List Nat}{nl:Nat}(h:csB sc N0 scope N cap nl=am):CompScope sc N0 scope N cap nl:=by
 unfold csB at h;simp only[aF,hZ,lT,T0,decide_eq_false_iff_not,a8]at h;obtain⟨_,h1,h2,h3,h4⟩:=h;refine#[?_,λy hy z=>(h4 y hy).1.resolve_left λq=>q z,λy hy z=>?_,λy hy z=>?_,λy hy z=>?_,h1,h2]
 .cases e:scope.kind<;>rw[e]at h3<;>first|rfl|cases h3
 .rcases(h4 y hy).2.1 with q|q
  .exact T7 z q
  .exact q
 .rcases(h4 y hy).2.2 with q|q
  .exact T7 z q
  .exact q.1
 .rcases(h4 y hy).2.2 with q|q
  .exact T7 z q
  .exact q.2
noncomputable def cN(scope:d4)(nl:Nat)(cap:List Nat)(N0:List bn):List bn:=((scope.names.drop 1).take nl).map (·.1)++cap.map λi=>N0.getD i ""
def jL{sc:d4}{N0:List bn}{scope:d4}{cap:List Nat}{nl:Nat}(h:csB sc N0 scope (cN scope nl cap N0) cap nl=am):CompScope sc N0 scope (cN scope nl cap N0) cap nl:=ZgJ h
end Gn
namespace Sd
open PySem PySem.Spec PyProof.Rows L2
def Fly(h:bZ)(e T C:aE):Prop:=
 ∃(oe:fH)(vs:Array aw)(a0:aw)(oT:fH)(ts:Array aw),h.get? e=aa oe/\(oe.cls=.ref C/\vs[0]?=aa a0)/\oe.data=.fields vs/\vs[1]?=aa (.ref T)/\T≠e/\h.get? T=aa oT/\oT.data=.fields ts/\ts[3]?=aa .none
def CX1(P:bv)(w:bO):CXT:=λouter H s E e s'=>
 ∃(a T C:aE)(H':Hp),e=.ref a/\s'.os=s.os/\iY s'.gens/\Un (frs outer) [] H H' s.heap s'.heap/\HOk P w H' s'.heap/\Fly s'.heap a T C/\s.heap.get? a=ai/\s.heap.get? T=ai/\H' a=ai/\H' T=ai/\E (.ref C) ai H'
def ZZ.there(x:ZZ P w H h a o):∃u,h.get? a=aa u:=by
 cases o with|lst xs=>obtain⟨_,_,_,_,e⟩:=x;exact#[_,e]|tup xs=>obtain⟨_,_,_,_,e,_⟩:=x;exact#[_,e]|dK kvs=>obtain⟨_,_,_,_,o,_,_,e,_⟩:=x;exact#[_,e]|dT kvs=>obtain⟨_,_,_,_,o,_,_,e,_⟩:=x;exact#[_,e]|own y=>obtain⟨_,e⟩:=x;exact#[_,e]|frz ob u=>obtain⟨e,_⟩:=x;exact#[_,e]|tbl ps=>exact#[_,(x)]
theorem FunFrames.rebase{h h' base base':bZ}:∀{l:List Env},h.FunFrames base l->(∀b∈frs l,∀o,h.get? b=aa o->∃sl,h'.get? b=aa {o with slots:=sl})->(∀b∈frs l,base'.get? b=ai)->h'.FunFrames base' l
 |[],_,_,_=>trivial
 |env::l,#[hk,#[L,o,hf,hn,ho,hd],hr],k,n=>by
  have hm:L∈frs (env::l):=by unfold frs;rw[cD,hf];exact ak ..
  obtain⟨sl,e⟩:=k L hm o ho;refine#[hk,#[L,_,hf,n L hm,e,hd],FunFrames.rebase hr (λb hb=>k b ?_) λb hb=>n b ?_]
  all_goals unfold frs at hb ⊢;rw[cD,hf];exact al _ hb
structure DefX(X:Cx)(E:XK):Prop where
 xe:X.xe=λe s'=>aW (aS X.prog X.w) X.A (leaving X.env e) (λ_ s''=>CX1 X.prog X.w X.outer X.H₀ X.s₀ E e s'') (λe' s''=>CX1 X.prog X.w X.outer X.H₀ X.s₀ E e' s'') s'
 st:X.stack=X.env::X.outer
 fr:X.env.frame=aa X.env.locals
 ex:X.ex=[]
section
variable{X:Cx}{E:XK}{pq:List (aE×fH)}{Z:L2.St}{H H':Hp}{s s':ay}
def Inv.outside(D:DefX X E)(I:Inv X pq Z H s)(un:Un (frs X.stack) [] H H' s.heap s'.heap)(hos:s'.os=s.os)(bare:iY s'.gens)(hok:HOk X.prog X.w H' s'.heap)(na:s.heap.get? a=ai)(Ha:H' a=ai)
   (hh:∀b∈hid,b∈frs X.stack\/(s.heap.get? b=ai/\H' b=ai))(st:(fc s'.heap hid).StaysIn h')(up:s'.heap.UpToSlots h')(fl:Fly h' a T C)(hT:(fc s'.heap hid).get? T=ai)(hE:E (.ref C) ai H') :
  CX1 X.prog X.w X.outer X.H₀ X.s₀ E (.ref a) {s' with heap:=h' }:=by
 have U1:=I.base;rw[D.ex]at U1;have sub:∀b∈frs X.outer,b∈frs X.stack:=λb hb=>by
  rw[D.st];unfold frs at hb ⊢;rw[cD,D.fr];exact al _ hb
 have own:∀b o,X.s₀.heap.get? b=aa o->b∈frs X.stack->b∈frs X.outer:=λb o e hb=>by
  rw[D.st]at hb;unfold frs at hb ⊢;rw[cD,D.fr]at hb;rcases az.mp hb with z|z
  .exact T7 (aH e) (by rw[z];exact mE I.ok.above)
  .exact z
 have nx:∀b:aE,b∉([]:List aE):=λb=>by simp
 have frN:∀b∈frs X.stack,H' b=ai:=λb hb=>by
  obtain⟨_,o,ho,_⟩:=I.stack.mem hb;exact un.free b o ho (I.stkFree b hb)<|nx b
 have hidN:∀b∈hid,H' b=ai:=λb hb=>by
  rcases hh b hb with z|z
  .exact frN b z
  .exact z.2
 have old:∀b o,s.heap.get? b=aa o->b∉frs X.stack->b∉hid:=λb o e hb hm=>by
  rcases hh b hm with z|z
  .exact hb z
  .rw[e]at z;cases z.1
 have keep:=λb u e n=>st b u<|gU _ e n
 have nof:∀b∈frs X.stack,∀o,s'.heap.get? b=aa o->∀vs,o.data≠.fields vs:=λb hb o e=>by
  obtain⟨_,o1,ho,hd⟩:=I.stack.mem hb;obtain⟨sl,e1⟩:=un.any ho (I.stkFree b hb)<|nx b;rw[e]at e1;cases e1;exact hd
 have frS:=λb hb o e=>up b o e<|nof b hb o e
 have trk:∀b u,H' b=aa u->b∉hid:=λb u e hm=>by rw[hidN b hm]at e;cases e
 have hT2:∀o,s'.heap.get? T=aa o->H' T=ai/\s.heap.get? T=ai\/False:=λo e=>by
  by_cases hm:T∈hid
  .rcases hh T hm with z|z
   .obtain⟨oe,vs,a0,oT,ts,_,_,_,_,_,g1,g2,_⟩:=fl
    obtain⟨sl,e2⟩:=frS T z o e;rw[g1]at e2;cases e2;exact T7 g2<|nof T z o e ts
   .exact .inl #[z.2,z.1]
  .rw[gU _ e hm]at hT;cases hT
 have there:∀b o,X.s₀.heap.get? b=aa o->∃o',s'.heap.get? b=aa o':=λb o e=>by
  obtain⟨o1,e1⟩:=U1.there b o e<|nx b;exact un.there b o1 e1<|nx b
 refine#[a,T,C,H',rfl,hos.trans I.os,bare,#[λb o e n hb _=>?_,λb o e n hb _=>?_,λb o e n _=>?_,λb o e _=>?_,λb xs e=>un.tups b xs<|U1.tups b xs e,λb o u e=>un.frzs b o u<|U1.frzs b o u e,λb ps e=>?_],λc o e=>?_,fl,?_,?_,Ha,?_,hE]
 .have e1:=U1.keep b o e n hb (nx b)
  have hn:=λz=>hb<|own b o e z
  exact keep b o (un.keep b o e1 (U1.free b o e n<|nx b) hn<|nx b)<|old b o e1 hn
 .obtain⟨sl,e1⟩:=U1.slot b o e n hb (nx b)
  obtain⟨sl2,e2⟩:=un.slot b _ e1 (U1.free b o e n<|nx b) (sub b hb)<|nx b;obtain⟨sl3,e3⟩:=frS b (sub b hb) _ e2;exact#[sl3,e3]
 .obtain⟨o1,e1⟩:=U1.there b o e (nx b)
  exact un.free b o1 e1 (U1.free b o e n<|nx b)<|nx b
 .obtain⟨o1,e1⟩:=U1.there b o e (nx b)
  obtain⟨o2,e2⟩:=un.there b o1 e1<|nx b;by_cases hm:b∈frs X.stack
  .obtain⟨sl,e3⟩:=frS b hm o2 e2
   exact#[_,e3]
  .exact#[o2,keep b o2 e2<|old b o1 e1 hm]
 .obtain⟨m1,e1⟩:=U1.tbls b ps e
  obtain⟨m2,e2⟩:=un.tbls b _ e1;exact#[m1++m2,by rw[e2,oq]]
 .refine(hok c o e).stay (λb u hb q=>?_) (λ_ q=>q) λ_ _ q=>q
  rcases hb with rfl|hb
  .exact keep _ u q<|trk _ _ e
  .exact keep _ u q<|trk _ _ hb
 .cases q:X.s₀.heap.get? a with
  |none=>rfl
  |some o=>
   obtain⟨o1,e1⟩:=U1.there a o q<|nx a;rw[na]at e1;cases e1
 .cases q:X.s₀.heap.get? T with
  |none=>rfl
  |some o=>
   obtain⟨o1,e1⟩:=U1.there T o q<|nx T;obtain⟨o2,e2⟩:=un.there T o1 e1<|nx T;rcases hT2 o2 e2 with z|z
   .rw[e1]at z;cases z.2
   .exact z.elim
 .cases q:H' T with
  |none=>rfl
  |some u=>
   obtain⟨o,e⟩:=ZZ.there<|hok T u q;rcases hT2 o e with z|z
   .rw[q]at z;cases z.1
   .exact z.elim
def Zeu(D:DefX X E):QJ (CX1 X.prog X.w) X E:=by
 rintro pq Z H s e s' I ⟨a,T,C,H',rfl,os,bare,un,hok,fly,na,nT,Ha,HT,hE⟩
 rw[D.xe];have nx:∀b:aE,b∉([]:List aE):=λb=>by simp
 have hfr:X.A.frames=aa (X.env::X.outer):=by rw[<-D.st];exact I.ok.frames
 let hid:=frs X.stack++[a,T]
 have hin:∀b∈frs X.stack,b∈hid:=λb hb=>dy _ hb
 have FF:s'.heap.FunFrames (fc s'.heap hid) (X.env::X.outer):=by
  rw[<-D.st];exact FunFrames.rebase I.stack (λb hb o e=>un.any e (I.stkFree b hb)<|nx b) λb hb=>dv _<|hin b hb
 obtain⟨oe,vs,a0,oT,ts,f1,f2,f3,f4,f5,f6,f7,f8⟩:=fly;refine wpAny_leaves_onW hfr D.fr #[λb o e=>im _ e,dv _<|bu _<|ak ..,FF,oe,vs,T,oT,ts,f1,f2,f3,f4,dv _<|bu _<|al _<|ak ..,f5,f6,f7,f8] λh' fl' up=>?_
 obtain⟨g1,_,_,oe',vs',T',oT',ts',e1,e2,e3,e4,e5,e6,e7,e8,e9⟩:=fl';refine Inv.outside D I un os bare hok na Ha (λb hb=>?_) g1 up #[oe',vs',a0,oT',ts',e1,e2,e3,e4,e6,e7,e8,e9] e5 hE
 rcases cp.mp hb with z|z
 .exact .inl z
 .rcases az.mp z with rfl|z
  .exact .inr #[na,Ha]
  .rw[bc.mp z];exact .inr #[nT,HT]
end
open Ev (E Sm Fn Bop Cop Ty Bf Mf)
noncomputable abbrev veM:List aw:=[.type "ValueError",.type "Exception",.type "BaseException",.type "object"]
structure Cls1(h:bZ)(S C:aE):Prop where
 ob:∃bm N nm q bs hdct sn sub ab col dd k0 k1 k2 k3 k5 mN,h.get? C=aa (excClassObj nm q C N bs bm hdct sn sub ab col dd k0 k1 k2 k3 k5 "ValueError.__new__")/\h.Ns N mN/\mN "__init__" = ai/\OwnTail h veM bm
section
variable{X:Cx}{E:XK}{S C:aE}{x:bn}{np cpos pos:gu}{e:Expr}{es:List Expr}{t:TA}
def Zf8(C:aE)(E:XK)(t:TA):TS:=λ_ Z H=>t Z H λvs H'=>vs.length<=ba/\E (.ref C) ai H'
def qV(D:DefX X E)(hc:X.calm=am)(O:Cls1 X.base S C)(hg:Gl X x)(hm:X.mg x=aa (.ref C))(ha:PA X (e::es) t)(hd:(x == #[11])=aj)
  (he:aG (e::es) X.env=#[22]::aG es X.env)(hpl:(d7 cpos<|aG es X.env).any (·.1)=aj) :
  PS X (.Raise (aa<|.Call (.Name x np) (e::es) [] cpos) ai pos) (Zf8 C E t):=by
 intro pq s Z H Dn I h;obtain⟨bm,N,nm,q,bs,hdct,sn,sub,ab,col,dd,k0,k1,k2,k3,k5,mN,hC,hN,hi,tl⟩:=O.ob;refine wpAny_Raise_call_subT (nm:=nm) (q:=q) (N:=N) (bs:=bs) (hdct:=hdct) (sn:=sn) (sub:=sub) (ab:=ab) (col:=col) (dd:=dd) (k0:=k0) (k1:=k1) (k2:=k2) (k3:=k3) (k5:=k5)
  PySem.F.excBase_ValueError (tl.hasType PySem.F.excBase_ValueError.hasBase) (I.ok.hd hc) (by rw[he];show(aj||(d7 cpos<|aG es X.env).any (·.1))=aj;rw[hpl];rfl) hi (Vb I hg hm #[rfl,?_] hd)
 have ha':=ha cpos pq s Z H _ I h;rw[he]at ha' ⊢;refine Calls.evalArgs_plain<|dH ha' (λus s2 #[vs,H2,I2,r2,hl,hE]=>#[rfl,by rw[<-r2.length];exact hl,I2.bk _ _ hC,hN.keeps I2.bk,tl.keeps I2.bk,λh' a hx=>?_]) λ_ _ y=>y
 rw[D.xe];have hfr:X.A.frames=aa (X.env::X.outer):=by rw[<-D.st];exact I2.ok.frames
 let hid:=frs X.stack
 have FF:s2.heap.FunFrames (fc s2.heap hid) (X.env::X.outer):=by
  rw[<-D.st];exact FunFrames.rebase I2.stack (λb hb o e=>#[o.slots,e]) λb hb=>dv _ hb
 have nx:∀b:aE,b∉([]:List aE):=λb=>by simp
 refine wpAny_leaves_madeW hfr D.fr (λb o e=>im _ e) FF hx λh2 t fl _ _ up=>?_
 obtain⟨g1,_,_,oe,vs',T,oT,ts,e1,e2,e3,e4,e5,e6,e7,e8,e9⟩:=fl;have na:=hx.new;have Ha:H2 a=ai:=by
  cases q:H2 a with
  |none=>rfl
  |some u=>
   obtain⟨o,e⟩:=ZZ.there<|I2.hok a u q;rw[na]at e;cases e
 exact Inv.outside (s':=s2) (H':=H2) D I2 (Un.kept λb o e=>e) rfl I2.bare I2.hok na Ha (λb hb=>.inl hb) g1
  ((bZ.UpToSlots.of_keeps hx.keeps).trans up) #[oe,vs',.ref t,oT,ts,e1,e2,e3,e4,e6,e7,e8,e9] e5 hE
end
def xwE(cl:List aE)(E:XK):Nat->Hp->Prop:=λc H=>∃C,cl[c]?=aa C/\E (.ref C) ai H
def End.ex_mono{B β:Type}{K:ao}{xw xw':Nat->Hp->Prop}{U:Mx}{H:Hp}{rep:Mx->Hp->B->β->Prop}{Q:β->Hp->Prop}{r:R B}(k:∀c H,xw c H->xw' c H)(h:End K xw rep U H Q r):End K xw' rep U H Q r:=by
 cases r with|ok d S=>exact h|ex c S=>exact λρ' H' f st=>k c H'<|h ρ' H' f st|no=>exact h
section
variable{X:Cx}{E:XK}{S C:aE}{x:bn}{np cpos pos jp p:gu}{e v1 v2:Expr}{es rest:List Expr}{xw:Nat->Hp->Prop}{cl:List aE}{Cc:Calls}{fr:Bool}{ns:List Nat}{n m:Nat}{is:List Ev.E}{i:Ev.E}
def jY(D:DefX X E)(hc:X.calm=am)(O:Cls1 X.base S C)(hn:cl[n]?=aa C)(hg:Gl X x)(hm:X.mg x=aa (.ref C))(hd:(x == #[11])=aj)
  (he:aG [.Constant (.str y) j p] X.env=(aj,c6 (.Constant (.str y) j p) X.env)::aG [] X.env)(hpl:(d7 cpos<|aG [] X.env).any (·.1)=aj) :
  CS X (xwE cl E) fr Cc ns (.Raise (aa<|.Call (.Name x np) [.Constant (.str y) j p] [] cpos) ai pos) (.raise n []):=.mk <|
 PS.imp (qV D hc O hg hm (ZL Gf Yy he) hd he hpl)<|by
  rintro Dn Z H ⟨U,H0,W,l,os,S,st,en,h⟩;refine#[by show 1<=ba;decide,?_]
  have h:=h;obtain⟨C',e1,e2⟩:=h H en.fut st;rw[hn]at e1;cases e1;exact e2
def spX(K:ao)(cl:List aE)(C:Calls)(fr:Bool)(n:Nat):Sp:=λvs H Q E=>∃U ds S,St3 K U S H/\Rq U H ds vs/\End K (xwE cl E) (XT fr H) U H Q (C n ds S)
def yw{kk:Nat}{f:aE}{fd:cP}{ps:List bn}(F:FnOk X.prog X.w X.K X.mg X.base (CX1 X.prog X.w) kk f fd ps (spX X.K cl Cc fr n))(hr:Room kk X.A)(hx:QJ (CX1 X.prog X.w) X E)(hw:∀c H,xw c H->xwE cl E c H)(hm:X.mg x=aa (.ref f))(hk:gB X.K (.ref f)=am)(hb:Ue X.K fd ps [])
  (ha:CA X xw Cc (e::es) is)(hg:Gl X x)(hdb:(x == #[11])=aj)(he:aG (e::es) X.env=#[22]::aG es X.env)(hpl:(d7 pos<|aG es X.env).any (·.1)=aj) :
  CE X xw Cc #[21] (.call n is):=.mk <|
 PE.imp (va F hr hg hm hk hb .nil hx ha.h hdb he hpl) λZ H Q #[U,l,S,st,lr,h]=>
  #[U,l,S,st,lr,End.bind (h) λxs S1 ρ1 H1 vs f1 st1 r1 h1=>by
   rw[cz];exact#[ρ1,xs,S1,st1,r1,(End.ex_mono hw h1).fr]]
end
section
variable{P:bv}{w:bO}{K:ao}{mg:bn->Option aw}{base:bZ}{cl:List aE}
def xg{C C':Calls}{n:Nat}{fn:Fn}{fr:Bool}{x qual:bn}{st:eE}{f:aE}{fd:cP}{N ps:List bn}{k:Nat}(hF:∀U S H ds vs,St3 K U S H->Rq U H ds vs->C' n ds S=.no\/C' n ds S=zk C fn ds S)(hns:fn.ns=N.length)(hps:fn.ps=ps.length)(Fu:Fun K x qual st f fd)(S:FnScope N ps (Zg st))
  (hb:∀(cdv:aw)(A:b9)(outer:List Env)(s:ay)(H:Hp)(E:XK),Room k (A.deeper<|d8 qual (Zg st) s.heap.objs.size f cdv)->
   CSs (XW (CX1 P w) P w K mg base N qual (Zg st) f cdv A outer s H E) (xwE cl E) fr C (Pv.muts fn.body) (ZB st) fn.body) :
  FnOk P w K mg base (CX1 P w) (k+1) f fd ps (spX K cl C' fr n):=by
 have eq:∀{U S H ds vs Q E},St3 K U S H->Rq U H ds vs->End K (xwE cl E) (XT fr H) U H Q (C' n ds S)->End K (xwE cl E) (XT fr H) U H Q (zk C fn ds S):=λ{U S H ds vs Q E} st r h=>by
  rcases hF U S H ds vs st r with e|e
  .rw[e]at h;exact h.elim
  .rw[e]at h;exact h
 obtain⟨oc,od,kV,doc,pm,an,cdv,ct,osl,rfl,lk,hcd⟩:=Fu.ex;refine ZeA lk hcd S (λvs H Q E #[U,ds,S,st,r,h]=>?_) λA outer s H vs Q E hr #[U,ds,S',st,r,h]=>#[_,(hb cdv A outer s H E hr).h,U,H,λ_=>ai,Pv.ZN fn.ns ds,[],S',st,Eu.start st r N fn.ns hns,yV (λ_ _ q=>q) (λ_ _ q=>q)<|eq st r h]
 have h:=eq st r h;obtain⟨hl,_⟩:=End.guard h;rw[r.length,hl,hps]
def Zcd :FnOk P w K mg base (CX1 P w) k f fd ps (spX K cl (Pv.Zk F tk 0) fr n):=
 #[λvs H Q E #[U,ds,S,st,r,h]=>False.elim h,by rintro A outer s H args us vs Q E hr e0 hb r ⟨U,ds,S,st,r',h⟩;exact False.elim h]
def Zcf{N:List bn}{qual:bn}{sc:d4}{f:aE}{cdv:aw}{A:b9}{outer:List Env}{s:ay}{H:Hp}{E:XK}:DefX (XW (CX1 P w) P w K mg base N qual sc f cdv A outer s H E) E:=#[rfl,rfl,rfl,rfl]
def Zg5 :QJ (CX1 X.prog X.w) X E0:=by rintro pq Z H s e s' I ⟨_,_,_,_,_,_,_,_,_,_,_,_,_,_,z⟩;exact z.elim
end
end Sd
namespace Sd
open PySem PySem.Spec PyProof.Rows L2 PySem.W
structure ExK(K:Frag)(C:aE):Prop where
 cd:(clsIn K C).isSome=am
 ga:sG K (.ref C) "__getattribute__" = aa (aa<|.builtin "BaseException.__getattribute__")
 gx:sG K (.ref C) "__getattr__" = aa ai
 gc:sG K (.ref C) "__class__" = aa (aa<|.builtin "object.__class__")
 be:mroIn K C (.type "BaseException")=aa am
 ob:mroIn K C (.type "object")=aa am
section
variable{prog:bv}{w:bO}{A:b9}{E:aw->ay->Prop}{h:bZ}{g:Array rZ}{d:Drawn}{t:Nat}{os:OsState}{a C:aE}{o:fH}{K:Frag}
def Zc3{R:se->ay->Prop}(X:K.In h)(k:ExK K C)(hx:h.get? a=aa o)(hc:o.cls=.ref C)(hq:R (.ok<|.ret<|.ref C) #[h,g,d,t,os]) :
  gH #[8] A (.call (.builtin "getset_descriptor.__get__") #[[.builtin "object.__class__",.ref a,.ref C],[]]) R #[h,g,d,t,os]:=by
 have hT5:=iQ;have L1:Looks #[8] h (isSubtype (.ref C)<|.type<|".".intercalate ("object.__class__".cutAt '.').dropLast) am:=by
  rw[F.owner_object_class];exact looks_mroIn X k.ob
 refine gE F.slot_gs_get.plain F.entry_gs_get<|F.slot_gs_get.check _ _ _ _ _ _ _ _ hT5 (F.args_gs_get _ _ _) ?_
 repeat(any_goals (first|assumption|(with_reducible refine gz hx ?_;rw[hc])|with_reducible refine L1.at ?_|wp_step))
 refine#[oN _ #[20],d5 F.entry_object_class ?_]
 repeat(any_goals (first|assumption|(with_reducible refine gz hx ?_;rw[hc])|wp_step))
def uS{Q:Unit->ay->Prop}(X:K.In h)(k:ExK K C)(hx:h.get? a=aa o)(hc:o.cls=.ref C)(hq:Q () #[h,g,d,t,os]) :
  aW M A (mD "BaseException.__getattribute__" #[[.ref a,nameV],[]]) Q E #[h,g,d,t,os]:=by
 have hk:builtinKind "BaseException.__getattribute__" = aa .slot:=by decide +kernel
 have hsplit:splitId "BaseException.__getattribute__" = aa ("BaseException","__getattribute__"):=by decide +kernel
 have L1:Looks M h (isSubtype (.ref C)<|.type "BaseException") am:=looks_mroIn X k.be;have ha:=F.args_bexc_ga (.ref a) nameV;simp only[mD,hk,hsplit];refine ae ?_;unfold isInstance
 repeat(first|(with_reducible refine gz hx ?_;rw[hc])|with_reducible refine L1.at ?_|wp_step)
 exact hq
def u6{Q:Fin->ay->Prop}(X:K.In h)(k:ExK K C)(hx:h.get? a=aa o)(hc:o.cls=.ref C)(hq:Q (.done<|.ret<|.ref C) #[h,g,d,t,os]) :
  aW #[8] A (dG.«object.__getattribute__» #[[.ref a,.str "__class__" tk],[]]) Q E #[h,g,d,t,os]:=by
 have hT5:=iQ;have f5:=iQ;have f6:=F.slot_gs_get.lookup;have f7:=F.slot_gs_set.lookup;have L1:Looks #[8] h (kS (.ref C) "__class__") (aa<|.builtin "object.__class__"):=pD X k.gc
 repeat(any_goals (first|assumption|(with_reducible refine gz hx ?_;rw[hc])|with_reducible refine L1.at ?_|wp_step))
 refine Zc3 X k hx hc ?_
 repeat(any_goals (first|assumption|wp_step))
def ZfW{Q:aw->ay->Prop}(X:K.In h)(k:ExK K C)(hx:h.get? a=aa o)(hc:o.cls=.ref C)(hq:Q (.ref C) #[h,g,d,t,os]) :
  aW #[8] A (getAttrBy (.ref a) (.str "__class__" tk) aj) Q E #[h,g,d,t,os]:=by
 have f3:=PySem.F.excAttr_ValueError.ga.bind<|.ref a;have hx2:(md "BaseException.__getattribute__" == md "object.__getattribute__")=aj:=by decide +kernel
 have hx1:(onTheHeap (cW C)&&md "BaseException.__getattribute__" == md "object.__getattribute__")=aj:=by rw[hx2];rfl
 have L1:Looks #[8] h (kS (.ref C) "__getattribute__") (aa<|.builtin "BaseException.__getattribute__"):=pD X k.ga;have L2:Looks #[8] h (kS (.ref C) "__getattr__") ai:=pD X k.gx
 repeat(any_goals (first|assumption|(with_reducible refine gz hx ?_;rw[hc])|with_reducible refine L1.at ?_|with_reducible refine L2.at ?_|wp_step))
 refine gE PySem.F.excAttr_ValueError.ga.plain F.entry_bexc_ga<|uS X k hx hc<|u6 X k hx hc ?_
 repeat(any_goals (first|assumption|wp_step))
def qU{Q:Option aw->ay->Prop}(X:K.In h)(k:ExK K C)(hx:h.get? a=aa o)(hc:o.cls=.ref C)(hq:Q (aa<|.ref C) #[h,g,d,t+1,os]) :
  aW #[8] A (sB (.ref a) "__class__") Q E #[h,g,d,t,os]:=by
 unfold sB getAttrBy?
 repeat(any_goals (first|assumption|with_reducible apply ZfW X k hx hc|wp_step))
end
def jP{K:Frag}{a C:aE}(k:ExK K C):KitX K (.ref a) (.ref C) (λh=>∃o,h.get? a=aa o/\o.cls=.ref C) where
 ty:=λ_ _ _ #[o,hx,hc]=>hc▸(Looks.ld hx).andThen .now
 it:=λ_ _ X _=>by
  have hcD:=k.cd;unfold clsIn at hcD;split at hcD
  .rename_i c' d' cd' sl' ho
   intro A' Q' E' s' kk q;exact ae<|wpAny_loadPart (kk _ _<|X _ _ ho)<|ax q
  .cases hcD
 ne:=λh tp dd its n sl X htp=>by
  have hcD:=k.cd;refine Bool.eq_false_iff.mpr λq=>?_
  have e:=cW.inj<|beq_iff_eq.mp q;subst e;unfold clsIn at hcD;split at hcD
  .rename_i c' d' cd' sl' ho
   have z:=(X _ _ ho).symm.trans htp;cases z
  .cases hcD
 ca:=λ{_ _ _ _ _ s} X #[o,hx,hc] q=>by obtain⟨h,g,d,t,os⟩:=s;exact qU X k hx hc q
end Sd
namespace Sd
open PySem PySem.Spec PyProof.Rows L2
section
def Inv.slots(D:DefX X E)(I:L2.Inv X pq Z H s)(hh:∀b∈hid,b∈frs X.stack\/(X.s₀.heap.get? b=ai/\H b=ai/\∀p∈X.pn++pq,p.1≠b))
  (st:(fc s.heap hid).StaysIn h')(up:s.heap.UpToSlots h'):L2.Inv X pq Z H {s with heap:=h' }:=by
 have keep:=λb u e n=>st b u<|gU _ e n
 have nof:∀b∈frs X.stack,∀o,s.heap.get? b=aa o->∀vs,o.data≠.fields vs:=λb hb o e=>by
  obtain⟨_,o1,ho,hd⟩:=I.stack.mem hb;rw[e]at ho;cases ho;exact hd
 have frS:=λb hb o e=>up b o e<|nof b hb o e
 have frH:=I.stkFree;have sub:∀b∈X.fs,b∈frs X.stack:=λb hb=>by
  change b∈frs X.outer at hb
  rw[D.st];unfold frs at hb ⊢;rw[cD,D.fr];exact al _ hb
 have own:∀b o,X.s₀.heap.get? b=aa o->b∈frs X.stack->b∈X.fs:=λb o e hb=>by
  rw[D.st]at hb;show b∈frs X.outer;unfold frs at hb ⊢;rw[cD,D.fr]at hb;rcases az.mp hb with z|z
  .exact T7 (aH e) (by rw[z];exact mE I.ok.above)
  .exact z
 have hidN:=λb hb=>(hh b hb).elim (frH b) λz=>z.2.1
 have old:∀b o,X.s₀.heap.get? b=aa o->b∉X.fs->b∉hid:=λb o e hb hm=>by
  rcases hh b hm with z|z
  .exact hb<|own b o e z
  .rw[e]at z;cases z.1
 have U:=I.base;refine#[I.ok,I.os,I.bare,#[λb o e n hb hx=>keep b o (U.keep b o e n hb hx)<|old b o e hb,λb o e n hb hx=>?_,U.free,λb o e hx=>?_,U.tups,U.frzs,U.tbls],?_,λy c e=>?_,I.free,I.freeC,λp hp=>?_,λc o e=>?_,I.len]
 .obtain⟨sl,e1⟩:=U.slot b o e n hb hx
  obtain⟨sl2,e2⟩:=frS b (sub b hb) _ e1;exact#[sl2,e2]
 .obtain⟨o1,e1⟩:=U.there b o e hx
  by_cases hm:b∈frs X.stack
  .obtain⟨sl,e2⟩:=frS b hm o1 e1
   exact#[_,e2]
  .refine#[o1,keep b o1 e1 λz=>?_]
   rcases hh b z with q|q
   .exact hm q
   .rw[e]at q;cases q.1
 .obtain⟨m,hn,hl⟩:=I.loc
  refine#[m,up.ns hn,λi x v e1 e2 e3=>?_]
  obtain⟨u,r,q⟩:=hl i x v e1 e2 e3;refine#[u,r,?_];rcases q with q|⟨k,c,e,z⟩
  .exact .inl q
  .refine .inr #[k,c,e,?_]
   obtain⟨o,ho,hd⟩:=z;obtain⟨sl,e2⟩:=up c o ho λvs q=>by rw[hd]at q;cases q
   exact#[_,e2,hd]
 .obtain⟨v,o,ho,hd⟩:=I.cell y c e
  obtain⟨sl,e2⟩:=up c o ho λvs q=>by rw[hd]at q;cases q
  exact#[v,_,e2,hd]
 .obtain⟨e,n,ne,nf,d⟩:=I.pin p hp
  refine#[keep _ _ e λz=>?_,n,ne,nf,d]
  rcases hh p.1 z with q|q
  .rw[D.st]at q;unfold frs at q;rw[cD,D.fr]at q
   rcases az.mp q with q|q
   .exact ne q
   .exact nf q
  .exact q.2.2 p hp rfl
 .refine(I.hok c o e).stay (λb u hb q=>?_) (λ_ q=>q) λ_ _ q=>q
  have nh:∀b u,H b=aa u->b∉hid:=λb u e hm=>by rw[hidN b hm]at e;cases e
  rcases hb with rfl|hb
  .exact keep _ u q<|nh _ _ e
  .exact keep _ u q<|nh _ _ hb
def Inv.freeze(I:L2.Inv X pq Z H s)(ha:s.heap.get? a=aa o)(Ha:H a=ai)(n0:X.s₀.heap.get? a=ai)(hl:a≠X.env.locals)(hc:∀x c,X.env.cells.lookup x=aa c->c≠a)(hp:∀p∈X.pn++pq,p.1≠a) :
  L2.Inv X pq Z (upd H a<|.frz o<|.own a) s:=by
 have nu:∀b u,H b=aa u->upd H a (.frz o<|.own a) b=aa u:=λb u e=>by rw[Zj λz=>by rw[z,Ha]at e;cases e];exact e
 have nn:∀b,b≠a->H b=ai->upd H a (.frz o<|.own a) b=ai:=λb z e=>by rw[Zj z];exact e
 have U:=I.base;refine#[I.ok,I.os,I.bare,#[U.keep,U.slot,λb o e n hx=>nn b (λz=>by rw[z,n0]at e;cases e)<|U.free b o e n hx,U.there,λb xs e=>nu _ _<|U.tups b xs e,λb o u e=>nu _ _<|U.frzs b o u e,λb ps e=>?_],I.loc,I.cell,nn _ (Ne.symm hl) I.free,λx c e=>nn _ (hc x c e)<|I.freeC x c e,λp hp'=>?_,λc u e=>?_,I.len]
 .obtain⟨more,e1⟩:=U.tbls b ps e
  exact#[more,nu _ _ e1]
 .obtain⟨e,n,r⟩:=I.pin p hp'
  exact#[e,nn _ (hp p hp') n,r]
 .by_cases z:c=a
  .subst z
   rw[Zl]at e;cases e;exact#[ha,_,ha]
  .rw[Zj z]at e
   exact(I.hok c u e).stay (λb v hb q=>q) (λ_ q=>nu _ _ q) λ_ _ q=>nu _ _ q
def ZcP{E:aw->ay->Prop}{Q:Unit->ay->Prop}(I:L2.Inv X pq Z H s)(hN:X.N.Nodup)(hi:X.N[i]?=aa n)(hk:X.env.kindOf n=aa .local)
  (h:∀s',L2.Inv X pq (Z.set i ai) H s'->Q () s'):aW M A (do bindName X.env n .none;unbindBehindTheSuite X.env n pos) Q E s:=by
 obtain⟨m,hn,hl⟩:=id I.loc;have hcls:(X.env.scope.kind == .class||(X.env.scope.kind == .module&&X.env.locals != X.env.globals))=aj:=by rw[I.ok.kind];rfl
 have hiσ:i<Z.length:=by rw[I.len];exact(aK.mp hi).1
 refine wpAny_nameGoes_keeps hk hn hcls λh' v hn' hs=>?_
 obtain⟨oL,_,_,hoL,_⟩:=id hn;have ab:∀b o,X.s₀.heap.get? b=aa o->b≠X.env.locals:=λb o e=>a9<|bo (aH e) I.ok.above
 have U:=I.base;refine h _ #[I.ok,I.os,I.bare,#[λb o e n hb hx=>(hs.2 b<|ab b o e).trans<|U.keep b o e n hb hx,λb o e n hb hx=>?_,U.free,λb o e hx=>?_,U.tups,U.frzs,U.tbls],#[_,hn',λj y v' e1 e2 e3=>?_],λy c e=>?_,I.free,I.freeC,λp hp=>?_,λc o e=>?_,by simpa using I.len]
 .obtain⟨sl,e1⟩:=U.slot b o e n hb hx
  exact#[sl,(hs.2 b<|ab b o e).trans e1]
 .obtain⟨o',e1⟩:=U.there b o e hx
  exact#[o',(hs.2 b<|ab b o e).trans e1]
 .by_cases hj:j=i
  .subst hj
   rw[bg hiσ]at e2;cases e2
  .rw[bf<|Ne.symm hj]at e2
   obtain⟨u',r',q⟩:=hl j y v' e1 e2 e3;refine#[u',r',?_];rcases q with⟨k,e⟩|⟨k,c,e,z⟩
   .refine .inl #[k,?_]
    have:y≠n:=λe=>hj<|Qf hN e1<|e▸hi
    simp[this,e]
   .exact .inr #[k,c,e,z.sameBut hs<|I.cne y c e]
 .obtain⟨w',z⟩:=I.cell y c e
  exact#[w',z.sameBut hs<|I.cne y c e]
 .obtain⟨e,n,ne,nf,d⟩:=I.pin p hp
  exact#[(hs.2 p.1 ne).trans e,n,ne,nf,d]
 .refine(I.hok c o e).stay (λb u hb q=>(hs.2 b λz=>?_).trans q) (λ_ q=>q) λ_ _ q=>q
  subst z;rcases hb with rfl|hb
  .rw[I.free]at e;cases e
  .rw[I.free]at hb;cases hb
noncomputable abbrev Cx.held(X:Cx)(a:aE):Cx:={X with A:=X.A.mark<|aa<|.ref a,calm:=aj,xe:=λ_ _=>False}
theorem Inv.held(I:L2.Inv X pq Z H s):L2.Inv (Cx.held X a) pq Z H s:=
 #[#[I.ok.mod,I.ok.kind,I.ok.glob,I.ok.blt,I.ok.above,I.ok.inj,I.ok.has,I.ok.cab,(λz=>by cases z),I.ok.frames,I.ok.stk,I.ok.exf,I.ok.bs,I.ok.bsz,I.ok.noex,I.ok.exfs,I.ok.funs,I.ok.frf],I.os,I.bare,I.base,I.loc,I.cell,I.free,I.freeC,I.pin,I.hok,I.len]
def Inv.unheld(ok:X.Ok)(I:L2.Inv (Cx.held X a) pq Z H s):L2.Inv X pq Z H s:=
 #[ok,I.os,I.bare,I.base,I.loc,I.cell,I.free,I.freeC,I.pin,I.hok,I.len]
def Zgp{M:Model}{A:b9}{E:aw->ay->Prop}{i:Nat}{x:bn}{pos:gu}{v:V}{Q:aw->ay->Prop}(I:L2.Inv X pq Z H s)(hi:X.N[i]?=aa x)(hv:Vis X.env.scope x)(e:Z[i]?=aa (aa v))(h:∀u,Zx v u->Q u s)
  (hd:(x == #[11])=aj)(hcd:(x == #[19])=aj):aW M A (c6 (.Name x pos) X.env) Q E s:=by
 obtain⟨m,hn,hl⟩:=I.loc;obtain⟨u,r,l⟩:=hl i x v hi e hv;rcases l with⟨hk,hm⟩|⟨hk,c,hc,hcell⟩
 .exact kJ (i9 I.ok.kind hk hn hm<|h u r) hd
 .rcases hk with hk|hk
  .exact kJ (kA I.ok.kind hk hc hcell<|h u r) hd
  .exact kJ (nO I.ok.kind hk hc hcell (h u r) hcd) hd
def ZcW{Dn:Ends}{E1:XK}{g S:aE}{ic ie ir:Nat}{xc n xr xS:bn}{p1 p2 p3 p4 p5 p6 p7 p8 p9:gu}(D:DefX X E)(I:L2.Inv X pq Z H s)(hN:X.N.Nodup)
  (hic:X.N[ic]?=aa xc)(hvc:Vis X.env.scope xc)(hsc:Z[ic]?=aa (aa<|.ref g))(hie:X.N[ie]?=aa n)(hke:X.env.scope.names.lookup n=aa .local)(hir:X.N[ir]?=aa xr)(hlr:X.env.scope.names.lookup xr=aa .local)
  (hgS:Gl X xS)(hmS:X.mg xS=aa (.ref S))(hg:PySem.W.FnAt g s.heap)
  (run:gH #[9] X.A (.call (.ref g) #[[],[]]) (CR (CX1 X.prog X.w) X.stack X.prog X.w H s (λ_ H'=>Dn.nx Z H') E1) s)
  (hE1:∀C H',E1 (.ref C) ai H'->sH X.K (.ref C) (.ref S)=aa am/\∀a oe,H' a=ai->oe.cls=.ref C->Dn.nx (((Z.set ie<|aa<|.ref a).set ir<|aa<|.ref a).set ie ai) (upd H' a<|.frz oe<|.own a))
  (hd1:(xc == #[11])=aj)(hd2:(xc == #[19])=aj)(hd3:(n == #[11])=aj)(hd4:(n == #[19])=aj)(hd5:(xS == #[11])=aj)
  (hs1:fe (.Call (.Name xc p1) [] [] p2) ai p3.line X.env=cS aj)(hs2:fe (.Name n p6) (aa<|.Name xr p5) p7.line X.env=cS aj) :
  aW #[9] X.A (exec (.Try [.Expr (.Call (.Name xc p1) [] [] p2) p3] [.ExceptHandler (aa<|.Name xS p4) (aa n) [.Assign [.Name xr p5] (.Name n p6) p7] p8] [] [] p9) X.env) (SP X pq Dn) X.xe s:=by
 refine wpAny_Try_except<|gG<|wpAny_Expr_any ?_ I.quiet hs1;refine dR ?_;refine Zgp I hic hvc hsc (λu r=>?_) hd1 hd2
 obtain rfl:u=cW g:=r;refine PySem.W.callWith_F0 hg<|ox<|fS run λr s' hq=>?_
 cases r with
 |ok fl=>
  cases fl with
  |ret u=>
   obtain⟨v,H',I',r',q'⟩:=I.after hq;exact fZ<|fZ #[Z,H',I',q']
  |next=>exact False.elim hq
  |brk=>exact False.elim hq
  |cont=>exact False.elim hq
 |error e=>
  obtain⟨a,T,C,H',rfl,os,bare,un,hok,fly,na,nT,Ha,HT,hE⟩:=hq;obtain⟨exm,fin⟩:=hE1 C H' hE;have nx:∀b:aE,b∉([]:List aE):=λb=>by simp
  have hfr:X.A.frames=aa (X.env::X.outer):=by rw[<-D.st];exact I.ok.frames
  have I1:L2.Inv X pq Z H' s':=by
   obtain⟨hh,gg,d,t,os'⟩:=s';obtain rfl:os'=s.os:=os;exact I.call (h':=hh) (g':=gg) (d':=d) (t':=t) un hok bare (λb z=>T7 z #[2])
  let hid:=frs X.stack++[a,T]
  have hin:∀b∈frs X.stack,b∈hid:=λb hb=>dy _ hb
  have old0:∀b,s.heap.get? b=ai->X.s₀.heap.get? b=ai:=λb e=>by
   cases q:X.s₀.heap.get? b with
   |none=>rfl
   |some o=>
    have U1:=I.base;rw[D.ex]at U1;obtain⟨o1,e1⟩:=U1.there b o q<|nx b;rw[e]at e1;cases e1
  have pn:∀b,s.heap.get? b=ai->∀p∈X.pn++pq,p.1≠b:=λb e p hp z=>by
   have:=(I.pin p hp).1;rw[z,e]at this;cases this
  have hhid:∀b∈hid,b∈frs X.stack\/(X.s₀.heap.get? b=ai/\H' b=ai/\∀p∈X.pn++pq,p.1≠b):=λb hb=>by
   rcases cp.mp hb with z|z
   .exact .inl z
   .rcases az.mp z with rfl|z
    .exact .inr #[old0 _ na,Ha,pn _ na]
    .rw[bc.mp z];exact .inr #[old0 _ nT,HT,pn _ nT]
  have FF:s'.heap.FunFrames (fc s'.heap hid) (X.env::X.outer):=by
   rw[<-D.st];exact FunFrames.rebase I1.stack (λb hb o e=>#[o.slots,e]) λb hb=>dv _<|hin b hb
  obtain⟨oe,vs,a0,oT,ts,f1,f2,f3,f4,f5,f6,f7,f8⟩:=fly;refine wpAny_looks_onW hfr D.fr #[λb o e=>im _ e,dv _<|bu _<|ak ..,FF,oe,vs,T,oT,ts,f1,f2,f3,f4,dv _<|bu _<|al _<|ak ..,f5,f6,f7,f8] λh1 held up1=>?_
  refine wpAny_landsW held λh2 fly2 up2=>?_
  have I2:=Inv.slots D I1 hhid fly2.1<|up1.trans up2
  obtain⟨oe2,ge2,ce2⟩:=fly2.there;have K2:=I2.kIn;refine wpAny_handleBy_cons (codeAny_handlers_test<|Vb (Inv.held I2) hgS hmS ?_ hd5) (by intro q;cases q)
  refine(PySem.W.exm_one K2 (ce2▸(PySem.W.Looks.ld ge2).andThen .now) exm).here ?_;refine codeAny_handlers_suite_as ?_;obtain⟨k1,k2,k3,k4⟩:=fly2;refine wpAny_setFlight_noneW k1 k3 k4 λh3 m1 m2 m3 m4=>?_
  have I3:=Inv.slots D I1 hhid m1<|(up1.trans up2).trans λb o e hn=>#[o.slots,m4 b o e hn]
  obtain⟨oe3,vs3,T3,oT3,ts3,ge3,⟨ce3,_⟩,de3,_⟩:=m3;have I4:=Inv.freeze I3 ge3 Ha (old0 _ na)
   (λz=>by
    obtain⟨m,⟨o,es,ep,ho,hd,_⟩,_⟩:=I3.loc;have e1:=ho;rw[<-z,ge3]at e1;cases e1;rw[de3]at hd;cases hd)
   (λx c e z=>by
    obtain⟨v,o,ho,hd⟩:=I3.cell x c e;have e1:=ho;rw[z,ge3]at e1;cases e1;rw[de3]at hd;cases hd) (pn _ na)
  refine Xq I4 hN hie (.inl hke) (v:=.ref a) rfl (λs4 I5=>?_)<|.inr hke
  have hiσ:ie<Z.length:=by rw[I.len];exact(aK.mp hie).1
  refine dH ((Vx<|VG (X:=Cx.held X a) (pos':=p5) hN hir (.inl hlr) (Yq hie (.inl hke) hd3 hd4) hs2<|.inr hlr) pq s4 _ _
   {nx:=λσ' H1=>σ'=(Z.set ie<|aa<|.ref a).set ir (aa<|.ref a)/\H1=upd H' a (.frz oe3<|.own a),rt:=λ_ _=>False} (Inv.held I5) #[.ref a,bg hiσ,rfl,rfl]) (λf s5 hsp=>?_) λ_ _ z=>False.elim z
  cases f with
  |next=>
   obtain⟨σ',H1,J,rfl,rfl⟩:=hsp;exact ZcP (Inv.unheld I.ok J) hN hie hke λs6 I6=>#[_,_,I6,fin a oe3 Ha ce3]
  |ret u=>obtain⟨_,_,_,_,_,z⟩:=hsp;exact z.elim
  |brk=>obtain⟨_,_,_,z⟩:=hsp;exact False.elim z
  |cont=>obtain⟨_,_,_,z⟩:=hsp;exact False.elim z
open Ev (E Sm Fn Bop Cop Ty Bf Mf)
structure Gr(H H':Hp):Prop where
 k:∀b u,H b=aa u->(∀ps,u≠.tbl ps)->H' b=aa u
 t:∀b ps,H b=aa (.tbl ps)->∃qs,H' b=aa (.tbl qs)
def Gr.fut(g:Gr H H'):Fut U H U H':=#[rfl,λa o e=>by
 cases o with
 |tbl ps=>exact .inr<|.inr #[#[ps,rfl],g.t a ps e]
 |_=>exact .inl<|g.k a _ e λps z=>by cases z]
def St3.grow{K:ao}{U:Mx}{S:Zu}{H H':Hp}(st:St3 K U S H)(g:Gr H H')(tb:Tb H'):St3 K U S H':=
 #[st.hk,λa x=>by
  obtain⟨o,e⟩:=kT.mp<|st.xd a x;rcases(g.fut).keep a o e with q|⟨h,_⟩|⟨_,_,q⟩
  .rw[q];intro z;cases z
  .rw[g.k a _ (st.dw a h).1 λps z=>by cases z];intro z;cases z
  .rw[q];exact Option.some_ne_none _,λa h=>#[g.k a _ (st.dw a h).1 λps z=>(by cases z),(st.dw a h).2],tb]
def wC(l:List aw)(h:pO l)(e:kG q (l++[fC a,fC b,c])=aa cv):kG q l=aa cv\/cv=c:=by
 fun_induction pO l with
 |case1=>
  simp only[hU,kG,fC]at e;split at e
  .cases e;exact .inr rfl
  .cases e
 |case2 a' t b' u x rest ih=>
  simp only[List.cons_append,kG]at e ⊢;split at e
  .rename_i z;rw[T9 z];exact .inl e
  .rename_i z;rw[T8 z];exact ih h e
 |case3 l h1 h2=>exact h.elim
section
variable{X:Cx}{E:aw->ay->Prop}{pq:List (aE×fH)}{Z:L2.St}{H:Hp}{s:ay}
theorem Inv.grow(I:L2.Inv X pq Z H s){h':bZ}{tk:sW}{P:aE}{ps more:Array aw}(hP:H P=aa (.tbl ps))(hx:fP P s.heap h')(hT:h'.get? P=aa {cls:=.none,data:=.fields (ps++more)}){new:List (aE×fH)}
  (hn:∀p∈new,s.heap.objs.size<=p.1/\h'.get? p.1=aa p.2)(nd:(new.map (·.1)).Nodup) :
  let H':=new.foldl (λG p=>upd G p.1<|.frz p.2<|.own p.1)<|upd H P<|.tbl<|ps++more
  L2.Inv X pq Z H' {s with heap:=h',toks:=tk}/\Gr H H'/\(∀p∈new,H' p.1=aa (.frz p.2<|.own p.1))/\H' P=aa (.tbl<|ps++more)/\∀b qs,H' b=aa (.tbl qs)->(b=P/\qs=ps++more)\/H b=aa (.tbl qs):=by
 intro H';have hPs:=ZZ.lt<|I.hok P _ hP;have H0:∀b,(∀p∈new,p.1≠b)->H' b=upd H P (.tbl<|ps++more) b:=by
  have gen:∀(l:List (aE×fH))(G:Hp)(b:aE),(∀p∈l,p.1≠b)->l.foldl (λG p=>upd G p.1<|.frz p.2<|.own p.1) G b=G b:=by
   intro l
   induction l with
   |nil=>intro G b _;rfl
   |cons p l ih=>
    intro G b h;rw[dE,ih _ b λq hq=>h q<|al _ hq,Zj<|Ne.symm<|h p<|ak ..]
  exact λb h=>gen new _ b h
 have H1:∀p∈new,H' p.1=aa (.frz p.2<|.own p.1):=by
  have gen:∀(l:List (aE×fH))(G:Hp),(l.map (·.1)).Nodup->∀p∈l,l.foldl (λG p=>upd G p.1<|.frz p.2<|.own p.1) G p.1=aa (.frz p.2<|.own p.1):=by
   intro l
   induction l with
   |nil=>intro G _ p hp;simp at hp
   |cons q l ih=>
    intro G hd p hp;rw[aY,dD]at hd;rw[dE];rcases az.mp hp with rfl|hp
    .have rest:∀(l:List (aE×fH))(G:Hp)(b:aE),b∉l.map (·.1)->l.foldl (λG p=>upd G p.1<|.frz p.2<|.own p.1) G b=G b:=by
      intro l
      induction l with
      |nil=>intro G b _;rfl
      |cons p l ih=>
       intro G b h;rw[aY,az,not_or]at h;rw[dE,ih _ b h.2,Zj h.1]
     rw[rest l _ _ hd.1,Zl]
    .exact ih _ hd.2 p hp
  exact gen new _ nd
 have new0:∀b,b<s.heap.objs.size->∀p∈new,p.1≠b:=λb hb p hp z=>by have q:=(hn p hp).1;rw[z]at q;lia
 have old:∀b u,H b=aa u->b≠P->H' b=aa u:=λb u e z=>by
  rw[H0 b<|new0 b<|ZZ.lt<|I.hok b u e,Zj z];exact e
 have HP:H' P=aa (.tbl<|ps++more):=by rw[H0 P<|new0 P hPs,Zl]
 have cases':∀b u,H' b=aa u->(∃p∈new,p.1=b/\u=.frz p.2 (.own p.1))\/(b=P/\u=.tbl (ps++more))\/(b≠P/\H b=aa u):=λb u e=>by
  by_cases q:∃p∈new,p.1=b
  .obtain⟨p,hp,rfl⟩:=q
   rw[H1 p hp]at e;cases e;exact .inl #[p,hp,rfl,rfl]
  .rw[H0 b λp hp z=>q #[p,hp,z]]at e
   by_cases z:b=P
   .subst z;rw[Zl]at e;cases e;exact .inr<|.inl #[rfl,rfl]
   .rw[Zj z]at e;exact .inr<|.inr #[z,e]
 have gr:Gr H H':=#[λb u e n=>old b u e λz=>(by rw[z,hP]at e;cases e;exact n ps rfl),λb qs e=>by
  by_cases z:b=P
  .subst z;exact#[_,HP]
  .exact#[qs,old b _ e z]]
 refine#[I.un #[λb o e n _ _=>hx b o (λz=>by rw[z,hP]at n;cases n) e,λb o e n _ _=>#[o.slots,hx b o (λz=>by rw[z,hP]at n;cases n) e],λb o e n _=>?_,λb o e _=>?_,λb xs e=>gr.k b _ e (λps z=>by cases z),λb o u e=>gr.k b _ e (λps z=>by cases z),λb qs e=>?_] λb u e=>?_,gr,H1,HP,λb qs e=>?_]
 .rw[H0 b<|new0 b<|aH e,Zj λz=>by rw[z,hP]at n;cases n];exact n
 .by_cases z:b=P
  .subst z;exact#[_,hT]
  .exact#[o,hx b o z e]
 .by_cases z:b=P
  .subst z;rw[hP]at e;cases e;exact#[more,HP]
  .exact#[#[],by rw[old b _ e z];simp]
 .rcases cases' b u e with⟨p,hp,rfl,rfl⟩|⟨rfl,rfl⟩|⟨z,e0⟩
  .exact#[(hn p hp).2,_,(hn p hp).2]
  .exact hT
  .refine(I.hok b u e0).stay (λc v hc q=>hx c v ?_ q) (λc q=>gr.k c _ q λps z=>by cases z) λc xs q=>gr.k c _ q λps z=>by cases z
   rcases hc with rfl|hc
   .exact z
   .intro y;rw[y,hP]at hc;cases hc
 .rcases cases' b _ e with⟨p,hp,rfl,z⟩|⟨rfl,z⟩|⟨z,e0⟩
  .cases z
  .cases z;exact .inl #[rfl,rfl]
  .exact .inr e0
def Tb.grow(tb:Tb H)(g:Gr H H')(hb:∀b rs,H' b=aa (.tbl rs)->(b=P/\rs=qs)\/H b=aa (.tbl rs))(ht:pO qs.toList)
  (hc:∀pos cv,kG pos qs.toList=aa cv->∃(c:aE)(oc:fH)(vs:Array aw)(t:sW),cv=.ref c/\H' c=aa (.frz oc<|.own c)/\oc.data=.fields vs/\vs[1]?=aa (.str YM t)):Tb H':=λb rs e=>by
 rcases hb b rs e with⟨_,rfl⟩|e0
 .exact#[ht,hc]
 .obtain⟨h1,h2⟩:=tb b rs e0
  refine#[h1,λpos cv q=>?_]
  obtain⟨c,oc,vs,t,e1,e2,e3⟩:=h2 pos cv q;exact#[c,oc,vs,t,e1,g.k c _ e2 (λps z=>by cases z),e3]
def ZbS{P c:aE}{ps:Array aw}{params:pI}{body:Expr}{scope:d4}{pos:gu}{clos:List (bn×aE)}{Q:aw->ay->Prop}(I:L2.Inv X pq Z H s)(tb:Tb H)(hP:H P=aa (.tbl ps))(hcode:X.env.code=.ref c)(C:dP X.base c P)(hB:X.base.BuiltinsAt X.mg P)(hgP:bC≠P)
  (hq:X.env.qual++"<lambda>" = YM)(hcl:iU scope X.env=cS clos)(hdef:defaultsOf params X.env=([],[]))
  (h:∀(g c':aE)(oc:fH)(vs:Array aw)(t:sW)(pm ctv:aw)(H':Hp)(s':ay),L2.Inv X pq Z H' s'->Gr H H'->Tb H'->(∃ps',H' P=aa (.tbl ps'))->H' g=aa (.frz (gn "<lambda>" YM params body scope clos pm c' ctv)<|.own g)->
   H' c'=aa (.frz oc<|.own c')->oc.data=.fields vs->vs[1]?=aa (.str YM t)->Q (.ref g) s') :
  aW #[9] X.A (c6 (.Lambda params body scope pos) X.env) Q E s:=by
 refine PySem.W.kla_eval hdef ?_;rw[hq];have hPo:=I.hok P _ hP;obtain⟨ht,hcs⟩:=tb P ps hP;have hg:=I.ok.mod.glob.keeps I.bk;have hBs:s.heap.BuiltinsAt X.mg P:=by
  obtain⟨bm,o,b1,b2,b3,b4,b5,b6⟩:=hB;exact#[bm,o,b1,b2,b3,b4,I.bk _ _ b5,b6]
 cases q:kG pos ps.toList with
 |some cv=>
  obtain⟨c',oc,vs,t,rfl,e2,e3,e4⟩:=hcs pos cv q;refine PySem.W.kla_makeFunctionHit hcl I.ok.glob hg hcode (C.keeps I.bk) hPo ht q hBs λctv h' tk hk hz=>?_
  have kp:∀b o,s.heap.get? b=aa o->(h'.push<|gn "<lambda>" YM params body scope clos ((X.mg "__name__").getD .none) c' ctv).get? b=aa o:=λb o e=>aq _<|hk b o e
  obtain⟨I',gr,n1,hP',tbs⟩:=Inv.grow I hP (λb o _ e=>kp b o e) (by rw[lv];exact kp _ _ hPo)
   (new:=[(h'.objs.size,gn "<lambda>" YM params body scope clos ((X.mg "__name__").getD .none) c' ctv)]) (λp hp=>by
    rw[bc.mp hp];exact#[hz,aI _ rfl]) #[2]
  refine h _ c' oc vs t _ ctv _ _ I' gr (tb.grow gr tbs (by rw[lv];exact ht) λpos' cv' q'=>?_) #[_,hP'] (n1 _<|ak ..) (gr.k _ _ e2 λps z=>by cases z) e3 e4
  rw[lv]at q';obtain⟨c2,oc2,vs2,t2,f1,f2,f3⟩:=hcs pos' cv' q';exact#[c2,oc2,vs2,t2,f1,gr.k _ _ f2 (λps z=>by cases z),f3]
 |none=>
  refine PySem.W.kla_makeFunction hcl I.ok.glob hg hcode (C.keeps I.bk) hPo ht q hgP hBs λc' ctv h' tk hx hge hlt hrec htb=>?_
  obtain⟨c2,oc,vs,t,e2,hoc,hd,hv⟩:=hrec;cases e2;have kp:fP P s.heap (h'.push<|gn "<lambda>" YM params body scope clos ((X.mg "__name__").getD .none) c' ctv):=λb o hb e=>aq _<|hx b o hb e
  have hsz:=cc hge<|gF hlt;obtain⟨I',gr,n1,hP',tbs⟩:=Inv.grow I hP kp (aq _ htb)
   (new:=[(c',oc),(h'.objs.size,gn "<lambda>" YM params body scope clos ((X.mg "__name__").getD .none) c' ctv)]) (λp hp=>by
    rcases az.mp hp with rfl|hp
    .exact#[hge,aq _ hoc]
    .rw[bc.mp hp];exact#[hsz,aI _ rfl]) (dD.mpr #[λz=>T7 (bc.mp z)<|a9 hlt,dD.mpr #[by simp,ny]])
  refine h _ c' oc vs t _ ctv _ _ I' gr (tb.grow gr tbs (by rw[cu];exact TriplesOk_snoc _ _ _ _ ht) λpos' cv' q'=>?_) #[_,hP'] (n1 _<|al _<|ak ..) (n1 _<|ak ..) hd hv
  rw[cu]at q';rcases wC _ ht q' with z|rfl
  .obtain⟨c2,oc2,vs2,t2,f1,f2,f3⟩:=hcs pos' cv' z
   exact#[c2,oc2,vs2,t2,f1,gr.k _ _ f2 (λps z=>by cases z),f3]
  .exact#[c',oc,vs,t,rfl,n1 _<|ak ..,hd,hv]
end
end
section
def cxL(P:bv)(w:bO)(K:ao)(mg:bn->Option aw)(base:bZ)(N:List bn)(scope:d4)(g:aE)(cd:aw)(clos:List (bn×aE))(A:b9)(outer:List Env)(s:ay)(H:Hp)(E:XK):Cx where
 prog:=P
 w:=w
 K:=K
 mg:=mg
 base:=base
 A:=A.deeper<|fX YM scope s.heap.objs.size g cd clos
 N:=N
 s₀:=s
 H₀:=H
 env:=fX YM scope s.heap.objs.size g cd clos
 outer:=outer
 stack:=fX YM scope s.heap.objs.size g cd clos::outer
 ex:=[]
 calm:=am
 fn:=λ_=>aj
 pn:=[]
 xe:=λe s'=>aW (aS P w) (A.deeper<|fX YM scope s.heap.objs.size g cd clos) (leaving (fX YM scope s.heap.objs.size g cd clos) e) (λ_ s''=>CX1 P w outer H s E e s'') (λe' s''=>CX1 P w outer H s E e' s'') s'
section
variable{P:bv}{w:bO}{K:ao}{mg:bn->Option aw}{base:bZ}{N:List bn}{scope:d4}{g c':aE}{clos:List (bn×aE)}{A:b9}{outer:List Env}{s:ay}{H:Hp}{E:XK}
def Zih :DefX (cxL P w K mg base N scope g cd clos A outer s H E) E:=#[rfl,rfl,rfl,rfl]
structure LamS(scope:d4)(clos:List (bn×aE)):Prop where
 kind:scope.kind=.function
 co:scope.isCoroutine=aj
 gen:scope.isGenerator=aj
 nc:∀x∈scope.names,x.2≠.cell
 vis:∀x,Vis scope x->scope.names.lookup x=aa .free
 has:∀x,scope.names.lookup x=aa .free->∃c,clos.lookup x=aa c
 inj:∀x y c,clos.lookup x=aa c->clos.lookup y=aa c->x=y
def Zbr(hr:Room (k+1) A)(e0:Env0 P w K mg base A outer s H)(L:LamS scope clos)
  (hg:s.heap.get? g=aa (gn "<lambda>" YM params body scope clos pm c' ctv))(hcd:s.heap.CodeRec (.ref c') YM)(hbind:nt (sI "<lambda>" YM params body scope clos pm (.ref c') ctv) #[[],[]]=cS [])
  (hcell:∀x c,clos.lookup x=aa c->(∃v,s.heap.IsCell c v)/\H c=ai)(hlen:Z.length=N.length)
  (hval:∀(i:Nat)(x:bn)(v:V),N[i]?=aa x->Z[i]?=aa (aa v)->scope.names.lookup x=aa .free->∃u c,Zx v u/\clos.lookup x=aa c/\s.heap.IsCell c (aa u))
  (hb:PE (cxL P w K mg base N scope g (.ref c') clos A outer s H E) body t)(ht:t Z H Q) :
  gH (aS P w) A (.call (.ref g) #[[],[]]) (CR (CX1 P w) outer P w H s Q E) s:=by
 have lim:=e0.mod.nolimit.keeps λb o e=>(e0.bs b o e).1
 refine PySem.W.kla_callFunE hr.depth hg rfl L.co L.gen rfl hcd ?_;rw[hbind];refine ax<|wpAny_newFunctionEnv L.nc (λx hx=>by simp at hx) (λh1 hns hsb=>?_) L.kind
 have hk1:=λb o e=>hsb.extBut b o (a9<|aH e)<|aq _ e
 refine#[lim.keeps hk1,?_];have noA:∀b:aE,b∉(cxL P w K mg base N scope g (.ref c') clos A outer s H E).ex:=λb z=>T7 (show b∈([]:List aE)from z) #[2]
 have I:L2.Inv (cxL P w K mg base N scope g (.ref c') clos A outer s H E) [] Z H {s with heap:=h1,toks:=s.toks+([]:List (bn×aw)).length}:=by
  refine#[#[e0.mod,L.kind,rfl,rfl,aM _,L.inj,λx hx=>?_,λx c z=>(by cases z),λ_=>hr.hd,nv e0.frames,.inr #[rfl,rfl],λb z=>T7 z<|noA b,e0.bs,e0.bsz,λb _ _=>noA b,λb z=>T7 z<|noA b,e0.funs,e0.frf],
   rfl,e0.bare,Un.kept hk1,#[_,hns,λi x v e1 e2 e3=>?_],λx c e=>?_,e0.hok.fresh<|aM _,λx c e=>(hcell x c e).2,λp hp=>T7 (show p∈([]:List (aE×fH))from hp) #[2],e0.hok.kept hk1,hlen]
  .have hx:=hx
   rcases hx with z|z
   .exact T7 rfl<|L.nc _<|d3 z
   .exact L.has x z
  .have fr:=L.vis x e3
   obtain⟨u,c,r,e,z⟩:=hval i x v e1 e2 fr;refine#[u,r,.inr #[.inr fr,c,e,?_]];obtain⟨o,ho,hd⟩:=z;exact#[o,hk1 _ _ ho,hd]
  .obtain⟨⟨v,o,ho,hd⟩,_⟩:=hcell x c e
   exact#[v,o,hk1 _ _ ho,hd]
 exact PySem.W.kla_codeExpr<|dH (hb [] _ Z H Q I ht) (by rintro u s' ⟨v,H',J,r,q⟩;exact #[v,H',J.os,J.bare,J.base,J.hok,r,q]) λ_ _ y=>y
end
def ZhI(K:ao):List V->Hp->VK->Prop:=λvs H Q=>∃a oe C Dv u b,vs=[.ref a,Dv]/\Zx Dv u/\(∀u',Zx Dv u'->u'=u)/\H a=aa (.frz oe<|.own a)/\oe.cls=.ref C/\ExK K C/\gA K (.ref C) u=aa b/\Q (.bl b) H
def xi:ZE X (.builtin "isinstance") (ZhI X.K):=by
 intro pq s Z H xs us Q I r h;obtain⟨a,oe,C,Dv,u,b,rfl,ru,uq,Ha,ce,k,e,q⟩:=h;cases r with
 |cons ra r=>
  cases r with
  |cons rD r=>
   cases r;cases ra;obtain rfl:=uq _ rD;obtain⟨ge,_⟩:=I.hok a _ Ha;exact dQ (jP k) I.kIn #[oe,ge,ce] e (by intro q;cases q) λtk=>#[.bl b,H,I.tok tk,rfl,q]
def J5:V->List V->Hp->VK->Prop:=λx vs H Q=>∃(l:aE)(bs:List Bool)(j:Nat),x=.ref l/\vs=[.bl am]/\H l=aa (.lst<|bs.map .bl)/\bs[j]?=aa am/\(∀m,m<j->bs[m]?=aa aj)/\Q (.int j) H
theorem wL:∀{bs:List Bool}{us:List aw},Vals (bs.map V.bl) us->us=bs.map bJ
 |[],_,.nil=>rfl
 |b::bs,_,.cons r t=>by cases r;rw[wL t];rfl
def yC:MtM X "list.index" J5:=by
 intro pq s Z H x vs v us Q I rx rv h;obtain⟨l,bs,j,rfl,rfl,hH,hj,hno,q⟩:=h;cases rx;obtain⟨u,rfl,ru⟩:=rv.one;cases ru;obtain⟨z,its,n,r,hl,e⟩:=I.lstM hH;obtain rfl:=wL r;have hjl:=(aK.mp hj).1;have hsz:(bs.map bJ).toArray.size=bs.length:=by simp
 have get:∀m (hm:m<(bs.map bJ).toArray.size),(bs.map bJ).toArray[m]=bJ (bs[m]'(by rw[hsz]at hm;exact hm)):=λm hm=>by simp
 refine io F.slot_list_index #[_,e,rfl] F.entry_list_index (F.args_list_index_2 _ _) (PySem.SeqAt.list_indexAt l (bs.map bJ).toArray n ai #[] (.bool am) (λy=>y == .bool am) j (by rw[hsz];exact hjl) (by
  rw[aA]at z;have:ba=16777216:=rfl;lia) (by rw[get];rw[(aK.mp hj).2];rfl) λm hm hmj=>by
   rw[get];have:=aK.mp<|hno m hmj;rw[this.2];rfl) #[e,λy hy=>?_,?_]
 .obtain⟨b,_,rfl⟩:=aN.mp (List.mem_toArray.mp hy)
  cases b
  .exact lx aj am
  .exact lx am am
 .exact#[.int j,H,I.tok _,#[_,rfl],q]
def Zht{CX:CXT}{P:bv}{w:bO}{K:ao}{mg:bn->Option aw}{base:bZ}{k:Nat}{f:aE}{x qual:bn}{st:eE}{fd:cP}{N ps:List bn}{A:b9}{outer:List Env}{s:ay}{H:Hp}{args:Args}{us:List aw}{vs:List V}{Q:VK}{E:XK}
  (Fu:Fun K x qual st f fd)(S:FnScope N ps (Zg st))(hr:Room (k+1) A)(e0:Env0 P w K mg base A outer s H)(hb:nM s fd args (ps.zip us))(r:Vals vs us)(hl:vs.length=ps.length)
  (hbody:∀(cdv:aw)(s1:ay),Room k (A.deeper<|d8 qual (Zg st) s.heap.objs.size f cdv)->L2.Inv (XW CX P w K mg base N qual (Zg st) f cdv A outer s H E) [] (start N vs) H s1->
   aW (aS P w) (A.deeper<|d8 qual (Zg st) s.heap.objs.size f cdv) (execs (ZB st)<|d8 qual (Zg st) s.heap.objs.size f cdv) (SP (XW CX P w K mg base N qual (Zg st) f cdv A outer s H E) [] {nx:=λ_ H'=>Q .non H',rt:=Q}) (XW CX P w K mg base N qual (Zg st) f cdv A outer s H E).xe s1) :
  gH (aS P w) A (.call (.ref f) args) (CR CX outer P w H s Q E) s:=by
 obtain⟨oc,od,kV,doc,pm,an,cdv,ct,osl,rfl,lk,hcd⟩:=Fu.ex;have KX:=e0.mod.kin.keeps λb o e=>(e0.bs b o e).1
 have lim:=e0.mod.nolimit.keeps λb o e=>(e0.bs b o e).1
 have hkind:∀y∈ps.zip us,(Zg st).names.lookup y.1=aa .local\/((Zg st).names.lookup y.1=aa .cell/\((dN (s.heap.objs.size+1) (Zg st).names []).lookup y.1).isSome=am):=by
  rintro ⟨n,v⟩ hy;rcases S.par n (gf hy).1 with q|q
  .exact .inl q
  .exact .inr #[q,iE _ _ _<|.inl q]
 refine m8 hr.depth (KX _ _ lk) rfl S.co S.gen rfl (oz KX hcd)<|hb _ _ _ _ ?_;refine kN S.kind hkind λenv he s1 x=>?_
 subst he;refine#[lim.keeps x.toInCall.keep,codeAny_func ?_];have I:=Ju (CX:=CX) (E:=E) S hr.hd e0 hl r x;refine dH (hbody cdv s1 (hr.deeper _) I) (λfl s' hs=>?_) λe s' hs=>hs
 cases fl with
 |ret u=>
  obtain⟨v,σ',H',J,rv,q⟩:=hs;exact#[v,H',J.os,J.bare,J.base,J.hok,rv,q]
 |next=>
  obtain⟨σ',H',J,q⟩:=hs;exact#[.non,H',J.os,J.bare,J.base,J.hok,rfl,q]
 |brk=>
  obtain⟨_,_,_,q⟩:=hs;exact False.elim q
 |cont=>
  obtain⟨_,_,_,q⟩:=hs;exact False.elim q
def ur(Pt:aE)(H:Hp):Prop:=H Pt=aa (.tbl #[])/\∀b,b≠Pt->H b=ai\/∃o xs,H b=aa (.frz o<|.lst xs)
def qQ{P:bv}{w:bO}{K:ao}{mg mb:bn->Option aw}{CX:CXT}{k:Nat}{fa a c Pt:aE}{fd:cP}{x:bn}{sp:Sp}{s₁:ay}{vs:List aw}{ns:List Int}
  (KX:K.In s₁.heap)(hns:s₁.heap.Ns bC mg)(hb:s₁.heap.Ns oo mb)(hbb:∀x:bn,x≠"__name__"->mb x=dW x)(hlim:s₁.heap.NoLimit)(hg:s₁.gens = #[])
  (hC:dP s₁.heap c Pt)(hPt:s₁.heap.get? Pt=aa (sJ #[]))(hK:nI K=am)(hB:s₁.heap.BuiltinsAt mg Pt)
  (ha:s₁.heap.get? a=aa {cls:=.type "list",data:=.seq vs.toArray})(hi:iZ vs ns)(hl:ns.length<=ba)(hr:Room k nN)
  (F:∀base:bZ,K.In base->base.Ns bC mg->dP base c Pt->base.BuiltinsAt mg Pt->bC≠Pt->FnOk P w K mg base CX k fa fd [x] sp)(hbind:∀(s:ay)(u:aw),nM s fd #[[u],[]] [(x,u)])
  (hsp:∀H:Hp,ur Pt H->SqL K H a (ns.map V.int)->sp [.ref a] H (λv _=>v=.bl am) λ_ _ _=>False)
  (hCX:∀H e s',CX [] H s₁ (λ_ _ _=>False) e s'->False) :
  gH (aS P w) nN (.call (.ref fa) #[[.ref a],[]]) (λr s'=>r=.ok (.ret<|.bool am)/\OldK s₁.heap s'.heap/\s'.os=s₁.os/\iY s'.gens) s₁:=by
 have rv:=Jn hi;have lenV:=hi.length;have hPa:Pt≠a:=λz=>by rw[z,ha]at hPt;cases hPt
 have hKP:K.lookup Pt=ai:=by
  cases q:K.lookup Pt with
  |none=>rfl
  |some o=>
   have e:=KX Pt o q;rw[hPt]at e;cases e;have h2:=a8.mp hK (Pt,sJ #[])<|PySem.W.mem_of_lookupK q;exact T7 (h2) aR
 have core:∀H:Hp,ur Pt H->SqL K H a (ns.map V.int)->HOk P w H s₁.heap->(∀b,H b≠ai->b=a\/b=Pt)->(H a≠ai->K.lookup a=ai)->
   gH (aS P w) nN (.call (.ref fa) #[[.ref a],[]]) (λr s'=>r=.ok (.ret<|.bool am)/\OldK s₁.heap s'.heap/\s'.os=s₁.os/\iY s'.gens) s₁:=by
  intro H hO hS hok hA hK;have base_of:∀{b:aE}{o:fH},s₁.heap.get? b=aa o->H b=ai->(Q6 s₁.heap H).get? b=aa o:=λe n=>ZaI e n
  have noT:∀{b:aE}{o:fH},s₁.heap.get? b=aa o->b≠a->b≠Pt->H b=ai:=λ{b o} e z1 z2=>by
   cases q:H b with|none=>rfl|some u=>exact((hA b<|by rw[q];simp).elim z1 z2).elim
  have noA:∀{b:aE}{o:fH}{es:Array gL}{ep:Nat},s₁.heap.get? b=aa o->o.data=.dict es ep->H b=ai:=λ{b o es ep} e d=>
   noT e (λz=>by subst z;rw[ha]at e;cases e;cases d) λz=>by subst z;rw[hPt]at e;cases e;cases d
  have nsK:∀{b:aE}{m:bn->Option aw},s₁.heap.Ns b m->(Q6 s₁.heap H).Ns b m:=λ{b m} #[o,es,ep,e,d,r]=>#[o,es,ep,base_of e<|noA e d,d,r]
  have hKb:=λb o e=>base_of (KX b o e) (by
   cases q:H b with
   |none=>rfl
   |some u=>
    rcases hA b (by rw[q];simp)with z|z
    .subst z;rw[hK<|by rw[q];simp]at e;cases e
    .subst z;rw[hKP]at e;cases e)
  have hM:Mod K mg (Q6 s₁.heap H):=#[hKb,nsK hns,#[mb,nsK hb,hbb],let #[mc,h1,h2]:=hlim;#[mc,nsK h1,h2]];have e0:Env0 P w K mg (Q6 s₁.heap H) nN [] s₁ H:=#[rfl,hM,λb o e=>ZcG e,mR<|qy _ _,trivial,λb hb=>T7 (show b∈([]:List aE)from hb) #[2],hok,.of_eq hg]
  have hCb:dP (Q6 s₁.heap H) c Pt:=by
   obtain⟨o,vs',file,tf,flags,tg,inF,text,tt,e1,r1,r⟩:=hC;refine#[o,vs',file,tf,flags,tg,inF,text,tt,base_of e1<|noT e1 (λz=>?_) λz=>?_,r1,r]
   .subst z;rw[ha]at e1;cases e1;exact T7 (sK r1) #[1]
   .subst z;rw[hPt]at e1;cases e1;cases r1
  have hBb:(Q6 s₁.heap H).BuiltinsAt mg Pt:=by
   obtain⟨bm,o,b1,b2,b3,b4,b5,b6,b7,b8⟩:=hB;refine#[bm,o,b1,b2,b3,b4,base_of b5<|noT b5 (λz=>?_) b4,b6,b7,b8]
   subst z;rw[ha]at b5;cases b5;exact T7 (sK b6) #[1]
  have hgP:bC≠Pt:=λz=>by
   obtain⟨o,es,ep,e,d,_⟩:=hns;rw[z,hPt]at e;cases e;cases d
  refine fS ((F _ hKb (nsK hns) hCb hBb hgP).run nN [] s₁ H #[[.ref a],[]] [.ref a] [.ref a] _ _ hr e0 (hbind s₁<|.ref a) (.cons rfl .nil)<|hsp H hO hS) λr s' h=>?_
  cases r with
  |error e=>exact(hCX H e s' h).elim
  |ok fl=>
   cases fl with
   |next=>exact False.elim h
   |brk=>exact False.elim h
   |cont=>exact False.elim h
   |ret u=>
    obtain⟨v,H',os,bare,un,hok',r',q⟩:=h;have q':=q;subst q';obtain rfl:u=bJ am:=r';have keep:=λb o z e=>by
     cases q:H b with
     |none=>exact un.keep b o e q (by intro z;exact T7 (show b∈([]:List aE)from z)<|by simp) #[2]
     |some u=>
      rcases hO.2 b z with z|⟨ob,xs,z⟩
      .rw[q]at z;cases z
      .have z2:=un.frzs b ob _ z
       obtain⟨e1,_⟩:=hok b _ z;obtain⟨e2,_⟩:=hok' b _ z2;rw[e]at e1;cases e1;exact e2
    obtain⟨more,hm⟩:=un.tbls Pt #[] hO.1;have hT':=hok' Pt _ hm;refine#[rfl,#[λb o e=>?_,λb o e=>?_],os,bare]
    .by_cases z:b=Pt
     .subst z
      rw[hPt]at e;cases e;exact .inr<|.inl #[(hC.tab hPt).isCodeTable,rfl,#[],more,rfl,hT']
     .exact .inl<|keep b o z e
    .by_cases z:b=Pt
     .subst z;exact#[_,hT']
     .exact#[o,keep b o z e]
 have tbOk:=hPt
 cases hk:K.lookup a with
 |some o=>
  have e:=KX a o hk;rw[ha]at e;cases e;refine core (upd (λ_=>ai) Pt<|.tbl #[]) #[Zl,λb z=>.inl<|Zj z] (.inr #[_,vs.toArray,_,hk,rfl,rfl,rfl,by rw[aC,lenV];exact hl,by simpa using rv]) (λb u z=>?_) (λb z=>?_) λz=>T7 (Zj<|Ne.symm hPa) z
  .by_cases q:b=Pt
   .subst q;rw[Zl]at z;cases z;exact hPt
   .rw[Zj q]at z;cases z
  .by_cases q:b=Pt
   .exact .inr q
   .exact T7 (Zj q) z
 |none=>
  refine core (upd (λb=>if b=a then aa (.frz {cls:=.type "list",data:=.seq vs.toArray}<|.lst<|ns.map V.int)else ai) Pt<|.tbl #[]) #[Zl,λb z=>?_] (.inl<|.inr #[{cls:=.type "list",data:=.seq vs.toArray},by rw[Zj<|Ne.symm hPa];exact T9 rfl]) (λb u z=>?_) (λb z=>?_) λ_=>hk
  .rw[Zj z]
   by_cases hb:b=a
   .exact .inr #[_,_,T9 hb]
   .exact .inl<|T8 hb
  .by_cases q:b=Pt
   .subst q;rw[Zl]at z;cases z;exact hPt
   .rw[Zj q]at z
    by_cases hb:b=a
    .have z':=(T9 hb).symm.trans z
     cases z';subst hb;exact#[ha,by rw[aA];exact hl,vs,_,rv,ha]
    .have z':=(T8 hb).symm.trans z
     cases z'
  .by_cases q:b=Pt
   .exact .inr q
   .rw[Zj q]at z
    by_cases hb:b=a
    .exact .inl hb
    .exact T7 (T8 hb) z
def jg{l:mZ}{n k:Nat}{q:bv}{loose:List bn}{XP:(bn->Option aw)->bZ->Prop}{YP:bO->bZ->Prop}{d:tG}{K:Params->ao}{CX:bO->CXT}{sp:bO->aE->Sp}{x:bn}{c Pt:aE}{dr:tG}
  (hn:l.most=aa n)(hn2:n<=ba)(hdf:d.params.defaults=[])(hr:Room k nN)
  (hY:∀(w:bO)(h:bZ),YP w h->(K w.params).In h)(hrec:(recsOf q).find? (λe=>e.name == d.name)=aa dr)(ht:∀w:bO,sR (K w.params) d.name=aa (c,Pt))(hK:∀w:bO,nI (K w.params)=am)
  (F:∀(w:bO)(mg:bn->Option aw)(fa:aE)(h:bZ),(K w.params).In h->h.Ns bC mg->mg d.name=aa (.ref fa)->
   ∃fd:cP,(∀(s:ay)(u:aw),nM s fd #[[u],[]] [(x,u)])/\
    ∀base:bZ,(K w.params).In base->base.Ns bC mg->dP base c Pt->base.BuiltinsAt mg Pt->bC≠Pt->FnOk l.prog w (K w.params) mg base (CX w) k fa fd [x] (sp w Pt))
  (hsp:∀(w:bO)(H:Hp)(a:aE)(ns:List Int),ns.length<=n->ur Pt H->SqL (K w.params) H a (ns.map V.int)->sp w Pt [.ref a] H (λv _=>v=.bl am) λ_ _ _=>False)
  (hCX:∀(w:bO)(H:Hp)(s:ay)(e:aw)(s':ay),CX w [] H s (λ_ _ _=>False) e s'->False) :
  sS q loose XP YP l.row.toRowW d [] (λf vs=>sh f vs):=by
 refine Att.yj hn hdf λw s₀ s₁ mg mb fa o pm cd doc a vs ns G Y ho hd hcd hmg hobj hints hlen hg=>?_
 have KX:=hY w _ Y;obtain⟨fd,hb,hF⟩:=F w mg fa _ KX G.T.g hmg;obtain⟨hC,hPt⟩:=PySem.W.tab_of G.T KX hrec<|ht w;obtain⟨bm,ob,b1,b2,b3,b4,b5,b6⟩:=G.T.bmain;have hbP:bm≠Pt:=λz=>by rw[z,hPt]at b3;cases b3;cases b4
 have hbG:bm≠bC:=λz=>by
  obtain⟨o,es,ep,e,hd,_⟩:=G.T.g;rw[z,e]at b3;cases b3;rw[hd]at b6;cases b6
 exact qQ KX G.T.g G.T.b G.T.builtins G.T.nolimit hg hC hPt (hK w) #[bm,ob,b1,b2,hbG,hbP,b3,b4,b5,b6] hobj hints (cc hlen hn2) hr hF hb (λH hO hS=>hsp w H a ns hlen hO hS) λH e s'=>hCX w H s₁ e s'
open Ev (E Sm Fn Bop Cop Ty Bf Mf)
noncomputable def Y6:List bn:=["SpaceError","NoRow","NoPart","NoNumber","NoHeads","NotBeside","NotIn","NoTurn","NoLot","TooMany","BadNote"]
structure Errs(K:ao)(mg:bn->Option aw)(cl:List aE):Prop where
 len:cl.length=11
 nm:∀(j:Nat)(C:aE)(x:bn),cl[j]?=aa C->Y6[j]?=aa x->mg x=aa (.ref C)
 exk:∀(j:Nat)(C:aE),cl[j+1]?=aa C->ExK K C
 one:∀(i j:Nat)(C D:aE),cl[i+1]?=aa C->cl[j+1]?=aa D->gA K (.ref C) (.ref D)=aa (af<|i=j)
 ve:∀(i:Nat)(C:aE),cl[i+1]?=aa C->gA K (.ref C) (.type "ValueError")=aa am
 exm:∀(i:Nat)(C S:aE),cl[i+1]?=aa C->cl[0]?=aa S->sH K (.ref C) (.ref S)=aa am
def tIs(K:ao)(ir:Nat)(Dv:V):TE:=tCB (ZhI K)<|YJ (zg ir)<|YJ (tC Dv) GF
structure ErAt(K:ao)(cl:List aE)(ir c:Nat)(Z:L2.St)(H:Hp):Prop where
 ex:∃a oe C,Z[ir]?=aa (aa<|.ref a)/\H a=aa (.frz oe<|.own a)/\oe.cls=.ref C/\cl[c+1]?=aa C
theorem ErAt.upd{K:ao}{c:Nat}{q:aE}{o:HO}(e:ErAt K cl ir c Z H)(hq:H q=ai):ErAt K cl ir c Z (L2.upd H q o):=by
 obtain⟨a,oe,C,h1,h2,h3⟩:=e.ex;exact#[a,oe,C,h1,by rw[Zj λz=>by rw[z,hq]at h2;cases h2];exact h2,h3]
def ErAt.wr{K:ao}{c:Nat}{q:aE}{xs:List V}{o:HO}(e:ErAt K cl ir c Z H)(hq:H q=aa (.lst xs)):ErAt K cl ir c Z (L2.upd H q o):=by
 obtain⟨a,oe,C,h1,h2,h3⟩:=e.ex;exact#[a,oe,C,h1,by rw[Zj λz=>by rw[z,hq]at h2;cases h2];exact h2,h3]
theorem ErAt.set{K:ao}{c j:Nat}{v:V}(e:ErAt K cl ir c Z H)(hj:ir≠j):ErAt K cl ir c (Z.set j<|aa v) H:=by
 obtain⟨a,oe,C,h1,h2⟩:=e.ex;exact#[a,oe,C,by rw[bf<|Ne.symm hj];exact h1,h2]
def Xm{K:ao}{mg:bn->Option aw}{c j:Nat}{Dj:aE}(R:Errs K mg cl)(e:ErAt K cl ir c Z H)(hj:cl[j+1]?=aa Dj)(q:Q (.bl<|af<|c=j) H):tIs K ir (.ref Dj) Z H Q:=by
 obtain⟨a,oe,C,h1,h2,h3,h4⟩:=e.ex;exact#[.ref a,h1,a,oe,C,.ref Dj,.ref Dj,af<|c=j,rfl,rfl,λu' r=>r,h2,h3,R.exk c C h4,R.one c j C Dj h4 hj,q]
def Zfm{K:ao}{mg:bn->Option aw}{c:Nat}(R:Errs K mg cl)(e:ErAt K cl ir c Z H)(q:Q (.bl am) H):tIs K ir (.ty "ValueError") Z H Q:=by
 obtain⟨a,oe,C,h1,h2,h3,h4⟩:=e.ex;exact#[.ref a,h1,a,oe,C,.ty "ValueError",.type "ValueError",am,rfl,rfl,λu' r=>r,h2,h3,R.exk c C h4,R.ve c C h4,q]
def Zhi(hi:X.N[ir]?=aa xr)(hv:Vis X.env.scope xr)(hg0:Gl X "isinstance")(hm0:X.mg "isinstance" = ai)(hg:Gl X x)(hm:X.mg x=aa (.ref Dj))(hd1:(xr == #[11])=aj)(hd2:(xr == #[19])=aj)(hd3:(x == #[11])=aj)
  (hs:aG [.Name xr p1,.Name x p2] X.env=(aj,c6 (.Name xr p1) X.env)::aG [.Name x p2] X.env:=by rfl)(hs2:aG [.Name x p2] X.env=(aj,c6 (.Name x p2) X.env)::aG [] X.env:=by rfl)(hpl:(d7 pos<|aG [.Name x p2] X.env).any (·.1)=aj:=by rfl) :
  PE X (.Call (.Name "isinstance" p) [.Name xr p1,.Name x p2] [] pos) (tIs X.K ir<|.ref Dj):=
 Wm xi hg0 hm0 rfl (ZL (Yq hi hv hd1 hd2) (ZL (ZcD hg hm rfl hd3) Yy hs2) hs) #[1] #[1] hs hpl
def Zfb(hi:X.N[ir]?=aa xr)(hv:Vis X.env.scope xr)(hg0:Gl X "isinstance")(hm0:X.mg "isinstance" = ai)(hg:Gl X "ValueError")(hm:X.mg "ValueError" = ai)(hd1:(xr == #[11])=aj)(hd2:(xr == #[19])=aj)
  (hs:aG [.Name xr p1,.Name "ValueError" p2] X.env=(aj,c6 (.Name xr p1) X.env)::aG [.Name "ValueError" p2] X.env:=by rfl)(hs2:aG [.Name "ValueError" p2] X.env=(aj,c6 (.Name "ValueError" p2) X.env)::aG [] X.env:=by rfl)(hpl:(d7 pos<|aG [.Name "ValueError" p2] X.env).any (·.1)=aj:=by rfl) :
  PE X (.Call (.Name "isinstance" p) [.Name xr p1,.Name "ValueError" p2] [] pos) (tIs X.K ir<|.ty "ValueError"):=
 Wm xi hg0 hm0 rfl (ZL (Yq hi hv hd1 hd2) (ZL (vM hg hm rfl rfl) Yy hs2) hs) #[1] #[1] hs hpl
def Vt(K:ao)(ir is:Nat)(cl:List aE)(ts:TT)(rb:TE)(fin:TS):TS:=
 let I:=λj=>tIs K ir<|.ref<|cl.getD (j+1) 0
 zu (Zgc (tB<|ZhV<|zg ir) (Za5<|tC .non) jr) (zu (xU (qN<|YJ (I 0)<|YJ (I 1)<|YJ (I 2) GF)<|QN is)
  (zu (xU (tOp ZdT (zg is)<|qN<|YJ (I 3)<|YJ (I 4)<|YJ (I 5) GF)<|QN is) (zu (xU (tOp ZdT (zg is)<|qN<|YJ (I 6)<|YJ (I 7)<|YJ (I 8) GF)<|QN is)
   (zu (ZeK<|tBM K "list" vc (zg is)<|YJ (I 9) GF)<|zu (Zgc (tOr (ZhF<|tB<|tIs K ir<|.ty "ValueError") ts) (Za5 rb) jr) fin))))
def xE{K:ao}{ts:TT}{rb:TE}{fin:TS}{Dn:Ends}(h:Z[ir]?=aa (aa .non))(q:Dn.rt .non H):Vt K ir is cl ts rb fin Dn Z H:=by
 refine#[.non,h,am,rfl,?_]
 change (if am=am then _ else _)
 rw[T9 rfl];exact q
def JP(xs:List V):∀ps,HO.lst xs≠.tbl ps:=λ_ z=>by cases z
noncomputable def ZX(c:Nat):List Bool:=(aP 10).map λj=>af<|c=j
def Zag:∀c,c<10->(ZX c)[c]?=aa am:=by decide
def Za6:∀c,c<10->∀m,m<c->(ZX c)[m]?=aa aj:=by decide
theorem vj :∀(bs:List Bool),Rq U H (bs.map Pv.V.bl) (bs.map V.bl)
 |[]=>Rq.nil
 |b::bs=>Rq.cons (Yc b)<|vj bs
def upd2{H:Hp}{p:aE}{o u:HO}:upd (upd H p o) p u=upd H p u:=by
 funext b
 by_cases z:b=p
 .subst z;rw[Zl,Zl]
 .rw[Zj z,Zj z,Zj z]
def qz{K:ao}{mg:bn->Option aw}{ts:TT}{rb:TE}{fi:TS}{Dn:Ends}{c:Nat}{U:Mx}{S:Zu}(R:Errs K mg cl)(hc:c<10)(e:ErAt K cl ir c Z H)(hne:ir≠is)(hsl:is<Z.length)(st:St3 K U S H)
  (hts:∀(σ':L2.St)(H':Hp)(p:aE)(Q':Bool->Hp->Prop),σ'[is]?=aa (aa<|.ref p)->H' p=aa (.lst<|(ZX c).map .bl)->¬U.X p->St3 K U S H'->(∀H2,Fut U H' U H2->St3 K U S H2->Q' aj H2)->ts σ' H' Q')
  (fin:∀(σ':L2.St)(H':Hp)(q:aE),σ'[is]?=aa (aa<|.ref q)->σ'.length=Z.length->H' q=aa (.lst<|(ZX c).map .bl)->Fut U H U H'->St3 K U S H'->fi Dn σ' H'):Vt K ir is cl ts rb fi Dn Z H:=by
 have cj:∀j,j<10->cl[j+1]?=aa (cl.getD (j+1) 0):=λj hj=>by
  have hl:j+1<cl.length:=by rw[R.len];lia
  rw[ag hl,aD,ag hl];rfl
 obtain⟨a,oe,C,h1,h2,h3,h4⟩:=id e.ex;refine#[.ref a,h1,aj,rfl,?_]
 change (if aj=am then _ else _)
 rw[T8 aR]
 let A1:HO:=.lst [.bl<|af<|c=0,.bl<|af<|c=1,.bl<|af<|c=2]
 let A2:HO:=.lst [.bl<|af<|c=3,.bl<|af<|c=4,.bl<|af<|c=5]
 let A3:HO:=.lst [.bl<|af<|c=0,.bl<|af<|c=1,.bl<|af<|c=2,.bl<|af<|c=3,.bl<|af<|c=4,.bl<|af<|c=5]
 let A4:HO:=.lst [.bl<|af<|c=6,.bl<|af<|c=7,.bl<|af<|c=8]
 let L5:List Bool:=[af<|c=0,af<|c=1,af<|c=2,af<|c=3,af<|c=4,af<|c=5,af<|c=6,af<|c=7,af<|c=8]
 let A5:HO:=.lst<|L5.map .bl
 let A6:HO:=.lst<|(ZX c).map .bl
 have neq:∀{G:Hp}{b d:aE}{u:HO},G b=aa u->G d=ai->b≠d:=λh1 h2 z=>by rw[z,h2]at h1;cases h1
 refine Xm R e (cj 0<|by lia)<|Xm R e (cj 1<|by lia)<|Xm R e (cj 2<|by lia) #[by show 3<=ba;decide,λq1 hq1=>?_]
 have e1:=(e.upd (o:=A1) hq1).set (v:=.ref q1) hne;have st1:=st.fresh (o:=A1) hq1<|JP _;have f1:Fut U H U (upd H q1 A1):=Zv hq1;have g1:upd H q1 A1 q1=aa A1:=Zl;have l1:(Z.set is<|aa<|.ref q1).length=Z.length:=bG;refine#[.ref q1,bg hsl,?_];refine Xm R e1 (cj 3<|by lia)<|Xm R e1 (cj 4<|by lia)<|Xm R e1 (cj 5<|by lia) #[by show 3<=ba;decide,λq2 hq2=>?_]
 have g2:upd (upd H q1 A1) q2 A2 q1=aa A1:=by rw[Zj<|neq g1 hq2];exact g1
 have st2:=st1.fresh (o:=A2) hq2<|JP _;have f2:Fut U H U (upd (upd H q1 A1) q2 A2):=f1.trans<|Zv hq2;refine#[q1,q2,_,_,rfl,rfl,g2,Zl,by show 6<=ba;decide,λq3 hq3=>?_]
 let H3:=upd (upd (upd H q1 A1) q2 A2) q3 A3
 have e3:=((e1.upd hq2).upd (o:=A3) hq3).set (v:=.ref q3) hne;have st3:=st2.fresh (o:=A3) hq3<|JP _;have f3:Fut U H U H3:=f2.trans<|Zv hq3;have g3:H3 q3=aa A3:=Zl;have l3:((Z.set is<|aa<|.ref q1).set is<|aa<|.ref q3).length=Z.length:=by rw[bG,l1]
 refine#[.ref q3,bg (by rw[l1];exact hsl),?_]
 refine Xm R e3 (cj 6<|by lia)<|Xm R e3 (cj 7<|by lia)<|Xm R e3 (cj 8<|by lia) #[by show 3<=ba;decide,λq4 hq4=>?_]
 have g4:upd H3 q4 A4 q3=aa A3:=by rw[Zj<|neq g3 hq4];exact g3
 have st4:=st3.fresh (o:=A4) hq4<|JP _;have f4:Fut U H U (upd H3 q4 A4):=f3.trans<|Zv hq4;refine#[q3,q4,_,_,rfl,rfl,g4,Zl,by show 9<=ba;decide,λq5 hq5=>?_]
 let H5:=upd (upd H3 q4 A4) q5 A5
 let σ5:=((Z.set is<|aa<|.ref q1).set is<|aa<|.ref q3).set is<|aa<|.ref q5
 have e5:=((e3.upd (o:=A4) hq4).upd (o:=A5) hq5).set (j:=is) (v:=.ref q5) hne;have l5:σ5.length=Z.length:=by rw[bG,l3]
 have v5:σ5[is]?=aa (aa<|.ref q5):=bg (by rw[l3];exact hsl)
 have g5:H5 q5=aa A5:=Zl;refine#[.ref q5,v5,.inl #[rfl,_,SqL.of g5],?_];refine Xm R e5 (cj 9<|by lia) #[q5,_,_,rfl,rfl,g5,by show 9<ba;decide,?_]
 let H6:=upd H5 q5 A6
 have h6:H6=upd (upd H3 q4 A4) q5 A6:=upd2;have st6:St3 K U S H6:=by rw[h6];exact st4.fresh (o:=A6) hq5<|JP _
 have f6:Fut U H U H6:=by rw[h6];exact f4.trans<|Zv hq5
 have e6:ErAt K cl ir c σ5 H6:=e5.wr g5;have g6:H6 q5=aa A6:=Zl;have nx5:=st4.nx hq5;refine Zfm R e6 #[am,rfl,?_]
 change (if aj=am then _ else _)
 rw[T8 aR];refine hts σ5 H6 q5 _ v5 g6 nx5 st6 λH7 f7 st7=>?_
 change (if aj=am then _ else _)
 rw[T8 aR];exact fin σ5 H7 q5 v5 l5 (vd f7 nx5 g6) (f6.trans f7) st7
def rbI:TE:=tUn (rU λi=>.int<|-i)<|tC<|.int 1
def ZfX(K:ao)(is:Nat):TS:=Za5<|tBM K "list" J5 (zg is)<|YJ (tC<|.bl am) GF
def ZdJ{K:ao}{c:Nat}{Dn:Ends}{q:aE}(hc:c<10)(v:Z[is]?=aa (aa<|.ref q))(h:H q=aa (.lst<|(ZX c).map .bl))(k:Dn.rt (.int c) H):ZfX K is Dn Z H:=
 #[.ref q,v,.inl #[rfl,_,SqL.of h],q,ZX c,c,rfl,rfl,h,Zag c hc,Za6 c hc,k]
noncomputable def tWs:List bn->TA
 |[]=>GF
 |w::ws=>YJ (tC<|.str w)<|tWs ws
theorem jf{Q:List V->Hp->Prop}:∀{ws:List bn} ,Q (ws.map .str) H->tWs ws Z H Q
 |[],h=>h
 |w::ws,h=>jf (ws:=ws) h
def Zfz(K:ao)(is iw:Nat):TS:=zu (xU (qN<|tWs Ev.Wd)<|QN iw)<|Za5<|tOp (Zhh K) (zg iw)<|tBM K "list" J5 (zg is)<|YJ (tC<|.bl am) GF
def Zbx:∀c:Nat,c<10->atI (Ev.Wd.map V.str) (c:Int)=aa (.str<|Ev.Wd.getD c ""):=by decide +kernel
def Zda{K:ao}{c iw:Nat}{Dn:Ends}{q:aE}{U:Mx}{S:Zu}(hc:c<10)(v:Z[is]?=aa (aa<|.ref q))(hw:iw<Z.length)(hne:iw≠is)(h:H q=aa (.lst<|(ZX c).map .bl))(st:St3 K U S H)(k:∀H',Fut U H U H'->St3 K U S H'->Dn.rt (.str<|Ev.Wd.getD c "") H'):Zfz K is iw Dn Z H:=by
 refine jf #[by decide,λp hp=>?_]
 have hqp:q≠p:=λz=>by rw[z,hp]at h;cases h
 have h1:upd H p (.lst<|Ev.Wd.map V.str) q=aa (.lst<|(ZX c).map .bl):=by rw[Zj hqp];exact h
 refine#[.ref p,bg hw,.ref q,by rw[bf hne];exact v,.inl #[rfl,_,SqL.of h1],q,ZX c,c,rfl,rfl,h1,Zag c hc,Za6 c hc,p,_,_,_,rfl,rfl,SqL.of Zl,Zbx c hc,?_]
 exact k _ (Zv hp)<|st.fresh hp<|JP _
structure LamIn(X:Cx)(scope:d4)(clos:List (bn×aE)):Prop where
 S:LamS scope clos
 cl:∀x c,clos.lookup x=aa c->X.env.cells.lookup x=aa c
 kd:∀x,scope.names.lookup x=aa .free->X.env.scope.names.lookup x=aa .cell
section
variable{X:Cx}{E:XK}{cl:List aE}{Cc:Calls}{i:Ev.E}{xw:Nat->Hp->Prop}
def vR(w:Bool)(c:Nat):V:=if w then .str (Ev.Wd.getD c "")else .int c
def ZfP(w:Bool)(c:Nat):Rep U H (Pv.Zak w c) (vR w c):=by
 cases w
 .exact ZM _
 .exact vg _
theorem Zdk{wd:Bool}{rb:TE}{fi:TS}{k:Nat}{f P c S0:aE}{fd:cP}{xf xc xr n xS:bn}{st:eE}{Nr:List bn}{ic ie ir is:Nat}{params:pI}{body:Expr}{scope:d4}{lp p pos p0 p1 p2 p3 p4 p5 p6 p7 p8 p9 q0 q1:gu}{j0:Nat}{clos:List (bn×aE)}{rest:List eE}{ts:Cx->TT}
  (D:DefX X E)(hfn:∀x,X.fn x=am)(hr:Room (k+2) X.A)(R:Errs X.K X.mg cl)(hS0:cl[0]?=aa S0)
  (hP:∃ps,X.H₀ P=aa (.tbl ps))(hcode:X.env.code=.ref c)(C:dP X.base c P)(hB:X.base.BuiltinsAt X.mg P)(hgP:bC≠P)(hq:X.env.qual++"<lambda>" = YM)(hcl:iU scope X.env=cS clos)(hdef:defaultsOf params X.env=([],[]))(L:LamIn X scope clos)
  (hbind0:∀pm c' ctv,nt (sI "<lambda>" YM params body scope clos pm (.ref c') ctv) #[[],[]]=cS [])
  (hbody:∀(g:aE)(c':aE)(A:b9)(outer:List Env)(s:ay)(H:Hp)(E1:XK),Room k (A.deeper<|fX YM scope s.heap.objs.size g (.ref c') clos)->CE (cxL X.prog X.w X.K X.mg X.base X.N scope g (.ref c') clos A outer s H E1) (xwE cl E1) Cc body i)
  (hg:Gl X xf)(hm:X.mg xf=aa (.ref f))(hk:gB X.K (.ref f)=am)(Fu:Fun X.K xf xf st f fd)(Sc:FnScope Nr [xc] (Zg st))(hb:Ue X.K fd [xc] [])(hdb:(xf == #[11])=aj)
  (he:aG [.Lambda params body scope lp] X.env=(aj,c6 (.Lambda params body scope lp) X.env)::aG [] X.env)(hpl:(d7 pos<|aG [] X.env).any (·.1)=aj)
  (hst:ZB st=.Assign [.Name xr p0] (.Constant .none j0 q0) q1 :: .Try [.Expr (.Call (.Name xc p1) [] [] p2) p3] [.ExceptHandler (aa<|.Name xS p4) (aa n) [.Assign [.Name xr p5] (.Name n p6) p7] p8] [] [] p9::rest)
  (hN:Nr.Nodup)(hic:Nr[ic]?=aa xc)(hic0:ic=0)(hie:Nr[ie]?=aa n)(hir:Nr[ir]?=aa xr)(his:is<Nr.length)(hne:ir≠is)(hne2:ir≠ie)(hne3:ir≠0)
  (hkc:(Zg st).names.lookup xc=aa .local)(hke:(Zg st).names.lookup n=aa .local)(hkr:(Zg st).names.lookup xr=aa .local)(hkS:∀L f cdv,(d8 xf (Zg st) L f cdv).kindOf xS=aa .globalImplicit)(hmS:X.mg xS=aa (.ref S0))
  (hd1:(xc == #[11])=aj)(hd2:(xc == #[19])=aj)(hd3:(n == #[11])=aj)(hd4:(n == #[19])=aj)(hd5:(xS == #[11])=aj)
  (hs0:∀L f cdv,fe (.Constant .none j0 q0) (aa<|.Name xr p0) q1.line (d8 xf (Zg st) L f cdv)=cS aj)(hs1:∀L f cdv,fe (.Call (.Name xc p1) [] [] p2) ai p3.line (d8 xf (Zg st) L f cdv)=cS aj)
  (hs2:∀L f cdv,fe (.Name n p6) (aa<|.Name xr p5) p7.line (d8 xf (Zg st) L f cdv)=cS aj)
  (hrest:∀(cdv:aw)(A:b9)(outer:List Env)(s:ay)(H:Hp),Room (k+1) (A.deeper<|d8 xf (Zg st) s.heap.objs.size f cdv)->
   PSs (XW (CX1 X.prog X.w) X.prog X.w X.K X.mg X.base Nr xf (Zg st) f cdv A outer s H E0) rest (Vt X.K ir is cl (ts<|XW (CX1 X.prog X.w) X.prog X.w X.K X.mg X.base Nr xf (Zg st) f cdv A outer s H E0) rb fi))
  (hts:∀(Y:Cx)(U:Mx)(S:Zu)(e:Nat)(σ':L2.St)(H':Hp)(q:aE)(Q':Bool->Hp->Prop),Y.K=X.K->e<10->σ'[is]?=aa (aa<|.ref q)->H' q=aa (.lst<|(ZX e).map .bl)->¬U.X q->St3 X.K U S H'->(∀H2,Fut U H' U H2->St3 X.K U S H2->Q' aj H2)->ts Y σ' H' Q')
  (hfi:∀(Dn:Ends)(σ':L2.St)(U:Mx)(H':Hp)(S:Zu)(e:Nat)(q:aE),e<10->σ'[is]?=aa (aa<|.ref q)->σ'.length=Nr.length->H' q=aa (.lst<|(ZX e).map .bl)->St3 X.K U S H'->(∀H2,Fut U H' U H2->St3 X.K U S H2->Dn.rt (vR wd e) H2)->fi Dn σ' H') :
  CE X xw Cc (.Call (.Name xf p) [.Lambda params body scope lp] [] pos) (.refu wd i):=.mk <| by
 rintro pq s Z H Q I ⟨U,l,S,st0,lr,h⟩
 obtain⟨ps0,hP0⟩:=hP;obtain⟨more,hPH⟩:=I.base.tbls P ps0 hP0;refine dR<|Vb I hg hm ?_ hdb;refine oy (h₀:=X.base) I.ok.mod.kin hk ?_ he hpl;rw[he];refine Calls.spliced_cons<|ZbS I st0.tb hPH hcode C hB hgP hq hcl hdef λg c' oc vs t pm ctv H1 s1 I1 gr tb1 _ hg1 hc1 d1 v1=>Calls.spliced_nil #[I1.kIn,?_]
 have nx:∀b:aE,b∉([]:List aE):=λb=>by simp
 have hbd:=hb s1 [.ref g] I1.kIn rfl;have st1:=st0.grow gr tb1;have f1:Fut U H U H1:=gr.fut;refine ox<|fS (Zht (CX:=CX1 X.prog X.w) (k:=k+1) (Q:=Q) (E:=E0) (us:=[.ref g]) (vs:=[.ref g]) Fu Sc hr I1.env0 (by simpa using hbd) (.cons rfl .nil) rfl λcdv s2 hrm I2=>?_) λr s' hq=>?_
 rotate_left
 .cases r with
  |error e=>obtain⟨_,_,_,_,_,_,_,_,_,_,_,_,_,_,z⟩:=hq;exact z.elim
  |ok fl=>
   cases fl with|ret u=>exact I1.after hq|next=>exact False.elim hq|brk=>exact False.elim hq|cont=>exact False.elim hq
 rw[hst]
 let Xr:=XW (CX1 X.prog X.w) X.prog X.w X.K X.mg X.base Nr xf (Zg st) f cdv X.A X.stack s1 H1 E0
 let D0:Ends:={nx:=λ_ H'=>Q .non H',rt:=Q}
 let σ2:L2.St:=(start Nr [.ref g]).set ir<|aa .non
 have b0:=VG (X:=Xr) (pos:=q1) (pos':=p0) hN hir (.inl hkr) (xQ (j:=j0) (pos:=q0)) (hs0 _ _ _)<|.inr hkr;refine gG<|thn (b0 [] s2 _ H1 {nx:=λσ' H'=>σ'=σ2/\H'=H1,rt:=λ_ _=>False} I2 #[rfl,rfl]) λfl s3 hq3=>?_
 cases fl with
 |ret v=>obtain⟨_,_,_,_,_,z⟩:=hq3;exact z.elim
 |brk=>obtain⟨_,_,_,z⟩:=hq3;exact False.elim z
 |cont=>obtain⟨_,_,_,z⟩:=hq3;exact False.elim z
 |next=>
 obtain⟨σx,Hx,I3,z1,z2⟩:=hq3;rw[z1,z2]at I3
 let E1:XK:=λCv _ H'=>∃e Ce S' ρ',Cv=.ref Ce/\cl[e]?=aa Ce/\Pv.pv Cc i l S=.ex e S'/\Fut U H1 ρ' H'/\St3 X.K ρ' S' H'
 have hl0:0<Nr.length:=by have:=(aK.mp hic).1;lia
 have hσl:σ2.length=Nr.length:=I3.len;have hirl:ir<σ2.length:=by rw[hσl];exact(aK.mp hir).1
 have hσ0:σ2[ic]?=aa (aa<|.ref g):=by
  rw[hic0,bf hne3];rfl
 have hσr:σ2[ir]?=aa (aa .non):=bg (by simpa[σ2]using hirl)
 have og:=(I3.hok g _ hg1).1;have oc':=(I3.hok c' _ hc1).1;have notin:∀x c0,X.env.cells.lookup x=aa c0->c0∉frs X.stack:=λx c0 hx hb=>by
  rw[D.st]at hb;unfold frs at hb;rw[cD,D.fr]at hb;rcases az.mp hb with z|z
  .exact I1.cne x c0 hx z
  .obtain⟨_,o,ho,_⟩:=I1.ok.funs.mem z
   exact T7 (aH ho)<|mE<|I1.ok.cab x c0 (hfn x) hx
 have cellKeep:∀x c0 v,X.env.cells.lookup x=aa c0->s1.heap.IsCell c0 v->s3.heap.IsCell c0 v:=λx c0 v hx #[o,ho,hd]=>
  #[o,I3.base.keep c0 o ho (I1.freeC x c0 hx) (notin x c0 hx)<|nx c0,hd]
 have hEnd:End X.K (xwE cl E1) Rep U H1 (λ_ H'=>Vt X.K ir is cl (ts Xr) rb fi D0 σ2 H') (Pv.pv Cc i l S):=by
  have h:End X.K xw Rep U H Q (match Pv.pv Cc i l S with
   |.ok _ S=>.ok .non S
   |.ex c S=>if 1<=c/\c<=10 then .ok (Pv.Zak wd<|c-1) S else .no
   |.no=>.no):=by
   have h0:=h;rw[Pv.ZfS]at h0;exact h0
  cases q:Pv.pv Cc i l S with
  |no=>rw[q]at h;exact h.elim
  |ok d S'=>
   rw[q]at h;exact λρ' H' v f st' r=>xE hσr<|h ρ' H' .non (f1.trans f) st' UG
  |ex e S'=>
   rw[q]at h;have hg:=(End.guard h).1;intro ρ' H' f st';have he:e<cl.length:=by rw[R.len];lia
   exact#[cl[e],ag he,e,cl[e],S',ρ',rfl,ag he,q,f,st']
 refine gG<|thn (ZcW (X:=Xr) (E:=E0) (Dn:={nx:=λσ' H'=>Vt X.K ir is cl (ts Xr) rb fi D0 σ' H',rt:=λ_ _=>False}) (E1:=E1) (S:=S0) (ic:=ic) (ie:=ie) (ir:=ir) Zcf I3 hN hic (.inl hkc) hσ0 hie hke hir hkr (hkS _ _ _) hmS #[_,_,_,_,og] ?run ?e1 hd1 hd2 hd3 hd4 hd5 (hs1 _ _ _)<|hs2 _ _ _) λfl s4 hq4=>?_
 case run=>
  exact Zbr (k:=k) (N:=X.N) (Z:=Z) hrm I3.env0 L.S og #[c',oc,vs,t,rfl,oc',d1,v1] (hbind0 pm c' ctv) (λx c0 e=>#[let #[v,z]:=I1.cell x c0<|L.cl x c0 e;#[v,cellKeep x c0 v (L.cl x c0 e) z],I1.freeC x c0<|L.cl x c0 e]) I1.len
   (λj x v e1 e2 fr=>by
    obtain⟨m,hn,hl⟩:=I1.loc;obtain⟨u,r,lk⟩:=hl j x v e1 e2<|.inr<|.inl<|L.kd x fr;obtain⟨c1,hc1⟩:=L.S.has x fr;rcases lk with⟨k1,_⟩|⟨_,c0,hc0,z⟩
    .have k1:X.env.scope.names.lookup x=aa .local:=k1
     rw[L.kd x fr]at k1;cases k1
    .have:=L.cl x c1 hc1
     rw[hc0]at this;cases this;exact#[u,c1,r,hc1,cellKeep x c1 _ hc0 z])
   (hbody g c' Xr.A Xr.stack s3 H1 E1<|hrm.deeper _).h #[U,l,S,st1,lr.mono f1,hEnd]
 case e1=>
  rintro Ce H' ⟨e,Ce',S',ρ',z,hce,hev,f,st'⟩
  cases z;have h2:End X.K xw Rep U H Q (if 1<=e/\e<=10 then .ok (Pv.Zak wd<|e-1) S' else .no):=by
   have h0:=h;rw[Pv.ZfS,hev]at h0;exact h0
  obtain⟨hge,h3⟩:=End.guard h2;obtain⟨e',rfl⟩:∃e',e=e'+1:=#[e-1,by lia]
  refine#[R.exm e' Ce S0 hce hS0,λa oe Ha ce=>?_]
  have stA:St3 X.K ρ' S' (upd H' a<|.frz oe<|.own a):=st'.fresh (o:=.frz oe<|.own a) Ha;have er:ErAt X.K cl ir e' (((σ2.set ie<|aa<|.ref a).set ir<|aa<|.ref a).set ie ai) (upd H' a<|.frz oe<|.own a):=
   #[a,oe,Ce,by rw[bf<|Ne.symm hne2,bg (by rw[bG];exact hirl)],Zl,ce,hce]
  have len':(((σ2.set ie<|aa<|.ref a).set ir<|aa<|.ref a).set ie ai).length=Nr.length:=by rw[bG,bG,bG];exact hσl
  refine qz R #[0] er hne (by rw[len'];exact his) stA (λσ' H2 q Q' a1 a2 a3 a4 a5=>hts Xr ρ' S' e' σ' H2 q Q' rfl #[0] a1 a2 a3 a4 a5) λσ' H2 q b1 b2 b3 f2 st2=>?_
  refine hfi D0 σ' ρ' H2 S' e' q #[0] b1 (b2.trans len') b3 st2 λH3 f3 st3=>?_
  exact h3 ρ' H3 (vR wd e') (f1.trans<|f.trans<|(Zv Ha).trans<|f2.trans f3) st3 (by rw[oI];exact ZfP wd e')
 cases fl with
 |ret v=>obtain⟨_,_,_,_,_,z⟩:=hq4;exact z.elim
 |brk=>obtain⟨_,_,_,z⟩:=hq4;exact False.elim z
 |cont=>obtain⟨_,_,_,z⟩:=hq4;exact False.elim z
 |next=>
  obtain⟨σ4,H4,I4,q4⟩:=hq4;exact hrest cdv X.A X.stack s1 H1 hrm [] s4 σ4 H4 D0 I4 q4
end
noncomputable def ksum(is:Nat):Ev.E:=.cmp .ne (.blt .sum [.comp1 [] 1 [0] (.of<|.v is) []<|.blt .toInt [.v 0]])<|.n 1
theorem vE:∀(bs:List Bool),Pv.mapP (λx s=>(Pv.po (Pv.Zn [0] x<|Pv.Z3 [] 1 l) s).bind λZ s=>(Pv.pvt Cc [] Z s).bind λb s=>if b then(Pv.pv Cc (.blt .toInt [.v 0]) Z s).bind λy s=>.ok [y] s else .ok [] s) (bs.map .bl) S=.ok (bs.map λb=>.int<|Ev.b2i b) S
 |[]=>rfl
 |b::bs=>by
  rw[aY,Pv.mapP,show((Pv.po (Pv.Zn [0] (Pv.V.bl b)<|Pv.Z3 [] 1 l) S).bind λZ s=>(Pv.pvt Cc [] Z s).bind λb s=>if b then(Pv.pv Cc (.blt .toInt [.v 0]) Z s).bind λy s=>.ok [y] s else .ok [] s)=Pv.PR.ok [Pv.V.int<|Ev.b2i b] S from rfl]
  dsimp only
  rw[vE bs];rfl
theorem ye:∀(bs:List Bool),Pv.intsV (bs.map λb=>Pv.V.int<|Ev.b2i b)=aa (bs.map Ev.b2i)
 |[]=>rfl
 |b::bs=>by rw[aY,Pv.intsV,ye bs];rfl
def wP:∀e,e<10->((ZX e).map Ev.b2i).sum=1/\Ev.Zbd ((ZX e).map Ev.b2i)=am:=by decide
def ZcA{e:Nat}(he:e<10)(hl:l[is]?=aa (aa<|.lst<|(ZX e).map .bl)):Pv.YE Cc (ksum is) l S=.ok aj S:=by
 have w:Pv.pvw Cc (.of<|.v is) l S=.ok ((ZX e).map .bl) S:=by
  rw[Pv.wE7,Pv.pE2,hl];rfl
 have c1:Pv.pv Cc (.comp1 [] 1 [0] (.of<|.v is) []<|.blt .toInt [.v 0]) l S=.ok (.lst<|(ZX e).map λb=>.int<|Ev.b2i b) S:=by
  rw[Pv.qF,T9 (show Pv.own 1 [0]=am from rfl),w]
  rw[show ∀(a:List Pv.V)(s:Pv.DS)(f:List Pv.V->Pv.DS->Pv.PR Pv.V),(Pv.PR.ok a s).bind f=f a s from λ_ _ _=>rfl,vE]
  rfl
 have c2:Pv.pv Cc (.blt .sum [.comp1 [] 1 [0] (.of<|.v is) []<|.blt .toInt [.v 0]]) l S=.ok (.int 1) S:=by
  rw[Pv.Ys,Pv.pvs,c1];show Pv.po (Pv.Xo .sum [.lst<|(ZX e).map λb=>.int<|Ev.b2i b]) S=_
  unfold Pv.Xo Pv.blt1;simp only[ye,Option.bind,(wP e he).2,if_true,(wP e he).1];rfl
 unfold Pv.YE ksum;rw[Pv.YF,c2];rfl
def Zfw{Q':Bool->Hp->Prop}{xw:Nat->Hp->Prop}(he:e<10)(h1:σ'[is]?=aa (aa<|.ref q))(h2:H' q=aa (.lst<|(ZX e).map .bl))(h3:¬U.X q)(st:St3 Y.K U S H')
  (hQ:∀H2,Fut U H' U H2->St3 Y.K U S H2->Q' aj H2):tB3 Y xw (Pv.YE Cc<|ksum is) σ' H' Q':=by
 have hl:=(aK.mp h1).1;refine#[U,(aB σ'.length ai).set is<|aa<|.lst<|(ZX e).map .bl,S,st,#[by simp,λi d e1=>?_],?_]
 .by_cases z:i=is
  .subst z
   rw[bg<|by simpa using hl]at e1
   cases e1;exact#[.ref q,h1,Wy h2 h3<|vj _]
  .rw[bf<|Ne.symm z,cX]at e1
   split at e1<;>cases e1
 .rw[ZcA he<|bg (by simpa using hl)]
  exact λρ2 H2 v f s2 r=>by
   have r:=r;subst r;obtain rfl:=f.eq;exact hQ H2 f s2
def ZdW{xr xs:bn}{ts:TT}{rb:TE}{fi:TS}{badE:Expr}{last:List eE}{sumE:Expr}{P:Nat->gu}{J:Nat->Nat}(R:Errs X.K X.mg cl)(hN:X.N.Nodup)(hi:X.N[ir]?=aa xr)(hv:X.env.scope.names.lookup xr=aa .local)(hj:X.N[is]?=aa xs)(hw:X.env.scope.names.lookup xs=aa .local)
  (g0:Gl X "isinstance")(m0:X.mg "isinstance" = ai)(g1:Gl X "ValueError")(m1:X.mg "ValueError" = ai)(gc:∀x∈Y6,Gl X x)
  (r1:(xr == #[11])=aj)(r2:(xr == #[19])=aj)(s1:(xs == #[11])=aj)(s2:(xs == #[19])=aj)(hs:PT X sumE ts)
  (l1:((P 30).endLine == (P 31).line)=am)(hbad:PE X badE rb)(hlast:PSs X last fi) :
  PSs X (.If (.Compare (.Name xr<|P 0) [.Is] [.Constant .none (J 0)<|P 1]<|P 2) [.Return (aa<|.Constant .none (J 1)<|P 3)<|P 4] [] (P 5) ::
   .Assign [.Name xs<|P 6] (.List [.Call (.Name "isinstance"<|P 40) [.Name xr<|P 41,.Name "NoRow"<|P 42] []<|P 43,.Call (.Name "isinstance"<|P 44) [.Name xr<|P 45,.Name "NoPart"<|P 46] []<|P 47,.Call (.Name "isinstance"<|P 48) [.Name xr<|P 49,.Name "NoNumber"<|P 50] []<|P 51]<|P 7) (P 8) ::
   .Assign [.Name xs<|P 9] (.BinOp (.Name xs<|P 10) .Add (.List [.Call (.Name "isinstance"<|P 52) [.Name xr<|P 53,.Name "NoHeads"<|P 54] []<|P 55,.Call (.Name "isinstance"<|P 56) [.Name xr<|P 57,.Name "NotBeside"<|P 58] []<|P 59,.Call (.Name "isinstance"<|P 60) [.Name xr<|P 61,.Name "NotIn"<|P 62] []<|P 63]<|P 11)<|P 12) (P 13) ::
   .Assign [.Name xs<|P 14] (.BinOp (.Name xs<|P 15) .Add (.List [.Call (.Name "isinstance"<|P 64) [.Name xr<|P 65,.Name "NoTurn"<|P 66] []<|P 67,.Call (.Name "isinstance"<|P 68) [.Name xr<|P 69,.Name "NoLot"<|P 70] []<|P 71,.Call (.Name "isinstance"<|P 72) [.Name xr<|P 73,.Name "TooMany"<|P 74] []<|P 75]<|P 16)<|P 17) (P 18) ::
   .Expr (.Call (.Attribute (.Name xs<|P 19) "append"<|P 30) [.Call (.Name "isinstance"<|P 76) [.Name xr<|P 77,.Name "BadNote"<|P 78] []<|P 79] []<|P 31) (P 20) ::
   .If (.BoolOp .Or [.UnaryOp .Not (.Call (.Name "isinstance"<|P 80) [.Name xr<|P 81,.Name "ValueError"<|P 82] []<|P 83)<|P 21,sumE]<|P 22) [.Return (aa badE)<|P 25] [] (P 26) ::
   last) (Vt X.K ir is cl ts rb fi):=by
 have cj:∀j (x:bn),j<11->Y6[j]?=aa x->X.mg x=aa (.ref<|cl.getD j 0):=λj x hj e=>by
  have hl:j<cl.length:=by rw[R.len];exact hj
  exact R.nm j _ x (by rw[ag hl,aD,ag hl];rfl) e
 have vr:Vis X.env.scope xr:=.inl hv;have vs:Vis X.env.scope xs:=.inl hw;have is:∀{a b c d:gu}(j:Nat)(x:bn),j<11->Y6[j]?=aa x->(x == #[11])=aj->PE X (.Call (.Name "isinstance" a) [.Name xr b,.Name x c] [] d) (tIs X.K ir<|.ref<|cl.getD j 0):=λj x h e hd=>
  Zhi hi vr g0 m0 (gc x<|c7 e) (cj j x h e) r1 r2 hd
 unfold Vt
 dsimp only
 refine Yo (Zaz (Zgk<|ZgS<|Yq hi vr r1 r2) (Vx<|VX xQ) GK) ?_;refine Yo (VG hN hj (.inl hw) (Qm<|ZL (is 1 "NoRow" #[1] rfl<|by decide)<|ZL (is 2 "NoPart" #[1] rfl<|by decide)<|ZL (is 3 "NoNumber" #[1] rfl<|by decide) Yy) rfl<|.inr hw) ?_
 refine Yo (VG hN hj (.inl hw) (Uc wD (Yq hj vs s1 s2)<|Qm<|ZL (is 4 "NoHeads" #[1] rfl<|by decide)<|ZL (is 5 "NotBeside" #[1] rfl<|by decide)<|ZL (is 6 "NotIn" #[1] rfl<|by decide) Yy) rfl<|.inr hw) ?_
 refine Yo (VG hN hj (.inl hw) (Uc wD (Yq hj vs s1 s2)<|Qm<|ZL (is 7 "NoTurn" #[1] rfl<|by decide)<|ZL (is 8 "NoLot" #[1] rfl<|by decide)<|ZL (is 9 "TooMany" #[1] rfl<|by decide) Yy) rfl<|.inr hw) ?_
 refine Yo (zh (vz fK lZ l0 VJ (Yq hj vs s1 s2) (ZL (is 10 "BadNote" #[1] rfl<|by decide) Yy) rfl rfl l1 rfl rfl) rfl) ?_
 exact Yo (Zaz (PW.pt<|Zet (jG<|Ze5<|Zfb hi vr g0 m0 g1 m1 r1 r2)<|Zb2 hs) (Vx<|VX hbad) GK) hlast
def ZhJ{xs:bn}{P:Nat->gu}{J:Nat->Nat}(hj:X.N[is]?=aa xs)(hw:X.env.scope.names.lookup xs=aa .local)(s1:(xs == #[11])=aj)(s2:(xs == #[19])=aj)(l2:((P 32).endLine == (P 33).line)=am) :
  PSs X [.Return (aa<|.Call (.Attribute (.Name xs<|P 27) "index"<|P 32) [.Constant (.bool am) (J 3)<|P 28] []<|P 33)<|P 29] (ZfX X.K is):=
 Vx (VX<|vz fK mF mG yC (Yq hj (.inl hw) s1 s2) (ZL zN Yy) rfl rfl l2 rfl rfl)
def ZiD{P:Nat->gu}{J:Nat->Nat}:PE X (.UnaryOp .USub (.Constant (.int 1) (J 2)<|P 23)<|P 24) rbI:=Zer je U8
structure BS(X:Cx)(s:eE)(t:TS):Prop where
 h:PS X s t
structure BSs(X:Cx)(s:List eE)(t:TS):Prop where
 h:PSs X s t
def Zeb(hN:X.N.Nodup)(hk:X.N[iw]?=aa xw)(hv:X.env.scope.names.lookup xw=aa .local)(h:PA X es ta):BS X (.Assign [.Name xw p1] (.List es p2) p3) (xU (qN ta)<|QN iw):=
 ⟨VG hN hk (.inl hv) (Qm h) rfl<|.inr hv⟩
def Zdp(h1:BS X s1 t1)(h2:BS X s2 t2):BSs X [s1,s2] (zu t1 t2):=⟨Yo h1.h<|Vx h2.h⟩
structure BA(X:Cx)(es:List Expr)(ws:List bn):Prop where
 h:PA X es (tWs ws)
def paW(h:BA X es ws):BA X (.Constant (.str x) 0 p::es) (x::ws):=⟨ZL Gf h.h⟩
def Zij:BA X [] []:=⟨Yy⟩
def Ze7{P:Nat->gu}:BA X [.Constant (.str "row") 0<|P 102,.Constant (.str "part") 0<|P 103,.Constant (.str "number") 0<|P 104,.Constant (.str "heads") 0<|P 105,.Constant (.str "not beside") 0<|P 106,.Constant (.str "not in") 0<|P 107,.Constant (.str "turn") 0<|P 108,.Constant (.str "lot") 0<|P 109,.Constant (.str "many") 0<|P 110,.Constant (.str "note") 0<|P 111] Ev.Wd:=
 paW (paW<|paW<|paW<|paW<|paW<|paW<|paW<|paW<|paW Zij)
def Zhy{xs xw:bn}{iw:Nat}{P:Nat->gu}(hN:X.N.Nodup)(hj:X.N[is]?=aa xs)(hw:X.env.scope.names.lookup xs=aa .local)(s1:(xs == #[11])=aj)(s2:(xs == #[19])=aj)(hk:X.N[iw]?=aa xw)(hv:X.env.scope.names.lookup xw=aa .local)(t1:(xw == #[11])=aj)(t2:(xw == #[19])=aj)(l2:((P 32).endLine == (P 33).line)=am) :
  BSs X [.Assign [.Name xw<|P 34] (.List [.Constant (.str "row") 0<|P 102,.Constant (.str "part") 0<|P 103,.Constant (.str "number") 0<|P 104,.Constant (.str "heads") 0<|P 105,.Constant (.str "not beside") 0<|P 106,.Constant (.str "not in") 0<|P 107,.Constant (.str "turn") 0<|P 108,.Constant (.str "lot") 0<|P 109,.Constant (.str "many") 0<|P 110,.Constant (.str "note") 0<|P 111]<|P 35)<|P 36,
   .Return (aa<|.Subscript (.Name xw<|P 37) (.Call (.Attribute (.Name xs<|P 27) "index"<|P 32) [.Constant (.bool am) 0<|P 28] []<|P 33)<|P 38) (P 29)] (Zfz X.K is iw):=by
 refine Zdp (Zeb hN hk hv Ze7.h) ⟨?_⟩;refine VX<|vO UC (Yq hk (.inl hv) t1 t2) (vz fK mF mG yC (Yq hj (.inl hw) s1 s2) (ZL zN Yy) rfl rfl l2 rfl rfl) ?_;intro _ _;with_unfolding_all rfl
end
end Sd
namespace Gn
open PySem PySem.Spec PyProof.Rows L2
section
open Ev (E Sm Fn Bop Cop Ty Bf Mf)
open Sd (hu7 Calls CX1 spX xwE Errs Cls1 DefX)
structure Cls(K:ao)(mg:bn->Option aw)(base:bZ)(cl:List aE):Prop where
 er:Errs K mg cl
 rs:∀(c:Nat)(S C:aE),cl[0]?=aa S->cl[c+1]?=aa C->Cls1 base S C
def we(P:bv)(w:bO)(K:ao)(mg:bn->Option aw)(base:bZ)(cl:List aE)(fs:List FR)(F:List Fn)(tk:Nat)(sn:List Nat)(f:Nat->aE)(fd:Nat->cP)(d:Nat):Prop:=
 ∀i r,fs[i]?=aa r->FnOk P w K mg base (CX1 P w) d (f i) (fd i) r.ps (spX K cl (Pv.Zk F tk d) (sn.contains i) i)
def BdX(fs:List FR)(zs:List bn)(gs:List (bn×Gv))(F:List Fn)(tk:Nat)(sn:List Nat)(i:Nat)(r:FR)(fn:Fn):Prop:=
 ∀(P:bv)(w:bO)(K:ao)(mg:bn->Option aw)(base:bZ)(cl:List aE)(f:Nat->aE)(fd:Nat->cP)(d:Nat),Top K mg fs zs gs f fd->Cls K mg base cl->we P w K mg base cl fs F tk sn f fd d->r.N.Nodup->
  ∀(cdv:aw)(A:b9)(outer:List Env)(s:ay)(H:Hp)(E:XK),Room d (A.deeper<|d8 r.x (Zg r.st) s.heap.objs.size (f i) cdv)->(A.deeper<|d8 r.x (Zg r.st) s.heap.objs.size (f i) cdv).units+7<dL->
   Sd.CSs (XW (CX1 P w) P w K mg base r.N r.x (Zg r.st) (f i) cdv A outer s H E) (xwE cl E) (sn.contains i) (Pv.Zk F tk d) (Pv.muts fn.body) (ZB r.st) fn.body
def OkX(fs:List FR)(zs:List bn)(gs:List (bn×Gv))(F:List Fn)(tk:Nat)(sn:List Nat):Nat->List FR->List Fn->Prop
 |_,[],[]=>True
 |i,r::rs,fn::fns=>(fn.ns=r.N.length/\fn.ps=r.ps.length/\scB r.N r.k (Zg r.st)=am/\BdX fs zs gs F tk sn i r fn)/\OkX fs zs gs F tk sn (i+1) rs fns
 |_,_,_=>False
theorem OkX.get{fs:List FR}{zs:List bn}{gs:List (bn×Gv)}{F:List Fn}{tk:Nat}{sn:List Nat}:∀{rs:List FR}{fns:List Fn}{i0:Nat},OkX fs zs gs F tk sn i0 rs fns->∀i r,rs[i]?=aa r->∃fn,fns[i]?=aa fn/\fn.ns=r.N.length/\fn.ps=r.ps.length/\scB r.N r.k (Zg r.st)=am/\BdX fs zs gs F tk sn (i0+i) r fn
 |[],_,_,_,i,r,e=>by simp at e
 |_::_,[],_,h,_,_,_=>h.elim
 |r::rs,fn::fns,i0,h,0,r',e=>by
  simp at e;subst e;exact#[fn,rfl,h.1.1,h.1.2.1,h.1.2.2.1,h.1.2.2.2]
 |r::rs,fn::fns,i0,h,i+1,r',e=>by
  obtain⟨g,a,b,c,d,q⟩:=OkX.get h.2 i r' (by simpa using e)
  exact#[g,by simpa using a,b,c,d,by rw[ek,iG 1 i]at q;exact q]
theorem vC{P:bv}{w:bO}{K:ao}{mg:bn->Option aw}{base:bZ}{cl:List aE}{fs:List FR}{zs:List bn}{gs:List (bn×Gv)}{F G:List Fn}{tk:Nat}{sn:List Nat}{f:Nat->aE}{fd:Nat->cP}(O:OkX fs zs gs F tk sn 0 fs G)(hG:∀(i:Nat)(fn:Fn),G[i]?=aa fn->F[i]?=aa fn)(hT:F[tk]?=aa Sd.WQ)(T:Top K mg fs zs gs f fd)(L:Cls K mg base cl):∀d,we P w K mg base cl fs F tk sn f fd d
 |0=>λi r h=>Sd.Zcd
 |d+1=>λi r h=>by
  obtain⟨fn,a,b,c,e,q⟩:=O.get i r h;rw[pA]at q;have S:=VM e;have a:=hG i fn a;have hb:=λcdv A outer s H E hr=>(q P w K mg base cl f fd d T L (vC O hG hT T L d) S.nd cdv A outer s H E hr<|hu7 hr)
  by_cases ht:i=tk
  .subst ht
   rw[hT]at a;cases a;exact Sd.xg Sd.ZcN b c (T.d i r h) S hb
  .exact Sd.xg (Sd.vL ht a) b c (T.d i r h) S hb
def Zaj{n:Nat}{x:bn}{E:XK}(D:DefX X E)(T:Top X.K X.mg fs zs gs f fd)(h:we X.prog X.w X.K X.mg X.base cl fs F tk sn f fd d)(hr:Room d X.A)(ha:Sd.CA X (xwE cl E) (Pv.Zk F tk d) (e::es) is)(hx:(fs[n]?).map FR.x=aa x)(hg:Gl X x)(hdb:(x == #[11])=aj)
  (he:aG (e::es) X.env=#[22]::aG es X.env)(hpl:(d7 pos<|aG es X.env).any (·.1)=aj):Sd.CE X (xwE cl E) (Pv.Zk F tk d) #[21] (.call n is):=by
 cases e0:fs[n]? with
 |none=>rw[e0]at hx;cases hx
 |some r=>
  rw[e0]at hx;obtain rfl:r.x=x:=au hx;exact Sd.yw (h n r e0) hr (Sd.Zeu D) (λ_ _ z=>z) (T.m n r e0) (T.d n r e0).kp (T.b n r e0) ha hg hdb he hpl
def ZgP(T:Top X.K X.mg fs zs gs f fd)(h:we X.prog X.w X.K X.mg X.base cl fs F tk sn f fd d)(hr:Room d X.A)(ha:Sd.CA X Sd.nx (Pv.Zk F tk d) (e::es) is)(hx:(fs[n]?).map FR.x=aa x)(hg:Gl X x)(hdb:(x == #[11])=aj)
  (he:aG (e::es) X.env=#[22]::aG es X.env)(hpl:(d7 pos<|aG es X.env).any (·.1)=aj):Sd.CE X Sd.nx (Pv.Zk F tk d) #[21] (.call n is):=by
 cases e0:fs[n]? with
 |none=>rw[e0]at hx;cases hx
 |some r=>
  rw[e0]at hx;obtain rfl:r.x=x:=au hx;exact Sd.yw (h n r e0) hr Sd.Zg5 (λ_ _ z=>z.elim) (T.m n r e0) (T.d n r e0).kp (T.b n r e0) ha hg hdb he hpl
def ZgM{x y:bn}{n k:Nat}{px p':gu}{ss:List eE}{B:List Sm}{E:XK}(D:DefX X E)(T:Top X.K X.mg fs zs gs f fd)(h:we X.prog X.w X.K X.mg X.base cl fs F tk sn f fd d)(hr:Room d X.A)(ha:Sd.CA X (xwE cl E) (Pv.Zk F tk d) (e::es) is)(hB:Sd.CSs X (xwE cl E) fr (Pv.Zk F tk d) ns ss B)(hN:X.N.Nodup)(hx:(fs[k]?).map FR.x=aa y)(hk:sn.contains k=am)
  (hg:Gl X y)(hdb:(y == #[11])=aj)(he:aG (e::es) X.env=#[22]::aG es X.env)(hpl:(d7 p<|aG es X.env).any (·.1)=aj)(hi:X.N[n]?=aa x)(hl:L2.Loc X.env.scope x)(hf:X.fn x=am\/X.env.scope.names.lookup x=aa .local)
  (hs:eg [.Name x px] (.Call (.Name y p') (e::es) [] p) pos.line X.env=cS aj)(hw:ei [.Name x px] (.Call (.Name y p') (e::es) [] p) X.env=cS ai)(h1:(cI [.Name x px] X.env).map (·.2)=[eL (.Name x px) X.env]) :
  Sd.CSs X (xwE cl E) fr (Pv.Zk F tk d) ns (.Assign [.Name x px] (.Call (.Name y p') (e::es) [] p) pos::ss) [.cel n k is B]:=by
 cases e0:fs[k]? with
 |none=>rw[e0]at hx;cases hx
 |some r=>
  rw[e0]at hx;obtain rfl:r.x=y:=au hx;have q:=h k r e0;rw[hk]at q;refine Sd.Zfi (Sd.PE.imp (va q hr hg (T.m k r e0) (T.d k r e0).kp (T.b k r e0) .nil (Sd.Zeu D) ha.h hdb he hpl) λZ H Q z=>?_) hB hN hi hl hf hs hw h1
  unfold Zex;simp only[cz];exact z
def Zhk{c:Nat}{x y:bn}{k:Nat}{E:XK}(D:DefX X E)(hc:X.calm=am)(L:Cls X.K X.mg X.base cl)(hx:Sd.Y6[c+1]?=aa x)(hg:Gl X x)(hd:(x == #[11])=aj)
  (he:aG [.Constant (.str y) k p] X.env=(aj,c6 (.Constant (.str y) k p) X.env)::aG [] X.env)(hpl:(d7 cpos<|aG [] X.env).any (·.1)=aj) :
  Sd.CS X (xwE cl E) fr C ns (.Raise (aa<|.Call (.Name x np) [.Constant (.str y) k p] [] cpos) ai pos) (.raise (c+1) []):=by
 have hl:c+1<cl.length:=by rw[L.er.len];have:=(aK.mp hx).1;exact this
 have h0:0<cl.length:=by lia
 exact Sd.jY D hc (L.rs c _ _ (ag h0)<|ag hl) (ag hl) hg (L.er.nm (c+1) _ x (ag hl) hx) hd he hpl
open Sd (St3 End Rep Rq LocR UG)
def spL(Pt:aE)(K:ao)(cl:List aE)(C:Calls)(n:Nat):Sp:=λvs H Q E=>(∃ps,H Pt=aa (.tbl ps))/\spX K cl C aj n vs H Q E
section
variable{P:bv}{w:bO}{K:ao}{mg:bn->Option aw}{base:bZ}{cl:List aE}
def ZbK{C C':Calls}{n:Nat}{fn:Fn}{x qual:bn}{st:eE}{f c Pt:aE}{fd:cP}{N ps:List bn}{k:Nat}(hF:∀U S H ds vs,St3 K U S H->Rq U H ds vs->C' n ds S=.no\/C' n ds S=Sd.zk C fn ds S)(hns:fn.ns=N.length)(hps:fn.ps=ps.length)(Fu:Fun K x qual st f fd)(S:FnScope N ps (Zg st))(hcd:fd.code=.ref c)
  (hb:∀(A:b9)(outer:List Env)(s:ay)(H:Hp)(E:XK),(∃ps,H Pt=aa (.tbl ps))->Room k (A.deeper<|d8 qual (Zg st) s.heap.objs.size f<|.ref c)->
   Sd.CSs (XW (CX1 P w) P w K mg base N qual (Zg st) f (.ref c) A outer s H E) (xwE cl E) aj C (Pv.muts fn.body) (ZB st) fn.body) :
  FnOk P w K mg base (CX1 P w) (k+1) f fd ps (spL Pt K cl C' n):=by
 have eq:∀{U S H ds vs Q E},St3 K U S H->Rq U H ds vs->End K (xwE cl E) (Sd.XT aj H) U H Q (C' n ds S)->End K (xwE cl E) (Sd.XT aj H) U H Q (Sd.zk C fn ds S):=λ{U S H ds vs Q E} st r h=>by
  rcases hF U S H ds vs st r with e|e
  .rw[e]at h;exact h.elim
  .rw[e]at h;exact h
 obtain⟨oc,od,kV,doc,pm,an,cdv,ct,osl,rfl,lk,hcode⟩:=Fu.ex;obtain rfl:cdv=.ref c:=hcd;refine ZeA lk hcode S (λvs H Q E #[_,U,ds,S,st,r,h]=>?_) λA outer s H vs Q E hr #[hP,U,ds,S',st,r,h]=>#[_,(hb A outer s H E hP hr).h,U,H,λ_=>ai,Pv.ZN fn.ns ds,[],S',st,Sd.Eu.start st r N fn.ns hns,Sd.yV (λ_ _ q=>q) (λ_ _ q=>q)<|eq st r h]
 have h:=eq st r h;obtain⟨hl,_⟩:=Sd.End.guard h;rw[r.length,hl,hps]
def Zee(hO:Sd.ur Pt H)(hS:SqL K H a (ns.map V.int))(h:∀s,∃S',C n [.scr ns] s=.ok (.bl am) S'):spL Pt K cl C n [.ref a] H (λv _=>v=.bl am) λ_ _ _=>False:=by
 obtain⟨S',e⟩:=h (0,aj);have sc:Sd.Scr K H a ns:=by
  rcases hS with(hS|hS)|hS
  .by_cases z:a=Pt
   .rw[z,hO.1]at hS;cases hS
   .rcases hO.2 a z with z|⟨o,xs,z⟩
    .rw[z]at hS;cases hS
    .rw[z]at hS;cases hS
  .exact .inl hS
  .exact .inr hS
 refine#[#[_,hO.1],#[K,ai,λ_=>False,λ_ h=>by cases h],[.scr ns],(0,aj),#[rfl,λ_ h=>h.elim,λ_ h=>(by cases h),λQ ps e=>?_],Sd.Rq.cons (by exact#[a,rfl,sc]) Sd.Rq.nil,?_]
 .by_cases z:Q=Pt
  .subst z
   rw[hO.1]at e;cases e;exact#[trivial,λpos cv q=>by cases q]
  .rcases hO.2 Q z with z|⟨_,_,z⟩<;>(rw[z]at e;cases e)
 .rw[e]
  exact λρ' H' v _ _ r=>r.1.bl'
end
def BdL(fs:List FR)(zs:List bn)(gs:List (bn×Gv))(F:List Fn)(tk:Nat)(sn:List Nat)(r:FR)(fn:Fn):Prop:=
 ∀(P:bv)(w:bO)(K:ao)(mg:bn->Option aw)(base:bZ)(cl:List aE)(f:Nat->aE)(fd:Nat->cP)(fL c Pt:aE)(d:Nat),Top K mg fs zs gs f fd->Cls K mg base cl->we P w K mg base cl fs F tk sn f fd d->r.N.Nodup->
  dP base c Pt->base.BuiltinsAt mg Pt->bC≠Pt->
  ∀(A:b9)(outer:List Env)(s:ay)(H:Hp)(E:XK),(∃ps,H Pt=aa (.tbl ps))->Room (d+2) (A.deeper<|d8 r.x (Zg r.st) s.heap.objs.size fL<|.ref c)->(A.deeper<|d8 r.x (Zg r.st) s.heap.objs.size fL<|.ref c).units+7<dL->
   Sd.CSs (XW (CX1 P w) P w K mg base r.N r.x (Zg r.st) fL (.ref c) A outer s H E) (xwE cl E) aj (Pv.Zk F tk d) (Pv.muts fn.body) (ZB r.st) fn.body
open PySem.W
open Sd (ExK Y6 veM)
def Zed(K:Frag)(cl:List aE)(i:Nat)(C:aE):Bool:=
 excIn K C veM "ValueError.__new__" && ((clsIn K C).isSome&&(sG K (.ref C) "__getattribute__" == aa (aa<|.builtin "BaseException.__getattribute__")&&(sG K (.ref C) "__getattr__" == aa ai &&
  (sG K (.ref C) "__class__" == aa (aa<|.builtin "object.__class__")&&(mroIn K C (.type "BaseException") == aa am&&(mroIn K C (.type "object") == aa am&&(kitOne K (.ref C) (.type "ValueError") == aa am &&
   (exmOne K (.ref C) (.ref<|cl.getD 0 0) == aa am&&(cl.drop 1).zipIdx.all λq=>kitOne K (.ref C) (.ref q.1) == aa (af<|i=q.2)))))))))
def JA(K:Frag)(cl:List aE):Bool:=
 decide (cl.length=11)&&((cl.zip Y6).all (λq=>nsIn K bC q.2 == aa (aa<|.ref q.1))&&(cl.drop 1).zipIdx.all λq=>Zed K cl q.2 q.1)
def US{B:Type}{l:List B}{f:B×Nat->Bool}(h:l.zipIdx.all f=am){i:Nat}{a:B}(e:l[i]?=aa a):f (a,i)=am:=by
 refine a8.mp h (a,i) ?_;rw[kr];exact e
section
variable{K:Frag}{cl:List aE}
def yN(h:JA K cl=am){i:Nat}{C:aE}(e:cl[i+1]?=aa C):Zed K cl i C=am:=by
 unfold JA at h;rw[aF,aF]at h;have e1:(cl.drop 1)[i]?=aa C:=by rw[eW,iG];exact e
 exact US h.2.2 e1
def ZcX{hh:bZ}{mg:bn->Option aw}(X:K.In hh)(G:hh.Ns bC mg)(h:JA K cl=am):Errs K mg cl:=by
 have h0:=h;unfold JA at h0;rw[aF,aF,T0]at h0;obtain⟨hl,hn,_⟩:=h0;have parts:∀{i:Nat}{C:aE},cl[i+1]?=aa C->_:=λ{i C} e=>by
  have:=yN h e;unfold Zed at this;simp only[aF,beq_iff_eq]at this;exact this
 refine#[hl,λj C x e1 e2=>?_,λj C e=>?_,λi j C D e1 e2=>?_,λi C e=>?_,λi C S e1 e2=>?_]
 .have:=a8.mp hn (C,x) (c7 (by rw[gQ];exact#[e1,e2]))
  exact mg_of X G<|beq_iff_eq.mp this
 .obtain⟨_,a,b,c,d,e5,e6,_⟩:=parts e
  exact#[a,b,c,d,e5,e6]
 .obtain⟨_,_,_,_,_,_,_,_,_,z⟩:=parts e1
  have e3:(cl.drop 1)[j]?=aa D:=by rw[eW,iG];exact e2
  exact beq_iff_eq.mp<|US z e3
 .obtain⟨_,_,_,_,_,_,_,z,_⟩:=parts e
  exact z
 .obtain⟨_,_,_,_,_,_,_,_,z,_⟩:=parts e1
  have:cl.getD 0 0=S:=by rw[aD,e2];rfl
  rw[this]at z;exact z
def ZeZ(X:K.In base)(q:excIn K C veM "ValueError.__new__" = am):Cls1 base S C:=by
 unfold excIn at q;split at q
 case h_2=>cases q
 case h_1 d0 k sl lk=>
  split at q
  case h_2=>cases q
  case h_1 c0 rest s0 s1 s2 s3 made s5 em es=>
   repeat rw[aF]at q
   obtain⟨⟨⟨⟨⟨y1,y2⟩,y3⟩,y4⟩,y5⟩,y6⟩:=q;cases beq_iff_eq.mp y1;cases beq_iff_eq.mp y2;have y3:k.hasDel=aj:=by simpa using y3
   cases k;cases em;cases y3;have es:=iW.mp es;cases es;exact#[rest,_,_,_,_,_,_,_,_,_,d0,s0,s1,s2,s3,s5,_,X _ _ lk,.of_isNs<|isNs_of_in X y5,nsMap_none_of_in X y5<|beq_iff_eq.mp y6,tail_of_in X y4]
def Zcz(X:K.In hh)(G:hh.Ns bC mg)(XB:K.In base)(h:JA K cl=am):Cls K mg base cl:=by
 refine#[ZcX X G h,λc S C e0 e1=>ZeZ XB ?_]
 have:=yN h e1;unfold Zed at this;rw[aF]at this;exact this.1
end
end
section
open Ev (E Sm Fn Bop Cop Ty Bf Mf)
open Sd (Calls CX1)
def Zdi{l:mZ}{w:bO}{K:ao}{h:bZ}{mg:bn->Option aw}{fa c Pt aL:aE}{fs:List FR}{zs:List bn}{gs:List (bn×Gv)}{F G:List Fn}{tk L:Nat}{sn:List Nat}{fnL:Fn}{fdL:cP}{st:eE}{N:List bn}{as cl:List aE}{fds:List cP}
  (X:K.In h)(Gs:h.Ns bC mg)(hfa:mg "law" = aa (.ref fa))(O:OkX fs zs gs F tk sn 0 fs G)(hG:∀(i:Nat)(fn:Fn),G[i]?=aa fn->F[i]?=aa fn)(hT:F[tk]?=aa Sd.WQ)(hLt:L≠tk)(A:FnsAt K fs as fds)(Z:ZsAt K zs)(Y:GsAt K gs)(Er:JA K cl=am)
  (AL:FnsAt K [#["law",st,"_law_script" :: N,1]] [aL] [fdL])(hFL:F[L]?=aa fnL)(h1:fnL.ns=N.length+1)(h2:fnL.ps=1)(hsc:scB ("_law_script" :: N) 1 (Zg st)=am)(B:BdL fs zs gs F tk sn #["law",st,"_law_script" :: N,1] fnL)(hcode:fdL.code=.ref c) :
  ∃fd:cP,(∀(s:ay)(v:aw),nM s fd #[[v],[]] [("_law_script",v)])/\∀base:bZ,K.In base->base.Ns bC mg->dP base c Pt->base.BuiltinsAt mg Pt->bC≠Pt->FnOk l.prog w K mg base (CX1 l.prog w) 65 fa fd ["_law_script"] (spL Pt K cl (Pv.Zk F tk 63) L):=by
 have T:Top K mg fs zs gs (λi=>as.getD i 0) (λi=>fds.getD i fdL):=
  #[λi r e=>(A.get i r e).2.1,λi r e=>by
   obtain⟨_,F,B⟩:=A.get i r e;exact F.binds B,λi r e=>i8 X Gs (A.get (fd0:=fdL) i r e).1,λx hx=>PySem.W.mg_none_of X Gs<|Z.get x hx,λy hy=>Y.get X Gs y hy]
 obtain⟨hn,Fu,Bn⟩:=AL.get (fd0:=fdL) 0 _ rfl;have e:=hfa.symm.trans<|i8 X Gs hn;cases e;have S:=VM hsc;refine#[fdL,λs v=>?_,λbase XB GB hC hB hP=>?_]
 .obtain⟨oc,od,kV,doc,pm,an,cdv,ct,osl,e,lk,hcd⟩:=Fu.ex
  have e:fdL=_:=e;rw[e];exact .of_eq<|Bn kV doc pm an cdv ct [v] rfl
 .have Lc:=Zcz X Gs XB Er
  exact ZbK (N:="_law_script" :: N) (Sd.vL hLt hFL) h1 h2 Fu S hcode λA outer s H E hp hr=>(B l.prog w K mg base cl _ _ _ c Pt 62 T Lc (vC O hG hT T Lc 62) S.nd hC hB hP A outer s H E hp hr<|Sd.hu7 hr)
theorem jg{l:mZ}{q:bv}{loose:List bn}{XP:(bn->Option aw)->bZ->Prop}{YP:bO->bZ->Prop}{d:tG}{K:Params->ao}{F:List Fn}{tk L:Nat}{c Pt:aE}{dr:tG}{cl:bO->List aE}(hok:∀(ns:List Int) s,∃S,Pv.Zk F tk 63 L [.scr ns] s=.ok (.bl am) S)(hn:l.most=aa 63)(hdf:d.params.defaults=[])
  (hY:∀(w:bO)(h:bZ),YP w h->(K w.params).In h)(hrec:(recsOf q).find? (λe=>e.name == d.name)=aa dr)(ht:∀w:bO,sR (K w.params) d.name=aa (c,Pt))(hK:∀w:bO,nI (K w.params)=am)
  (hF:∀(w:bO)(mg:bn->Option aw)(fa:aE)(h:bZ),(K w.params).In h->h.Ns bC mg->mg d.name=aa (.ref fa)->
   ∃fd:cP,(∀(s:ay)(u:aw),nM s fd #[[u],[]] [("_law_script",u)])/\∀base:bZ,(K w.params).In base->base.Ns bC mg->dP base c Pt->base.BuiltinsAt mg Pt->bC≠Pt->FnOk l.prog w (K w.params) mg base (CX1 l.prog w) 65 fa fd ["_law_script"] (spL Pt (K w.params) (cl w) (Pv.Zk F tk 63) L)) :
  sS q loose XP YP l.row.toRowW d [] (λf vs=>sh f vs):=
 Sd.jg (n:=63) (k:=65) (x:="_law_script") (CX:=λw=>CX1 l.prog w) (sp:=λw Pt=>spL Pt (K w.params) (cl w) (Pv.Zk F tk 63) L) hn #[1] hdf #[rfl,by decide,by decide,rfl] hY hrec ht hK hF (λw H a ns hl hO hS=>Zee hO hS<|hok ns)<|by rintro _ _ _ _ _ ⟨_,_,_,_,_,_,_,_,_,_,_,_,_,_,z⟩;exact z
end
end Gn
namespace Sd
open PySem PySem.Spec PyProof.Rows L2
open Ev (E Sm Fn Bop Cop Ty Bf Mf)
end Sd
namespace Gn
open PySem PySem.Spec PyProof.Rows L2
open Ev (E Sm Fn Bop Cop Ty Bf Mf)
open Sd (Calls CX1 spX xwE Errs Cls1 DefX LamS LamIn Vt tB3 ksum YM Y6)
theorem WX :∀(l:List (bn×eF))(acc:List (bn×aE)),(∀y∈l,y.2=.free->(env.cells.lookup y.1).isSome=am)->(∀x c,(x,c)∈acc->env.cells.lookup x=aa c)->
  ∃cs,(nA l acc (λy r=>if y.2 == .free then do let a <-cellOf env y.1;cS (kq ((y.1,a)::r))else cS (kq r)):oO _)=cS cs/\(∀x c,(x,c)∈cs->env.cells.lookup x=aa c)/\(∀x c,(x,c)∈acc->(x,c)∈cs)/\∀x,(x,bN)∈l->∃c,(x,c)∈cs
 |[],acc,_,ha=>#[acc,rfl,ha,λ_ _ h=>h,λx h=>by simp at h]
 |(x,k)::l,acc,hl,ha=>by
  by_cases e:k=.free
  .subst e
   have h0:=hl (x,.free) #[2] rfl
   obtain⟨c,hc⟩:=bS.mp h0;obtain⟨cs,e1,h1,h2,h3⟩:=WX l ((x,c)::acc) (λy hy=>hl y<|by simp[hy]) (λy d hd=>by
    rcases az.mp hd with z|z
    .cases z;exact hc
    .exact ha y d z)
   refine#[cs,?_,h1,λy d hd=>h2 y d (by simp[hd]),λy hy=>?_]
   .rw[<-e1]
    unfold cellOf;have hc:=hc;simp[hc]
   .rcases az.mp hy with z|z
    .cases z;exact#[c,h2 x c #[2]]
    .exact h3 y z
  .obtain⟨cs,e1,h1,h2,h3⟩:=WX l acc (λy hy=>hl y<|by simp[hy]) ha
   refine#[cs,?_,h1,h2,λy hy=>?_]
   .rw[<-e1]
    simp[e]
   .rcases az.mp hy with z|z
    .cases z;exact T7 rfl e
    .exact h3 y z
def WY(hl:∀y∈scope.names,y.2=.free->(env.cells.lookup y.1).isSome=am):∃cs,iU scope env=cS cs/\(∀x c,(x,c)∈cs->env.cells.lookup x=aa c)/\∀x,(x,bN)∈scope.names->∃c,(x,c)∈cs:=by
 obtain⟨cs,e,h1,_,h3⟩:=WX scope.names [] hl (λx c h=>by simp at h)
 refine#[cs,?_,h1,h3];rw[<-e];unfold iU;simp
theorem Wo:∀(names:List (bn×eF))(n:Nat)(acc:List (bn×aE)),(acc.Pairwise λx y=>x.2≠y.2)->(∀y∈acc,y.2<n)->(dN n names acc).Pairwise λx y=>x.2≠y.2
 |[],_,_,h,_=>h
 |(x,k)::r,n,acc,h,hn=>by
  unfold dN;split
  .refine Wo r (n+1) _ (br.mpr #[λy hy z=>?_,h]) λy hy=>?_
   .have:=hn y hy
    exact T7 (z)<|eJ this
   .rcases az.mp hy with rfl|hy
    .exact fM n
    .exact cH<|hn y hy
  .exact Wo r n acc h hn
def Yg{B:Type}{l:List (bn×B)}{x:bn}{a:B}(h:l.lookup x=aa a):(x,a)∈l:=d3 h
def u8{l:List (bn×aE)}(h:l.Pairwise λx y=>x.2≠y.2){x y:bn}{c:aE}(h1:(x,c)∈l)(h2:(y,c)∈l):x=y:=by
 induction h with
 |nil=>simp at h1
 |cons hd _ ih=>
  rcases az.mp h1 with z1|z1<;>rcases az.mp h2 with z2|z2
  .exact congrArg Prod.fst<|z1.trans z2.symm
  .rw[<-z1]at hd;exact T7 rfl<|hd (y,c) z2
  .rw[<-z2]at hd;exact T7 rfl<|hd (x,c) z1
  .exact ih z1 z2
def Q2{l:List (bn×aE)}{x:bn}{c:aE}(h:(x,c)∈l):∃d,l.lookup x=aa d:=by
 induction l with
 |nil=>simp at h
 |cons p l ih=>
  obtain⟨y,d⟩:=p;rw[bU];by_cases e:x=y
  .subst e;exact#[d,by simp]
  .rcases az.mp h with z|z
   .cases z;exact T7 rfl e
   .have:(x == y)=aj:=by simpa using e
    rw[this];exact ih z
noncomputable def ZfA(sc scope:d4):Bool:=
 (match scope.kind with|.function=>am|_=>aj)&&(!scope.isCoroutine&&(!scope.isGenerator&&scope.names.all λy=>af (y.2≠.cell)&&(af (y.2≠.local)&&(!decide (y.2=.free)||decide (sc.names.lookup y.1=aa .cell)))))
def ZfE{X:Cx}{sc scope:d4}{n:Nat}(hs:X.env.scope=sc)(hc:X.env.cells=dN n sc.names [])(h:ZfA sc scope=am):∃clos,iU scope X.env=cS clos/\LamIn X scope clos:=by
 unfold ZfA at h;simp only[aF,lT,T0,a8,hZ,decide_eq_false_iff_not]at h;obtain⟨h1,h2,h3,h4⟩:=h;have fr:∀x,(x,bN)∈scope.names->sc.names.lookup x=aa .cell:=λx hx=>by
  rcases(h4 _ hx).2.2 with z|z
  .exact T7 rfl z
  .exact z
 obtain⟨cs,e,c1,c2⟩:=WY λy hy z=>by
  obtain⟨x,k⟩:=y;cases z;obtain⟨c,q⟩:=L2.Qx<|fr x hy;rw[hc,q];rfl
 have ap:=Wo sc.names n [] #[2] #[2]
 have lk:=λx c q=>c1 x c<|Yg q
 refine#[cs,e,#[?_,h2,h3,λy hy=>(h4 y hy).1,λx v=>?_,λx q=>?_,λx y c q1 q2=>?_],lk,λx q=>?_]
 .cases e:scope.kind<;>rw[e]at h1<;>first|rfl|cases h1
 .rcases v with v|v|v
  .exact T7 rfl (h4 _<|Yg v).2.1
  .exact T7 rfl (h4 _<|Yg v).1
  .exact v
 .obtain⟨c,q⟩:=c2 x (Yg q)
  exact Q2 q
 .have a1:=Yg (lk x c q1)
  have a2:=Yg<|lk y c q2;rw[hc]at a1 a2;exact u8 ap a1 a2
 .rw[hs]
  exact fr x<|Yg q
noncomputable abbrev rN(wd:Bool):List bn:=if wd then["_law_call","_law_error","e","_law_sorts","_law_words"]else["_law_call","_law_error","e","_law_sorts"]
noncomputable def Zg2(wd:Bool)(P:Nat->gu):Expr:=if wd then .Constant (.str "none of these") 0 (P 24)else .UnaryOp .USub (.Constant (.int 1) 0<|P 23) (P 24)
noncomputable def ZeU(wd:Bool)(P:Nat->gu):List eE:=if wd then[.Assign [.Name "_law_words"<|P 34] (.List [.Constant (.str "row") 0<|P 102,.Constant (.str "part") 0<|P 103,.Constant (.str "number") 0<|P 104,.Constant (.str "heads") 0<|P 105,.Constant (.str "not beside") 0<|P 106,.Constant (.str "not in") 0<|P 107,.Constant (.str "turn") 0<|P 108,.Constant (.str "lot") 0<|P 109,.Constant (.str "many") 0<|P 110,.Constant (.str "note") 0<|P 111]<|P 35)<|P 36,
   .Return (aa<|.Subscript (.Name "_law_words"<|P 37) (.Call (.Attribute (.Name "_law_sorts"<|P 27) "index"<|P 32) [.Constant (.bool am) 0<|P 28] []<|P 33)<|P 38) (P 29)]
 else[.Return (aa<|.Call (.Attribute (.Name "_law_sorts"<|P 27) "index"<|P 32) [.Constant (.bool am) 0<|P 28] []<|P 33)<|P 29]
def rbR(wd:Bool):TE:=if wd then tC (.str "none of these")else Sd.rbI
def fiR(K:ao)(wd:Bool):TS:=if wd then Sd.Zfz K 3 4 else Sd.ZfX K 3
def uw(wd:Bool)(P:Nat->gu)(sumE:Expr):List eE:=
 let n:="_law_error"
 let s:="_law_sorts"
 let i:=λ(x:bn) (k:Nat)=>Expr.Call (.Name "isinstance"<|P k) [.Name n<|P<|k+1,.Name x<|P<|k+2] []<|P<|k+3
 .If (.Compare (.Name n<|P 0) [.Is] [.Constant .none 0<|P 1]<|P 2) [.Return (aa<|.Constant .none 0<|P 3)<|P 4] [] (P 5) ::
   .Assign [.Name s<|P 6] (.List [i "NoRow" 40,i "NoPart" 44,i "NoNumber" 48]<|P 7) (P 8) ::
   .Assign [.Name s<|P 9] (.BinOp (.Name s<|P 10) .Add (.List [i "NoHeads" 52,i "NotBeside" 56,i "NotIn" 60]<|P 11)<|P 12) (P 13) ::
   .Assign [.Name s<|P 14] (.BinOp (.Name s<|P 15) .Add (.List [i "NoTurn" 64,i "NoLot" 68,i "TooMany" 72]<|P 16)<|P 17) (P 18) ::
   .Expr (.Call (.Attribute (.Name s<|P 19) "append"<|P 30) [i "BadNote" 76] []<|P 31) (P 20) ::
   .If (.BoolOp .Or [.UnaryOp .Not (i "ValueError" 80)<|P 21,sumE]<|P 22) [.Return (aa<|Zg2 wd P)<|P 25] [] (P 26)::ZeU wd P
noncomputable def ud(P:Nat->gu):List eE:=
 [.Assign [.Name "_law_error"<|P 90] (.Constant .none 0<|P 91)<|P 92,.Try [.Expr (.Call (.Name "_law_call"<|P 93) [] []<|P 94)<|P 95] [.ExceptHandler (aa<|.Name "SpaceError"<|P 96) (aa "e") [.Assign [.Name "_law_error"<|P 97] (.Name "e"<|P 98)<|P 99]<|P 100] [] []<|P 101]
noncomputable def wG(b:List eE):Expr:=match b.getD 7 (.Pass #[0,0,0,0])with
 |.If (.BoolOp _ [_,e] _) _ _ _=>e
 |_=>.Constant .none 0 #[0,0,0,0]
def ZaC(wd:Bool)(P:Nat->gu)(sc:d4):Bool:=
 (rN wd).all (λx=>af<|sc.names.lookup x=aa .local)&&(((["isinstance","ValueError"]:List bn)++Y6).all (λx=>af<|sc.names.lookup x=aa .globalImplicit)&&((P 30).endLine == (P 31).line&&(P 32).endLine == (P 33).line))
abbrev cxR(wd:Bool)(P:bv)(w:bO)(K:ao)(mg:bn->Option aw)(base:bZ)(st:eE)(f:aE)(cdv:aw)(A:b9)(outer:List Env)(s:ay)(H:Hp):Cx:=XW (CX1 P w) P w K mg base (rN wd) "_law_refused" (Zg st) f cdv A outer s H E0
def jm(wd:Bool)(P:bv)(w:bO)(K:ao)(mg:bn->Option aw)(base:bZ)(cl:List aE)(C:Calls)(d:Nat)(st:eE)(f:aE):Prop:=
 ∀(cdv:aw)(A:b9)(outer:List Env)(s:ay)(H:Hp),Room (d+1) (A.deeper<|d8 "_law_refused" (Zg st) s.heap.objs.size f cdv)->
  PSs (cxR wd P w K mg base st f cdv A outer s H) ((ZB st).drop 2) (Vt K 1 3 cl (tB3 (cxR wd P w K mg base st f cdv A outer s H) Sd.nx<|Pv.YE C<|ksum 3) (rbR wd)<|fiR K wd)
section
variable{wd:Bool}{P:bv}{w:bO}{K:ao}{mg:bn->Option aw}{base:bZ}{cl:List aE}{fs:List FR}{zs:List bn}{gs:List (bn×Gv)}{F:List Fn}{f:Nat->aE}{fd:Nat->cP}{d nR:Nat}{st:eE}{Pp:Nat->gu}{C:Calls}
def vp(h:ZaC wd Pp sc=am):(∀x∈rN wd,sc.names.lookup x=aa .local)/\(∀x∈(["isinstance","ValueError"]:List bn)++Y6,sc.names.lookup x=aa .globalImplicit)/\((Pp 30).endLine == (Pp 31).line)=am/\((Pp 32).endLine == (Pp 33).line)=am:=by
 unfold ZaC at h;simp only[aF,a8,T0]at h;exact#[h.1,h.2.1,h.2.2.1,h.2.2.2]
def ZgD(T:Top K mg fs zs gs f fd)(L:Cls K mg base cl)(hst:(ZB st).drop 2=uw wd Pp (wG<|ZB st))(hB:ZaC wd Pp (Zg st)=am)(hsc:scB (rN wd) 1 (Zg st)=am)(hz:zs.contains "isinstance" = am)(hz2:zs.contains "ValueError" = am)
  (hsum:∀(cdv:aw)(A:b9)(outer:List Env)(s:ay)(H:Hp),(A.deeper<|d8 "_law_refused" (Zg st) s.heap.objs.size (f nR) cdv).units+7<dL->Sd.CT (cxR wd P w K mg base st (f nR) cdv A outer s H) Sd.nx C (wG<|ZB st) (ksum 3)) :
  jm wd P w K mg base cl C d st (f nR):=by
 intro cdv A outer s H hr;obtain⟨b1,b2,b3,b4⟩:=vp hB;rw[hst];have gl:=λx hx=>b2 x hx
 have nd:=(VM hsc).nd;have hs:=(hsum cdv A outer s H<|Sd.hu7 hr).h;have hl:Sd.BSs (cxR wd P w K mg base st (f nR) cdv A outer s H) (ZeU wd Pp) (fiR K wd):=by
  cases wd with|false=>exact⟨Sd.ZhJ (J:=λ_=>0) rfl (b1 _<|by simp[rN]) rfl rfl b4⟩|true=>exact Sd.Zhy nd rfl (b1 _<|by simp[rN]) rfl rfl rfl (b1 _<|by simp[rN]) rfl rfl b4
 have hb:PE (cxR wd P w K mg base st (f nR) cdv A outer s H) (Zg2 wd Pp) (rbR wd):=by
  cases wd with|false=>exact Sd.ZiD (J:=λ_=>0)|true=>exact Gf
 have hir:(rN wd)[1]?=aa ("_law_error" : bn):=by cases wd<;>rfl
 have his:(rN wd)[3]?=aa ("_law_sorts" : bn):=by cases wd<;>rfl
 have mem:∀x∈[("_law_error" : bn),"_law_sorts"],x∈rN wd:=by cases wd<;>simp[rN]
 exact Sd.ZdW (J:=λ_=>0) L.er nd hir (b1 _<|mem _<|by simp) his (b1 _<|mem _<|by simp) (gl _<|by simp) (T.no hz) (gl _<|by simp) (T.no hz2) (λx hx=>gl x<|by simp[hx]) rfl rfl rfl rfl hs b3 hb hl.h
def ZfY(he:e<10)(v:σ'[3]?=aa (aa<|.ref q))(hl:σ'.length=(rN wd).length)(h:H' q=aa (.lst<|(Sd.ZX e).map .bl))(st:Sd.St3 K U S H')(k:∀H2,Sd.Fut U H' U H2->Sd.St3 K U S H2->Dn.rt (Sd.vR wd e) H2):fiR K wd Dn σ' H':=by
 cases wd with|false=>exact Sd.ZdJ he v h<|k H' (Sd.Fut.refl _ _) st|true=>exact Sd.Zda he v (by rw[hl];decide) #[1] h st k
def Zg8{X:Cx}{E:XK}{sc:d4}{n:Nat}{c Pt:aE}{i:Ev.E}{xw:Nat->Hp->Prop}{body:Expr}{scope:d4}{lp p pos:gu}
  (D:DefX X E)(hr:Room (d+2) X.A)(T:Top X.K X.mg fs zs gs f fd)(L:Cls X.K X.mg X.base cl)(RA:jm wd X.prog X.w X.K X.mg X.base cl C d st (f nR))(hx:fs[nR]?=aa #["_law_refused",st,rN wd,1])
  (hst:(ZB st).take 2=ud Pp)(hB:ZaC wd Pp (Zg st)=am)(hsc:scB (rN wd) 1 (Zg st)=am)
  (hP:∃ps,X.H₀ Pt=aa (.tbl ps))(CH:dP X.base c Pt)(hBi:X.base.BuiltinsAt X.mg Pt)(hgP:bC≠Pt)
  (hfn:X.fn=λ_=>am)(hcode:X.env.code=.ref c)(hs:X.env.scope=sc)(hc:X.env.cells=dN n sc.names [])(hq:X.env.qual++"<lambda>" = YM)(hl:ZfA sc scope=am)(hg:Gl X "_law_refused")
  (hbody:∀(g:aE)(c':aE)(clos:List (bn×aE))(A:b9)(outer:List Env)(s:ay)(H:Hp)(E1:XK),LamS scope clos->Room d (A.deeper<|fX YM scope s.heap.objs.size g (.ref c') clos)->(A.deeper<|fX YM scope s.heap.objs.size g (.ref c') clos).units+7<dL->Sd.CE (Sd.cxL X.prog X.w X.K X.mg X.base X.N scope g (.ref c') clos A outer s H E1) (xwE cl E1) C body i) :
  Sd.CE X xw C (.Call (.Name "_law_refused" p) [.Lambda #[[],[],ai,[],[],ai,[]] body scope lp] [] pos) (.refu wd i):=by
 obtain⟨b1,b2,b3,b4⟩:=vp hB;obtain⟨clos,hcl,LI⟩:=ZfE hs hc hl;have hl0:0<cl.length:=by rw[L.er.len];decide
 have h0:=ag hl0;have hst:ZB st=ud Pp++(ZB st).drop 2:=by rw[<-hst,cR]
 have hic:(rN wd)[0]?=aa ("_law_call" : bn):=by cases wd<;>rfl
 have hie:(rN wd)[2]?=aa ("e" : bn):=by cases wd<;>rfl
 have hir:(rN wd)[1]?=aa ("_law_error" : bn):=by cases wd<;>rfl
 have hil:3<(rN wd).length:=by cases wd<;>decide
 have mem:∀x∈[("_law_call" : bn),"_law_error","e"],x∈rN wd:=by cases wd<;>simp[rN]
 have pr:(#["_law_refused",st,rN wd,1]:FR).ps=[("_law_call" : bn)]:=by cases wd<;>rfl
 have hbn:=T.b nR _ hx;rw[pr]at hbn;have hsc1:=VM hsc;have tk:(rN wd).take 1=[("_law_call" : bn)]:=by cases wd<;>rfl
 rw[tk]at hsc1;exact Sd.Zdk (ts:=λY=>tB3 Y Sd.nx<|Pv.YE C<|ksum 3) D (λx=>by rw[hfn]) hr L.er h0 hP hcode CH hBi hgP hq hcl rfl LI (λpm c' ctv=>rfl)
  (λg c' A outer s H E1 hr=>(hbody g c' clos A outer s H E1 LI.S hr<|Sd.hu7 hr)) hg (T.m nR _ hx) (T.d nR _ hx).kp (T.d nR _ hx) hsc1 hbn rfl rfl rfl hst (VM hsc).nd hic rfl hie hir hil #[1] #[1] #[1]
  (b1 _<|mem _<|by simp) (b1 _<|mem _<|by simp) (b1 _<|mem _<|by simp) (λ_ _ _=>b2 _<|by simp[Y6]) (L.er.nm 0 _ _ h0 rfl) rfl rfl rfl rfl rfl (λ_ _ _=>rfl) (λ_ _ _=>rfl) (λ_ _ _=>rfl) RA
  (λY U S e σ' H' q Q' hK he h1 h2 h3 st' hQ=>Sd.Zfw he h1 h2 h3 (hK▸st') λH2 f2 s2=>hQ H2 f2<|hK▸s2)
  (λDn σ' ρ' H' S e q he v hl h st k=>ZfY he v hl h st k)
end
def jM{fs:List FR}{zs:List bn}{gs:List (bn×Gv)}{F:List Fn}{tk:Nat}{sn:List Nat}{i:Nat}{r:FR}{a b:Nat}:BdX fs zs gs F tk sn i r #[a,b,[.asg []<|.c .non]]:=λP w K mg base cl f fd d T L h hn cdv A outer s H E hr hu=>
 ⟨by
  rintro pq s Z H D I ⟨U,H0,W,l,os,S,st,en,h⟩;cases os<;>exact False.elim h⟩
def ZhO(wd:Bool)(fs:List FR)(zs:List bn)(gs:List (bn×Gv))(F:List Fn)(tk nR:Nat)(st:eE):Prop:=
 ∀(P:bv)(w:bO)(K:ao)(mg:bn->Option aw)(base:bZ)(f:Nat->aE)(fd:Nat->cP)(d:Nat),Top K mg fs zs gs f fd->(rN wd).Nodup->∀(cdv:aw)(A:b9)(outer:List Env)(s:ay)(H:Hp),(A.deeper<|d8 "_law_refused" (Zg st) s.heap.objs.size (f nR) cdv).units+7<dL->Sd.CT (cxR wd P w K mg base st (f nR) cdv A outer s H) Sd.nx (Pv.Zk F tk d) (wG<|ZB st) (ksum 3)
def BdR(wd:Bool)(fs:List FR)(zs:List bn)(gs:List (bn×Gv))(F:List Fn)(tk:Nat)(sn:List Nat)(nR:Nat)(st:eE)(r:FR)(fn:Fn):Prop:=
 ∀(P:bv)(w:bO)(K:ao)(mg:bn->Option aw)(base:bZ)(cl:List aE)(f:Nat->aE)(fd:Nat->cP)(fL c Pt:aE)(d:Nat),Top K mg fs zs gs f fd->Cls K mg base cl->we P w K mg base cl fs F tk sn f fd d->jm wd P w K mg base cl (Pv.Zk F tk d) d st (f nR)->r.N.Nodup->
  dP base c Pt->base.BuiltinsAt mg Pt->bC≠Pt->
  ∀(A:b9)(outer:List Env)(s:ay)(H:Hp)(E:XK),(∃ps,H Pt=aa (.tbl ps))->Room (d+2) (A.deeper<|d8 r.x (Zg r.st) s.heap.objs.size fL<|.ref c)->Room d (A.deeper<|d8 r.x (Zg r.st) s.heap.objs.size fL<|.ref c)->(A.deeper<|d8 r.x (Zg r.st) s.heap.objs.size fL<|.ref c).units+7<dL->
   Sd.CSs (XW (CX1 P w) P w K mg base r.N r.x (Zg r.st) fL (.ref c) A outer s H E) (xwE cl E) aj (Pv.Zk F tk d) (Pv.muts fn.body) (ZB r.st) fn.body
def Zfr{wd:Bool}{fs:List FR}{zs:List bn}{gs:List (bn×Gv)}{F:List Fn}{tk nR:Nat}{sn:List Nat}{st:eE}{r:FR}{fn:Fn}{Pp:Nat->gu}(S:ZhO wd fs zs gs F tk nR st)(B:BdR wd fs zs gs F tk sn nR st r fn)(hst:(ZB st).drop 2=uw wd Pp (wG<|ZB st))(hB:ZaC wd Pp (Zg st)=am)(hsc:scB (rN wd) 1 (Zg st)=am)(hz:zs.contains "isinstance" = am)(hz2:zs.contains "ValueError" = am):BdL fs zs gs F tk sn r fn:=
 λP w K mg base cl f fd fL c Pt d T L h hn hC hBi hP A outer s H E hp hr hu=>
  B P w K mg base cl f fd fL c Pt d T L h (ZgD T L hst hB hsc hz hz2<|S P w K mg base f fd d T (VM hsc).nd) hn hC hBi hP A outer s H E hp hr (hr.mono<|by lia) hu
end Gn
namespace K51
open Ev
noncomputable def U9:Fn:=#[2,2,
 [.ite (.cmp .lt (.v 1)<|.blt .len [(.v 0)]) [.ret<|.ix (.v 0)<|.v 1] [],
  .ret (.n 0)]]
noncomputable def GJ:Fn:=#[2,3,
 [.asg [2]<|.call 0 #[23],
  .ite (.cmp .ge (.v 2)<|.bin .pow (.n 10)<|.n 18) [.ret<|.lst [(.bin .sub (.v 2)<|.bin .pow (.n 10)<|.n 18),(.c<|.bl am)]] [],
  .ret (.lst [(.bin .mod (.v 2)<|.n 2147483647),(.c<|.bl aj)])]]
noncomputable def yM:Fn:=#[2,4,
 [.ite (.dix (.v 0) am) [.asg [2]<|.bin .mod (.dix (.v 0) aj)<|.v 1,
  .dset 0 (.bin .fdiv (.dix (.v 0) aj)<|.v 1),
  .ret (.v 2)] [],
  .dset 0 (.bin .mod (.bin .add (.bin .mul (.dix (.v 0) aj)<|.n 48271)<|.n 29)<|.n 2147483647),
  .asg [3] (.bin .mod (.bin .add (.bin .add (.bin .mul (.dix (.v 0) aj)<|.dix (.v 0) aj)<|.bin .mul (.n 39373)<|.dix (.v 0) aj)<|.n 7)<|.n 2147483629),
  .asg [3] (.bin .mod (.bin .add (.bin .mul (.v 3)<|.v 3)<|.bin .mul (.n 16807)<|.v 3)<|.n 2147483587),
  .ret (.bin .mod (.bin .fdiv (.v 3)<|.n 8)<|.v 1)]]
noncomputable def XI:Fn:=#[2,3,
 [.asg [2]<|.lst [(.tup [(.n 2),(.n 1)]),(.tup [(.n 2),(.n 2)]),(.tup [(.n 2),(.n 3)]),(.tup [(.n 2),(.n 4)]),(.tup [(.n 3),(.n 1)]),(.tup [(.n 3),(.n 2)]),(.tup [(.n 3),(.n 3)]),(.tup [(.n 5),(.n 1)]),(.tup [(.n 5),(.n 2)]),(.tup [(.n 2),(.n 3)]),(.tup [(.n 2),(.n 4)]),(.tup [(.n 3),(.n 3)])],
  .ite (.cmp .gt (.v 1)<|.n 27) [.asg [2]<|.bin .add (.v 2)<|.lst [(.tup [(.n 2),(.n 5)]),(.tup [(.n 2),(.n 6)]),(.tup [(.n 3),(.n 4)]),(.tup [(.n 5),(.n 3)])]] [],
  .ret (.ix (.v 2)<|.call 2 [(.v 0),(.blt .len [(.v 2)])])]]
noncomputable def Ui:Fn:=#[1,1,
 [.ret<|.ix (.bin .add (.comp1 [0] 1 [0] (.rng1<|.blt .len [(.v 0)]) [(.cmp .ne (.ix (.v 1)<|.v 0)<|.n 0)]<|.v 0)<|.lst [(.blt .len [(.v 0)])])<|.n 0]]
def X7:Fn:=#[2,6,
 [.asg [2]<|.blt .sortedS [(.comp1 [] 1 [0] (.of<|.v 1) [(.blt .any [(.v 0)])]<|.call 4 [(.v 0)])],
  .asg [3] (.lst []),
  .forr [4] (.of<|.v 2) [.forr [5] (.of<|.v 1) [.ite (.and (.cmp .eq (.ix (.v 5)<|.v 4)<|.n 1)<|.cmp .eq (.call 4 [(.v 5)])<|.v 4) [.ite (.cmp .eq (.comp1 [4,5] 1 [0] (.of<|.v 2) [(.and (.cmp .ne (.v 0)<|.v 1)<|.cmp .ne (.ix (.v 2)<|.v 0)<|.n 0)]<|.v 0)<|.lst []) [.ex<|.mt .append (.v 3) [(.v 5)]] []] []]],
  .ret (.blt .tuple [(.v 3)])]]
noncomputable def WZ:Fn:=#[2,3,
 [.asg [2]<|.bin .mul (.call 2 [(.v 0),(.bin .add (.ix (.v 1)<|.n 1)<|.n 1)])<|.blt .toInt [(.cmp .eq (.call 2 [(.v 0),(.n 3)])<|.n 0)],
  .ret (.bin .add (.bin .mul (.tup [(.n 0)])<|.v 2)<|.blt .tuple [(.comp1 [0,1] 1 [0] (.rng1<|.bin .sub (.ix (.v 1)<|.n 1)<|.v 2) []<|.call 2 [(.v 1),(.ix (.v 2)<|.n 0)])])]]
noncomputable def zQ:Fn:=#[4,4,
 [.ret<|.blt .tuple [(.comp1 [1,2,3,0] 1 [0] (.rng1<|.ix (.v 0)<|.n 1) []<|.bin .mod (.bin .add (.ix (.v 1)<|.v 0)<|.bin .mul (.v 2)<|.ix (.v 3)<|.v 0)<|.ix (.v 4)<|.n 0)]]]
noncomputable def xt:Fn:=#[2,6,
 [.dnw 2<|.bin .mul (.tup [(.n 0)])<|.ix (.v 0)<|.n 1,
  .forr [3] (.of<|.v 1) [.ite (.cmp .nin (.v 3)<|.v 2) [.forF [4] (.blt .listD [(.v 2)]) [.forr [5] (.rng2 (.n 1)<|.ix (.v 0)<|.n 0) [.dput (.v 2) (.call 7 [(.v 0),(.v 4),(.v 5),(.v 3)])<|.c<|.bl am]]] []],
  .ret (.blt .sortedD [(.v 2)])]]
noncomputable def Wj:Fn:=#[2,3,
 [.asg [2]<|.comp1 [0,1] 1 [0] (.rng1<|.call 2 [(.v 0),(.bin .add (.ix (.v 1)<|.n 1)<|.n 1)]) []<|.call 6 [(.v 1),(.v 2)],
  .ret (.call 5 [(.v 1),(.call 8 [(.v 1),(.v 2)])])]]
noncomputable def YH:Fn:=#[3,6,
 [.asg [3]<|.call 2 [(.v 0),(.bin .add (.blt .len [(.v 2)])<|.n 1)],
  .asg [4] (.ix (.lst [(.ix (.v 1)<|.n 0),(.neg<|.n 1),(.c<|.bl am),(.c<|.bl aj),(.c .non),(.c<|.str<|ly "0"),(.tup [(.n 0)]),(.bin .pow (.n 10)<|.n 29),(.n 0),(.n 1),(.bin .sub (.ix (.v 1)<|.n 0)<|.n 1)])<|.call 2 [(.v 0),(.n 11)]),
  .asg [5] (.lst [(.bin .add (.bin .add #[14]<|.tup [(.v 4)])<|.sl (.v 2) #[26] ai),(.bin .add (.bin .add #[14]<|.tup [(.v 4)])<|.sl (.v 2) (aa<|.v 3) ai),(.bin .add #[14]<|.sl (.v 2) #[26] ai),(.blt .list [(.v 2)])]),
  .ret (.ix (.bin .add (.v 5)<|.lst [(.rev<|.v 2),(.c .non),.dnew,(.lst [(.v 4)]),(.tup [(.v 2)])])<|.ix (.lst [(.n 0),(.n 0),(.n 0),(.n 0),(.n 1),(.n 2),(.n 3),(.n 4),(.n 5),(.n 6),(.n 7),(.n 8)])<|.call 2 [(.v 0),(.n 12)])]]
noncomputable def X3:Fn:=#[3,8,
 [.asg [3]<|.call 2 [(.v 0),(.bin .add (.blt .len [(.v 2)])<|.n 1)],
  .asg [4] (.ix (.bin .add (.v 2)<|.tup [(.bin .add (.tup [(.n 1)])<|.bin .mul (.tup [(.n 0)])<|.bin .sub (.ix (.v 1)<|.n 1)<|.n 1)])<|.v 3),
  .asg [5] (.call 10 [(.v 0),(.v 1),(.v 4)]),
  .asg [6] (.call 7 [(.v 1),(.v 4),(.bin .add (.n 1)<|.call 2 [(.v 0),(.n 2)]),(.ix (.bin .add (.v 2)<|.tup [(.v 4)])<|.call 2 [(.v 0),(.bin .add (.blt .len [(.v 2)])<|.n 1)])]),
  .asg [7] (.lst [(.bin .add (.bin .add #[14]<|.tup [(.v 5)])<|.sl (.v 2) #[26] ai),(.bin .add (.bin .add #[14]<|.tup [(.v 6)])<|.sl (.v 2) #[26] ai),(.bin .add (.bin .add #[14]<|.tup [(.v 4)])<|.sl (.v 2) (aa<|.v 3) ai)]),
  .asg [7] (.bin .add (.v 7)<|.lst [(.bin .add (.bin .add #[14]<|.tup [(.call 6 #[23])])<|.sl (.v 2) (aa<|.v 3) ai),(.rev<|.v 2),(.blt .list [(.v 2)]),(.c .non),.dnew,(.tup [(.v 2)])]),
  .asg [7] (.bin .add (.v 7)<|.lst [(.bin .add #[14]<|.sl (.v 2) #[26] ai),(.lst [(.v 5)]),(.bin .add (.sl (.v 2) (aa<|.v 3) ai)<|.sl (.v 2) ai<|aa<|.v 3)]),
  .ret (.ix (.v 7)<|.ix (.lst [(.n 0),(.n 0),(.n 0),(.n 1),(.n 1),(.n 2),(.n 3),(.n 3),(.n 4),(.n 5),(.n 6),(.n 7),(.n 8),(.n 9),(.n 10),(.n 11)])<|.call 2 [(.v 0),(.n 16)])]]
noncomputable def Ym:Fn:=#[3,3,
 [.ret<|.and (.isi (.v 0) [.int])<|.and (.not<|.isi (.v 0) [.bool])<|.chain .le .le (.v 1) (.v 0)<|.v 2]]
noncomputable def Q0:Fn:=#[2,2,
 [.ite (.or (.not<|.isi (.v 1) [.tuple])<|.cmp .ne #[28]<|.ix (.v 0)<|.n 1) #[13] [],
  .ret (.blt .all [(.comp1 [0] 1 [0] (.of<|.v 1) []<|.call 12 [(.v 0),(.n 0),(.bin .sub (.ix (.v 1)<|.n 0)<|.n 1)])])]]
noncomputable def QS:Fn:=#[2,3,
 [.ite (.or (.not<|.isi (.v 1) [.tuple])<|.cmp .gt #[28]<|.ix (.v 0)<|.n 1) #[13] [],
  .forr [2] (.of<|.v 1) [.ite (.not<|.call 13 [(.v 0),(.v 2)]) #[13] []],
  .ret (.cmp .eq (.call 5 [(.v 0),(.call 8 #[23])])<|.v 1)]]
noncomputable def Y3:Fn:=#[2,4,
 [.forr [2] (.rng1<|.n 8) [.asg [3]<|.call 11 [(.v 0),(.v 1),(.call 9 #[23])],
  .ite (.not<|.call 14 [(.v 1),(.v 3)]) [.ret<|.v 3] []],
  .ret (.ix (.lst [(.c .non),(.lst [(.tup [])]),(.tup [(.bin .mul (.tup [(.n 0)])<|.ix (.v 1)<|.n 1)]),(.tup [(.bin .mul (.tup [(.n 2)])<|.ix (.v 1)<|.n 1)])])<|.call 2 [(.v 0),(.n 3)])]]
noncomputable def GR:Fn:=#[1,1,
 [.ret<|.comp1 [0] 1 [0] (.rng1<|.ix (.v 0)<|.n 1) []<|.blt .tuple [(.comp1 [0] 1 [0] (.rng1<|.ix (.v 1)<|.n 1) []<|.blt .toInt [(.cmp .eq (.v 0)<|.v 1)])]]]
def Xi:Fn:=#[3,8,
 [.asg [3]<|.comp1 [] 1 [0] (.of<|.v 2) []<|.call 4 [(.v 0)],
  .asg [4] (.lst []),
  .forr [5,6] (.enum<|.call 16 [(.v 1)]) [.ite (.cmp .nin (.v 5)<|.v 3) [.forr [7] (.of<|.v 2) [.asg [6]<|.call 7 [(.v 1),(.v 6),(.call 2 [(.v 0),(.ix (.v 1)<|.n 0)]),(.v 7)]],
  .ex (.mt .append (.v 4) [(.v 6)])] []],
  .ret (.call 5 [(.v 1),(.call 8 [(.v 1),(.v 4)])])]]
noncomputable def qk:Fn:=#[1,3,
 [.forr [1,2] (.enum<|.v 0) [.ite (.cmp .ne (.v 2)<|.n 0) [.ret<|.v 1] []],
  .ret (.c .non)]]
noncomputable def Ua:Fn:=#[1,1,
 [.ret<|.blt .all [(.comp1 [] 2 [0,1] (.zip (.v 0)<|.sl (.v 0) (aa<|.n 1) ai) []<|.cmp .lt (.v 0)<|.v 1)]]]
noncomputable def Vp:Fn:=#[2,2,
 [.ret<|.blt .all [(.comp1 [1] 1 [0] (.of<|.v 0) []<|.cmp .eq (.ix (.v 0)<|.v 1)<|.n 0)]]]
noncomputable def Wa:Fn:=#[3,3,
 [.ret<|.and (.cmp .eq (.ix (.ix (.v 0)<|.v 1)<|.v 2)<|.n 1)<|.call 20 [(.bin .add (.sl (.v 0) ai<|aa<|.v 1)<|.sl (.v 0) (aa<|.bin .add (.v 1)<|.n 1) ai),(.v 2)]]]
noncomputable def YX:Fn:=#[3,3,
 [.ret<|.and (.isi (.v 0) [.int])<|.and (.not<|.isi (.v 0) [.bool])<|.chain .le .le (.v 1) (.v 0)<|.v 2]]
noncomputable def yU:Fn:=#[2,4,
 [.asg [2,3]<|.v 0,
  .ite (.or (.not<|.isi (.v 1) [.tuple])<|.cmp .ne #[28]<|.v 3) #[13] [],
  .ret (.blt .all [(.comp1 [2] 1 [0] (.of<|.v 1) []<|.call 22 [(.v 0),(.n 0),(.bin .sub (.v 1)<|.n 1)])])]]
noncomputable def V5:Fn:=#[2,3,
 [.ite (.or (.not<|.isi (.v 1) [.tuple])<|.not<|.blt .all [(.comp1 [0] 1 [0] (.of<|.v 1) []<|.call 23 [(.v 1),(.v 0)])]) #[13] [],
  .asg [2] (.comp1 [] 1 [0] (.of<|.v 1) []<|.call 18 [(.v 0)]),
  .ite (.or (.cmp .inn (.c .non)<|.v 2)<|.not<|.call 19 [(.v 2)]) #[13] [],
  .ret (.blt .all [(.comp1 [1] 2 [0,1] (.enum<|.v 2) []<|.call 21 [(.v 2),(.v 0),(.v 1)])])]]
noncomputable def Wb:Fn:=#[2,2,
 [.ite (.not<|.call 24 #[23]) [.raise 2 []] []]]
def XC:Fn:=#[3,3,
 [.ex<|.call 25 #[23],
  .ex (.call 25 [(.v 0),(.v 2)])]]
noncomputable def Vs:Fn:=#[4,4,
 [.ret<|.blt .tuple [(.comp1 [3,0] 2 [0,1] (.zip (.v 1)<|.v 2) []<|.bin .mod (.bin .add (.v 0)<|.bin .mul (.v 2)<|.v 1)<|.v 3)]]]
noncomputable def JN:Fn:=#[4,4,
 [.ret<|.call 27 [(.v 0),(.v 1),(.v 2),(.neg<|.ix (.v 1)<|.v 3)]]]
noncomputable def yf:Fn:=#[3,7,
 [.asg [3,4]<|.v 0,
  .asg [5] (.v 2),
  .forr [6] (.of<|.v 1) [.asg [5]<|.call 28 [(.v 3),(.v 5),(.v 6),(.call 18 [(.v 6)])]],
  .ret (.v 5)]]
noncomputable def Gw:Fn:=#[3,3,
 [.ret<|.blt .tuple [(.comp1 [2,0] 1 [0] (.of<|.v 1) []<|.bin .mod (.bin .mul (.v 1)<|.v 0)<|.v 2)]]]
noncomputable def Je:Fn:=#[2,3,
 [.asg [2]<|.n 1,
  .whl (.cmp .ne (.bin .mod (.bin .mul (.v 2)<|.v 1)<|.v 0)<|.n 1) [.aug 2 .add<|.n 1],
  .ret (.v 2)]]
noncomputable def Wu:Fn:=#[3,9,
 [.asg [3,4]<|.v 0,
  .asg [5] (.call 29 [(.v 0),(.v 1),(.v 2)]),
  .asg [6] (.call 18 [(.v 5)]),
  .ite (.cmp .is (.v 6)<|.c .non) [.ret<|.v 1] [],
  .asg [7] (.call 30 [(.v 3),(.v 5),(.call 31 [(.v 3),(.ix (.v 5)<|.v 6)])]),
  .asg [8] (.comp1 [3,7,6] 1 [0] (.of<|.v 1) []<|.call 28 [(.v 1),(.v 0),(.v 2),(.v 3)]),
  .ret (.blt .tuple [(.blt .sortedR [(.bin .add (.v 8)<|.lst [(.v 7)])])])]]
noncomputable def Yb:Fn:=#[3,5,
 [.asg [3]<|.v 1,
  .forr [4] (.of<|.v 2) [.asg [3]<|.call 32 [(.v 0),(.v 3),(.v 4)]],
  .ret (.v 3)]]
noncomputable def Jt:Fn:=#[3,3,
 [.ret<|.cmp .eq (.blt .len [(.call 33 [(.v 0),(.v 1),(.v 2)])])<|.bin .add #[28]<|.blt .len [(.v 2)]]]
def Zbi:Fn:=#[3,3,
 [.ex<|.call 26 [(.v 0),(.v 1),(.v 2)],
  .ret (.call 34 [(.v 0),(.v 1),(.v 2)])]]
def Vg:Fn:=#[3,5,
 [.ex<|.call 26 [(.v 0),(.v 1),(.v 2)],
  .asg [3,4] (.v 0),
  .ret (.and (.cmp .eq (.bin .add #[28]<|.blt .len [(.v 2)])<|.v 4)<|.call 34 [(.v 0),(.v 1),(.v 2)])]]
noncomputable def UQ:Fn:=#[1,4,
 [.asg []<|.c .non]]
noncomputable def ZeS:Fn:=#[1,15,
 [.forr [1] (.rng1<|.blt .max2 [(.n 1),(.blt .min2 [(.blt .len [(.v 0)]),(.n 8)])]) [.cel 2 1 #[23]
  [.asg [3]<|.call 3 [(.v 2),(.ix (.lst [(.n 27),(.n 125)])<|.blt .toInt [(.cmp .eq (.v 1)<|.n 0)])],
  .asg [4] (.call 9 [(.v 2),(.v 3)]),
  .asg [5] (.lst [(.call 9 [(.v 2),(.v 3)]),(.call 17 [(.v 2),(.v 3),(.v 4)]),(.tup []),(.v 4)]),
  .forr [6] (.of<|.bin .add (.v 5)<|.lst [(.sl (.call 17 [(.v 2),(.v 3),(.v 4)]) ai<|aa<|.neg<|.n 1)]) [.asg [7]<|.blt .dictP [(.comp1 [] 1 [0] (.of<|.call 8 [(.v 3),(.v 4)]) []<|.tup [(.v 0),(.c<|.bl am)])],
  .asg [8] (.blt .len [(.comp1 [7] 1 [0] (.of<|.call 8 [(.v 3),(.v 6)]) [(.cmp .inn (.v 0)<|.v 1)]<|.v 0)]),
  .forr [9,10] (.of<|.lst [(.tup [(.v 4),(.v 6)]),(.tup [(.v 6),(.v 4)])]) [.par [11,12] [(.call 35 [(.v 3),(.v 9),(.v 10)]),(.call 36 [(.v 3),(.v 9),(.v 10)])],
  .ite (.or (.not<|.isi (.v 11) [.bool])<|.or (.cmp .ne (.v 11)<|.cmp .eq (.v 8)<|.n 1)<|.not<|.isi (.v 12) [.bool]) #[13] [],
  .ite (.cmp .ne (.v 12)<|.and (.cmp .eq (.v 8)<|.n 1)<|.cmp .eq (.bin .add (.blt .len [(.v 4)])<|.blt .len [(.v 6)])<|.ix (.v 3)<|.n 1) #[13] []]],
  .asg [13] (.call 15 [(.v 2),(.v 3)]),
  .forr [14] (.of<|.lst [(.tup [(.v 13),(.v 4)]),(.tup [(.v 4),(.v 13)]),(.tup [(.v 13),(.c .non)])]) [.ite (.cmp .ne (.refu aj<|.call 35 [(.v 3),(.ix (.v 14)<|.n 0),(.ix (.v 14)<|.n 1)])<|.n 1) #[13] [],
  .ite (.cmp .ne (.refu aj<|.call 36 [(.v 3),(.ix (.v 14)<|.n 0),(.ix (.v 14)<|.n 1)])<|.n 1) #[13] []]]],
  .ret (.c<|.bl am)]]
def fns:List Fn:=[U9,GJ,yM,XI,Ui,X7,WZ,zQ,xt,Wj,YH,X3,Ym,Q0,QS,Y3,GR,Xi,qk,Ua,Vp,Wa,YX,yU,V5,Wb,XC,Vs,JN,yf,Gw,Je,Wu,Yb,Jt,Zbi,Vg,UQ,ZeS]
noncomputable abbrev tk:Nat:=2
noncomputable abbrev sn:List Nat:=[1]
end K51
namespace La
variable{F:Type}[nY F]
noncomputable abbrev Vec(F:Type):=Nat->F
abbrev Pt(F:Type):=List<|Nat×Vec F
def pr:Pt F->Vec F->Vec F
 |[],_,_=>0
 |a::P,v,j=>v a.1*a.2 j+pr P v j
structure Rf(P:Pt F):Prop where
 inc:P.Pairwise λa b=>a.1<b.1
 low:∀a∈P,∀j,j<a.1->a.2 j=0
 one:∀a∈P,a.2 a.1=1
 zer:∀a∈P,∀b∈P,a.1≠b.1->b.2 a.1=0
def Mem(P:Pt F)(v:Vec F):Prop:=∀j,v j=pr P v j
theorem Zfa(P:Pt F)(u v:Vec F)(c:F)(j:Nat):pr P (λj=>u j+c*v j) j=pr P u j+c*pr P v j:=by
 induction P with|nil=>show(0:F)=0+c*0;grind|cons a P ih=>show(u a.1+c*v a.1)*a.2 j+pr P _ j=(u a.1*a.2 j+pr P u j)+c*(v a.1*a.2 j+pr P v j);grind
theorem GL(P:Pt F)(u v:Vec F)(c:F)(j:Nat):pr P (λj=>u j-c*v j) j=pr P u j-c*pr P v j:=by
 induction P with|nil=>show(0:F)=0-c*0;grind|cons a P ih=>show(u a.1-c*v a.1)*a.2 j+pr P _ j=(u a.1*a.2 j+pr P u j)-c*(v a.1*a.2 j+pr P v j);grind
def yI{P:Pt F}{u v:Vec F}(h:∀b∈P,u b.1=v b.1)(j:Nat):pr P u j=pr P v j:=by
 induction P with
 |nil=>rfl
 |cons a P ih=>
  show u a.1*a.2 j+pr P u j=v a.1*a.2 j+pr P v j;rw[h a<|ak ..,ih λb hb=>h b<|al _ hb]
theorem XM{P:Pt F}{v:Vec F}{j:Nat}(h:∀b∈P,v b.1*b.2 j=0):pr P v j=0:=by
 induction P with
 |nil=>rfl
 |cons a P ih=>
  show v a.1*a.2 j+pr P v j=0;rw[h a<|ak ..,ih λb hb=>h b<|al _ hb];grind
theorem v9{P:Pt F}{v:Vec F}{j:Nat}{a:Nat×Vec F}(inc:P.Pairwise λa b=>a.1<b.1)(ha:a∈P)(h:∀b∈P,b.1≠a.1->v b.1*b.2 j=0):pr P v j=v a.1*a.2 j:=by
 induction P with
 |nil=>cases ha
 |cons b P ih=>
  rw[br]at inc;show v b.1*b.2 j+pr P v j=_;rcases az.mp ha with e|hm
  .subst e
   rw[XM λc hc=>h c (al _ hc) (by have:=inc.1 c hc;lia)];grind
  .rw[ih inc.2 hm λc hc=>h c<|al _ hc,h b (ak ..) (by have:=inc.1 a hm;lia)];grind
def Rf.tail{a:Nat×Vec F}{P:Pt F}(h:Rf (a::P)):Rf P:=
 #[(br.mp h.inc).2,λb hb=>h.low b<|al _ hb,λb hb=>h.one b<|al _ hb,λb hb c hc=>h.zer b (al _ hb) c<|al _ hc]
def Rf.nil:Rf ([]:Pt F):=#[lJ,λ_ h=>(by cases h),λ_ h=>(by cases h),λ_ h=>(by cases h)]
theorem wJ{P:Pt F}(h:Rf P){a:Nat×Vec F}(ha:a∈P)(v:Vec F):pr P v a.1=v a.1:=by
 rw[v9 h.inc ha λb hb ne=>by rw[h.zer a ha b hb<|Ne.symm ne];grind,h.one a ha];grind
theorem Xb{P:Pt F}(h:Rf P){a:Nat×Vec F}(ha:a∈P):Mem P a.2:=λj=>by
 rw[v9 h.inc ha λb hb ne=>by rw[h.zer b hb a ha ne];grind,h.one a ha];grind
def YN(c:F)(hu:Mem P u)(hv:Mem P v):Mem P λj=>u j+c*v j:=λj=>by
 rw[Zfa,<-hu j,<-hv j]
def UJ(c:F)(hu:Mem P u)(hv:Mem P v):Mem P λj=>u j-c*v j:=λj=>by
 rw[GL,<-hu j,<-hv j]
theorem Yj{P:Pt F}:Mem P λ_=>0:=λj=>(XM λb _=>by grind).symm
def ZaO{P:Pt F}(h:Rf P)(v:Vec F):Mem P (pr P v):=λj=>yI (λb hb=>(wJ h hb v).symm) j
def GE{v:Vec F}:Mem ([]:Pt F) v↔∀j,v j=0:=Iff.rfl
theorem ZaU{P:Pt F}{v:Vec F}(h:Mem P v)(z:∀b∈P,v b.1=0)(j:Nat):v j=0:=by
 rw[h j];exact XM λb hb=>by rw[z b hb];grind
theorem yu{P:Pt F}(h:Rf P){v:Vec F}(hv:Mem P v){k:Nat}(hk:v k≠0)(hl:∀j,j<k->v j=0):∃a∈P,a.1=k:=by
 have inc:=h.inc;have low:=h.low;have gen:∀Q:Pt F,Q.Pairwise (λa b=>a.1<b.1)->(∀a∈Q,∀j,j<a.1->a.2 j=0)->(∀j,v j=pr Q v j)->∃a∈Q,v a.1≠0/\∀j,j<a.1->v j=0:=by
  intro Q
  induction Q with
  |nil=>intro _ _ e;exact T7 (e k) hk
  |cons a Q ih=>
   intro inc low e;rw[br]at inc;by_cases c:v a.1=0
   .obtain⟨b,hb,r⟩:=ih inc.2 (λb hb=>low b<|al _ hb) λj=>by
     have:v j=v a.1*a.2 j+pr Q v j:=e j;rw[c]at this;grind
    exact#[b,al _ hb,r]
   .refine#[a,ak ..,c,λj hj=>?_]
    have e1:v j=v a.1*a.2 j+pr Q v j:=e j;have e2:pr Q v j=0:=XM λb hb=>by rw[low b (al _ hb) j (by have:=inc.1 b hb;lia)];grind
    rw[e1,e2,low a (ak ..) j hj];grind
 obtain⟨a,ha,h1,h2⟩:=gen P inc low hv;refine#[a,ha,?_];by_cases c:a.1<k
 .exact T7 (hl _ c) h1
 .by_cases c2:k<a.1
  .exact T7 (h2 _ c2) hk
  .lia
def JQ{P Q:Pt F}(one0:(1:F)≠0)(hP:Rf P)(hQ:Rf Q)(h:∀v,Mem P v->Mem Q v):∀a∈P,∃b∈Q,b.1=a.1:=λa ha=>
 yu hQ (h _<|Xb hP ha) (by rw[hP.one a ha];exact one0) (hP.low a ha)
theorem GQ:∀{a b:List Nat},a.Pairwise (· < ·)->b.Pairwise (· < ·)->(∀x,x∈a↔x∈b)->a=b
 |[],[],_,_,_=>rfl
 |[],y::b,_,_,h=>by have:=(h y).mpr<|ak ..;cases this
 |x::a,[],_,_,h=>by have:=(h x).mp<|ak ..;cases this
 |x::a,y::b,ha,hb,h=>by
  rw[br]at ha hb;have e:x=y:=by
   rcases az.mp ((h x).mp<|ak ..)with e|e
   .exact e
   .rcases az.mp ((h y).mpr<|ak ..)with e'|e'
    .exact e'.symm
    .have:=hb.1 x e;have:=ha.1 y e';lia
  subst e;rw[GQ ha.2 hb.2 λz=>?_]
  constructor
  .intro hz
   rcases az.mp ((h z).mp<|al _ hz)with e|e
   .have:=ha.1 z hz;lia
   .exact e
  .intro hz
   rcases az.mp ((h z).mpr<|al _ hz)with e|e
   .have:=hb.1 z hz;lia
   .exact e
def Rf.heads{P:Pt F}(h:Rf P):(P.map (·.1)).Pairwise (· < ·):=dq.mpr h.inc
theorem uniq{P Q:Pt F}(one0:(1:F)≠0)(hP:Rf P)(hQ:Rf Q)(h:∀v,Mem P v↔Mem Q v):P=Q:=by
 have eh:=GQ hP.heads hQ.heads λx=>by
  constructor
  .intro hx
   obtain⟨a,ha,rfl⟩:=aN.mp hx;obtain⟨b,hb,e⟩:=JQ one0 hP hQ (λv=>(h v).mp) a ha
   exact aN.mpr #[b,hb,e]
  .intro hx
   obtain⟨a,ha,rfl⟩:=aN.mp hx;obtain⟨b,hb,e⟩:=JQ one0 hQ hP (λv=>(h v).mpr) a ha
   exact aN.mpr #[b,hb,e]
 have ev:∀a∈P,∀b∈Q,a.1=b.1->a.2=b.2:=by
  intro a ha b hb e;have hd:=UJ 1 (Xb hP ha)<|(h _).mpr<|Xb hQ hb
  funext j
  have:=ZaU hd (λc hc=>by
   have:c.1∈Q.map (·.1):=by rw[<-eh];exact aN.mpr #[c,hc,rfl]
   obtain⟨c',hc',ec⟩:=aN.mp this;by_cases z:c.1=a.1
   .rw[z,hP.one a ha,e,hQ.one b hb];grind
   .rw[hP.zer c hc a ha z,<-ec,hQ.zer c' hc' b hb #[0]];grind) j
  grind
 clear h hP hQ
 induction P generalizing Q with
 |nil=>cases Q with|nil=>rfl|cons b Q=>cases eh
 |cons a P ih=>cases Q with
  |nil=>cases eh
  |cons b Q=>
   rw[aY,aY]at eh;injection eh with e1 e2
   have e3:=ev a (ak ..) b (ak ..) e1;rw[ih e2 λx hx y hy=>ev x (al _ hx) y<|al _ hy]
   rw[Prod.ext e1 e3]
def ins(x:Nat×Vec F):Pt F->Pt F
 |[]=>[x]
 |y::P=>if x.1<y.1 then x::y::P else y::ins x P
theorem YC(x:Nat×Vec F):∀P:Pt F,(ins x P).Perm (x::P)
 |[]=>cZ _
 |y::P=>by
  unfold ins;split
  .exact cZ _
  .exact((YC x P).cons y).trans<|lj x y P
theorem vo(x:Nat×Vec F):∀{P:Pt F},P.Pairwise (λa b=>a.1<b.1)->(∀a∈P,a.1≠x.1)->(ins x P).Pairwise λa b=>a.1<b.1
 |[],_,_=>by exact mw ..
 |y::P,h,hn=>by
  have h':=br.mp h;unfold ins;split
  .rename_i c
   refine br.mpr #[λz hz=>?_,h]
   rcases az.mp hz with rfl|hz
   .exact c
   .have:=h'.1 z hz;lia
  .rename_i c
   refine br.mpr #[λz hz=>?_,vo x h'.2 λa ha=>hn a<|al _ ha]
   rcases az.mp ((YC x P).mem_iff.mp hz)with rfl|hz
   .have:=hn y<|ak ..;lia
   .exact h'.1 z hz
theorem jt(x:Nat×Vec F)(v:Vec F)(j:Nat):∀P:Pt F,pr (ins x P) v j=v x.1*x.2 j+pr P v j
 |[]=>rfl
 |y::P=>by
  unfold ins;split
  .rfl
  .show v y.1*y.2 j+pr (ins x P) v j=v x.1*x.2 j+(v y.1*y.2 j+pr P v j)
   rw[jt x v j P];grind
noncomputable def off(h:Nat)(l:Vec F)(a:Nat×Vec F):Nat×Vec F:=(a.1,λj=>a.2 j-a.2 h*l j)
def wid(P:Pt F)(h:Nat)(l:Vec F):Pt F:=ins (h,l)<|P.map<|off h l
theorem Zae(h:Nat)(l v:Vec F)(j:Nat):∀P:Pt F,pr (P.map<|off h l) v j=pr P v j-pr P v h*l j
 |[]=>by show(0:F)=0-0*l j;grind
 |a::P=>by
  show v a.1*(a.2 j-a.2 h*l j)+pr (P.map<|off h l) v j=(v a.1*a.2 j+pr P v j)-(v a.1*a.2 h+pr P v h)*l j;rw[Zae h l v j P];grind
structure Lead(P:Pt F)(h:Nat)(l:Vec F):Prop where
 one:l h=1
 low:∀j,j<h->l j=0
 zer:∀a∈P,l a.1=0
def Lead.ne{P:Pt F}{h:Nat}{l:Vec F}(one0:(1:F)≠0)(L:Lead P h l){a:Nat×Vec F}(ha:a∈P):a.1≠h:=λe=>by
 have:=L.zer a ha;rw[e,L.one]at this;exact one0 this
theorem Ze2{P:Pt F}{h:Nat}{l:Vec F}(one0:(1:F)≠0)(hP:Rf P)(L:Lead P h l):Rf (wid P h l):=by
 have mem:∀{x},x∈wid P h l->x=(h,l)\/∃a∈P,x=off h l a:=λ{x} hx=>by
  rcases az.mp ((YC _ _).mem_iff.mp hx)with e|e
  .exact .inl e
  .obtain⟨a,ha,e⟩:=aN.mp e
   exact .inr #[a,ha,e.symm]
 refine#[vo _ ?_ ?_,λx hx j hj=>?_,λx hx=>?_,λx hx y hy ne=>?_]
 .exact dq.mpr hP.inc
 .intro a ha
  obtain⟨b,hb,rfl⟩:=aN.mp ha;exact L.ne (a:=b) one0 hb
 .rcases mem hx with rfl|⟨a,ha,rfl⟩
  .exact L.low j hj
  .show a.2 j-a.2 h*l j=0
   rw[hP.low a ha j hj];by_cases c:h<a.1
   .rw[hP.low a ha h c];grind
   .have:j<a.1:=hj
    rw[L.low j (by have:=L.ne one0 ha;lia)];grind
 .rcases mem hx with rfl|⟨a,ha,rfl⟩
  .exact L.one
  .show a.2 a.1-a.2 h*l a.1=1
   rw[hP.one a ha,L.zer a ha];grind
 .rcases mem hx with rfl|⟨a,ha,rfl⟩
  .rcases mem hy with rfl|⟨b,hb,rfl⟩
   .exact T7 rfl ne
   .show b.2 h-b.2 h*l h=0
    rw[L.one];grind
  .rcases mem hy with rfl|⟨b,hb,rfl⟩
   .exact L.zer a ha
   .show b.2 a.1-b.2 h*l a.1=0
    rw[hP.zer a ha b hb ne,L.zer a ha];grind
def Zdr(P:Pt F)(h:Nat)(l:Vec F):(wid P h l).length=P.length+1:=by
 have:=(YC (h,l)<|P.map<|off h l).length_eq;rw[aT,aA]at this;exact this
theorem ZcY{P:Pt F}{h:Nat}{l:Vec F}(hP:Rf P)(L:Lead P h l)(u:Vec F):Mem (wid P h l) u↔∃c,Mem P λj=>u j-c*l j:=by
 have e:∀j,pr (wid P h l) u j=u h*l j+(pr P u j-pr P u h*l j):=λj=>by
  unfold wid;rw[jt,Zae]
 have pl:∀j,pr P l j=0:=λj=>XM λb hb=>by rw[L.zer b hb];grind
 constructor
 .intro hu
  refine#[u h-pr P u h,λj=>?_]
  rw[GL,pl];have:=hu j;rw[e j]at this;show u j-(u h-pr P u h)*l j=_
  grind
 .rintro ⟨c,hc⟩ j
  rw[e j];have h1:=hc j;have h2:u h-c*l h=_:=hc h;rw[GL,pl]at h1 h2;rw[L.one]at h2
  grind
def rest(P:Pt F)(v:Vec F):Vec F:=λj=>v j-pr P v j
theorem jI(hP:Rf P)(v:Vec F)(ha:a∈P):rest P v a.1=0:=by
 unfold rest;rw[wJ hP ha];grind
theorem QE{P:Pt F}{v:Vec F}:(∀j,rest P v j=0)↔Mem P v:=by
 constructor
 .intro h j;have:=h j;unfold rest at this;grind
 .intro h j;have:=h j;unfold rest;grind
theorem w6{P:Pt F}(hP:Rf P){v:Vec F}{h:Nat}{i:F}(hi:i*rest P v h=1)(hl:∀j,j<h->rest P v j=0):Lead P h λj=>i*rest P v j:=
 #[hi,λj hj=>by rw[hl j hj];grind,λa ha=>by rw[jI hP v ha];grind]
theorem ZbM{P:Pt F}(hP:Rf P){v:Vec F}{h:Nat}{i:F}(hi:i*rest P v h=1)(hl:∀j,j<h->rest P v j=0)(u:Vec F) :
  Mem (wid P h λj=>i*rest P v j) u↔∃c,Mem P λj=>u j-c*v j:=by
 rw[ZcY hP<|w6 hP hi hl]
 constructor
 .rintro ⟨c,hc⟩
  refine#[c*i,?_];have:=UJ (c*i) hc<|ZaO hP v;have e:(λj=>(u j-c*(i*rest P v j))-c*i*pr P v j)=λj=>u j-c*i*v j:=by funext j;unfold rest;grind
  rw[e]at this;exact this
 .rintro ⟨c,hc⟩
  refine#[c*rest P v h,?_];have:=YN c hc<|ZaO hP v;have e:(λj=>(u j-c*v j)+c*pr P v j)=λj=>u j-c*rest P v h*(i*rest P v j):=by funext j;unfold rest at hi ⊢;grind
  rw[e]at this;exact this
theorem Zbv(hv:Mem P v)(u:Vec F):Mem P u↔∃c,Mem P λj=>u j-c*v j:=by
 constructor
 .intro h;exact#[0,by have:=UJ 0 h hv;exact this]
 .rintro ⟨c,hc⟩
  have:=YN c hc hv;have e:(λj=>(u j-c*v j)+c*v j)=u:=by funext j;grind
  rw[e]at this;exact this
def Uv(P:Pt F):List (Vec F)->Vec F->Prop
 |[],u=>Mem P u
 |v::vs,u=>∃c,Uv P vs λj=>u j-c*v j
theorem V3{P P':Pt F}{v:Vec F}(h:∀u,Mem P' u↔∃c,Mem P λj=>u j-c*v j):∀(vs:List (Vec F))(u:Vec F),Uv P' vs u↔Uv P (v::vs) u
 |[],u=>h u
 |w::vs,u=>by
  constructor
  .rintro ⟨d,hd⟩
   obtain⟨c,hc⟩:=(V3 h vs _).mp hd;refine#[c,d,?_];have e:(λj=>u j-c*v j-d*w j)=λj=>u j-d*w j-c*v j:=by funext j;grind
   show Uv P vs λj=>u j-c*v j-d*w j
   rw[e];exact hc
  .rintro ⟨c,d,hc⟩
   refine#[d,(V3 h vs _).mpr #[c,?_]];have e:(λj=>u j-d*w j-c*v j)=λj=>u j-c*v j-d*w j:=by funext j;grind
   show Uv P vs λj=>u j-d*w j-c*v j
   rw[e];exact hc
theorem uD{P Q:Pt F}(hQ:Rf Q)(u:Vec F):Uv P (Q.map (·.2)) u↔∃q,Mem Q q/\Mem P λj=>u j-q j:=by
 constructor
 .have gen:∀(ws:List (Vec F))(u:Vec F),(∀w∈ws,Mem Q w)->Uv P ws u->∃q,Mem Q q/\Mem P λj=>u j-q j:=by
   intro ws
   induction ws with
   |nil=>intro u _ h;exact#[λ_=>0,Yj,by
    have e:(λj=>u j-0)=u:=by funext j;grind
    rw[e];exact h]
   |cons w ws ih=>
    rintro u hw ⟨c,h⟩
    obtain⟨q,hq,hp⟩:=ih _ (λx hx=>hw x<|al _ hx) h
    refine#[λj=>q j+c*w j,YN c hq<|hw w<|ak ..,?_]
    have e:(λj=>u j-(q j+c*w j))=λj=>u j-c*w j-q j:=by funext j;grind
    rw[e];exact hp
  exact gen _ u λw hw=>by obtain⟨a,ha,rfl⟩:=aN.mp hw;exact Xb hQ ha
 .rintro ⟨q,hq,hp⟩
  have gen:∀(R:Pt F)(u:Vec F),(Mem P λj=>u j-pr R q j)->Uv P (R.map (·.2)) u:=by
   intro R
   induction R with
   |nil=>
    intro u h;have e:(λj=>u j-pr [] q j)=u:=by funext j;show u j-0=u j;grind
    rw[e]at h;exact h
   |cons a R ih=>
    intro u h;refine#[q a.1,ih _ ?_];have e:(λj=>u j-q a.1*a.2 j-pr R q j)=λj=>u j-pr (a::R) q j:=by funext j;show _=u j-(q a.1*a.2 j+pr R q j);grind
    show Mem P λj=>u j-q a.1*a.2 j-pr R q j
    rw[e];exact h
  refine gen Q u ?_;have e:(λj=>u j-pr Q q j)=λj=>u j-q j:=by funext j;rw[<-hq j]
  rw[e];exact hp
variable{F:Type}[nY F][DecidableEq F]
def Supp(n:Nat)(v:Vec F):Prop:=∀j,n<=j->v j=0
structure Pn(n:Nat)(P:Pt F):Prop where
 rf:Rf P
 lt:∀a∈P,a.1<n
 sp:∀a∈P,Supp n a.2
theorem Pn.nil{n:Nat}:Pn n ([]:Pt F):=#[Rf.nil,λ_ h=>(by cases h),λ_ h=>(by cases h)]
theorem wV(h:Pn n P)(v:Vec F):Supp n (pr P v):=λj hj=>XM λb hb=>by rw[h.sp b hb j hj];grind
def Zbz{n:Nat}{P:Pt F}(h:Pn n P){v:Vec F}(hv:Mem P v):Supp n v:=λj hj=>by rw[hv j];exact wV h v j hj
noncomputable def hdV(n:Nat)(v:Vec F):Option Nat:=(aP n).find? λj=>af<|v j≠0
theorem j6{n:Nat}{v:Vec F}(hs:Supp n v)(h:hdV n v=ai)(j:Nat):v j=0:=by
 by_cases c:j<n
 .have:=oM.mp h j (aV.mpr c)
  simpa using this
 .exact hs j #[0]
def xm{n:Nat}{v:Vec F}{k:Nat}(h:hdV n v=aa k):k<n/\v k≠0/\∀j,j<k->v j=0:=by
 unfold hdV at h;rw[me]at h;obtain⟨h1,h2,h3⟩:=h;refine#[aV.mp h2,by simpa using h1,λj hj=>?_]
 have:=h3 j hj
 simpa using this
def xM{n:Nat}{v:Vec F}{k:Nat}(hk:k<n)(h1:v k≠0)(h2:∀j,j<k->v j=0):hdV n v=aa k:=by
 unfold hdV;rw[me];exact#[by simpa using h1,aV.mpr hk,λj hj=>by simpa using h2 j hj]
structure Fld(inv:F->F):Prop where
 inv:∀a,a≠0->inv a*a=1
 one0:(1:F)≠0
section
variable{inv:F->F}{n:Nat}
def more(inv:F->F)(n:Nat)(P:Pt F)(v:Vec F):Pt F:=match hdV n (rest P v)with
 |none=>P
 |some h=>wid P h λj=>inv (rest P v h)*rest P v j
structure Grow(n:Nat)(P:Pt F)(v:Vec F)(P':Pt F):Prop where
 pn:Pn n P'
 mem:∀u,Mem P' u↔∃c,Mem P λj=>u j-c*v j
 same:Mem P v->P'=P
 len:¬Mem P v->P'.length=P.length+1
theorem XE(f:Fld inv){P:Pt F}{v:Vec F}(hP:Pn n P)(hv:Supp n v):Grow n P v (more inv n P v):=by
 have hs:Supp n (rest P v):=λj hj=>by unfold rest;rw[hv j hj,wV hP v j hj];grind
 cases q:hdV n (rest P v)with
 |none=>
  have e:more inv n P v=P:=by unfold more;rw[q]
  have hm:=QE.mp<|j6 hs q;rw[e];exact#[hP,Zbv hm,λ_=>rfl,λh=>T7 hm h]
 |some h=>
  have e:more inv n P v=wid P h λj=>inv (rest P v h)*rest P v j:=by unfold more;rw[q]
  obtain⟨h1,h2,h3⟩:=xm q;have hi:=f.inv _ h2;have L:=w6 hP.rf hi h3;rw[e];refine#[#[Ze2 f.one0 hP.rf L,λa ha=>?_,λa ha=>?_],ZbM hP.rf hi h3,λhm=>T7 (QE.mpr hm h) h2,λ_=>Zdr ..]
  .rcases az.mp ((YC _ _).mem_iff.mp ha)with e|e
   .rw[e];exact h1
   .obtain⟨b,hb,rfl⟩:=aN.mp e
    exact hP.lt b hb
  .rcases az.mp ((YC _ _).mem_iff.mp ha)with e|e
   .rw[e];intro j hj
    show inv (rest P v h)*rest P v j=0;rw[hs j hj];grind
   .obtain⟨b,hb,rfl⟩:=aN.mp e
    intro j hj;show b.2 j-b.2 h*(inv (rest P v h)*rest P v j)=0;rw[hP.sp b hb j hj,hs j hj];grind
def WK(inv:F->F)(n:Nat)(P:Pt F)(vs:List (Vec F)):Pt F:=vs.foldl (more inv n) P
theorem Vc(f:Fld inv):∀(vs:List (Vec F)){P:Pt F},Pn n P->(∀v∈vs,Supp n v)->Pn n (WK inv n P vs)/\∀u,Mem (WK inv n P vs) u↔Uv P vs u
 |[],P,hP,_=>#[hP,λu=>Iff.rfl]
 |v::vs,P,hP,hv=>by
  have g:=XE f hP<|hv v<|ak ..;obtain⟨a,b⟩:=Vc f vs g.pn λw hw=>hv w<|al _ hw
  exact#[a,λu=>(b u).trans<|V3 g.mem vs u]
def join(inv:F->F)(n:Nat)(P Q:Pt F):Pt F:=WK inv n P (Q.map (·.2))
def Zd5(f:Fld inv){P Q:Pt F}(hP:Pn n P)(hQ:Pn n Q):Pn n (join inv n P Q):=(Vc f _ hP λv hv=>by obtain⟨a,ha,rfl⟩:=aN.mp hv;exact hQ.sp a ha).1
def Qv(f:Fld inv){P Q:Pt F}(hP:Pn n P)(hQ:Pn n Q)(u:Vec F):Mem (join inv n P Q) u↔∃q,Mem Q q/\Mem P λj=>u j-q j:=
 ((Vc f _ hP λv hv=>by obtain⟨a,ha,rfl⟩:=aN.mp hv;exact hQ.sp a ha).2 u).trans (uD hQ.rf u)
def ZeG(f:Fld inv){P Q:Pt F}(hP:Pn n P)(hQ:Pn n Q)(h:∀v,Mem P v↔Mem Q v):P=Q:=uniq f.one0 hP.rf hQ.rf h
theorem sub_self(u:Vec F):(λj=>u j-u j)=λ_=>0:=by funext j;grind
theorem qA(f:Fld inv){P Q:Pt F}(hP:Pn n P)(hQ:Pn n Q){u:Vec F}(h:Mem P u):Mem (join inv n P Q) u:=
 (Qv f hP hQ u).mpr #[λ_=>0,Yj,by
   have e:(λj=>u j-0)=u:=by funext j;grind
   rw[e];exact h]
def Qr(f:Fld inv){P Q:Pt F}(hP:Pn n P)(hQ:Pn n Q){u:Vec F}(h:Mem Q u):Mem (join inv n P Q) u:=
 (Qv f hP hQ u).mpr #[u,h,by rw[sub_self];exact Yj]
theorem U5(f:Fld inv){P Q R:Pt F}(hP:Pn n P)(hQ:Pn n Q)(h1:∀u,Mem P u->Mem R u)(h2:∀u,Mem Q u->Mem R u){u:Vec F}(h:Mem (join inv n P Q) u):Mem R u:=by
 obtain⟨q,a,b⟩:=(Qv f hP hQ u).mp h;have:=YN 1 (h1 _ b)<|h2 _ a;have e:(λj=>u j-q j+1*q j)=u:=by funext j;grind
 rw[e]at this;exact this
theorem uG(f:Fld inv){P Q M:Pt F}(hP:Pn n P)(hQ:Pn n Q)(hM:Pn n M)(h:∀u,Mem M u↔Mem P u/\Mem Q u):(join inv n P Q).length+M.length=P.length+Q.length:=by
 have gen:∀(vs:List (Vec F))(J T:Pt F),(∀v∈vs,Mem Q v/\Supp n v)->Pn n J->Pn n T->(∀u,Mem T u->Mem Q u)->(∀u,Mem M u->Mem T u)->(∀u,Mem J u↔∃t,Mem T t/\Mem P λj=>u j-t j)->J.length+M.length=P.length+T.length->(WK inv n J vs).length+M.length=P.length+(WK inv n T vs).length:=by
  intro vs
  induction vs with
  |nil=>intro J T _ _ _ _ _ _ e;exact e
  |cons v vs ih=>
   intro J T hv hJ hT h1 h2 h3 e;obtain⟨hvQ,hvS⟩:=hv v<|ak ..;have gJ:=XE f hJ hvS;have gT:=XE f hT hvS;refine ih (more inv n J v) (more inv n T v) (λw hw=>hv w<|al _ hw) gJ.pn gT.pn (λu hu=>?_) (λu hu=>?_) (λu=>?_) ?_
   .obtain⟨c,hc⟩:=(gT.mem u).mp hu
    have:=YN c (h1 _ hc) hvQ;have e:(λj=>u j-c*v j+c*v j)=u:=by funext j;grind
    rw[e]at this;exact this
   .exact(gT.mem u).mpr #[0,by
     have e:(λj=>u j-0*v j)=u:=by funext j;grind
     rw[e];exact h2 u hu]
   .rw[gJ.mem u]
    constructor
    .rintro ⟨c,hc⟩
     obtain⟨t,ht,hp⟩:=(h3 _).mp hc;refine#[λj=>t j+c*v j,(gT.mem _).mpr #[c,?_],?_]
     .have e:(λj=>t j+c*v j-c*v j)=t:=by funext j;grind
      rw[e];exact ht
     .have e:(λj=>u j-(t j+c*v j))=λj=>u j-c*v j-t j:=by funext j;grind
      rw[e];exact hp
    .rintro ⟨t,ht,hp⟩
     obtain⟨c,hc⟩:=(gT.mem t).mp ht;refine#[c,(h3 _).mpr #[_,hc,?_]];have e:(λj=>u j-c*v j-(t j-c*v j))=λj=>u j-t j:=by funext j;grind
     rw[e];exact hp
   .by_cases c:Mem T v
    .have cJ:Mem J v:=(h3 v).mpr #[v,c,by rw[sub_self];exact Yj]
     rw[gJ.same cJ,gT.same c];exact e
    .have cJ:¬Mem J v:=λhc=>by
      obtain⟨t,ht,hp⟩:=(h3 v).mp hc;have hq:Mem Q λj=>v j-t j:=by
       have:=UJ 1 hvQ<|h1 t ht;have e:(λj=>v j-1*t j)=λj=>v j-t j:=by funext j;grind
       rw[e]at this;exact this
      have:=YN 1 (h2 _<|(h _).mpr #[hp,hq]) ht;have e:(λj=>v j-t j+1*t j)=v:=by funext j;grind
      rw[e]at this;exact c this
     rw[gJ.len cJ,gT.len c];lia
 have hv:∀v∈Q.map (·.2),Mem Q v/\Supp n v:=λv hv=>by obtain⟨a,ha,rfl⟩:=aN.mp hv;exact#[Xb hQ.rf ha,hQ.sp a ha]
 have:=gen (Q.map (·.2)) P M hv hP hM (λu hu=>((h u).mp hu).2) (λu hu=>hu) (λu=>by
  constructor
  .intro hu
   exact#[λ_=>0,Yj,by
     have e:(λj=>u j-0)=u:=by funext j;grind
     rw[e];exact hu]
  .rintro ⟨t,ht,hp⟩
   have:=YN 1 hp ((h t).mp ht).1;have e:(λj=>u j-t j+1*t j)=u:=by funext j;grind
   rw[e]at this;exact this) rfl
 have eT:WK inv n M (Q.map (·.2))=Q:=ZeG f (Zd5 f hM hQ) hQ λu=>by
  constructor
  .exact U5 f hM hQ (λu hu=>((h u).mp hu).2) λu hu=>hu
  .exact Qr f hM hQ
 rw[eT]at this;exact this
noncomputable def Y7(P:Pt F)(j:Nat):Bool:=(P.map (·.1)).contains j
def free(n:Nat)(P:Pt F):List Nat:=(aP n).filter λj=>!Y7 P j
def av:Pt F->Nat->Vec F
 |[],f,j=>if j=f then 1 else 0
 |a::P,f,j=>if j=a.1 then-a.2 f else av P f j
def Xy :Y7 P j=am↔∃a∈P,a.1=j:=by
 unfold Y7;rw[cB,aN]
def xy{P:Pt F}{f j:Nat}(h:Y7 P j=aj):av P f j=if j=f then 1 else 0:=by
 induction P with
 |nil=>rfl
 |cons a P ih=>
  have h1:¬∃b∈a::P,b.1=j:=λz=>by rw[Xy.mpr z]at h;cases h
  show(if j=a.1 then-a.2 f else av P f j)=_
  rw[T8 λz=>h1 #[a,ak ..,z.symm]]
  exact ih (by
   cases q:Y7 P j with
   |false=>rfl
   |true=>obtain⟨b,hb,e⟩:=Xy.mp q;exact T7 #[b,al _ hb,e] h1)
def Qa :j∈free n P↔j<n/\Y7 P j=aj:=by
 unfold free;rw[bX,aV];simp
theorem Zcn{P:Pt F}(hP:Pn n P){f:Nat}(hf:f<n):Supp n (av P f):=λj hj=>by
 rw[xy (by
  cases q:Y7 P j with
  |false=>rfl
  |true=>obtain⟨b,hb,e⟩:=Xy.mp q;have:=hP.lt b hb;lia),T8 #[0]]
def perp(inv:F->F)(n:Nat)(P:Pt F):Pt F:=WK inv n []<|(free n P).map<|av P
theorem qB(f:Fld inv){P:Pt F}(hP:Pn n P):(perp inv n P).length+P.length=n:=by
 have gen:∀(L:List Nat)(A:Pt F)(D:List Nat),Pn n A->(∀k∈L,k∈free n P)->L.Nodup->(∀k∈L,k∉D)->(∀u,Mem A u->∀k∈free n P,k∉D->u k=0)->(WK inv n A<|L.map<|av P).length=A.length+L.length:=by
  intro L
  induction L with
  |nil=>intro A D _ _ _ _ _;rfl
  |cons k L ih=>
   intro A D hA hL hn hD hz;rw[dD]at hn;have hk:=hL k<|ak ..;have g:=XE f hA<|Zcn hP (Qa.mp hk).1;have nm:¬Mem A (av P k):=λh=>by
    have:=hz _ h k hk<|hD k<|ak ..;rw[xy (Qa.mp hk).2,T9 rfl]at this;exact f.one0 this
   have:=ih (more inv n A<|av P k) (k::D) g.pn (λj hj=>hL j<|al _ hj) hn.2 (λj hj=>by
    rw[az]
    rintro (z|z)
    .exact hn.1<|z▸hj
    .exact hD j (al _ hj) z) λu hu j hj hjD=>by
     obtain⟨c,hc⟩:=(g.mem u).mp hu;rw[az]at hjD;have h1:=hz _ hc j hj λz=>hjD<|.inr z
     rw[xy (Qa.mp hj).2,T8 λz=>hjD<|.inl z]at h1
     grind
   show(WK inv n (more inv n A<|av P k)<|L.map<|av P).length=_;rw[this,g.len nm,aT];lia
 have h1:=gen (free n P) [] [] Pn.nil (λ_ h=>h) (nJ _ re) (λ_ _ h=>by cases h) λu hu k _ _=>hu k
 have h2:=GQ (nJ _ List.pairwise_lt_range) hP.rf.heads λx=>by
  rw[bX,aV,Xy,aN]
  constructor
  .rintro ⟨_,a,ha,e⟩;exact#[a,ha,e]
  .rintro ⟨a,ha,e⟩;exact#[by rw[<-e];exact hP.lt a ha,a,ha,e]
 have h3:((aP n).filter<|Y7 P).length+(free n P).length=n:=by
  have gen:∀L:List Nat,(L.filter<|Y7 P).length+(L.filter λj=>!Y7 P j).length=L.length:=by
   intro L
   induction L with
   |nil=>rfl
   |cons k L ih=>
    rw[gO,gO];cases Y7 P k<;>simp<;>lia
  have:=gen<|aP n;rw[bH]at this;exact this
 rw[h2,aA]at h3;have h4:(perp inv n P).length=(free n P).length:=by
  have e:(perp inv n P).length=0+(free n P).length:=h1;lia
 lia
end
end La
namespace Rw
open La
open Ev (ltI YO Zy)
section
variable{p:Nat}[NeZero p]
noncomputable def ph(p:Nat)[NeZero p](a:Int):Fin p:=Fin.ofNat p (a%p).toNat
theorem ppos:(0:Int)<p:=by have:=NeZero.ne p;lia
theorem Yv(a:Int):((ph p a).val:Int)=a%p:=by
 have h:=ppos (p:=p);have h0:=ig a (by lia:(p:Int)≠0)
 have h1:=fY a h;show((((a%p).toNat)%p:Nat):Int)=a%p;rw[Nat.mod_eq_of_lt<|(Int.toNat_lt h0).mpr h1];exact kC h0
theorem WD{x y:Fin p}(h:(x.val:Int)=y.val):x=y:=Fin.ext #[0]
def Zav(a b:Int):ph p (a+b)=ph p a+ph p b:=WD (by
 rw[Yv,Fin.val_add];show(a+b)%p=(((ph p a).val+(ph p b).val:Nat):Int)%p;rw[rO,Yv,Yv,<-Int.add_emod])
def ZbA(a b:Int):ph p (a*b)=ph p a*ph p b:=WD (by
 rw[Yv,Fin.val_mul];show(a*b)%p=(((ph p a).val*(ph p b).val:Nat):Int)%p;rw[Int.natCast_mul,Yv,Yv,<-Int.mul_emod])
def ZaB(a:Int):ph p (a%p)=ph p a:=WD (by rw[Yv,Yv,Int.emod_emod])
def WA:ph p 0=0:=WD (by rw[Yv];simp)
theorem VP(a:Int):ph p (-a) = - ph p a:=by
 have h:ph p (-a+a)=ph p (-a)+ph p a:=Zav _ _;rw[show -a+a=0 by lia,WA]at h
 grind
def xY{a b:Int}(ha:0<=a/\a<p)(hb:0<=b/\b<p)(h:ph p a=ph p b):a=b:=by
 have:=congrArg (λx:Fin p=>(x.val:Int)) h
 simp only[Yv]at this;rw[fB ha.1 ha.2,fB hb.1 hb.2]at this;exact this
theorem ZhL{a:Int}(ha:0<=a/\a<p):ph p a=0↔a=0:=by
 constructor
 .intro h;exact xY ha #[by lia,ppos] (by rw[h,WA])
 .rintro rfl;exact WA
end
abbrev Row:=List Int
def Zh(p n:Nat)(r:Row):Prop:=r.length=n/\∀a∈r,0<=a/\a<(p:Int)
noncomputable def gt(r:Row)(j:Nat):Int:=r.getD j 0
def WI{p n:Nat}(h0:(0:Int)<p){r:Row}(h:Zh p n r)(j:Nat):0<=gt r j/\gt r j<p:=by
 unfold gt;rw[aD];cases q:r[j]? with|none=>exact#[Int.le_refl _,h0]|some a=>exact h.2 a<|c7 q
def ZaW(h:r.length<=j):gt r j=0:=by unfold gt;rw[aD,bM h];rfl
def xx(hl:r.length=s.length)(h:∀j,gt r j=gt s j):r=s:=by
 apply iX hl;intro j h1 h2;have:=h j;unfold gt at this;rw[aD,aD,ag h1,ag h2]at this;exact this
noncomputable def hdI:Row->Option Nat
 |[]=>ai
 |a::r=>if a≠0 then aa 0 else(hdI r).map (· + 1)
theorem ZT:∀{r:Row}{k:Nat},hdI r=aa k->gt r k≠0/\k<r.length/\∀j,j<k->gt r j=0
 |[],k,h=>by cases h
 |a::r,k,h=>by
  unfold hdI at h;by_cases c:a≠0
  .rw[T9 c]at h;cases h;exact#[c,by simp,λj hj=>by lia]
  .rw[T8 c]at h
   cases q:hdI r with
   |none=>rw[q]at h;cases h
   |some m=>
    rw[q]at h;have e:m+1=k:=au h;subst e;obtain⟨h1,h2,h3⟩:=ZT q;refine#[h1,by simp;lia,λj hj=>?_]
    cases j with|zero=>exact pE.mp c|succ j=>exact h3 j #[0]
theorem Y1:∀{r:Row},hdI r=ai->∀j,gt r j=0
 |[],_,j=>ZaW<|dM _
 |a::r,h,j=>by
  unfold hdI at h;by_cases c:a≠0
  .rw[T9 c]at h;cases h
  .rw[T8 c]at h
   have h':=mU.mp h;cases j with|zero=>exact pE.mp c|succ j=>exact Y1 h' j
section
variable{p n:Nat}[NeZero p]
def toV(p:Nat)[NeZero p](r:Row):Vec (Fin p):=λj=>ph p<|gt r j
def Y8{r s:Row}(hr:Zh p n r)(hs:Zh p n s)(h:toV p r=toV p s):r=s:=
 xx (by rw[hr.1,hs.1]) λj=>xY (WI ppos hr j) (WI ppos hs j)<|congrFun h j
def X0(hr:Zh p n r):Supp n (toV p r):=λj hj=>by unfold toV;rw[ZaW (by rw[hr.1];exact hj),WA]
def Z4{r:Row}(hr:Zh p n r){j:Nat}:toV p r j=0↔gt r j=0:=ZhL<|WI ppos hr j
def xP(hr:Zh p n r):hdV n (toV p r)=hdI r:=by
 cases q:hdI r with
 |none=>
  cases q2:hdV n (toV p r)with|none=>rfl|some k=>exact T7 ((Z4 hr).mpr<|Y1 q k) (xm q2).2.1
 |some k=>
  obtain⟨a,b,c⟩:=ZT q;exact xM (by rw[<-hr.1];exact b) (λz=>a<|(Z4 hr).mp z) λj hj=>(Z4 hr).mpr<|c j hj
noncomputable def ZG(p:Nat)(r o:Row)(k:Int):Row:=List.zipWith (λa b=>(a+k*b)%p) r o
noncomputable def Wg(p:Nat)(r:Row)(k:Int):Row:=r.map λa=>k*a%p
theorem Zgs(hl:r.length=o.length)(h0:f 0 0=0)(j:Nat):gt (List.zipWith f r o) j=f (gt r j) (gt o j):=by
 unfold gt;simp only[aD];rw[List.getElem?_zipWith];by_cases c:j<r.length
 .rw[ag c,ag #[0]];rfl
 .rw[bM #[0],bM #[0]];exact h0.symm
theorem Zs(hr:Zh p n r)(ho:Zh p n o):Zh p n (ZG p r o k):=by
 refine#[by unfold ZG;rw[List.length_zipWith,hr.1,ho.1];simp,λa ha=>?_]
 unfold ZG at ha;rw[<-iP]at ha;obtain⟨⟨x,y⟩,_,rfl⟩:=aN.mp ha;exact#[ig _ (by have:=ppos (p:=p);lia),fY _ ppos]
def UD(hr:Zh p n r)(ho:Zh p n o)(j:Nat):gt (ZG p r o k) j=(gt r j+k*gt o j)%p:=by
 unfold ZG;rw[Zgs (by rw[hr.1,ho.1]) #[2]]
def ZW(hr:Zh p n r)(ho:Zh p n o):toV p (ZG p r o k)=λj=>toV p r j+ph p k*toV p o j:=by
 funext j
 unfold toV;rw[UD hr ho,ZaB,Zav,ZbA]
def Zbp(j:Nat):gt (Wg p r k) j=k*gt r j%p:=by
 unfold Wg gt;simp only[aD,aQ];cases r[j]?<;>simp
theorem J4{r:Row}{k:Int}(hr:Zh p n r):Zh p n (Wg p r k):=by
 refine#[by unfold Wg;rw[aA,hr.1],λa ha=>?_]
 obtain⟨x,_,rfl⟩:=aN.mp ha;exact#[ig _ (by have:=ppos (p:=p);lia),fY _ ppos]
def qK :toV p (Wg p r k)=λj=>ph p k*toV p r j:=by
 funext j
 unfold toV;rw[Zbp,ZaB,ZbA]
def toP(p:Nat)[NeZero p](P:List Row):Pt (Fin p):=P.map λr=>((hdI r).getD 0,toV p r)
structure pZ(p n:Nat)[NeZero p](P:List Row):Prop where
 row:∀r∈P,Zh p n r
 pn:Pn n (toP p P)
theorem pZ.nil:pZ p n []:=#[λ_ h=>(by cases h),Pn.nil]
def Ya(h:r∈P):((hdI r).getD 0,toV p r)∈toP p P:=aN.mpr #[r,h,rfl]
def pZ.head(one0:(1:Fin p)≠0)(h:pZ p n P)(hr:r∈P):∃k,hdI r=aa k/\k<n/\toV p r k=1:=by
 have h1:=h.pn.rf.one _<|Ya hr;cases q:hdI r with
 |none=>
  rw[q]at h1;have:toV p r 0=1:=h1;have z:=(Z4<|h.row r hr).mpr<|Y1 q 0;rw[z]at this;exact T7 this.symm one0
 |some k=>
  rw[q]at h1;have h2:=h.pn.lt _<|Ya hr;rw[q]at h2;exact#[k,rfl,h2,h1]
def uo(hP:∀r∈P,Zh p n r)(hQ:∀r∈Q,Zh p n r)(h:toP p P=toP p Q):P=Q:=by
 induction P generalizing Q with
 |nil=>cases Q with|nil=>rfl|cons b Q=>cases h
 |cons a P ih=>cases Q with
  |nil=>cases h
  |cons b Q=>
   have h':=h;injection h' with e1 e2
   have e3:=congrArg Prod.snd e1;rw[Y8 (hP a<|ak ..) (hQ b<|ak ..) e3,ih (λr hr=>hP r<|al _ hr) (λr hr=>hQ r<|al _ hr) e2]
def ZdD(P:List Row):(toP p P).map (·.2)=P.map (toV p):=by unfold toP;rw[cg];rfl
def VB(P:List Row):(toP p P).length=P.length:=by unfold toP;rw[aA]
def clr(p:Nat)(r o:Row)(h:Nat):Row:=ZG p r o<|-(gt r h)
def Zm(p:Nat)(P:List Row)(r:Row):Row:=P.foldl (λs o=>clr p s o<|(hdI o).getD 0) r
theorem G6(hr:Zh p n r)(ho:Zh p n o):toV p (clr p r o h)=λj=>toV p r j-toV p r h*toV p o j:=by
 unfold clr;rw[ZW hr ho]
 funext j
 rw[VP];show toV p r j+(- toV p r h)*toV p o j=_
 grind
theorem UK:∀{P:List Row}{r:Row},(∀o∈P,Zh p n o)->Rf (toP p P)->Zh p n r->Zh p n #[12]/\toV p #[12]=rest (toP p P) (toV p r)
 |[],r,_,_,hr=>#[hr,by funext j;show toV p r j=toV p r j-0;grind]
 |o::P,r,hP,hf,hr=>by
  have ho:=hP o<|ak ..;have hc:Zh p n (clr p r o<|(hdI o).getD 0):=Zs hr ho;obtain⟨a,b⟩:=UK (λo h=>hP o<|al _ h) hf.tail hc
  refine#[a,?_];show toV p (Zm p P<|clr p r o<|(hdI o).getD 0)=_;rw[b,G6 hr ho];have z:∀j,pr (toP p P) (toV p o) j=0:=λj=>XM λc hc=>by
   have:toV p o c.1=0:=by
    have h1:c∈toP p (o::P):=al _ hc;have h2:((hdI o).getD 0,toV p o)∈toP p (o::P):=ak ..;have h3:=(br.mp hf.inc).1 c hc;exact hf.zer c h1 _ h2 (by simp only at h3 ⊢;lia)
   rw[this];grind
  funext j
  unfold rest;rw[GL,z];show toV p r j-toV p r ((hdI o).getD 0)*toV p o j-(pr (toP p P) (toV p r) j-_*0)=toV p r j-(toV p r ((hdI o).getD 0)*toV p o j+pr (toP p P) (toV p r) j)
  grind
def qZ(hP:pZ p n P)(hr:Zh p n r):hdI #[12]=ai↔Mem (toP p P) (toV p r):=by
 obtain⟨a,b⟩:=UK hP.row hP.pn.rf hr;rw[<-QE,<-b]
 constructor
 .intro h j;exact(Z4 a).mpr<|Y1 h j
 .intro h
  cases q:hdI (Zm p P r)with|none=>rfl|some k=>exact T7 ((Z4 a).mp<|h k) (ZT q).1
end
noncomputable def Qn(p:Nat)(a:Int):Int:=if a=1 then 1 else if p=3 then 2 else if a=2 then 3 else if a=3 then 2 else 4
def GT(p:Nat)[NeZero p](x:Fin p):Fin p:=ph p<|Qn p x.val
class Base(p:Nat):Prop where
 b:p=2\/p=3\/p=5
instance(p:Nat)[h:Base p]:NeZero p:=⟨by rcases h.b with e|e|e<;>lia⟩
section
variable{p n:Nat}[Base p]
def fld2:∀a:Fin 2,a≠0->GT 2 a*a=1:=by decide
def fld3:∀a:Fin 3,a≠0->GT 3 a*a=1:=by decide
def fld5:∀a:Fin 5,a≠0->GT 5 a*a=1:=by decide
def one2:(1:Fin 2)≠0:=by decide
def one3:(1:Fin 3)≠0:=by decide
def one5:(1:Fin 5)≠0:=by decide
def fld:Fld (GT p):=by
 rcases(inferInstance:Base p).b with e|e|e<;>subst e
 .exact#[fld2,one2]
 .exact#[fld3,one3]
 .exact#[fld5,one5]
def Zd2{a:Int}(h:0<=a/\a<(p:Int)):((ph p a).val:Int)=a:=by rw[Yv,fB h.1 h.2]
def lead(p:Nat)(s:Row)(h:Nat):Row:=Wg p s<|Qn p<|gt s h
def WS(p:Nat)(P:List Row)(r:Row):List Row:=match hdI (Zm p P r)with
 |none=>P
 |some h=>(Zy<|P.map (λo=>clr p o #[18] h)++[lead p #[12] h]).reverse
def yc(h:Nat)(x:Row):List Row->List Row
 |[]=>[x]
 |y::P=>if h<(hdI y).getD 0 then x::y::P else y::yc h x P
theorem VN(h:Nat)(x:Row):∀P:List Row,(yc h x P).Perm (x::P)
 |[]=>cZ _
 |y::P=>by
  unfold yc;split
  .exact cZ _
  .exact((VN h x P).cons y).trans<|lj x y P
theorem yT{h:Nat}{x:Row}(hx:hdI x=aa h):∀P:List Row,toP p (yc h x P)=ins (h,toV p x) (toP p P)
 |[]=>by show[((hdI x).getD 0,toV p x)]=_;rw[hx];rfl
 |y::P=>by
  unfold yc;show toP p (if h<(hdI y).getD 0 then _ else _)=(if h<(hdI y).getD 0 then _ else _)
  split
  .show((hdI x).getD 0,toV p x)::_=_;rw[hx];rfl
  .show((hdI y).getD 0,toV p y)::toP p (yc h x P)=_;rw[yT hx P];rfl
theorem Za4:∀{a b:Row}{h:Nat},a.length=b.length->(∀j,j<h->gt a j=gt b j)->gt b h<gt a h->h<a.length->ltI b a=am
 |[],_,_,_,_,_,hl=>by simp at hl
 |x::a,[],_,e,_,_,_=>by simp at e
 |x::a,y::b,0,_,_,hlt,_=>by
  have:y<x:=hlt;unfold ltI;rw[T8 #[0]]
  exact T5 this
 |x::a,y::b,h+1,e,hj,hlt,hl=>by
  have:x=y:=hj 0 #[0]
  unfold ltI;rw[T9 this.symm];exact Za4 (by simpa using e) (λj h'=>hj (j+1)<|by lia) hlt (by simpa using hl)
theorem Zbb{a b:Row}{h k:Nat}(ha:Zh p n a)(hb:Zh p n b)(h1:hdI a=aa h)(h2:hdI b=aa k)(hk:h<k):ltI b a=am:=by
 obtain⟨a1,a2,a3⟩:=ZT h1;obtain⟨b1,b2,b3⟩:=ZT h2;refine Za4 (by rw[ha.1,hb.1]) (λj hj=>by rw[a3 j hj,b3 j<|by lia]) ?_ a2
 rw[b3 h hk];have:=(WI ppos ha h).1;lia
def pZ.falls{P:List Row}(hP:pZ p n P):P.Pairwise λa b=>ltI b a=am:=by
 have inc:P.Pairwise λa b=>(hdI a).getD 0<(hdI b).getD 0:=by
  have:=hP.pn.rf.inc;unfold toP at this;rw[dq]at this;exact this
 refine l7 (λ{a b} ha hb hab=>?_) inc
 obtain⟨h,e1,_⟩:=hP.head fld.one0 ha;obtain⟨k,e2,_⟩:=hP.head fld.one0 hb;rw[e1,e2]at hab;exact Zbb (hP.row a ha) (hP.row b hb) e1 e2 hab
def Uh{P:List Row}(h:P.Pairwise λa b=>ltI b a=am):P.Nodup:=List.Pairwise.imp (λ{a b} hab e=>by
 rw[e]at hab;have:=Sd.UE hab;rw[hab]at this;cases this) h
def Zcx{P Q:List Row}(hp:Q.Perm P)(h:Q.Pairwise λa b=>ltI b a=am):(Zy P).reverse=Q:=by
 have hn:P.Nodup:=(hp.nodup_iff).mp<|Uh h;have e:Zy P=Q.reverse:=Sd.XY ((Sd.YW P).trans<|hp.symm.trans (eC Q).symm) (Sd.XA hn)<|eZ.mpr h;rw[e,List.reverse_reverse]
def VU{P:List Row}{r:Row}(hP:pZ p n P)(hr:Zh p n r):pZ p n (WS p P r)/\toP p (WS p P r)=more (GT p) n (toP p P) (toV p r):=by
 obtain⟨s1,s2⟩:=UK hP.row hP.pn.rf hr;have eh:=xP s1;rw[s2]at eh;have g:=XE fld hP.pn<|X0 hr;unfold WS;cases q:hdI (Zm p P r)with
 |none=>
  rw[q]at eh;exact#[hP,by unfold more;rw[eh]]
 |some h=>
  rw[q]at eh;have em:more (GT p) n (toP p P) (toV p r)=wid (toP p P) h (toV p<|lead p #[12] h):=by
   unfold more;rw[eh];show wid _ h _=_
   congr 1
   unfold lead;rw[qK,s2]
   funext j
   congr 1
   unfold GT;rw[<-s2];show ph p (Qn p<|(ph p<|gt #[12] h).val)=_;rw[Zd2<|WI ppos s1 h]
  have hl:Zh p n #[18]:=J4 s1;rw[em]at g;have mem:∀x∈wid (toP p P) h (toV p<|lead p #[12] h),hdV n x.2=aa x.1:=λx hx=>xM (g.pn.lt x hx) (by rw[g.pn.rf.one x hx];exact fld.one0)<|g.pn.rf.low x hx
  have hx:hdI #[18]=aa h:=by
   rw[<-xP hl];exact mem (h,toV p<|lead p #[12] h)<|(YC _ _).mem_iff.mpr<|ak ..
  have e1:toP p (P.map λo=>clr p o #[18] h)=(toP p P).map (off h<|toV p<|lead p #[12] h):=by
   unfold toP;rw[cg,cg];refine dJ λo ho=>?_
   have ho':=hP.row o ho;have hc:Zh p n (clr p o #[18] h):=Zs ho' hl;have ev:toV p (clr p o #[18] h)=(off h (toV p<|lead p #[12] h) ((hdI o).getD 0,toV p o)).2:=G6 ho' hl;show((hdI<|clr p o #[18] h).getD 0,toV p<|clr p o #[18] h)=off h _ ((hdI o).getD 0,toV p o);have:=mem (off h (toV p<|lead p #[12] h) ((hdI o).getD 0,toV p o))<|(YC _ _).mem_iff.mpr<|al _<|aN.mpr #[_,Ya ho,rfl];rw[<-ev,xP hc]at this;rw[this,ev];rfl
  have e2:toP p (yc h #[18]<|P.map λo=>clr p o #[18] h)=wid (toP p P) h (toV p<|lead p #[12] h):=by
   rw[yT hx,e1];rfl
  have hQ:pZ p n (yc h #[18]<|P.map λo=>clr p o #[18] h):=by
   refine#[λx hx=>?_,by rw[e2];exact g.pn]
   rcases az.mp ((VN _ _ _).mem_iff.mp hx)with e|e
   .rw[e];exact hl
   .obtain⟨o,ho,rfl⟩:=aN.mp e
    exact Zs (hP.row o ho) hl
  have e3:=Zcx ((VN h #[18]<|P.map λo=>clr p o #[18] h).trans (List.perm_append_singleton _ _).symm) hQ.falls
  show pZ p n (Zy _).reverse/\toP p (Zy _).reverse=_;rw[e3];exact#[hQ,by rw[e2,em]]
def YB(p:Nat)(P:List Row)(rs:List Row):List Row:=rs.foldl (WS p) P
theorem Gc:∀{rs:List Row}{P:List Row},pZ p n P->(∀r∈rs,Zh p n r)->pZ p n (YB p P rs)/\toP p (YB p P rs)=WK (GT p) n (toP p P) (rs.map<|toV p)
 |[],P,hP,_=>#[hP,rfl]
 |r::rs,P,hP,hr=>by
  obtain⟨a,b⟩:=VU hP<|hr r<|ak ..;obtain⟨c,d⟩:=Gc (rs:=rs) a λx hx=>hr x<|al _ hx
  refine#[c,?_];show toP p (YB p (WS p P r) rs)=_;rw[d,b];rfl
def X1{P Q:List Row}(hP:pZ p n P)(hQ:pZ p n Q):pZ p n (YB p P Q)/\toP p (YB p P Q)=join (GT p) n (toP p P) (toP p Q):=by
 obtain⟨a,b⟩:=Gc hP hQ.row;exact#[a,by rw[b];unfold join;rw[ZdD]]
def ZC(P:List Row):List Nat:=P.map λr=>(hdI r).getD 0
def Wv(P:List Row):(toP p P).map (·.1)=ZC P:=by unfold toP ZC;rw[cg];rfl
abbrev Mm(p:Nat)[NeZero p](P:List Row)(u:Vec (Fin p)):Prop:=Mem (toP p P) u
def eqP(hA:pZ p n A)(hB:pZ p n B)(h:∀u,Mm p A u↔Mm p B u):A=B:=uo hA.row hB.row<|ZeG fld hA.pn hB.pn h
def uf{P Q:List Row}(hP:pZ p n P)(hQ:pZ p n Q){u:Vec (Fin p)}(h:Mm p P u):Mm p (YB p P Q) u:=by
 unfold Mm;rw[(X1 hP hQ).2];exact qA fld hP.pn hQ.pn h
def Qg{P Q:List Row}(hP:pZ p n P)(hQ:pZ p n Q){u:Vec (Fin p)}(h:Mm p Q u):Mm p (YB p P Q) u:=by
 unfold Mm;rw[(X1 hP hQ).2];exact Qr fld hP.pn hQ.pn h
def U7{P Q R:List Row}(hP:pZ p n P)(hQ:pZ p n Q)(h1:∀u,Mm p P u->Mm p R u)(h2:∀u,Mm p Q u->Mm p R u){u:Vec (Fin p)}(h:Mm p (YB p P Q) u):Mm p R u:=by
 unfold Mm at h;rw[(X1 hP hQ).2]at h;exact U5 fld hP.pn hQ.pn h1 h2 h
def pJ{P Q:List Row}(hP:pZ p n P)(hQ:pZ p n Q):pZ p n (YB p P Q):=(X1 hP hQ).1
def qr{P Q:List Row}(hP:pZ p n P)(hQ:pZ p n Q):YB p P Q=YB p Q P:=eqP (pJ hP hQ) (pJ hQ hP) λu=>
 #[U7 hP hQ (λu=>Qg hQ hP) λu=>uf hQ hP,U7 hQ hP (λu=>Qg hP hQ) λu=>uf hP hQ]
def ZbY{P Q:List Row}(hP:pZ p n P)(hQ:pZ p n Q)(h:∀u,Mm p P u->Mm p Q u):YB p P Q=Q:=eqP (pJ hP hQ) hQ λu=>
 #[U7 hP hQ h λ_ h=>h,Qg hP hQ]
def vn{P:List Row}(u:Vec (Fin p))(h:Mm p ([]:List Row) u):Mm p P u:=by
 have e:u=λ_=>0:=funext λj=>h j
 rw[e];exact Yj
def Ja{P:List Row}(hP:pZ p n P):YB p [] P=P:=ZbY pZ.nil hP vn
def XS(p:Nat)(P:List Row)(r:Row):Bool:=(hdI<|Zm p P r).isNone
def ZD(hP:pZ p n P)(hr:Zh p n r):XS p P r=am↔Mm p P (toV p r):=by
 unfold Mm;rw[<-qZ hP hr];unfold XS;cases hdI #[12]<;>simp
end
end Rw
namespace Pv
open Ev
open Rw
def Za{B β:Type}{a:B}{s:DS}{f:B->DS->PR β}:(PR.ok a s).bind f=f a s:=rfl
def Uu(hf:F[f]?=aa fn)(hne:f≠tk)(hl:vs.length=fn.ps):Zk F tk (d+1) f vs s=(rvs (Zk F tk d) (muts fn.body) fn.body (ZN fn.ns vs) [] s).bind λg s=>match g with
  |.ret v=>.ok v s
  |.nx _ _=>.ok .non s:=by
 rw[Zk,T8 hne,hf];show(if vs.length=fn.ps then _ else _)=_
 rw[T9 hl]
 all_goals rfl
def Zby(s:DS)(h:0<m):0<=(XZ s m).1/\(XZ s m).1<m:=by
 unfold XZ;split
 .exact#[ig _ #[0],fY _ h]
 .exact#[ig _ #[0],fY _ h]
def Uj(s:DS)(h0:0<m)(h1:m<1073741824):∃v s',Zk F tk (d+1) tk [.drw,.int m] s=.ok (.int v) s'/\0<=v/\v<m:=by
 refine#[(XZ s m).1,(XZ s m).2,?_,Zby s h0];rw[Zk,T9 rfl];show(if 0<m/\m<1073741824 then _ else _)=_
 rw[T9 #[h0,h1]]
theorem yX{B:Type}{f:V->DS->PR (List V)}{s:DS}{e:B->V}{g:B->V}:∀{l:List B},(∀x∈l,f (e x) s=.ok [g x] s)->mapP f (l.map e) s=.ok (l.map g) s
 |[],_=>rfl
 |x::l,h=>by
  rw[aY,mapP,h x<|ak ..];show(match mapP f (l.map e) s with|.ok zs s=>PR.ok ([g x]++zs) s|_=>.no)=_
  rw[yX λy hy=>h y<|al _ hy];rfl
theorem Um{B:Type}{f:V->DS->PR (List V)}{s:DS}{e:B->V}{g:B->V}{q:B->Bool}:∀{l:List B},(∀x∈l,f (e x) s=.ok (if q x=am then[g x]else[]) s)->mapP f (l.map e) s=.ok ((l.filter q).map g) s
 |[],_=>rfl
 |x::l,h=>by
  rw[aY,mapP,h x<|ak ..];show(match mapP f (l.map e) s with|.ok zs s=>PR.ok ((if q x=am then[g x]else[])++zs) s|_=>.no)=_
  rw[Um λy hy=>h y<|al _ hy,gO]
  cases q x<;>rfl
theorem VO{Q:V->Prop}(h:∀x s,∃y s',f x s=.ok [y] s'/\Q y):∀(l:List V)(s:DS),∃ys s',mapP f l s=.ok ys s'/\ys.length=l.length/\∀y∈ys,Q y
 |[],s=>#[[],s,rfl,rfl,λ_ h=>by cases h]
 |x::l,s=>by
  obtain⟨y,s1,e1,q1⟩:=h x s;obtain⟨ys,s2,e2,l2,q2⟩:=VO h l s1;refine#[y::ys,s2,?_,by rw[aT,aT,l2],λz hz=>?_]
  .rw[mapP,e1]
   show(match mapP f l s1 with|.ok zs s=>PR.ok ([y]++zs) s|_=>.no)=_
   rw[e2];rfl
  .rcases az.mp hz with rfl|hz
   .exact q1
   .exact q2 z hz
theorem Ji{Z B:Type}{body:V->Env->List Nat->DS->PR FlV}{s:DS}{os:List Nat}{U:Z->Option V->Env}{step:Z->B->Z}{e:B->V}(I:Z->Prop):∀{l:List B}{st:Z}{o:Option V},I st->(∀x∈l,∀st o,I st->I (step st x)/\∃o',body (e x) (U st o) os s=.ok (.nx (U (step st x) o') os) s)->∃o',I (l.foldl step st)/\Y2 body (l.map e) (U st o) os s=.ok (.nx (U (l.foldl step st) o') os) s
 |[],st,o,hI,_=>#[o,hI,rfl]
 |x::l,st,o,hI,h=>by
  obtain⟨h1,o1,e1⟩:=h x (ak ..) st o hI;obtain⟨o2,h2,e2⟩:=Ji I h1 λy hy=>h y<|al _ hy
  refine#[o2,h2,?_];rw[aY,Y2,e1];exact e2
noncomputable def Vj:Option Nat->V
 |none=>.non
 |some k=>.int k
noncomputable def spV(p n:Nat):V:=.tup [.int p,.int n]
def Z6{a:Int}(h:-4294967296<a)(h':a<4294967296):fits a=am:=by
 refine T5 ?_;have h1:a.natAbs<2^32:=by lia
 exact bo h1<|dC #[1] #[1]
def V2{B:Type}{xs:List B}{k:Nat}{x:B}(h:xs[k]?=aa x):at' xs (k:Int)=aa x:=by
 have hk:k<xs.length:=(aK.mp h).1;unfold at' ixN;rw[T9<|lz k,T9<|Int.ofNat_lt.mpr hk];exact h
def QA{r:Row}{k:Nat}(hk:k<r.length):at' (r.map V.int) (k:Int)=aa (.int<|gt r k):=by
 refine V2 ?_;rw[aQ,ag hk];unfold gt;rw[aD,ag hk];rfl
theorem Yu{B:Type}{g:B->Bool}:∀l:List B,Z0 (l.map λx=>.bl<|g x)=aa (l.map g)
 |[]=>rfl
 |x::l=>by rw[aY,Z0,Yu l];rfl
theorem Qi{B:Type}{f:V->V->Option Bool}{e:B->V}{d:B->B->Bool}(hd:∀a b,d a b=am↔a=b)(h:∀a b,f (e a) (e b)=aa (d a b)):∀a b:List B,∃c,Yz f (a.map e) (b.map e)=aa c/\(c=am↔a=b)
 |[],[]=>#[am,rfl,by simp]
 |[],_::_=>#[aj,rfl,by simp]
 |_::_,[]=>#[aj,rfl,by simp]
 |x::a,y::b=>by
  obtain⟨c,e1,e2⟩:=Qi hd h a b;refine#[d x y&&c,?_,?_]
  .rw[aY,aY,Yz,h,e1]
  .rw[aF,hd,e2];simp
def Zdw(k:Nat)(a b:Row):eqV (k+2) (Zc a) (Zc b)=aa (af<|a=b):=by
 show Yz (eqV<|k+1) (a.map .int) (b.map .int)=_;obtain⟨c,e1,e2⟩:=Qi (f:=eqV<|k+1) (e:=V.int) (λa b=>by simp) (λa b=>rfl) a b
 rw[e1,show c=af (a=b) by rw[cy,e2];simp]
def ZaZ(k:Nat)(a b:List Row):eqV (k+3) (Zd a) (Zd b)=aa (af<|a=b):=by
 show Yz (eqV<|k+2) (a.map Zc) (b.map Zc)=_;obtain⟨c,e1,e2⟩:=Qi (λa b=>by simp) (λa b=>Zdw k a b) a b
 rw[e1,show c=af (a=b) by rw[cy,e2];simp]
theorem yW:∀(r o:Row),((r.map V.int).zip<|o.map V.int).map (λq=>V.tup [q.1,q.2])=(r.zip o).map λq=>V.tup [.int q.1,.int q.2]
 |[],_=>rfl
 |_::_,[]=>rfl
 |a::r,b::o=>by rw[aY,aY,cM,aY,cM,aY,yW r o]
theorem Yt:∀r:Row,intsV (r.map V.int)=aa r
 |[]=>rfl
 |a::r=>by show(intsV<|r.map V.int).map (a :: ·)=_;rw[Yt r];rfl
theorem YT:∀P:List Row,Yh (P.map Zc)=aa P
 |[]=>rfl
 |r::P=>by
  show(match intsV (r.map V.int),Yh (P.map Zc)with|some a,aa b=>aa (a::b)|_,_=>ai)=_
  rw[Yt,YT P]
theorem Qs:∀r:Row,Xe (r.map V.int)=am
 |[]=>rfl
 |a::r=>Qs r
def Zcw(n:Nat):Z5 0 n=(aP n).map λ(k:Nat)=>V.int (k:Int):=by
 refine dJ λk _=>?_
 simp
def ZP{B:Type}{a:B}{s:DS}:po (aa a) s=.ok a s:=rfl
section
variable{C:Zr}{cap:List Nat}{nl:Nat}{t:List Nat}{it:W}{elt tst:E}{U:Env}{s:DS}{B:Type}
def ZS{l:List B}{e g:B->V}(hw:pvw C it U s=.ok (l.map e) s)(hl:l.length<=lim)(h:∀x∈l,∃Z,Zn t (e x) (Z3 cap nl U)=aa Z/\pv C elt Z s=.ok (g x) s)(ho:own nl t=am:=by rfl):pv C (.comp1 cap nl t it [] elt) U s=.ok (.lst<|l.map g) s:=by
 rw[qF,T9 ho,hw,Za,yX (g:=g) λx hx=>by
  obtain⟨Z,e1,e2⟩:=h x hx;rw[e1,ZP,Za,pvt,Za];show(pv C elt Z s).bind _=_;rw[e2];rfl]
 rw[Za,T9 (by rw[aA];exact hl)];rfl
def Xa{l:List B}{e g:B->V}{q:B->Bool}(hw:pvw C it U s=.ok (l.map e) s)(hl:l.length<=lim)(h:∀x∈l,∃Z v,Zn t (e x) (Z3 cap nl U)=aa Z/\pv C tst Z s=.ok v s/\Zw v=aa (q x)/\(q x=am->pv C elt Z s=.ok (g x) s))(ho:own nl t=am:=by rfl):pv C (.comp1 cap nl t it [tst] elt) U s=.ok (.lst<|(l.filter q).map g) s:=by
 rw[qF,T9 ho,hw,Za,Um (g:=g) (q:=q) λx hx=>by
  obtain⟨Z,v,e1,e2,e3,e4⟩:=h x hx;rw[e1,ZP,Za,pvt,e2,Za,e3,ZP,Za];cases c:q x with
  |true=>
   rw[T9 rfl,pvt,Za,T9 rfl,T9 rfl,e4 c];rfl
  |false=>rw[T8 #[2],Za,T8 #[2],T8 #[2]]]
 rw[Za,T9 (by rw[aA];exact cc (gq ..) hl)];rfl
def uX{k:Nat}{Q:V->Prop}(hw:pvw C it U s=.ok (Z5 0 k) s)(hl:k<=lim)(h:∀(x:V)(s:DS),∃Z y s',Zn t x (Z3 cap nl U)=aa Z/\pv C elt Z s=.ok y s'/\Q y)(ho:own nl t=am:=by rfl) :
  ∃ys s',pv C (.comp1 cap nl t it [] elt) U s=.ok (.lst ys) s'/\ys.length=k/\∀y∈ys,Q y:=by
 obtain⟨ys,s',e1,e2,e3⟩:=VO (Q:=Q) (f:=λx s=>(po (Zn t x<|Z3 cap nl U) s).bind λZ s=>(pvt C [] Z s).bind λb s=>if b then(pv C elt Z s).bind λy s=>.ok [y] s else .ok [] s) (λx s=>by
  obtain⟨Z,y,s',f1,f2,f3⟩:=h x s;refine#[y,s',?_,f3];rw[f1,ZP,Za,pvt,Za];show(pv C elt Z s).bind _=_;rw[f2];rfl) (Z5 0 k) s
 have hk:(Z5 0 k).length=k:=by unfold Z5;simp
 refine#[ys,s',?_,by rw[e2,hk],e3]
 rw[qF,T9 ho,hw,Za,e1,Za,T9 (by rw[e2,hk];exact hl)];rfl
end
def Zfj{xs:List V}{k:Nat}(h:k<=xs.length):Z8 xs ai (aa (k:Int))=xs.take k:=by
 show(xs.drop 0).take ((if(k:Int)<0 then((k:Int)+xs.length).toNat else sO (k:Int).toNat xs.length)-0)=_
 rw[T8<|Int.not_lt.mpr<|lz k,show sO (k:Int).toNat xs.length-0=k from h8 h];rfl
def zX{xs:List V}{i:Int}{k:Nat}(hi:i=k)(h:k<=xs.length):Z8 xs (aa i) ai=xs.drop k:=by
 subst hi;show(xs.drop<|if(k:Int)<0 then((k:Int)+xs.length).toNat else sO (k:Int).toNat xs.length).take (xs.length-(if(k:Int)<0 then((k:Int)+xs.length).toNat else sO (k:Int).toNat xs.length))=_
 rw[T8<|Int.not_lt.mpr<|lz k,show sO (k:Int).toNat xs.length=k from h8 h]
 exact cG<|mR bL
def ZaG{xs:List V}:Z8 xs (aa 1) ai=xs.tail:=by
 cases xs with|nil=>rfl|cons x xs=>exact zX rfl #[2]
noncomputable def Zp(k:Nat):V:=.int k
def ze(n:Nat):Z5 0 n=(aP n).map Zp:=by rw[Zcw];rfl
def Ql(h0:0<=i)(h1:i<1000000):WJ i=am:=by
 unfold WJ;have e:(2:Int)^62=4611686018427387904:=by decide
 rw[e];exact T5 #[by lia,by lia]
def Zt(hf:F[f]?=aa fn)(hne:f≠tk)(hl:vs.length=fn.ps)(h:rvs (Zk F tk d) (muts fn.body) fn.body (ZN fn.ns vs) [] s=.ok (.ret v) s'):Zk F tk (d+1) f vs s=.ok v s':=by
 rw[Uu hf hne hl,h];rfl
def vU(hf:F[f]?=aa fn)(hne:f≠tk)(hl:vs.length=fn.ps)(h:rvs (Zk F tk d) (muts fn.body) fn.body (ZN fn.ns vs) [] s=.ok (.nx U os) s'):Zk F tk (d+1) f vs s=.ok .non s':=by
 rw[Uu hf hne hl,h];rfl
def Zi(h:rv C ms m U os s=.ok (.nx ρ' os') s'):rvs C ms (m::l) U os s=rvs C ms l ρ' os' s':=by rw[rvs,h];rfl
def Zo(h:rv C ms m U os s=.ok (.ret v) s'):rvs C ms (m::l) U os s=.ok (.ret v) s':=by rw[rvs,h];rfl
def ZH{v:V}{e:E}(h:pv C e U s=.ok v s'):rv C ms (.ret e) U os s=.ok (.ret v) s':=by rw[rE9,h];rfl
def ZaX{v:V}{f:Nat}{as:List E}(h:pv C (.call f as) U s=.ok v s'):rv C ms (.ex<|.call f as) U os s=.ok (.nx U os) s':=by
 have:rv C ms (.ex<|.call f as) U os s=(pv C (.call f as) U s).bind λ_ s=>.ok (.nx U os) s:=by
  rw[Zf3]
  all_goals(intro _ _ z;cases z)
 rw[this,h];rfl
def XO{b:Bool}{t:E}{x y:List Sm}(h:YE C t U s=.ok b s'):rv C ms (.ite t x y) U os s=if b=am then rvs C ms x U os s' else rvs C ms y U os s':=by rw[GI,h];rfl
def YI{v:V}{b:Bool}{t:E}(h:pv C t U s=.ok v s')(hb:Zw v=aa b):YE C t U s=.ok b s':=by unfold YE;rw[h,Za,hb];rfl
def Zq{f:Nat}{as:List E}{vs:List V}{v:V}{s1:DS}(h:pvs C as U s=.ok vs s1)(hc:C f vs s1=.ok v s'):pv C (.call f as) U s=.ok v s':=by rw[Zax,h];exact hc
def Zf:pvs C [] U s=.ok [] s:=by rw[pvs]
def Zb{e:E}{es:List E}{v:V}{vs:List V}{s1:DS}(h:pv C e U s=.ok v s1)(h2:pvs C es U s1=.ok vs s'):pvs C (e::es) U s=.ok (v::vs) s':=by rw[pvs,h,Za,h2];rfl
def Ze{i:Nat}{v:V}(h:U[i]?=aa (aa v)):pv C (.v i) U s=.ok v s:=by rw[pE2,h];rfl
def ZY{i:Nat}{e:E}{v:V}(h:pv C e U s=.ok v s')(hm:(ms.contains i&&fresh e)=aj):rv C ms (.asg [i] e) U [] s=.ok (.nx (U.set i<|aa v) []) s':=by
 rw[rE1];show(pv C e U s).bind _=_;rw[h,Za,T8 (by rw[hm];simp)];rfl
def Zbk{Z B:Type}{t:List Nat}{it:W}{b:List Sm}{L:List B}{e:B->V}{step:Z->B->Z}{U:Z->Option V->Env}{st:Z}{o:Option V}(I:Z->Prop)(hw:pvw C it (hide os<|U st o) s=.ok (L.map e) s)(hI:I st)(ht:(t.any os.contains)=aj)
  (h:∀x∈L,∀st o,I st->I (step st x)/\(os.isEmpty||(e x).flat)=am/\∃ρ1 o',Zn t (e x) (U st o)=aa ρ1/\rvs C ms b ρ1 os s=.ok (.nx (U (step st x) o') os) s) :
  ∃o',I (L.foldl step st)/\rv C ms (.forr t it b) (U st o) os s=.ok (.nx (U (L.foldl step st) o') os) s:=by
 obtain⟨o',h1,h2⟩:=Ji (body:=λx U os s=>if(t.any os.contains)=am then .no else(po (Zn t x U) s).bind λU s=>rvs C ms b U os s) (s:=s) (os:=os) (U:=U) (step:=step) (e:=e) I (l:=L) (st:=st) (o:=o) hI (λx hx st o hI=>by
  obtain⟨a,f,ρ1,o',b1,b2⟩:=h x hx st o hI;refine#[a,o',?_];rw[T8 (by rw[ht];simp),b1,ZP,Za,b2])
 refine#[o',h1,?_];rw[QZ,hw,Za];exact h2
def XH{e:E}{n:Nat}(h:pv C e U s=.ok (.int n) s')(hn:n<1000000):pvw C (.rng1 e) U s=.ok ((aP n).map Zp) s':=by
 rw[wE1,h,Za];show(if WJ (n:Int)=am then PR.ok (Z5 0 (n:Int).toNat) s' else .no)=_
 rw[T9 (Ql #[0] #[0]),dm,ze]
def ug{B:Type}{t:List Nat}{it:W}{b:List Sm}{L:List B}{e:B->V}(I:List B->Env->Prop)(hw:pvw C it (hide os U) s=.ok (L.map e) s)(hI:I L U)(ht:(t.any os.contains)=aj)
  (h:∀x l U,I (x::l) U->(os.isEmpty||(e x).flat)=am/\∃ρ1 ρ',Zn t (e x) U=aa ρ1/\rvs C ms b ρ1 os s=.ok (.nx ρ' os) s/\I l ρ') :
  ∃ρ',I [] ρ'/\rv C ms (.forr t it b) U os s=.ok (.nx ρ' os) s:=by
 rw[QZ,hw,Za];clear hw
 induction L generalizing U with
 |nil=>exact#[U,hI,rfl]
 |cons x L ih=>
  obtain⟨f,ρ1,ρ',b1,b2,b3⟩:=h x L U hI;obtain⟨ρ2,c1,c2⟩:=ih b3;refine#[ρ2,c1,?_];rw[aY,Y2,T8 (by rw[ht];simp),b1,ZP,Za,b2,Za]
  exact c2
def w4{Z B:Type}{t:List Nat}{it:W}{b:List Sm}{L:List B}{e:B->V}{step:Z->B->Z}{U:Z->Option V->Env}{st:Z}{o:Option V}(I:List B->Z->Prop)(hw:pvw C it (hide os<|U st o) s=.ok (L.map e) s)(hI:I L st)(ht:(t.any os.contains)=aj)
  (h:∀x l st o,I (x::l) st->I l (step st x)/\(os.isEmpty||(e x).flat)=am/\∃ρ1 o',Zn t (e x) (U st o)=aa ρ1/\rvs C ms b ρ1 os s=.ok (.nx (U (step st x) o') os) s) :
  ∃o',I [] (L.foldl step st)/\rv C ms (.forr t it b) (U st o) os s=.ok (.nx (U (L.foldl step st) o') os) s:=by
 rw[QZ,hw,Za];clear hw
 induction L generalizing st o with
 |nil=>exact#[o,hI,rfl]
 |cons x L ih=>
  obtain⟨a,f,ρ1,o',b1,b2⟩:=h x L st o hI;obtain⟨o2,c1,c2⟩:=ih (st:=step st x) (o:=o') a;refine#[o2,c1,?_];rw[aY,Y2,T8 (by rw[ht];simp),b1,ZP,Za,b2,Za]
  exact c2
def pvF:(∀a,fresh (.lst a)=am)/\(∀a b,fresh (.bin .mul (.lst a) b)=am)/\(∀b,Zw (.bl b)=aa b)/\(∀i,Zw (.int i)=aa (af<|i≠0))/\(∀xs,Zw (.tup xs)=aa (!xs.isEmpty))/\(∀xs,Zw (.lst xs)=aa (!xs.isEmpty))/\(Zw .non=aa aj)/\(∀xs i,ixV (.tup xs) (.int i)=at' xs i)/\(∀xs i,ixV (.lst xs) (.int i)=at' xs i)/\(∀xs,Yx (.tup xs)=aa xs)/\(∀xs,Yx (.lst xs)=aa xs)/\(∀x,Xo .len [x]=(Yx x).map λxs=>.int xs.length)/\(∀x,Xo .tuple [x]=(Yx x).map .tup)/\(∀x,Xo .list [x]=(Yx x).map .lst)/\(∀xs,Xo .all [.lst xs]=(Z0 xs).map λbs=>.bl<|bs.all id)/\(∀a b,Xo .max2 [.int a,.int b]=aa (.int (if b>a then b else a)))/\(∀a b,Xo .min2 [.int a,.int b]=aa (.int (if b<a then b else a)))/\(∀a,Xo .toInt [.int a]=aa (.int a))/\(∀a,Xo .toInt [.bl a]=aa (.int<|b2i a))/\(∀xs,Xo .sortedR [.lst xs]=(Yh xs).bind λrs=>if Z7 rs=am then aa (.lst<|(Zy rs).reverse.map Zc)else ai)/\(∀a b s,XV .add (.int a) (.int b) s=.ok (.int<|a+b) s)/\(∀a b s,XV .sub (.int a) (.int b) s=.ok (.int<|a-b) s)/\(∀a b s,XV .mul (.int a) (.int b) s=if(fits a&&fits b)=am then .ok (.int<|a*b) s else .no)/\(∀a b s,XV .mod (.int a) (.int b) s=if 0<b then .ok (.int<|a%b) s else .no)/\(∀a b s,XV .add (.tup a) (.tup b) s=if a.length+b.length<=lim then .ok (.tup<|a++b) s else .no)/\(∀a b s,XV .mul (.tup a) (.int b) s=if 0<=b/\b<1000/\a.length<=1000 then .ok (.tup (aB b.toNat a).flatten) s else .no)/\(∀a b s,XV .mul (.lst a) (.int b) s=if 0<=b/\b<1000/\a.length<=1000 then .ok (.lst (aB b.toNat a).flatten) s else .no)/\(∀a b s,XV .add (.lst a) (.lst b) s=if a.length+b.length<=lim then .ok (.lst<|a++b) s else .no)/\(∀x y,Y5 .eq x y=(eqV ZA x y).map .bl)/\(∀x y,Y5 .ne x y=(eqV ZA x y).map λb=>.bl !b)/\(∀a b,Y5 .lt (.int a) (.int b)=aa (.bl<|af<|a<b))/\(∀a b,Y5 .gt (.int a) (.int b)=aa (.bl<|af<|b<a))/\(∀a b,Y5 .le (.int a) (.int b)=aa (.bl<|af<|a<=b))/\(∀a b,Y5 .ge (.int a) (.int b)=aa (.bl<|af<|b<=a))/\(∀x,Y5 .is x .non=aa (.bl<|Qe x))/\(∀a b,Y5 .is (.bl a) (.bl b)=aa (.bl<|af<|a=b))/\(∀x y,Y5 .inn x y=(Us x y).map .bl)/\(∀x y,Y5 .nin x y=(Us x y).map λb=>.bl !b)/\(Qe .non=am)/\(∀b,Qe (.bl b)=aj)/\(∀b,Qe (.int b)=aj)/\(∀b,Qe (.tup b)=aj)/\(∀b,Qe (.lst b)=aj)/\(ofD .non=aa .non)/\(∀b,ofD (.bl b)=aa (.bl b))/\(∀b,ofD (.int b)=aa (.int b))/\(∀U,YL [] [] U=aa U)/\(∀i t x xs U,YL (i::t) (x::xs) U=YL t xs (U.set i<|aa x))/\(∀i x U,Zn [i] x U=aa (U.set i<|aa x))/\(∀i j t xs U,Zn (i::j::t) (.tup xs) U=YL (i::j::t) xs U)/\(∀i j t xs U,Zn (i::j::t) (.lst xs) U=YL (i::j::t) xs U)/\(∀k a b,eqV (k+1) (.int a) (.int b)=aa (af<|a=b))/\(∀k a b,eqV (k+1) (.bl a) (.bl b)=aa (af<|a=b))/\(∀k a b,eqV (k+1) (.tup a) (.tup b)=Yz (eqV k) a b)/\(∀k a b,eqV (k+1) (.lst a) (.lst b)=if a.length=b.length then Yz (eqV k) a b else aa aj):=
 #[λ_=>rfl,λ_ _=>rfl,λ_=>rfl,λ_=>rfl,λ_=>rfl,λ_=>rfl,rfl,λ_ _=>rfl,λ_ _=>rfl,λ_=>rfl,λ_=>rfl,λ_=>rfl,λ_=>rfl,λ_=>rfl,λ_=>rfl,λ_ _=>rfl,λ_ _=>rfl,λ_=>rfl,λ_=>rfl,λ_=>rfl,λ_ _ _=>rfl,λ_ _ _=>rfl,λ_ _ _=>rfl,λ_ _ _=>rfl,λ_ _ _=>rfl,λ_ _ _=>rfl,λ_ _ _=>rfl,λ_ _ _=>rfl,λ_ _=>rfl,λ_ _=>rfl,λ_ _=>rfl,λ_ _=>rfl,λ_ _=>rfl,λ_ _=>rfl,λ_=>rfl,λ_ _=>rfl,λ_ _=>rfl,λ_ _=>rfl,rfl,λ_=>rfl,λ_=>rfl,λ_=>rfl,λ_=>rfl,rfl,λ_=>rfl,λ_=>rfl,λ_=>rfl,λ_ _ _ _ _=>rfl,λ_ _ _=>rfl,λ_ _ _ _ _=>rfl,λ_ _ _ _ _=>rfl,λ_ _ _=>rfl,λ_ _ _=>rfl,λ_ _ _=>rfl,λ_ _ _=>rfl]
def pvE:=bj (bj (bj (bj (bj pvF<|bj @Za @ZP)<|bj @YE.eq_1<|bj @ZN.eq_1 @hide.eq_1)<|bj (bj @Z3.eq_1<|bj @Option.join.eq_1.{0} @lim.eq_1)<|bj (bj @rvs.eq_1 @rvs.eq_2)<|bj @pvA.eq_1 @pvA.eq_2)<|bj (bj (bj @pvs.eq_1<|bj @pvs.eq_2 @pvo.eq_1)<|bj (bj @pvo.eq_2 @pvt.eq_1)<|bj @pvt.eq_2 @pE1)<|bj (bj @pE2<|bj @pE3 @pE4)<|bj (bj @pE5 @pE7)<|bj @pE8 @pE9)<|bj (bj (bj (bj @Zgu<|bj @Zdt @YF)<|bj @ZiC<|bj @X4 @ZcR)<|bj (bj @Zh0<|bj @Zax @Ys)<|bj (bj @Zfh @rE1)<|bj @rE2 @rE3)<|bj (bj (bj @rE4<|bj @rE7 @rE9)<|bj (bj @Zd6 @Zf3)<|bj @GI @QZ)<|bj (bj @ZhE<|bj @Zib @wE1)<|bj (bj @wE2 @wE5)<|bj @wE6 @wE7
end Pv
namespace K51
open Ev Pv Rw La
abbrev CV(d:Nat):Zr:=Zk fns 2 d
theorem JE(C:Zr)(s:DS)(v:V):∀(r:Row)(k:Nat)(a b:Option V),∃a' b',Y2 (λx U os s=>if(([1,2]:List Nat).any os.contains)=am then .no else(po (Zn [1,2] x U) s).bind λU s=>rvs C [] [.ite (.cmp .ne (.v 2)<|.n 0) [.ret<|.v 1] []] U os s)
   (((Z5 k r.length).zip<|r.map V.int).map λp=>V.tup [p.1,p.2]) [aa v,a,b] [] s=match hdI r with
    |some m=>.ok (.ret<|.int (k+m:Nat)) s
    |none=>.ok (.nx [aa v,a',b'] []) s
 |[],k,a,b=>#[a,b,rfl]
 |x::r,k,a,b=>by
  have er:Z5 k (x::r).length=.int k::Z5 (k+1:Nat) r.length:=by
   unfold Z5;rw[aT,mO,aY,cg];refine List.cons_eq_cons.mpr #[by simp,?_]
   .refine dJ λj _=>?_
    show V.int ((k:Int)+((j+1:Nat):Int))=V.int (((k+1:Nat):Int)+(j:Int))
    congr 1
    lia
  obtain⟨a',b',ih⟩:=JE C s v r (k+1) (aa<|.int k)<|aa<|.int x;refine#[a',b',?_];rw[er,aY,cM,aY,Y2];by_cases c:x=0
  .subst c
   have e0:hdI (0::r)=(hdI r).map (· + 1):=by rw[hdI,T8 #[2]]
   have e1:(if(([1,2]:List Nat).any ([]:List Nat).contains)=am then(.no:PR FlV)else(po (Zn [1,2] (V.tup [.int k,.int 0]) [aa v,a,b]) s).bind λU s=>rvs C [] [.ite (.cmp .ne (.v 2)<|.n 0) [.ret<|.v 1] []] U [] s)=.ok (.nx [aa v,aa<|.int k,aa<|.int 0] []) s:=by
    simp[pvE,ZA]
   rw[e1,Za,e0];show Y2 _ _ [aa v,aa<|.int k,aa<|.int 0] [] s=_;rw[ih];cases hdI r with|none=>rfl|some m=>show PR.ok (FlV.ret<|.int ((k+1+m:Nat):Int)) s=PR.ok (FlV.ret<|.int ((k+(m+1):Nat):Int)) s;congr 3;lia
  .have e0:hdI (x::r)=aa 0:=by rw[hdI,T9 c]
   have e1:(if(([1,2]:List Nat).any ([]:List Nat).contains)=am then(.no:PR FlV)else(po (Zn [1,2] (V.tup [.int k,.int x]) [aa v,a,b]) s).bind λU s=>rvs C [] [.ite (.cmp .ne (.v 2)<|.n 0) [.ret<|.v 1] []] U [] s)=.ok (.ret<|.int k) s:=by
    simp[pvE,ZA,c]
   rw[e1,Za,e0];rfl
def Go(d:Nat)(r:Row)(s:DS):CV (d+1) 18 [Zc r] s=.ok (Vj<|hdI r) s:=by
 rw[CV,Uu rfl #[1] rfl]
 obtain⟨a,b,e⟩:=JE (Zk fns 2 d) s (Zc r) r 0 ai ai;show((rv _ [] (.forr [1,2] (.enum<|.v 0) _) [aa<|Zc r,ai,ai] [] s).bind _).bind _=_;have e2:rv (Zk fns 2 d) [] (.forr [1,2] (.enum<|.v 0) [.ite (.cmp .ne (.v 2)<|.n 0) [.ret<|.v 1] []]) [aa<|Zc r,ai,ai] [] s=match hdI r with
    |some m=>.ok (.ret<|.int (m:Nat)) s
    |none=>.ok (.nx [aa<|Zc r,a,b] []) s:=by
  rw[QZ];have ew:pvw (Zk fns 2 d) (.enum<|.v 0) (hide [] [aa<|Zc r,ai,ai]) s=.ok (((Z5 0 r.length).zip<|r.map V.int).map λp=>V.tup [p.1,p.2]) s:=by
   simp[pvE,Zc]
  rw[ew,Za];simp only[pA,Int.natCast_zero]at e;exact e
 rw[e2];cases hdI r with|none=>rfl|some m=>rfl
section
variable{p n:Nat}[Base p]
def WF:(p:Int)<=5/\(2:Int)<=p:=by rcases(inferInstance:Base p).b with e|e|e<;>subst e<;>decide
theorem wf(d:Nat){r o:Row}{k:Int}(s:DS)(hn:n<=6)(hr:Zh p n r)(ho:Zh p n o)(hk:-1000<k/\k<1000):CV (d+1) 27 [.int p,Zc r,Zc o,.int k] s=.ok (Zc<|ZG p r o k) s:=by
 rw[CV,Uu rfl #[1] rfl]
 have hp:=WF (p:=p);have hc:=ZS (C:=Zk fns 2 d) (cap:=[3,0]) (nl:=2) (t:=[0,1]) (it:=.zip (.v 1)<|.v 2) (elt:=.bin .mod (.bin .add (.v 0)<|.bin .mul (.v 2)<|.v 1)<|.v 3) (U:=[aa<|.int p,aa<|Zc r,aa<|Zc o,aa<|.int k]) (s:=s) (l:=r.zip o) (e:=λq=>V.tup [.int q.1,.int q.2]) (g:=λq=>V.int<|(q.1+k*q.2)%p)
  (by simp[pvE,Zc,yW]) (by rw[gh,hr.1,ho.1];unfold lim;lia) (λq hq=>by
   have h2:=ho.2 q.2 (gf hq).2;refine#[_,rfl,?_];have f1:=Z6 (a:=k) #[0] #[0]
   have f2:=Z6 (a:=q.2) #[0] #[0]
   have hp0:0<p:=by lia
   simp[pvE,f1,f2,hp0])
 have e:(r.zip o).map (λq=>V.int<|(q.1+k*q.2)%p)=(ZG p r o k).map V.int:=by
  unfold ZG;rw[<-iP,cg];rfl
 simp[Vs,pvE,hc,e];rfl
theorem ue(d:Nat){r o:Row}{h:Nat}(s:DS)(hn:n<=6)(hr:Zh p n r)(ho:Zh p n o)(hh:h<n):CV (d+2) 28 [.int p,Zc r,Zc o,.int h] s=.ok (Zc<|clr p r o h) s:=by
 rw[CV,Uu rfl #[1] rfl]
 have hg:=WI ppos hr h;have hp:=WF (p:=p);have e:=wf d (k:=-(gt r h)) s hn hr ho #[by lia,by lia]
 have e2:=QA (by rw[hr.1];exact hh)
 simp only[CV]at e;simp[JN,pvE,Zc,e2];simp only[Zc]at e;rw[e];simp[pvE,clr]
theorem ZhY(d:Nat){r:Row}{k:Int}(s:DS)(hn:n<=6)(hr:Zh p n r)(hk:-1000<k/\k<1000):CV (d+1) 30 [.int p,Zc r,.int k] s=.ok (Zc<|Wg p r k) s:=by
 rw[CV,Uu (fn:=Gw) rfl #[1] rfl]
 have hp:=WF (p:=p);have hc:=ZS (C:=Zk fns 2 d) (cap:=[2,0]) (nl:=1) (t:=[0]) (it:=.of<|.v 1) (elt:=.bin .mod (.bin .mul (.v 1)<|.v 0)<|.v 2) (U:=[aa<|.int p,aa<|Zc r,aa<|.int k]) (s:=s) (l:=r) (e:=V.int) (g:=λq=>V.int<|k*q%p)
  (by simp[pvE,Zc]) (by rw[hr.1];unfold lim;lia) (λq hq=>by
   have h2:=hr.2 q hq;refine#[_,rfl,?_];have f1:=Z6 (a:=k) #[0] #[0]
   have f2:=Z6 (a:=q) #[0] #[0]
   have hp0:0<p:=by lia
   simp[pvE,f1,f2,hp0])
 simp[Gw,pvE,hc];simp[Zc,Wg]
def J7(C:Zr)(m:Nat){q a k:Int}(s:DS)(hq:0<q)(f1:fits a=am)(f2:fits k=am):Xl (YE C<|.cmp .ne (.bin .mod (.bin .mul (.v 2)<|.v 1)<|.v 0)<|.n 1) (rvs C [] [.aug 2 .add<|.n 1]) (m+1) [aa<|.int q,aa<|.int a,aa<|.int k] [] s =
  if k*a%q=1 then .ok (.nx [aa<|.int q,aa<|.int a,aa<|.int k] []) s else Xl (YE C<|.cmp .ne (.bin .mod (.bin .mul (.v 2)<|.v 1)<|.v 0)<|.n 1) (rvs C [] [.aug 2 .add<|.n 1]) m [aa<|.int q,aa<|.int a,aa<|.int<|k+1] [] s:=by
 rw[Xl];by_cases c:k*a%q=1<;>simp[pvE,f1,f2,hq,ZA,c,Zhn]
theorem Zcj(d:Nat){a:Int}(s:DS)(ha:0<a/\a<p):CV (d+1) 31 [.int p,.int a] s=.ok (.int<|Qn p a) s:=by
 rw[CV,Uu (fn:=Je) rfl #[1] rfl]
 generalize Zk fns 2 d=C;have fs:∀k:Int,0<=k->k<=5->fits k=am:=λk h0 h1=>Z6 #[0] #[0]
 have hp:=WF (p:=p);have fa:=fs a #[0] #[0]
 have key:Xl (YE C<|.cmp .ne (.bin .mod (.bin .mul (.v 2)<|.v 1)<|.v 0)<|.n 1) (rvs C [] [.aug 2 .add<|.n 1]) (996+1+1+1+1) [aa<|.int p,aa<|.int a,aa<|.int 1] [] s=.ok (.nx [aa<|.int p,aa<|.int a,aa<|.int<|Qn p a] []) s:=by
  rw[J7 C _ s #[0] fa (fs 1 #[0] #[0]),J7 C _ s #[0] fa (fs (1+1) #[0] #[0]),J7 C _ s #[0] fa (fs (1+1+1) #[0] #[0]),J7 C _ s #[0] fa<|fs (1+1+1+1) #[0] #[0]]
  rcases(inferInstance:Base p).b with e|e|e<;>subst e
  .have:a=1:=by lia
   subst this;rfl
  .have:a=1\/a=2:=by lia
   rcases this with e|e<;>subst e<;>rfl
  .have:a=1\/a=2\/a=3\/a=4:=by lia
   rcases this with e|e|e|e<;>subst e<;>rfl
 have e:rv C [] (.whl (.cmp .ne (.bin .mod (.bin .mul (.v 2)<|.v 1)<|.v 0)<|.n 1) [.aug 2 .add<|.n 1]) [aa<|.int p,aa<|.int a,aa<|.int 1] [] s=.ok (.nx [aa<|.int p,aa<|.int a,aa<|.int<|Qn p a] []) s:=by
  rw[ZhE];exact key
 show((rvs C [] (.asg [2] (.n 1) :: .whl _ _ :: .ret (.v 2)::[]) [aa<|.int p,aa<|.int a,ai] [] s).bind _)=_;have e1:rv C [] (.asg [2]<|.n 1) [aa<|.int p,aa<|.int a,ai] [] s=.ok (.nx [aa<|.int p,aa<|.int a,aa<|.int 1] []) s:=by simp[pvE]
 rw[rvs,e1,Za];show((rvs C [] (.whl _ _ :: .ret (.v 2)::[]) [aa<|.int p,aa<|.int a,aa<|.int 1] [] s).bind _)=_;rw[rvs,e,Za];simp[pvE]
def Wr(C:Zr)(ms:List Nat){i j:Nat}{U:Env}{os:List Nat}{s:DS}{e:E}(h:pvA C e U os s=.ok (spV p n) s)(ho:os.contains i=aj/\os.contains j=aj):rv C ms (.asg [i,j] e) U os s=.ok (.nx ((U.set i<|aa<|.int p).set j<|aa<|.int n) os) s:=by
 rw[rE2,h,Za,T8 (by simpa using ho)]
 .rfl
 .simp
def uV(d:Nat){P:List Row}{r:Row}(s:DS)(hn:n<=6)(hP:pZ p n P)(hr:Zh p n r):CV (d+3) 29 [spV p n,Zd P,Zc r] s=.ok (Zc<|Zm p P r) s:=by
 refine Zt rfl #[1] rfl ?_
 show rvs (CV<|d+2) [] (.asg [3,4] (.v 0) :: .asg [5] (.v 2) :: .forr [6] (.of<|.v 1) [.asg [5]<|.call 28 [(.v 3),(.v 5),(.v 6),(.call 18 [(.v 6)])]] :: .ret (.v 5)::[]) [aa<|spV p n,aa<|Zd P,aa<|Zc r,ai,ai,ai,ai] [] s=_;rw[Zi<|Wr (p:=p) (n:=n) _ _ (by simp[pvE]) #[2]]
 rw[Zi (ρ':=[aa<|spV p n,aa<|Zd P,aa<|Zc r,aa<|.int p,aa<|.int n,aa<|Zc r,ai]) (os':=[]) (s':=s) (by simp[pvE])]
 obtain⟨o',hI,e⟩:=Zbk (C:=CV<|d+2) (ms:=[]) (t:=[6]) (it:=.of<|.v 1) (b:=[.asg [5]<|.call 28 [(.v 3),(.v 5),(.v 6),(.call 18 [(.v 6)])]]) (L:=P) (e:=Zc) (step:=λst o=>clr p st o<|(hdI o).getD 0) (U:=λst o=>[aa<|spV p n,aa<|Zd P,aa<|Zc r,aa<|.int p,aa<|.int n,aa<|Zc st,o]) (os:=[]) (s:=s) (Zh p n) (by simp[pvE,Zd]) hr rfl (λx hx st o hst=>by
  have hx':=hP.row x hx;obtain⟨k,hk,hkn,_⟩:=hP.head fld.one0 hx;refine#[Zs hst hx',rfl,_,aa<|Zc x,rfl,?_];have e1:=Go (d+1) x s;have e2:=ue d s hn hst hx' hkn;rw[hk]at e1;simp only[Vj]at e1;have e3:=e1;simp[pvE,e3,e2,hk])
 rw[Zi e];exact Zo<|ZH (by simp[pvE,Zm])
theorem dsum{P:List Row}(hP:pZ p n P):P.length<=n:=by
 have:=qB fld hP.pn;rw[VB]at this;lia
theorem Zd4(d:Nat){P:List Row}{r:Row}(s:DS)(hn:n<=6)(hP:pZ p n P)(hr:Zh p n r):CV (d+4) 32 [spV p n,Zd P,Zc r] s=.ok (Zd<|WS p P r) s:=by
 refine Zt (fn:=Wu) rfl #[1] rfl ?_
 show rvs (CV<|d+3) [] Wu.body [aa<|spV p n,aa<|Zd P,aa<|Zc r,ai,ai,ai,ai,ai,ai] [] s=_
 dsimp only[Wu]
 obtain⟨l1,l2⟩:=UK hP.row hP.pn.rf hr;have hw:=(VU hP hr).1;rw[Zi<|Wr (p:=p) (n:=n) _ _ (by simp[pvE]) #[2]]
 have e1:=uV d s hn hP hr;rw[Zi (ρ':=[aa<|spV p n,aa<|Zd P,aa<|Zc r,aa<|.int p,aa<|.int n,aa<|Zc<|Zm p P r,ai,ai,ai]) (os':=[]) (s':=s) (by simp[pvE,e1])]
 have e2:=Go (d+2) #[12] s;rw[Zi (ρ':=[aa<|spV p n,aa<|Zd P,aa<|Zc r,aa<|.int p,aa<|.int n,aa<|Zc<|Zm p P r,aa<|Vj<|hdI<|Zm p P r,ai,ai]) (os':=[]) (s':=s) (by simp[pvE,e2])]
 cases q:hdI (Zm p P r)with
 |none=>
  refine Zo ?_;have:WS p P r=P:=by unfold WS;rw[q]
  simp[pvE,Vj,this]
 |some h=>
  obtain⟨h1,h2,h3⟩:=ZT q;rw[l1.1]at h2;have hg:=WI ppos l1 h;have hp:=WF (p:=p);have hwid:WS p P r=(Zy<|P.map (λo=>clr p o #[18] h)++[lead p #[12] h]).reverse:=by unfold WS;rw[q]
  rw[Zi (ρ':=[aa<|spV p n,aa<|Zd P,aa<|Zc r,aa<|.int p,aa<|.int n,aa<|Zc<|Zm p P r,aa<|.int h,ai,ai]) (os':=[]) (s':=s) (by simp[pvE,Vj])]
  have e3:=Zcj (p:=p) (d+2) (a:=gt #[12] h) s #[by lia,hg.2]
  have hi:-1000<Qn p (gt #[12] h)/\Qn p (gt #[12] h)<1000:=by
   unfold Qn
   repeat' split
   all_goals lia
  have e4:=ZhY (p:=p) (d+2) s hn l1 hi;have e5:=QA (r:=Zm p P r) (k:=h) (by rw[l1.1];exact h2)
  have hl:Zh p n #[18]:=J4 l1;rw[Zi (ρ':=[aa<|spV p n,aa<|Zd P,aa<|Zc r,aa<|.int p,aa<|.int n,aa<|Zc<|Zm p P r,aa<|.int h,aa<|Zc<|lead p #[12] h,ai]) (os':=[]) (s':=s) (by
   have e6:pv (CV<|d+3) (.call 30 [(.v 3),(.v 5),(.call 31 [(.v 3),(.ix (.v 5)<|.v 6)])]) [aa<|spV p n,aa<|Zd P,aa<|Zc r,aa<|.int p,aa<|.int n,aa<|Zc<|Zm p P r,aa<|.int h,ai,ai] s=.ok (Zc<|lead p #[12] h) s:=by
    refine Zq (vs:=[.int p,Zc<|Zm p P r,.int<|Qn p<|gt #[12] h]) (s1:=s) ?_ e4;have e7:pv (CV<|d+3) (.call 31 [(.v 3),(.ix (.v 5)<|.v 6)]) [aa<|spV p n,aa<|Zd P,aa<|Zc r,aa<|.int p,aa<|.int n,aa<|Zc<|Zm p P r,aa<|.int h,ai,ai] s=.ok (.int<|Qn p<|gt #[12] h) s:=by
     refine Zq (vs:=[.int p,.int<|gt #[12] h]) (s1:=s) ?_ e3;simp[pvE,Zc,e5]
    exact Zb #[10]<|Zb #[10]<|Zb e7 Zf
   rw[rE1];show(pv _ _ _ _).bind _=_;rw[e6];rfl)]
  have hc:=ZS (C:=CV<|d+3) (cap:=[3,7,6]) (nl:=1) (t:=[0]) (it:=.of<|.v 1) (elt:=.call 28 [(.v 1),(.v 0),(.v 2),(.v 3)]) (U:=[aa<|spV p n,aa<|Zd P,aa<|Zc r,aa<|.int p,aa<|.int n,aa<|Zc<|Zm p P r,aa<|.int h,aa<|Zc<|lead p #[12] h,ai]) (s:=s) (l:=P) (e:=Zc) (g:=λo=>Zc<|clr p o #[18] h)
   (by simp[pvE,Zd]) (by have:=dsum hP;unfold lim;lia) (λo ho=>#[_,rfl,by
    have:=ue (p:=p) (d+1) (h:=h) s hn (hP.row o ho) hl h2;simp[pvE,this]])
  rw[Zi (ρ':=[aa<|spV p n,aa<|Zd P,aa<|Zc r,aa<|.int p,aa<|.int n,aa<|Zc<|Zm p P r,aa<|.int h,aa<|Zc<|lead p #[12] h,aa<|.lst<|P.map λo=>Zc<|clr p o #[18] h]) (os':=[]) (s':=s) (by simp[pvE,hc])]
  refine Zo<|ZH ?_;have ea:(P.map λo=>Zc<|clr p o #[18] h)++[Zc<|lead p #[12] h]=((P.map λo=>clr p o #[18] h)++[lead p #[12] h]).map Zc:=by rw[bV,cg];rfl
  have hs:Z7 ((P.map λo=>clr p o #[18] h)++[lead p #[12] h])=am:=by
   have hlen:((P.map λo=>clr p o #[18] h)++[lead p #[12] h]).length=P.length+1:=by simp
   have hnd:((P.map λo=>clr p o #[18] h)++[lead p #[12] h]).Nodup:=by
    have h5:=Uh hw.falls;rw[hwid]at h5;exact((Sd.YW _).nodup_iff).mp<|((eC _).nodup_iff).mp h5
   have hd:=dsum hP;unfold Z7;rw[T5 (by rw[hlen];lia),T5 hnd]
   rw[aF];refine#[rfl,a8.mpr λx hx=>?_]
   have:x.length=n:=by
    rcases cp.mp hx with z|z
    .obtain⟨o,ho,rfl⟩:=aN.mp z
     exact(Zs (hP.row o ho) hl).1
    .rw[bc.mp z];exact hl.1
   cases x with|nil=>simp at this;lia|cons _ _=>rfl
  have hlen2:P.length+1<=16777216:=by have:=dsum hP;lia
  simp[pvE,hlen2];rw[ea,YT];simp[pvE,hs,hwid,Zd,rh]
def Qu(d:Nat){P R:List Row}{v:V}(s:DS)(hn:n<=6)(hP:pZ p n P)(hR:∀r∈R,Zh p n r)(hv:Yx v=aa (R.map Zc)):CV (d+5) 33 [spV p n,Zd P,v] s=.ok (Zd<|YB p P R) s:=by
 refine Zt (fn:=Yb) rfl #[1] rfl ?_
 show rvs (CV<|d+4) [] Yb.body [aa<|spV p n,aa<|Zd P,aa v,ai,ai] [] s=_
 dsimp only[Yb]
 rw[Zi (ρ':=[aa<|spV p n,aa<|Zd P,aa v,aa<|Zd P,ai]) (os':=[]) (s':=s) (by simp[pvE])]
 obtain⟨o',hI,e⟩:=Zbk (C:=CV<|d+4) (ms:=[]) (t:=[4]) (it:=.of<|.v 2) (b:=[.asg [3]<|.call 32 [(.v 0),(.v 3),(.v 4)]]) (L:=R) (e:=Zc) (step:=WS p) (U:=λst o=>[aa<|spV p n,aa<|Zd P,aa v,aa<|Zd st,o]) (st:=P) (o:=ai) (os:=[]) (s:=s) (pZ p n) (by show pvw (CV<|d+4) (.of<|.v 2) [aa<|spV p n,aa<|Zd P,aa v,aa<|Zd P,ai] s=_;rw[wE7,pE2];show po (Yx v) s=_;rw[hv];rfl) hP rfl (λx hx st o hst=>by
  have hx':=hR x hx;refine#[(VU hst hx').1,rfl,_,aa<|Zc x,rfl,?_];have e2:=Zd4 d s hn hst hx';simp[pvE,e2])
 rw[Zi e];exact Zo<|ZH (by simp[pvE,YB])
end
end K51
namespace Rw
open La
open Ev (ltI YO Zy)
end Rw
namespace Rw
open Ev (ltP X5 YQ)
open La
section
variable{p n:Nat}[Base p]
def vB(hW:pZ p n W)(hr:Zh p n r)(h:∀i,gt r i=0):XS p W r=am:=by
 rw[ZD hW hr];have e:toV p r=λ_=>0:=by funext k;exact(Z4 hr).mpr<|h k
 rw[e];exact Yj
def vb(hW:pZ p n W)(hr:r∈W):XS p W r=am:=by
 rw[ZD hW<|hW.row r hr];exact Xb hW.pn.rf<|Ya hr
end
noncomputable def rise(hs:List Nat):Bool:=(hs.zip hs.tail).all λq=>af<|q.1<q.2
theorem U4:∀{hs:List Nat},rise hs=am↔hs.Pairwise (· < ·)
 |[]=>by simp[rise]
 |[a]=>by simp[rise]
 |a::b::l=>by
  have ih:=U4 (hs:=b::l);unfold rise at ih ⊢;rw[sL,cM,gY,aF,T0];rw[sL]at ih
  constructor
  .intro#[h1,h2]
   have h3:=ih.mp h2;refine br.mpr #[λx hx=>?_,h3]
   rcases az.mp hx with rfl|hx
   .exact h1
   .exact dF h1<|(br.mp h3).1 x hx
  .intro h
   obtain⟨h1,h2⟩:=br.mp h;exact#[h1 b<|ak ..,ih.mpr h2]
def VW(R:List Row)(i k:Nat):Bool:=af (gt (R.getD i []) k=1)&&(R.take i++R.drop (i+1)).all λr=>af<|gt r k=0
def W7(R:List Row):Bool:=(R.all λr=>(hdI r).isSome)&&(rise (ZC R)&&(aP R.length).all λi=>VW R i<|(ZC R).getD i 0)
section
variable{p n:Nat}[Base p]
def zw{R:List Row}{i:Nat}(hi:i<R.length):R.getD i []=R[i]:=by rw[aD,ag hi];rfl
def U0(hi:i<R.length):(ZC R).getD i 0=(hdI R[i]).getD 0:=by
 unfold ZC;rw[aD,aQ,ag hi];rfl
def ZfN{R:List Row}{i j:Nat}(hj:j<R.length)(h:j≠i):R[j]∈R.take i++R.drop (i+1):=by
 by_cases c:j<i
 .refine dy _ ?_
  have hl:j<(R.take i).length:=by rw[bT];exact oG.mpr #[c,hj]
  rw[<-gw (h:=hl)];exact aZ hl
 .refine bu _ ?_
  have c:=fU (d9 c)<|Ne.symm h;have hl:j-(i+1)<(R.drop<|i+1).length:=by rw[bL];exact Nat.sub_lt_sub_right c hj
  have e:(R.drop<|i+1)[j-(i+1)]=R[j]:=by rw[gy];congr 1;exact nQ c
  rw[<-e];exact aZ hl
def Jj{R:List Row}{i:Nat}{r:Row}(h:r∈R.take i++R.drop (i+1)):∃j,∃(hj:j<R.length),j≠i/\R[j]=r:=by
 rcases cp.mp h with z|z
 .obtain⟨j,hj,e⟩:=cE z
  rw[bT]at hj;have hj:=oG.mp hj;exact#[j,hj.2,a9 hj.1,by rw[<-e,gw]]
 .obtain⟨j,hj,e⟩:=cE z
  rw[bL]at hj;exact#[i+1+j,Nat.add_lt_of_lt_sub' hj,by omega,by rw[<-e,gy]]
def J8:ph p 1=1:=by
 rcases(inferInstance:Base p).b with e|e|e<;>subst e<;>rfl
def UI(hr:Zh p n r):toV p r k=1↔gt r k=1:=by
 have hb:=(inferInstance:Base p).b
 constructor
 .intro h
  refine xY (WI ppos hr k) #[by omega,by omega] ?_
  rw[J8];exact h
 .intro h
  unfold toV;rw[h,J8]
def VZ{R:List Row}(hR:∀r∈R,Zh p n r):W7 R=am↔pZ p n R:=by
 unfold W7;simp only[aF,a8,aV]
 constructor
 .intro#[h1,h2,h3]
  have hd:∀i (hi:i<R.length),∃k,hdI R[i]=aa k/\gt R[i] k=1/\∀j (hj:j<R.length),j≠i->gt R[j] k=0:=λi hi=>by
   obtain⟨k,hk⟩:=bS.mp<|h1 _<|aZ hi;have a:=h3 i hi;unfold VW at a;rw[U0 hi,zw hi,hk,aF,T0,a8]at a;exact#[k,hk,a.1,λj hj ne=>T6<|a.2 _<|ZfN hj ne]
  have inc:=U4.mp h2;have memP:∀a∈toP p R,∃i,∃(hi:i<R.length),a=((hdI R[i]).getD 0,toV p R[i]):=λa ha=>by
   obtain⟨r,hr,rfl⟩:=aN.mp ha;obtain⟨i,hi,rfl⟩:=cE hr;exact#[i,hi,rfl]
  refine#[hR,#[#[?_,λa ha j hj=>?_,λa ha=>?_,λa ha b hb ne=>?_],λa ha=>?_,λa ha=>?_]]
  .rw[<-Wv (p:=p)]at inc
   exact dq.mp inc
  .obtain⟨i,hi,rfl⟩:=memP a ha
   obtain⟨k,hk,_,_⟩:=hd i hi;rw[hk]at hj;exact(Z4<|hR _<|aZ hi).mpr<|(ZT hk).2.2 j hj
  .obtain⟨i,hi,rfl⟩:=memP a ha
   obtain⟨k,hk,h,_⟩:=hd i hi;rw[hk];exact(UI<|hR _<|aZ hi).mpr h
  .obtain⟨i,hi,rfl⟩:=memP a ha
   obtain⟨j,hj,rfl⟩:=memP b hb;obtain⟨k,hk,_,h⟩:=hd i hi;rw[hk];refine(Z4<|hR _<|aZ hj).mpr<|h j hj λe=>?_
   subst e;exact ne rfl
  .obtain⟨i,hi,rfl⟩:=memP a ha
   obtain⟨k,hk,_,_⟩:=hd i hi;rw[hk,<-(hR _<|aZ hi).1];exact(ZT hk).2.1
  .obtain⟨i,hi,rfl⟩:=memP a ha
   exact X0<|hR _<|aZ hi
 .intro hP
  have hk:∀r∈R,∃k,hdI r=aa k/\k<n/\toV p r k=1:=λr hr=>hP.head fld.one0 hr
  refine#[λr hr=>?_,U4.mpr ?_,λi hi=>?_]
  .obtain⟨k,e,_⟩:=hk r hr
   rw[e];rfl
  .rw[<-Wv (p:=p)];exact hP.pn.rf.heads
  .obtain⟨k,e,_,h1⟩:=hk _ (aZ hi)
   unfold VW;rw[U0 hi,zw hi,e,aF,T0,a8];refine#[(UI<|hR _<|aZ hi).mp h1,λr hr=>?_]
   obtain⟨j,hj,ne,rfl⟩:=Jj hr;refine T5 ?_;obtain⟨k2,e2,_,_⟩:=hk _<|aZ hj;have hh:((hdI R[i]).getD 0,toV p R[i]).1≠((hdI R[j]).getD 0,toV p R[j]).1:=by
    have inc:(ZC R).Pairwise (· < ·):=by rw[<-Wv (p:=p)];exact hP.pn.rf.heads
    have pw:=bQ.mp inc;have li:(ZC R).length=R.length:=by unfold ZC;rw[aA]
    have gi:∀m (hm:m<R.length),(ZC R)[m]'#[3]=(hdI R[m]).getD 0:=λm hm=>by unfold ZC;rw[List.getElem_map]
    intro z;have z:=z;rcases Nat.lt_or_gt_of_ne ne with c|c
    .have:=pw j i #[3] #[3] c
     rw[gi j hj,gi i hi]at this;omega
    .have:=pw i j #[3] #[3] c
     rw[gi j hj,gi i hi]at this;omega
   have:=hP.pn.rf.zer _ (Ya<|aZ hi) _ (Ya<|aZ hj) hh;rw[e]at this;exact(Z4<|hR _<|aZ hj).mp this
end
end Rw
namespace Ab
open Ev Pv
mutual
noncomputable def okV:V->Bool
 |.tup xs=>Yf xs
 |.lst xs=>Yf xs
 |.drw=>aj
 |.scr _=>aj
 |.dct (.inr _)=>aj
 |.dow _=>aj
 |_=>am
noncomputable def Yf:List V->Bool
 |[]=>am
 |x::xs=>okV x&&Yf xs
end
def Th(m:Nat)(x:V):Prop:=okV x=am/\∀xs,x=.tup xs->xs.length<=m
end Ab
namespace K51
open Ev Pv Rw La
def UN{F:List Fn}{tk d f c:Nat}{vs:List V}{s s':DS}{fn:Fn}(hf:F[f]?=aa fn)(hne:f≠tk)(hl:vs.length=fn.ps)(h:rvs (Zk F tk d) (muts fn.body) fn.body (ZN fn.ns vs) [] s=.ex c s'):Zk F tk (d+1) f vs s=.ex c s':=by
 rw[Uu hf hne hl,h];rfl
def J6{C:Zr}{ms:List Nat}{m:Sm}{l:List Sm}{U:Env}{os:List Nat}{s s':DS}{c:Nat}(h:rv C ms m U os s=.ex c s'):rvs C ms (m::l) U os s=.ex c s':=by rw[rvs,h];rfl
def XX{C:Zr}{U:Env}{s s1 s':DS}{f c:Nat}{as:List E}{vs:List V}(h:pvs C as U s=.ok vs s1)(hc:C f vs s1=.ex c s'):pv C (.call f as) U s=.ex c s':=by rw[Zax,h];exact hc
def Gj{C:Zr}{ms:List Nat}{U:Env}{os:List Nat}{s s':DS}{f c:Nat}{as:List E}(h:pv C (.call f as) U s=.ex c s'):rv C ms (.ex<|.call f as) U os s=.ex c s':=by
 rw[Zf3,h]
 .rfl
 all_goals(intro i e z;cases z)
open Ab (okV Yf)
theorem Xz:∀{xs:List V},Yf xs=am->∀x∈xs,okV x=am
 |[],_,x,h=>by cases h
 |y::xs,h,x,m=>by
  obtain⟨h1,h2⟩:=(aF _ _).mp h;rcases az.mp m with rfl|m
  .exact h1
  .exact Xz h2 x m
noncomputable def isW(x:V)(lo hi:Int):Bool:=match x with
 |.int i=>af (lo<=i)&&af (i<=hi)
 |_=>aj
def jH{x:V}{lo hi:Int}(h:∀i,x≠.int i):isW x lo hi=aj:=by
 cases x with|int i=>exact T7 rfl<|h i|_=>rfl
def Zaa{x:V}(hx:okV x=am):(∃i,x=.int i)\/(∃b,x=.bl b)\/Yn x [.int]=aa aj/\∀i,x≠.int i:=by
 cases x with
 |int i=>exact .inl #[i,rfl]
 |bl b=>exact .inr<|.inl #[b,rfl]
 |drw=>cases hx
 |scr _=>cases hx
 |dow _=>cases hx
 |dct o=>cases o with|inl _=>exact .inr<|.inr #[rfl,nofun]|inr _=>cases hx
 |_=>exact .inr<|.inr #[rfl,nofun]
def QV{x:V}(hx:okV x=am):(∃xs,x=.tup xs)\/Yn x [.tuple]=aa aj/\∀xs,x≠.tup xs:=by
 cases x with
 |tup xs=>exact .inl #[xs,rfl]
 |drw=>cases hx
 |scr _=>cases hx
 |dow _=>cases hx
 |dct o=>cases o with|inl _=>exact .inr #[rfl,nofun]|inr _=>cases hx
 |_=>exact .inr #[rfl,nofun]
def jK(d:Nat){x:V}{lo hi:Int}(s:DS)(hx:okV x=am):CV (d+1) 22 [x,.int lo,.int hi] s=.ok (.bl<|isW x lo hi) s:=by
 refine Zt rfl #[1] rfl ?_
 rcases Zaa hx with⟨i,rfl⟩|⟨b,rfl⟩|⟨ha,no⟩
 .by_cases h:lo<=i
  .simp[YX,pvE,isW,Yn,XR,h]
  .simp[YX,pvE,isW,Yn,XR,h]
 .simp[YX,pvE,isW,Yn,XR]
 .rw[jH no]
  simp[YX,pvE,ha]
def ZK(p n:Nat)(x:V):Bool:=match x with
 |.tup xs=>af (xs.length=n)&&xs.all λv=>isW v 0<|(p:Int)-1
 |_=>aj
def Zfc{p n:Nat}{x:V}(h:∀xs,x≠.tup xs):ZK p n x=aj:=by
 cases x with|tup xs=>exact T7 rfl<|h xs|_=>rfl
theorem Vf{p:Nat}:∀{xs:List V},(xs.all λv=>isW v 0<|(p:Int)-1)=am->∃r:Row,xs=r.map .int/\∀a∈r,0<=a/\a<(p:Int)
 |[],_=>#[[],rfl,λ_ h=>by cases h]
 |x::xs,h=>by
  rw[gY,aF]at h;obtain⟨r,rfl,hr⟩:=Vf h.2;cases x with
  |int i=>
   have:=h.1;simp only[isW,aF,T0]at this;refine#[i::r,rfl,λa ha=>?_]
   rcases az.mp ha with rfl|ha
   .lia
   .exact hr a ha
  |_=>cases h.1
def xG{p n:Nat}{x:V}(h:ZK p n x=am):∃r:Row,x=Zc r/\Zh p n r:=by
 cases x with
 |tup xs=>
  unfold ZK at h;rw[aF,T0]at h;obtain⟨r,rfl,hr⟩:=Vf h.2;exact#[r,rfl,by simpa using h.1,hr]
 |_=>cases h
def Zh5{p n:Nat}{r:Row}(hr:Zh p n r):ZK p n (Zc r)=am:=by
 unfold ZK Zc;rw[aF,T0,aA];refine#[hr.1,a8.mpr λv hv=>?_]
 obtain⟨a,ha,rfl⟩:=aN.mp hv;have:=hr.2 a ha;simp only[isW,aF,T0];lia
theorem GS:∀r:Row,Yf (r.map .int)=am
 |[]=>rfl
 |a::r=>GS r
def zn(r:Row):okV (Zc r)=am:=GS r
section
variable{p n:Nat}[Base p]
theorem ZdF(d:Nat){x:V}(s:DS)(hn:n<=6)(hx:okV x=am):CV (d+2) 23 [spV p n,x] s=.ok (.bl<|ZK p n x) s:=by
 refine Zt rfl #[1] rfl ?_
 dsimp only[yU]
 rw[Zi<|Wr (p:=p) (n:=n) _ _ (by simp[pvE]) #[2]]
 rcases QV hx with⟨xs,rfl⟩|⟨ha,no⟩
 ·
  by_cases hl:xs.length=n
  .rw[Zi (ρ':=[aa<|spV p n,aa<|.tup xs,aa<|.int p,aa<|.int n]) (os':=[]) (s':=s) (by simp[pvE,Yn,XR,ZA,hl])]
   refine Zo<|ZH ?_;have hc:=ZS (C:=CV<|d+1) (cap:=[2]) (nl:=1) (t:=[0]) (it:=.of<|.v 1) (elt:=.call 22 [(.v 0),(.n 0),(.bin .sub (.v 1)<|.n 1)]) (U:=[aa<|spV p n,aa<|.tup xs,aa<|.int p,aa<|.int n]) (s:=s) (l:=xs) (e:=id) (g:=λv=>V.bl<|isW v 0<|(p:Int)-1)
    (by simp[pvE]) (by unfold lim;lia) (λv hv=>#[_,rfl,by
     have e:=jK d (lo:=0) (hi:=(p:Int)-1) s<|Xz hx v hv;simp[pvE,e]])
   have ht:=Yu (g:=λv:V=>isW v 0<|(p:Int)-1) xs
   simp[pvE,hc,ht,ZK,hl]
  .refine Zo ?_
   simp[pvE,Yn,XR,ZA,ZK,hl];lia
 .rw[Zfc no]
  exact Zo (by simp[pvE,ha])
theorem qR(d:Nat){hs:List Nat}(s:DS)(hl:hs.length<=1000):CV (d+1) 19 [.lst<|hs.map Zp] s=.ok (.bl<|rise hs) s:=by
 refine Zt rfl #[1] rfl ?_
 have ez:∀(a b:List Nat),((a.map Zp).zip<|b.map Zp).map (λq=>V.tup [q.1,q.2])=(a.zip b).map λq=>V.tup [Zp q.1,Zp q.2]:=by
  intro a
  induction a with
  |nil=>intro b;rfl
  |cons x a ih=>intro b;cases b with|nil=>rfl|cons y b=>simp only[aY,cM];rw[ih]
 have hc:=ZS (C:=CV d) (cap:=[]) (nl:=2) (t:=[0,1]) (it:=.zip (.v 0)<|.sl (.v 0) (aa<|.n 1) ai) (elt:=.cmp .lt (.v 0)<|.v 1) (U:=[aa<|.lst<|hs.map Zp]) (s:=s) (l:=hs.zip hs.tail) (g:=λq=>V.bl<|af<|q.1<q.2)
  (by
   have e1:Z8 (hs.map Zp) (aa 1) ai=hs.tail.map Zp:=by rw[ZaG,sT]
   simp[pvE,slV,e1];rw[<-sT,ez]) (by rw[gh];unfold lim;lia) (λq hq=>#[_,rfl,by simp[pvE,Zp]])
 have ht:=Yu (g:=λq:Nat×Nat=>af<|q.1<q.2)<|hs.zip hs.tail
 simp[Ua,pvE,hc,ht,rise]
theorem wc(d:Nat){R:List Row}{k:Nat}(s:DS)(hl:R.length<=1000)(hk:∀r∈R,k<r.length):CV (d+1) 20 [Zd R,.int k] s=.ok (.bl<|R.all λr=>af<|gt r k=0) s:=by
 refine Zt rfl #[1] rfl ?_
 have hc:=ZS (C:=CV d) (cap:=[1]) (nl:=1) (t:=[0]) (it:=.of<|.v 0) (elt:=.cmp .eq (.ix (.v 0)<|.v 1)<|.n 0) (U:=[aa<|Zd R,aa<|.int k]) (s:=s) (l:=R) (e:=Zc) (g:=λr=>V.bl<|af<|gt r k=0)
  (by simp[pvE,Zd]) (by unfold lim;lia) (λr hr=>#[_,rfl,by
   have:=QA<|hk r hr;simp[pvE,Zc,this,ZA]])
 have ht:=Yu (g:=λr:Row=>af<|gt r k=0) R
 simp[Vp,pvE,hc,ht]
theorem GP(d:Nat){R:List Row}{i k:Nat}(s:DS)(hR:∀r∈R,Zh p n r)(hl:R.length<=1000)(hi:i<R.length)(hk:k<n):CV (d+2) 21 [Zd R,Zp i,Zp k] s=.ok (.bl<|VW R i k) s:=by
 refine Zt rfl #[1] rfl ?_
 show rvs #[16] [] Wa.body [aa<|Zd R,aa<|.int i,aa<|.int k] [] s=_;have hrow:=hR _<|aZ hi;have e1:at' (R.map Zc) (i:Int)=aa (Zc R[i]):=V2 (by rw[aQ,ag hi];rfl)
 have e2:=QA (by rw[hrow.1];exact hk)
 have e3:=wc d (R:=R.take i++R.drop (i+1)) s (by rw[aX,bT,bL];lia) (λr hr=>by
  obtain⟨j,hj,ne,rfl⟩:=Jj hr;rw[(hR _<|aZ hj).1];exact hk)
 have c1:Z8 (R.map Zc) ai (aa (i:Int))=(R.take i).map Zc:=by rw[Zfj (by rw[aA];lia),sU]
 have c2:Z8 (R.map Zc) (aa<|(i:Int)+1) ai=(R.drop<|i+1).map Zc:=by rw[zX (k:=i+1) #[0] (by rw[aA];lia),sV]
 have g0:pv #[16] (.ix (.ix (.v 0)<|.v 1)<|.v 2) [aa<|Zd R,aa<|.int i,aa<|.int k] s=.ok (.int<|gt R[i] k) s:=by
  rw[X4,X4,Ze rfl,Za,Ze rfl,Za];show((po (at' (R.map Zc) (i:Int)) s).bind _)=_;rw[e1,ZP,Za,Ze rfl,Za];show po (at' (R[i].map V.int) (k:Int)) s=_;rw[e2];rfl
 have g1:pv #[16] (.cmp .eq (.ix (.ix (.v 0)<|.v 1)<|.v 2)<|.n 1) [aa<|Zd R,aa<|.int i,aa<|.int k] s=.ok (.bl<|af<|gt R[i] k=1) s:=by
  rw[YF,g0,Za];simp[pvE,ofD,ZA]
 have g2:pv #[16] (.bin .add (.sl (.v 0) ai<|aa<|.v 1)<|.sl (.v 0) (aa<|.bin .add (.v 1)<|.n 1) ai) [aa<|Zd R,aa<|.int i,aa<|.int k] s=.ok (Zd<|R.take i++R.drop (i+1)) s:=by
  have c3:(R.take i).length+(R.drop<|i+1).length<=16777216:=by rw[bT,bL];lia
  rw[bT,bL]at c3;simp[pvE,Zd,slV,c1,c2,c3]
 have g3:=Zq (Zb g2<|Zb (Ze (i:=2) rfl) Zf) e3;refine Zo<|ZH ?_;rw[Zgu,g1,Za];unfold VW;rw[zw hi];cases af (gt R[i] k=1)with|true=>exact g3|false=>rfl
theorem wR:∀R:List Row,XF .non (R.map λr=>Vj<|hdI r)=aa (!(R.all λr=>(hdI r).isSome))
 |[]=>rfl
 |r::R=>by
  show(match eqV ZA (Vj<|hdI r) .non,XF .non (R.map λr=>Vj<|hdI r)with|some a,aa b=>aa (a||b)|_,_=>ai)=_
  rw[wR R,gY];cases hdI r with|none=>simp[Vj,jW,Zbl,ZA]|some k=>simp[Vj,jW,Zbl,ZA]
def ZbJ{R:List Row}(h:(R.all λr=>(hdI r).isSome)=am):R.map (λr=>Vj<|hdI r)=(ZC R).map Zp:=by
 unfold ZC;rw[cg];refine dJ λr hr=>?_
 obtain⟨k,hk⟩:=bS.mp<|a8.mp h r hr;show Vj (hdI r)=Zp ((hdI r).getD 0);rw[hk];rfl
theorem ji(d:Nat){R:List Row}(s:DS)(hn:n<=6)(hR:∀r∈R,Zh p n r)(hl:R.length<=1000):rvs (CV<|d+2) [] (V5.body.drop 1) [aa<|spV p n,aa<|Zd R,ai] [] s=.ok (.ret<|.bl<|W7 R) s:=by
 show rvs _ _ (.asg [2] (.comp1 [] 1 [0] (.of<|.v 1) []<|.call 18 [(.v 0)]) ::
  .ite (.or (.cmp .inn (.c .non)<|.v 2)<|.not<|.call 19 [(.v 2)]) #[13] [] ::
  .ret (.blt .all [(.comp1 [1] 2 [0,1] (.enum<|.v 2) []<|.call 21 [(.v 2),(.v 0),(.v 1)])])::[]) _ _ _=_
 have hc2:=ZS (C:=CV<|d+2) (cap:=[]) (nl:=1) (t:=[0]) (it:=.of<|.v 1) (elt:=.call 18 [(.v 0)]) (U:=[aa<|spV p n,aa<|Zd R,ai]) (s:=s) (l:=R) (e:=Zc) (g:=λr=>Vj<|hdI r)
  (by simp[pvE,Zd]) (by unfold lim;lia) (λx hx=>#[_,rfl,by
   have e:=Go (d+1) x s;simp[pvE,e]])
 rw[Zi (ρ':=[aa<|spV p n,aa<|Zd R,aa<|.lst<|R.map λr=>Vj<|hdI r]) (os':=[]) (s':=s) (by simp[pvE,hc2])]
 have hin:=wR R;unfold W7;cases hh:R.all λr=>(hdI r).isSome with
 |false=>
  rw[hh]at hin;exact Zo (by simp[pvE,Us,hin])
 |true=>
  rw[hh]at hin;rw[ZbJ hh]at hin ⊢;have hln:(ZC R).length=R.length:=by unfold ZC;rw[aA]
  have e3:=qR (d+1) (hs:=ZC R) s #[0]
  cases hr:rise (ZC R)with
  |false=>
   rw[hr]at e3;exact Zo (by simp[pvE,Us,hin,e3])
  |true=>
  rw[hr]at e3;rw[Zi (ρ':=[aa<|spV p n,aa<|Zd R,aa<|.lst<|(ZC R).map Zp]) (os':=[]) (s':=s) (by simp[pvE,Us,hin,e3])]
  refine Zo<|ZH ?_;have ew:((Z5 0 (ZC R).length).zip<|(ZC R).map Zp).map (λq=>V.tup [q.1,q.2])=(aP R.length).map λi=>V.tup [Zp i,Zp<|(ZC R).getD i 0]:=by
   apply iX
   .simp[Z5,hln]
   .intro i h1 h2
    have h3:i<R.length:=by simpa using h2
    have h4:i<(ZC R).length:=by lia
    simp[Z5,Zp,h4]
  have hc3:=ZS (cap:=[1]) (nl:=2) (t:=[0,1]) (elt:=.call 21 [(.v 2),(.v 0),(.v 1)]) (l:=aP R.length)
   (by
    have:pvw (CV<|d+2) (.enum<|.v 2) [aa<|spV p n,aa<|Zd R,aa<|.lst<|(ZC R).map Zp] s=.ok (((Z5 0 ((ZC R).map Zp).length).zip<|(ZC R).map Zp).map λq=>V.tup [q.1,q.2]) s:=by simp[pvE]
    rw[this,aA,ew]) (by rw[bH];unfold lim;lia) (λi hi=>#[_,rfl,by
    have hi':=aV.mp hi;have hk:(ZC R).getD i 0<n:=by
     rw[U0 hi'];obtain⟨k,hk⟩:=bS.mp<|a8.mp hh _<|aZ hi';rw[hk,<-(hR _<|aZ hi').1];exact(ZT hk).2.1
    exact Zq (Zb #[10]<|Zb #[10]<|Zb #[10] Zf)<|GP d s hR hl hi' hk])
  have ht3:=Yu (g:=λi:Nat=>VW R i<|(ZC R).getD i 0)<|aP R.length
  rw[Ys,Zb hc3 Zf,Za];show po ((Z0 _).map λbs=>V.bl<|bs.all id) s=_
  rw[ht3];show PR.ok (V.bl<|(nG _ _).all id) s=_;rw[mP];rfl
def isP(p n:Nat)(x:V):Bool:=match x with
 |.tup xs=>xs.all (ZK p n)&&match Yh xs with
  |some R=>W7 R
  |none=>aj
 |_=>aj
theorem WE:∀{xs:List V},xs.all (ZK p n)=am->∃R:List Row,xs=R.map Zc/\∀r∈R,Zh p n r
 |[],_=>#[[],rfl,λ_ h=>by cases h]
 |x::xs,h=>by
  rw[gY,aF]at h;obtain⟨R,rfl,hR⟩:=WE h.2;obtain⟨r,rfl,hr⟩:=xG h.1;refine#[r::R,rfl,λa ha=>?_]
  rcases az.mp ha with rfl|ha
  .exact hr
  .exact hR a ha
def UA{x:V}:isP p n x=am↔∃P,x=Zd P/\pZ p n P:=by
 constructor
 .intro h
  cases x with
  |tup xs=>
   unfold isP at h;rw[aF]at h;obtain⟨R,rfl,hR⟩:=WE h.1;have h2:=h.2;rw[YT]at h2;exact#[R,rfl,(VZ hR).mp h2]
  |_=>cases h
 .rintro ⟨P,rfl,hP⟩
  show(_&&_)=am;rw[aF,YT];refine#[a8.mpr λv hv=>?_,(VZ hP.row).mpr hP]
  obtain⟨r,hr,rfl⟩:=aN.mp hv;exact Zh5<|hP.row r hr
def ZaA{x:V}(h:∀xs,x≠.tup xs):isP p n x=aj:=by
 cases x with|tup xs=>exact T7 rfl<|h xs|_=>rfl
theorem jO(d:Nat){x:V}(s:DS)(hn:n<=6)(hx:okV x=am)(hl:∀xs,x=.tup xs->xs.length<=1000):CV (d+3) 24 [spV p n,x] s=.ok (.bl<|isP p n x) s:=by
 refine Zt rfl #[1] rfl ?_
 show rvs (CV<|d+2) [] (.ite (.or (.not<|.isi (.v 1) [.tuple])<|.not<|.blt .all [(.comp1 [0] 1 [0] (.of<|.v 1) []<|.call 23 [(.v 1),(.v 0)])]) #[13] []::V5.body.drop 1) [aa<|spV p n,aa x,ai] [] s=_;rcases QV hx with⟨xs,rfl⟩|⟨ha,no⟩
 ·
  have hl:=hl xs rfl;have hc1:=ZS (C:=CV<|d+2) (cap:=[0]) (nl:=1) (t:=[0]) (it:=.of<|.v 1) (elt:=.call 23 [(.v 1),(.v 0)]) (U:=[aa<|spV p n,aa<|.tup xs,ai]) (s:=s) (l:=xs) (e:=id) (g:=λv=>V.bl<|ZK p n v)
   (by simp[pvE]) (by unfold lim;lia) (λv hv=>#[_,rfl,by
    have e:=ZdF (p:=p) d s hn<|Xz hx v hv;simp[pvE,e]])
  have ht:=Yu (g:=λv:V=>ZK p n v) xs
  have hpt:Yn (.tup xs) [.tuple]=aa am:=rfl;cases ha:xs.all (ZK p n)with
  |false=>
   have hf:(xs.map λv=>ZK p n v).all id=aj:=by rw[mP];exact ha
   refine Zo ?_;simp[pvE,hpt,hc1,ht,isP,ha,hf]
  |true=>
   have hf:(xs.map λv=>ZK p n v).all id=am:=by rw[mP];exact ha
   rw[Zi (ρ':=[aa<|spV p n,aa<|.tup xs,ai]) (os':=[]) (s':=s) (by simp[pvE,hpt,hc1,ht,hf])]
   obtain⟨R,rfl,hR⟩:=WE ha;have e:=ji d s hn hR (by simpa using hl)
   have eb:isP p n (.tup<|R.map Zc)=W7 R:=by
    show((R.map Zc).all (ZK p n)&&match Yh (R.map Zc)with|some R=>W7 R|none=>aj)=_
    rw[ha,YT];rfl
   rw[eb];exact e
 .rw[ZaA no]
  exact Zo (by simp[pvE,ha])
theorem zj:∀P:List Row,Yf (P.map Zc)=am
 |[]=>rfl
 |r::P=>by
  show(okV (Zc r)&&Yf (P.map Zc))=am;rw[zn,zj P];rfl
def Gy(P:List Row):okV (Zd P)=am:=zj P
def WU{P:List Row}(hP:pZ p n P):∀xs,Zd P=.tup xs->xs.length<=n:=λxs e=>by
 cases e;rw[aA];exact dsum hP
def WR(d:Nat){x:V}(s:DS)(hn:n<=6)(hx:okV x=am)(hl:∀xs,x=.tup xs->xs.length<=1000):CV (d+4) 25 [spV p n,x] s=if isP p n x=am then .ok .non s else .ex 2 s:=by
 have e:=jO (p:=p) d s hn hx hl;cases h:isP p n x with
 |true=>
  rw[h]at e;refine vU (U:=[aa<|spV p n,aa x]) (os:=[]) rfl #[1] rfl ?_
  simp[Wb,pvE,e]
 |false=>
  rw[h]at e;refine UN rfl #[1] rfl ?_
  simp[Wb,pvE,e];rfl
theorem Jd(d:Nat){P:List Row}(s:DS)(hn:n<=6)(hP:pZ p n P):CV (d+4) 25 [spV p n,Zd P] s=.ok .non s:=by
 have e:=WR (p:=p) d s hn (Gy P) λxs z=>by have:=WU hP xs z;lia
 rw[T9<|UA.mpr #[P,rfl,hP]]at e;exact e
def Qy(d:Nat){P Q:List Row}(s:DS)(hn:n<=6)(hP:pZ p n P)(hQ:pZ p n Q):CV (d+5) 26 [spV p n,Zd P,Zd Q] s=.ok .non s:=by
 have e1:=Jd d s hn hP;have e2:=Jd d s hn hQ;refine vU (U:=[aa<|spV p n,aa<|Zd P,aa<|Zd Q]) (os:=[]) rfl #[1] rfl ?_
 simp[XC,pvE,e1,e2]
end
end K51
namespace Rw
open La
open Ev (ltP X5 YQ)
section
variable{p n:Nat}[Base p]
def YD(p:Nat)(P Q:List Row):Bool:=af<|(YB p P Q).length=P.length+Q.length
def uO{P Q:List Row}(hP:pZ p n P)(hQ:pZ p n Q):YD p P Q=YD p Q P:=by
 unfold YD;rw[qr hP hQ,iG]
variable{k:Nat}
theorem X9{B:Type}[BEq B][LawfulBEq B]:∀{L A:List B},L.Nodup->(∀x∈L,x∈A)->L.length<=A.length
 |[],_,_,_=>dM _
 |x::L,A,h,hs=>by
  rw[dD]at h;have h1:=X9 (L:=L) (A:=A.erase x) h.2 λy hy=>(List.mem_erase_of_ne (show y≠x from λe=>h.1<|by rw[<-e];exact hy)).mpr<|hs y<|al _ hy
  have h2:=hs x<|ak ..;have h3:=List.length_erase_of_mem h2;have h4:=mV h2;rw[aT];omega
end
def Ud(p:Nat)(L:List Row)(o:Row):List Row:=(aP p).flatMap λ(k:Nat)=>L.map λr=>ZG p r o (k:Int)
def Js(p n:Nat)(P:List Row):List Row:=P.foldl (Ud p) [aB n 0]
def qv(L:List Row)(o:Row):(Ud p L o).length=L.length*p:=by
 unfold Ud;rw[List.length_flatMap,show((aP p).map λ(k:Nat)=>(L.map λr=>ZG p r o (k:Int)).length)=aB p L.length from iX #[2] λi h1 h2=>by simp,List.sum_replicate_nat,o6]
def j7(P:List Row):(Js p n P).length=p^P.length:=by
 unfold Js
 suffices ∀(P L:List Row),(P.foldl (Ud p) L).length=L.length*p^P.length by rw[this];simp
 intro P
 induction P with|nil=>intro L;simp|cons o P ih=>intro L;rw[dE,ih,qv,aT,Nat.pow_succ,Nat.mul_assoc,o6 p]
section
variable{p n:Nat}[Base p]
def Z1:Zh p n (aB n 0):=#[bR,λa ha=>by
 have:=(inferInstance:Base p).b;rw[g9 ha];omega]
def YS(j:Nat):gt (aB n 0) j=0:=by
 unfold gt;rw[aD,cX];split<;>rfl
def qj(hL:∀r∈L,Zh p n r)(ho:Zh p n o):∀r∈Ud p L o,Zh p n r:=λr hr=>by
 obtain⟨k,_,h⟩:=fO.mp hr;obtain⟨q,hq,rfl⟩:=aN.mp h;exact Zs (hL q hq) ho
def Zc9(hW:pZ p n W)(hr:Zh p n r)(ho:Zh p n o)(h1:XS p W r=am)(h2:XS p W o=am):XS p W (ZG p r o k)=am:=by
 rw[ZD hW<|Zs hr ho];rw[ZW hr ho];exact YN (ph p k) ((ZD hW hr).mp h1)<|(ZD hW ho).mp h2
theorem vi(hW:pZ p n W):∀{P L:List Row},(∀r∈P,r∈W)->(∀r∈L,Zh p n r/\XS p W r=am)->∀r∈P.foldl (Ud p) L,Zh p n r/\XS p W r=am
 |[],_,_,h=>h
 |o::P,L,hP,h=>by
  have ho:=hP o<|ak ..;refine vi hW (P:=P) (λr hr=>hP r<|al _ hr) λr hr=>?_
  obtain⟨k,_,h3⟩:=fO.mp hr;obtain⟨q,hq,rfl⟩:=aN.mp h3;exact#[Zs (h q hq).1<|hW.row o ho,Zc9 hW (h q hq).1 (hW.row o ho) (h q hq).2<|vb hW ho]
theorem vw:∀{P L:List Row}{a r:Row},(∀o∈P,Zh p n o)->a∈L->Zh p n a->Zh p n r->hdI (Zm p P<|ZG p r a<|-1)=ai->r∈P.foldl (Ud p) L
 |[],L,a,r,_,ha,h1,h2,h=>by
  have e:r=a:=Y8 h2 h1 (by
   funext j
   have z:=(Z4<|Zs h2 h1).mpr<|Y1 h j;rw[ZW h2 h1,VP,J8]at z
   grind)
  rw[e];exact ha
 |o::P,L,a,r,hP,ha,h1,h2,h=>by
  have ho:=hP o<|ak ..
  let x:=ZG p r a<|-1
  have hx:Zh p n x:=Zs h2 h1;have hk:=WI ppos hx<|(hdI o).getD 0;have e:clr p x o ((hdI o).getD 0)=ZG p r (ZG p a o<|gt x<|(hdI o).getD 0) (-1):=Y8 (Zs hx ho) (Zs h2<|Zs h1 ho) (by
   rw[G6 hx ho,ZW h2<|Zs h1 ho,ZW h1 ho]
   funext j
   show toV p (ZG p r a<|-1) j-toV p x ((hdI o).getD 0)*toV p o j=toV p r j+ph p (-1)*(toV p a j+toV p x ((hdI o).getD 0)*toV p o j);rw[ZW h2 h1,VP,J8]
   grind)
  refine vw (P:=P) (λq hq=>hP q<|al _ hq) (fO.mpr #[(gt x<|(hdI o).getD 0).toNat,aV.mpr #[3],aN.mpr #[a,ha,by rw[kC hk.1]]]) (Zs h1 ho) h2 ?_
  rw[<-e];exact h
theorem Vq(hP:pZ p n P):r∈Js p n P↔Zh p n r/\XS p P r=am:=by
 constructor
 .exact vi hP (λ_ h=>h) (λq hq=>by rw[bc.mp hq];exact#[Z1,vB hP Z1 YS]) r
 .intro#[h1,h2]
  refine vw hP.row (bc.mpr rfl) Z1 h1 ?_;have e:ZG p r (aB n 0) (-1)=r:=Y8 (Zs h1 Z1) h1 (by
   rw[ZW h1 Z1]
   funext j
   rw[(Z4 Z1).mpr<|YS j]
   grind)
  rw[e];exact Option.isNone_iff_eq_none.mp h2
theorem xb:∀{P L:List Row},(∀o∈P,Zh p n o/\gt o ((hdI o).getD 0)=1)->(P.Pairwise λo q=>gt o ((hdI q).getD 0)=0)->(∀r∈L,Zh p n r/\∀o∈P,gt r ((hdI o).getD 0)=0)->L.Nodup->(P.foldl (Ud p) L).Nodup
 |[],_,_,_,_,h=>h
 |o::P,L,hP,hz,hL,h=>by
  obtain⟨ho,h1⟩:=hP o<|ak ..;obtain⟨z1,z2⟩:=br.mp hz;have hp:=(inferInstance:Base p).b;refine xb (P:=P) (λq hq=>hP q<|al _ hq) z2 (λr hr=>#[qj (λr hr=>(hL r hr).1) ho r hr,λq hq=>?_]) ?_
  .obtain⟨k,_,h3⟩:=fO.mp hr
   obtain⟨s,hs,rfl⟩:=aN.mp h3;rw[UD (hL s hs).1 ho,(hL s hs).2 q<|al _ hq,z1 q hq];simp
  .have at_:∀(k:Nat) r,k<p->r∈L->gt (ZG p r o (k:Int)) ((hdI o).getD 0)=k:=λk r hk hr=>by
    rw[UD (hL r hr).1 ho,(hL r hr).2 o<|ak ..,h1,pF,Int.mul_one,fB #[3] #[3]]
   refine List.pairwise_flatMap.mpr #[λk hk=>?_,?_]
   .refine dq.mpr (h.imp_of_mem λ{a b} ha hb ne e=>ne<|Y8 (hL a ha).1 (hL b hb).1 ?_)
    have q:=congrArg (toV p) e;rw[ZW (hL a ha).1 ho,ZW (hL b hb).1 ho]at q
    funext j
    have:=congrFun q j
    grind
   .refine re.imp_of_mem λ{a b} ha hb ne x hx y hy e=>ne ?_
    obtain⟨r,hr,rfl⟩:=aN.mp hx;obtain⟨q,hq,rfl⟩:=aN.mp hy;have:=at_ a r (aV.mp ha) hr;rw[e,at_ b q (aV.mp hb) hq]at this;omega
def Gx(hP:pZ p n P):(Js p n P).Nodup:=by
 have rf:=hP.pn.rf;refine xb (λo ho=>#[hP.row o ho,(UI<|hP.row o ho).mp<|rf.one _<|Ya ho]) ?_ (λr hr=>?_)<|dD.mpr #[by simp,ny]
 .exact(dq.mp rf.inc).imp_of_mem λ{a b} ha hb lt=>(Z4<|hP.row a ha).mp<|rf.zer _ (Ya hb) _ (Ya ha)<|eJ lt
 .rw[bc.mp hr]
  exact#[Z1,λo _=>YS _]
def Vm(p n:Nat)(P Q:List Row):List Row:=(Js p n P).filter λr=>(Js p n Q).contains r
end
open Pv (YG)
def Zas{F:List Row}{r x:Row}:x∈YG F r↔x∈F\/x=r:=by
 unfold YG;split
 .rename_i h
  have h:=cB.mp h;exact#[.inl,λz=>z.elim id λe=>e▸h]
 .simp
def ZcE{F:List Row}{r:Row}(h:F.Nodup):(YG F r).Nodup:=by
 unfold YG;split
 .exact h
 .rename_i q
  refine fw.mpr #[h,by simp,λa ha b hb e=>q ?_]
  rw[bc.mp hb]at e;exact cB.mpr<|e▸ha
theorem ya:∀{L F:List Row}{x:Row},x∈L.foldl YG F↔x∈F\/x∈L
 |[],F,x=>by simp
 |r::L,F,x=>by
  rw[dE,ya,Zas,az,or_assoc]
theorem vf:∀{L F:List Row},F.Nodup->(L.foldl YG F).Nodup
 |[],F,h=>h
 |r::L,F,h=>vf (L:=L)<|ZcE h
def uE(p:Nat)(F:List Row)(r:Row):List Row:=F.flatMap λo=>(aP<|p-1).map λ(k:Nat)=>ZG p o r<|(k:Int)+1
def Uq(p:Nat)(F:List Row)(r:Row):List Row:=if F.contains r then F else(uE p F r).foldl YG F
def Xf(p n:Nat)(R:List Row):List Row:=R.foldl (Uq p) [aB n 0]
section
variable{p n:Nat}[Base p]
structure HasK(p n:Nat)[NeZero p](F P:List Row):Prop where
 part:pZ p n P
 nd:F.Nodup
 mem:∀x,x∈F↔Zh p n x/\XS p P x=am
theorem Ge{P:List Row}{r u:Row}(hP:pZ p n P)(hr:Zh p n r)(hu:Zh p n u):XS p (WS p P r) u=am↔∃k:Nat,k<p/\XS p P (ZG p u r<|-(k:Int))=am:=by
 obtain⟨h1,h2⟩:=VU hP hr;have g:=XE (fld) hP.pn<|X0 hr;rw[ZD h1 hu,Mm,h2,g.mem]
 constructor
 .rintro ⟨c,hc⟩
  refine#[c.val,c.isLt,(ZD hP<|Zs hu hr).mpr ?_];rw[ZW hu hr];have e:ph p (-(c.val:Int)) = -c:=by
   rw[VP]
   congr 1
   exact WD (by rw[Yv,fB #[3] (by have:=c.isLt;omega)])
  rw[e];have e2:(λj=>toV p u j + -c*toV p r j)=λj=>toV p u j-c*toV p r j:=by funext j;grind
  rw[e2];exact hc
 .rintro ⟨k,_,hk⟩
  refine#[ph p (k:Int),?_];have:=(ZD hP<|Zs hu hr).mp hk;rw[ZW hu hr,VP]at this;have e2:(λj=>toV p u j-ph p (k:Int)*toV p r j)=λj=>toV p u j + -ph p (k:Int)*toV p r j:=by funext j;grind
  rw[e2];exact this
def ZbL{P:List Row}{r:Row}(hP:pZ p n P)(hr:Zh p n r)(h:XS p P r=am):WS p P r=P:=by
 obtain⟨h1,h2⟩:=VU hP hr;exact uo h1.row hP.row<|h2.trans<|(XE (fld) hP.pn<|X0 hr).same<|(ZD hP hr).mp h
theorem Jw{u r:Row}{k:Int}(hu:Zh p n u)(hr:Zh p n r):ZG p (ZG p u r<|-k) r k=u:=by
 refine Y8 (Zs (Zs hu hr) hr) hu ?_;rw[ZW (Zs hu hr) hr,ZW hu hr,VP]
 funext j;grind
theorem JL{u r:Row}(hu:Zh p n u)(hr:Zh p n r):ZG p u r 0=u:=by
 refine Y8 (Zs hu hr) hu ?_;rw[ZW hu hr,WA]
 funext j;grind
def HasK.step{F P:List Row}{r:Row}(h:HasK p n F P)(hr:Zh p n r):HasK p n (Uq p F r) (WS p P r):=by
 obtain⟨h1,h2⟩:=VU h.part hr;unfold Uq;by_cases c:F.contains r=am
 .rw[T9 c,ZbL h.part hr ((h.mem r).mp<|cB.mp c).2]
  exact h
 .rw[T8 c]
  refine#[h1,vf h.nd,λx=>?_]
  rw[ya]
  constructor
  .rintro (hx|hx)
   .obtain⟨a,b⟩:=(h.mem x).mp hx
    exact#[a,(Ge h.part hr a).mpr #[0,by have:=(inferInstance:NeZero p).ne;omega,by rw[show(-((0:Nat):Int))=0 from rfl,JL a hr];exact b]]
   .obtain⟨o,ho,hx⟩:=fO.mp hx
    obtain⟨k,hk,rfl⟩:=aN.mp hx;have hk:=aV.mp hk;obtain⟨a,b⟩:=(h.mem o).mp ho;refine#[Zs a hr,(Ge h.part hr<|Zs a hr).mpr #[k+1,by omega,?_]]
    have e:=Jw (k:=-((k:Int)+1)) a hr;rw[Int.neg_neg]at e;rw[show(-((k+1:Nat):Int)) = -((k:Int)+1) by omega,e]
    exact b
  .rintro ⟨hx,hm⟩
   obtain⟨k,hk,hm⟩:=(Ge h.part hr hx).mp hm;have ho:=(h.mem _).mpr #[Zs hx hr,hm];have e:=Jw (k:=(k:Int)) hx hr;cases k with
   |zero=>
    refine .inl ?_;rw[show(-((0:Nat):Int))=0 from rfl,JL hx hr]at ho
    exact ho
   |succ k=>
    exact .inr (fO.mpr #[_,ho,aN.mpr #[k,aV.mpr #[3],by rw[show((k:Int)+1)=((k+1:Nat):Int) by omega];exact e]])
theorem HasK.nil:HasK p n [aB n 0] []:=by
 refine#[pZ.nil,by simp,λx=>?_]
 rw[bc]
 constructor
 .rintro rfl
  exact#[Z1,vB pZ.nil Z1 YS]
 .rintro ⟨hx,hm⟩
  refine xx (by rw[hx.1,bR]) λj=>?_
  rw[YS];unfold XS Zm at hm;rw[List.foldl_nil]at hm;cases q:hdI x with|none=>exact Y1 q j|some k=>rw[q]at hm;cases hm
theorem HasK.all:∀{R F P:List Row},HasK p n F P->(∀r∈R,Zh p n r)->HasK p n (R.foldl (Uq p) F) (YB p P R)
 |[],F,P,h,_=>h
 |r::R,F,P,h,hR=>HasK.all (R:=R) (h.step<|hR r<|ak ..) λx hx=>hR x<|al _ hx
def Wn{R:List Row}(hR:∀r∈R,Zh p n r):HasK p n (Xf p n R) (YB p [] R):=HasK.nil.all hR
def HasK.len{F P:List Row}(h:HasK p n F P):F.length=p^P.length:=by
 rw[<-j7 P];refine Nat.le_antisymm (X9 h.nd λx hx=>?_)<|X9 (Gx h.part) λx hx=>?_
 .exact(Vq h.part).mpr<|(h.mem x).mp hx
 .exact(h.mem x).mpr<|(Vq h.part).mp hx
end
noncomputable def v7(n j:Nat):Row:=(aP n).map λi=>if i=j then 1 else 0
def units(n:Nat):List Row:=(aP n).map<|v7 n
section
variable{p n:Nat}[Base p]
def uW:∀r∈units n,Zh p n r:=λr hr=>by
 obtain⟨j,_,rfl⟩:=aN.mp hr;have h2:1<p:=by rcases(inferInstance:Base p).b with e|e|e<;>omega
 unfold v7;refine#[by rw[aA,bH],λa ha=>?_]
 obtain⟨i,_,rfl⟩:=aN.mp ha;split<;>omega
end
end Rw
namespace K51
open Ev Pv Rw La
def jA(h:Nat):(aB h [V.int 0]).flatten=(aB h (0:Int)).map V.int:=by
 induction h with|zero=>rfl|succ h ih=>rw[bY,dk,ih,bY];rfl
def Wh(r:Row):V.flat (Zc r)=am:=Qs r
theorem Jq:∀L:List Row,Xe (L.map Zc)=am
 |[]=>rfl
 |r::L=>by
  show(V.flat (Zc r)&&Xe (L.map Zc))=am;rw[Wh,Jq L];rfl
section
variable{p n:Nat}[Base p]
def ix0{C:Zr}{i:Nat}{U:Env}{s:DS}(h:U[i]?=aa (aa<|spV p n)):pv C (.ix (.v i)<|.n 0) U s=.ok (.int p) s:=by
 rw[X4,Ze h,Za,pE1,show ofD (V.int 0)=aa (V.int 0)from rfl];rfl
def ix1{C:Zr}{i:Nat}{U:Env}{s:DS}(h:U[i]?=aa (aa<|spV p n)):pv C (.ix (.v i)<|.n 1) U s=.ok (.int n) s:=by
 rw[X4,Ze h,Za,pE1,show ofD (V.int 1)=aa (V.int 1)from rfl];rfl
def vy{C:Zr}{i:Nat}{U:Env}{s:DS}(hn:n<=6)(h:U[i]?=aa (aa<|spV p n)):pv C (.bin .mul (.tup [(.n 0)])<|.ix (.v i)<|.n 1) U s=.ok (Zc<|aB n 0) s:=by
 have g:pv C (.tup [(.n 0)]) U s=.ok (.tup [.int 0]) s:=by simp[pvE,ofD]
 rw[pE7,g,Za,ix1 h,Za];show(if(0:Int)<=n/\(n:Int)<1000/\1<=1000 then PR.ok (V.tup (aB (n:Int).toNat [V.int 0]).flatten) s else .no)=_
 rw[T9 #[by omega,by omega,by omega],dm,jA];rfl
def UW{C:Zr}{i j:Nat}{U:Env}{s:DS}{r:Row}{k:Nat}(h:U[i]?=aa (aa<|Zc r))(hj:U[j]?=aa (aa<|Zp k))(hk:k<r.length):pv C (.ix (.v i)<|.v j) U s=.ok (.int<|gt r k) s:=by
 rw[X4,Ze h,Za,Ze hj,Za];show po (at' (r.map V.int) (k:Int)) s=_;rw[QA hk];rfl
def Qk(d:Nat){r o:Row}{k:Int}(s:DS)(hn:n<=6)(hr:Zh p n r)(ho:Zh p n o)(hk:-1000<k/\k<1000):CV (d+1) 7 [spV p n,Zc r,.int k,Zc o] s=.ok (Zc<|ZG p r o k) s:=by
 have hp:=WF (p:=p);refine Zt rfl #[1] rfl ?_
 show rvs (CV d) [] (.ret (.blt .tuple [(.comp1 [1,2,3,0] 1 [0] (.rng1<|.ix (.v 0)<|.n 1) []<|.bin .mod (.bin .add (.ix (.v 1)<|.v 0)<|.bin .mul (.v 2)<|.ix (.v 3)<|.v 0)<|.ix (.v 4)<|.n 0)])::[]) [aa<|spV p n,aa<|Zc r,aa<|.int k,aa<|Zc o] [] s=_;have hc:=ZS (cap:=[1,2,3,0]) (nl:=1) (t:=[0]) (it:=.rng1<|.ix (.v 0)<|.n 1) (elt:=.bin .mod (.bin .add (.ix (.v 1)<|.v 0)<|.bin .mul (.v 2)<|.ix (.v 3)<|.v 0)<|.ix (.v 4)<|.n 0) (U:=[aa<|spV p n,aa<|Zc r,aa<|.int k,aa<|Zc o])
  (XH (ix1 rfl)<|by omega) (by rw[bH];unfold lim;omega) (λj hj=>by
   have hj:=aV.mp hj;have h2:=WI #[3] ho j
   refine#[[aa<|Zp j,aa<|Zc r,aa<|.int k,aa<|Zc o,aa<|spV p n],rfl,?_];have e1:=UW (C:=CV d) (i:=1) (j:=0) (U:=[aa<|Zp j,aa<|Zc r,aa<|.int k,aa<|Zc o,aa<|spV p n]) (s:=s) rfl rfl (by rw[hr.1];exact hj)
   have e2:=UW (C:=CV d) (i:=3) (j:=0) (U:=[aa<|Zp j,aa<|Zc r,aa<|.int k,aa<|Zc o,aa<|spV p n]) (s:=s) rfl rfl (by rw[ho.1];exact hj)
   have e3:pv (CV d) (.bin .mul (.v 2)<|.ix (.v 3)<|.v 0) [aa<|Zp j,aa<|Zc r,aa<|.int k,aa<|Zc o,aa<|spV p n] s=.ok (.int<|k*gt o j) s:=by
    rw[pE7,Ze rfl,Za,e2,Za];show(if(fits k&&fits (gt o j))=am then PR.ok (V.int<|k*gt o j) s else .no)=_
    rw[T9 (by rw[Z6 #[3] #[3],Z6 #[3] #[3]];rfl)]
   rw[pE7,pE7,e1,Za,e3,Za];show PR.bind (PR.ok (V.int<|gt r j+k*gt o j) s) _=_;rw[Za,ix0 rfl,Za];show(if(0:Int)<p then PR.ok (V.int<|(gt r j+k*gt o j)%p) s else .no)=_
   rw[T9 #[3]])
 have e:((aP n).map λj=>V.int<|(gt r j+k*gt o j)%p)=(ZG p r o k).map V.int:=by
  have hl:=(Zs (k:=k) hr ho).1;refine ck λi=>?_
  rw[aQ,aQ];by_cases hi:i<n
  .rw[cT hi,ag (by rw[hl];exact hi)]
   have g:=UD (k:=k) hr ho i;unfold gt at g;rw[aD,ag<|by rw[hl];exact hi]at g
   simp only[rT,ml]at g ⊢;rw[g];rfl
  .rw[bM (by rw[bH];omega),bM (by rw[hl];omega)];rfl
 refine Zo<|ZH ?_;rw[Ys,Zb hc Zf,e];rfl
def ZbP(d:Nat){F:List Row}{r o:Row}{v:V}{a5:Option V}{k:Nat}(s:DS)(hn:n<=6)(hr:Zh p n r)(ho:Zh p n o)(hk:k<1000)(hl:F.length<lim) :
  rvs #[16] [2] [.dput (.v 2) (.call 7 [(.v 0),(.v 4),(.v 5),(.v 3)])<|.c<|.bl am] [aa<|spV p n,aa v,aa<|.dow F,aa<|Zc r,aa<|Zc o,aa<|Zp k] [2] s=.ok (.nx [aa<|spV p n,aa v,aa<|.dow<|YG F<|ZG p o r (k:Int),aa<|Zc r,aa<|Zc o,aa<|Zp k] [2]) s:=by
 have e:pv #[16] (.call 7 [(.v 0),(.v 4),(.v 5),(.v 3)]) [aa<|spV p n,aa v,aa<|.dow F,aa<|Zc r,aa<|Zc o,aa<|Zp k] s=.ok (Zc<|ZG p o r (k:Int)) s:=
  Zq (Zb #[10]<|Zb #[10]<|Zb #[10]<|Zb #[10] Zf) (Qk d s hn ho hr #[by omega,by omega])
 rw[Zi (ρ':=[aa<|spV p n,aa v,aa<|.dow<|YG F<|ZG p o r (k:Int),aa<|Zc r,aa<|Zc o,aa<|Zp k]) (by
  rw[rE7,T9<|show([2]:List Nat).contains 2=am from rfl,pE1]
  show PR.bind (po (aa<|V.bl am) s) _=_;rw[ZP,Za,T9 (show isT (.bl am)=am from rfl)]
  show PR.bind (po (aa F) s) _=_;rw[ZP,Za,e,Za];show PR.bind (po (intsV<|(ZG p o r (k:Int)).map V.int) s) _=_;rw[Yt,ZP,Za,T9 hl];rfl),rvs]
def ZbW(d:Nat){F:List Row}{r o:Row}{v:V}{a5:Option V}(s:DS)(hn:n<=6)(hr:Zh p n r)(ho:Zh p n o)(hl:F.length+10<lim) :
  ∃b5,rvs #[16] [2] [.forr [5] (.rng2 (.n 1)<|.ix (.v 0)<|.n 0) [.dput (.v 2) (.call 7 [(.v 0),(.v 4),(.v 5),(.v 3)])<|.c<|.bl am]] [aa<|spV p n,aa v,aa<|.dow F,aa<|Zc r,aa<|Zc o,a5] [2] s
   = .ok (.nx [aa<|spV p n,aa v,aa<|.dow<|((aP<|p-1).map λ(k:Nat)=>ZG p o r<|(k:Int)+1).foldl YG F,aa<|Zc r,aa<|Zc o,b5] [2]) s:=by
 have hp:=WF (p:=p);obtain⟨b5,_,e5⟩:=w4 (t:=[5]) (it:=.rng2 (.n 1)<|.ix (.v 0)<|.n 0) (e:=λk=>Zp<|k+1) (step:=λ(F:List Row) (k:Nat)=>YG F<|ZG p o r<|(k:Int)+1) (U:=λF x=>[aa<|spV p n,aa v,aa<|.dow F,aa<|Zc r,aa<|Zc o,x]) (st:=F) (os:=[2])
  (λl F=>(∀k∈l,k<5)/\F.length+l.length<lim) (by
   show pvw #[16] _ [aa<|spV p n,aa v,ai,aa<|Zc r,aa<|Zc o,a5] s=_;rw[wE2,show pv #[16] (.n 1) [aa<|spV p n,aa v,ai,aa<|Zc r,aa<|Zc o,a5] s=.ok (.int 1) s by rw[pE1];rfl,Za,ix0 rfl,Za]
   show(if(WJ 1&&WJ (p:Int))=am then PR.ok (Z5 1 ((p:Int)-1).toNat) s else .no)=_
   rw[T9 (by rw[Ql #[3] #[3],Ql #[3] #[3]];rfl),show((p:Int)-1).toNat=p-1 by omega]
   congr 1
   refine dJ λk _=>?_
   rw[Int.add_comm];rfl) #[λk hk=>by have:=aV.mp hk;omega,by rw[bH];omega] rfl (λk l F x hI=>by
   obtain⟨h1,h2⟩:=hI;rw[aT]at h2;have hk:=h1 k<|ak ..;have hl2:(YG F<|ZG p o r<|(k:Int)+1).length<=F.length+1:=by unfold YG;split<;>simp
   refine#[#[λq hq=>h1 q<|al _ hq,by omega],rfl,[aa<|spV p n,aa v,aa<|.dow F,aa<|Zc r,aa<|Zc o,aa<|Zp<|k+1],aa<|Zp<|k+1,rfl,?_]
   have:=ZbP d (a5:=ai) (v:=v) (k:=k+1) s hn hr ho (F:=F) #[3] #[3]
   rw[this];rfl)
 refine#[b5,?_];rw[Zi e5,rvs,List.foldl_map]
def qb(F:List Row)(o r:Row):uE p (o::F) r=((aP<|p-1).map λ(k:Nat)=>ZG p o r<|(k:Int)+1)++uE p F r:=rfl
theorem zG:∀(L F:List Row),(L.foldl YG F).length<=F.length+L.length
 |[],F=>aM _
 |r::L,F=>by
  have h:=zG L<|YG F r;have hl2:(YG F r).length<=F.length+1:=by unfold YG;split<;>simp
  rw[dE,aT];omega
theorem xq(d:Nat){r:Row}{v:V}(s:DS)(hn:n<=6)(hr:Zh p n r):∀(L F:List Row){a4 a5:Option V},(∀o∈L,Zh p n o)->F.length+5*L.length+10<lim->
  ∃b4 b5,Y2 (λx U os s=>if(([4]:List Nat).any os.contains)=am then .no else(po (Zn [4] x U) s).bind λU s=>rvs #[16] [2] [.forr [5] (.rng2 (.n 1)<|.ix (.v 0)<|.n 0) [.dput (.v 2) (.call 7 [(.v 0),(.v 4),(.v 5),(.v 3)])<|.c<|.bl am]] U os s) (L.map Zc) [aa<|spV p n,aa v,aa<|.dow F,aa<|Zc r,a4,a5] [2] s
   = .ok (.nx [aa<|spV p n,aa v,aa<|.dow<|(uE p L r).foldl YG F,aa<|Zc r,b4,b5] [2]) s
 |[],F,a4,a5,_,_=>#[a4,a5,rfl]
 |o::L,F,a4,a5,ho,hl=>by
  have hp:=WF (p:=p);rw[aT]at hl;obtain⟨b5,e⟩:=ZbW d (F:=F) s hn hr (ho o<|ak ..) #[3]
  have h1:=zG ((aP<|p-1).map λ(k:Nat)=>ZG p o r<|(k:Int)+1) F
  rw[aA,bH]at h1;obtain⟨c4,c5,e2⟩:=xq d s hn hr L (((aP<|p-1).map λ(k:Nat)=>ZG p o r<|(k:Int)+1).foldl YG F) (λx hx=>ho x<|al _ hx) #[3]
  refine#[c4,c5,?_];rw[aY,Y2,T8 #[1],show Zn [4] (Zc o) [aa<|spV p n,aa v,aa<|.dow F,aa<|Zc r,a4,a5]=aa [aa<|spV p n,aa v,aa<|.dow F,aa<|Zc r,aa<|Zc o,a5]from rfl,ZP,Za,e,Za]
  rw[qb,List.foldl_append];exact e2
def ZfJ{C:Zr}{i j:Nat}{U:Env}{s:DS}{r:Row}{F:List Row}(h:U[i]?=aa (aa<|Zc r))(hj:U[j]?=aa (aa<|.dow F)):pv C (.cmp .nin (.v i)<|.v j) U s=.ok (.bl<|!F.contains r) s:=by
 rw[YF,Ze h,Za,Ze hj,Za];show po (((intsV<|r.map V.int).map λk=>F.contains k).map λb=>V.bl !b) s=_
 rw[Yt];rfl
def Wi(d:Nat){R:List Row}{v:V}(s:DS)(hn:n<=6)(h1:1<=n)(hl:p^n<=1000)(hR:∀r∈R,Zh p n r)(hv:Yx v=aa (R.map Zc)):CV (d+2) 8 [spV p n,v] s=.ok (.lst<|(Zy<|Xf p n R).map Zc) s:=by
 have hp:=WF (p:=p);have big:∀{F P:List Row},HasK p n F P->F.length<=1000:=λ{F P} h=>by
  rw[h.len];refine cc (dC #[3] ?_) hl
  exact dsum h.part
 refine Zt rfl #[1] rfl ?_
 show rvs #[16] [2] (.dnw 2 (.bin .mul (.tup [(.n 0)])<|.ix (.v 0)<|.n 1) ::
  .forr [3] (.of<|.v 1) [.ite (.cmp .nin (.v 3)<|.v 2) [.forF [4] (.blt .listD [(.v 2)]) [.forr [5] (.rng2 (.n 1)<|.ix (.v 0)<|.n 0) [.dput (.v 2) (.call 7 [(.v 0),(.v 4),(.v 5),(.v 3)])<|.c<|.bl am]]] []] ::
  .ret (.blt .sortedD [(.v 2)])::[]) [aa<|spV p n,aa v,ai,ai,ai,ai] [] s=_
 rw[Zi (ρ':=[aa<|spV p n,aa v,aa<|.dow [aB n 0],ai,ai,ai]) (os':=[2]) (by
  rw[Zh7,vy hn rfl,Za];show PR.bind (po (intsV<|(aB n (0:Int)).map V.int) s) _=_;rw[Yt,ZP,Za,T9 (by show 2<6;omega)];rfl)]
 obtain⟨ρ',hI,e⟩:=ug (C:=CV<|d+1) (t:=[3]) (it:=.of<|.v 1) (b:=[.ite (.cmp .nin (.v 3)<|.v 2) [.forF [4] (.blt .listD [(.v 2)]) [.forr [5] (.rng2 (.n 1)<|.ix (.v 0)<|.n 0) [.dput (.v 2) (.call 7 [(.v 0),(.v 4),(.v 5),(.v 3)])<|.c<|.bl am]]] []]) (os:=[2]) (s:=s)
  (λl U=>(∀r∈l,Zh p n r)/\∃F P a3 a4 a5,U=[aa<|spV p n,aa v,aa<|.dow F,a3,a4,a5]/\HasK p n F P/\l.foldl (Uq p) F=Xf p n R) (by
   rw[wE7,Ze rfl,Za,hv];rfl) #[hR,_,_,ai,ai,ai,rfl,HasK.nil,rfl] rfl (λr l U hI=>by
   obtain⟨hr,F,P,a3,a4,a5,rfl,hF,hf⟩:=hI;have hr0:=hr r<|ak ..;have hb:=big hF;refine#[by rw[Wh];rfl,[aa<|spV p n,aa v,aa<|.dow F,aa<|Zc r,a4,a5],?_]
   have et:=ZfJ (C:=CV<|d+1) (i:=3) (j:=2) (U:=[aa<|spV p n,aa v,aa<|.dow F,aa<|Zc r,a4,a5]) (s:=s) rfl rfl;have hfr:=λo ho=>((hF.mem o).mp ho).1
   by_cases c:F.contains r=am
   .refine#[[aa<|spV p n,aa v,aa<|.dow F,aa<|Zc r,a4,a5],rfl,?_,λx hx=>hr x<|al _ hx,F,P,_,_,_,rfl,hF,?_]
    .rw[Zi (by rw[XO<|YI et rfl,c,T8 #[1],rvs]),rvs]
    .rw[dE]at hf
     unfold Uq at hf;rw[T9 c]at hf;exact hf
   .have c:F.contains r=aj:=by simpa using c
    obtain⟨b4,b5,e2⟩:=xq d s hn hr0 F F hfr #[27]
    refine#[[aa<|spV p n,aa v,aa<|.dow<|(uE p F r).foldl YG F,aa<|Zc r,b4,b5],rfl,?_,λx hx=>hr x<|al _ hx,(uE p F r).foldl YG F,WS p P r,_,_,_,rfl,?_,?_]
    .rw[Zi (by
      rw[XO<|YI et rfl,c,T9 #[1],Zi (by
       rw[Zhc];show PR.bind (match pv #[16] (.blt .listD [(.v 2)]) [aa<|spV p n,aa v,ai,aa<|Zc r,a4,a5] s with
        |.ok v s=>.ok v s
        |.ex c s=>.ex c s
        |.no=>(pv #[16] (.blt .listD [(.v 2)]) [aa<|spV p n,aa v,aa<|.dow F,aa<|Zc r,a4,a5] s).bind λw s=>if(w.flat||true&&vh w)=am then PR.ok w s else .no) _=_
       have g1:pv #[16] (.blt .listD [(.v 2)]) [aa<|spV p n,aa v,ai,aa<|Zc r,a4,a5] s=.no:=by rw[Ys,pvs,pE2];rfl
       have g2:pv #[16] (.blt .listD [(.v 2)]) [aa<|spV p n,aa v,aa<|.dow F,aa<|Zc r,a4,a5] s=.ok (.lst<|F.map Zc) s:=by rw[Ys,Zb #[10] Zf];rfl
       rw[g1,g2];show PR.bind (if(aj||true&&Xe (F.map Zc))=am then PR.ok (V.lst<|F.map Zc) s else .no) _=_
       rw[Jq,T9 (show(aj||true&&am)=am from rfl),Za]
       exact e2),rvs]),rvs]
    .have:=hF.step hr0
     unfold Uq at this;rw[T8<|by rw[c];decide]at this
     exact this
    .rw[dE]at hf
     unfold Uq at hf;rw[T8<|by rw[c];decide]at hf
     exact hf)
 obtain⟨_,F,P,a3,a4,a5,rfl,hF,hf⟩:=hI;rw[Zi e];refine Zo<|ZH ?_;have hf:=hf;subst hf;rw[Ys,Zb #[10] Zf,Za];have hb:=big hF;have ho:Z7 (Xf p n R)=am:=by
  unfold Z7;rw[aF,aF];refine#[#[T5 #[3],T5 hF.nd],a8.mpr λr hr=>?_]
  have:=((hF.mem r).mp hr).1.1;cases r with|nil=>simp at this;omega|cons _ _=>rfl
 show po (if Z7 (Xf p n R)=am then aa (V.lst<|(Zy<|Xf p n R).map Zc)else ai) s=_
 rw[T9 ho];rfl
def uQ(d:Nat)(s:DS)(hn:n<=6):CV (d+1) 16 [spV p n] s=.ok (.lst<|(units n).map Zc) s:=by
 refine Zt rfl #[1] rfl ?_
 show rvs (CV d) [] (.ret (.comp1 [0] 1 [0] (.rng1<|.ix (.v 0)<|.n 1) []<|.blt .tuple [(.comp1 [0] 1 [0] (.rng1<|.ix (.v 1)<|.n 1) []<|.blt .toInt [(.cmp .eq (.v 0)<|.v 1)])])::[]) [aa<|spV p n] [] s=_;have hc:=ZS (cap:=[0]) (nl:=1) (t:=[0]) (it:=.rng1<|.ix (.v 0)<|.n 1) (elt:=.blt .tuple [(.comp1 [0] 1 [0] (.rng1<|.ix (.v 1)<|.n 1) []<|.blt .toInt [(.cmp .eq (.v 0)<|.v 1)])]) (U:=[aa<|spV p n]) (g:=λj=>Zc<|v7 n j)
  (XH (ix1 rfl)<|by omega) (by rw[bH];unfold lim;omega) (λj hj=>by
   refine#[[aa<|Zp j,aa<|spV p n],rfl,?_];have hc:=ZS (cap:=[0]) (nl:=1) (t:=[0]) (it:=.rng1<|.ix (.v 1)<|.n 1) (elt:=.blt .toInt [(.cmp .eq (.v 0)<|.v 1)]) (U:=[aa<|Zp j,aa<|spV p n]) (g:=λi=>V.int (if i=j then 1 else 0))
    (XH (ix1 rfl)<|by omega) (by rw[bH];unfold lim;omega) (λi hi=>by
     refine#[[aa<|Zp i,aa<|Zp j],rfl,?_];have e:pv (CV d) (.cmp .eq (.v 0)<|.v 1) [aa<|Zp i,aa<|Zp j] s=.ok (.bl<|af<|(i:Int)=j) s:=by
      rw[YF,Ze rfl,Za,Ze rfl,Za];rfl
     rw[Ys,Zb e Zf,Za];by_cases c:i=j
     .rw[T9 c,T5 #[3]];rfl
     .rw[T8 c,T4 #[3]];rfl)
   rw[Ys,Zb hc Zf,Za];unfold v7 Zc;rw[cg];rfl)
 refine Zo<|ZH ?_;rw[hc];unfold units;rw[cg];rfl
end
open Ab (okV Yf)
section
variable{C:Zr}{U:Env}{s s1 s2:DS}{a b:E}{x y:V}{xs ys:List V}
def ZR{i:Int}:pv C (.c<|.int i) U s=.ok (.int i) s:=by rw[pE1];rfl
def pick{i:E}{v:Int}(h1:pv C a U s=.ok (.lst xs) s1)(h2:pv C i U s1=.ok (.int v) s2)(h0:0<=v)(hv:v<xs.length):∃x,x∈xs/\pv C (.ix a i) U s=.ok x s2:=by
 obtain⟨k,rfl⟩:∃k:Nat,v=k:=#[v.toNat,by omega]
 have hk:k<xs.length:=by omega
 refine#[xs[k],aZ hk,?_];rw[X4,h1,Za,h2,Za];show po (at' xs (k:Int)) s2=_;rw[V2<|ag hk];rfl
def Zey{i:E}{v:Int}(h1:pv C a U s=.ok (.tup xs) s1)(h2:pv C i U s1=.ok (.int v) s2)(h0:0<=v)(hv:v<xs.length):pv C (.ix a i) U s=.ok (xs.getD v.toNat .non) s2:=by
 obtain⟨k,rfl⟩:∃k:Nat,v=k:=#[v.toNat,by omega]
 have hk:k<xs.length:=by omega
 rw[X4,h1,Za,h2,Za];show po (at' xs (k:Int)) s2=_;rw[V2<|ag hk,aD,dm,ag hk];rfl
def Yr(d:Nat)(s:DS){m:Int}{U:Env}{i:Nat}{e:E}(hd:U[i]?=aa (aa .drw))(he:pv #[16] e U s=.ok (.int m) s)(h0:0<m)(h1:m<1000):∃v s',pv #[16] (.call 2 [(.v i),e]) U s=.ok (.int v) s'/\0<=v/\v<m:=by
 obtain⟨v,s',e1,b⟩:=Uj s h0 #[3]
 exact#[v,s',Zq (Zb (Ze hd)<|Zb he Zf) e1,b]
def YZ(h1:pv C a U s=.ok (.tup xs) s)(h2:pv C b U s=.ok (.tup ys) s)(h:xs.length+ys.length<=1000):pv C (.bin .add a b) U s=.ok (.tup<|xs++ys) s:=by
 rw[pE7,h1,Za,h2,Za];show(if xs.length+ys.length<=lim then _ else _)=_
 rw[T9 #[27]]
def vI(h1:pv C a U s=.ok (.tup xs) s){k:Int}(h2:pv C b U s=.ok (.int k) s):pv C (.sl a ai<|aa b) U s=.ok (.tup<|Z8 xs ai<|aa k) s:=by
 rw[ZcR,h1,Za,pvo,Za,pvo,h2,Za];rfl
def UH(h1:pv C a U s=.ok (.tup xs) s){k:Int}(h2:pv C b U s=.ok (.int k) s):pv C (.sl a (aa b) ai) U s=.ok (.tup<|Z8 xs (aa k) ai) s:=by
 rw[ZcR,h1,Za,pvo,h2,Za];rw[Za,pvo,Za];rfl
def YA{lo hi:Option Int}:(Z8 xs lo hi).length<=xs.length:=by
 unfold Z8;rw[bT,bL];omega
def Zbg(h:∀x∈xs,okV x=am):Yf xs=am:=by
 induction xs with
 |nil=>rfl
 |cons x xs ih=>
  show(okV x&&Yf xs)=am;rw[h x<|ak ..,ih λy hy=>h y<|al _ hy];rfl
def Wk{lo hi:Option Int}(h:Yf xs=am):Yf (Z8 xs lo hi)=am:=
 Zbg λx hx=>Xz h x<|cw<|dB hx
def VD(h:Yf xs=am)(h2:Yf ys=am):Yf (xs++ys)=am:=
 Zbg λx hx=>by
  rcases cp.mp hx with z|z
  .exact Xz h x z
  .exact Xz h2 x z
def Yk(h:pv C a U s=.ok x s):pv C (.tup [a]) U s=.ok (.tup [x]) s:=by
 rw[pE3,Zb h Zf];rfl
def ZdA{B:Type}{ms:List Nat}{i:Nat}{it:W}{b:List Sm}{L:List B}{e:B->V}{q:B->Bool}{v:V}{U:Option V->Env}(o:Option V)(hw:pvw C it (hide []<|U o) s=.ok (L.map e) s)(hs:∀o x,(U o).set i (aa x)=U (aa x))(hb:∀x∈L,rvs C ms b (U<|aa<|e x) [] s=if q x=am then .ok (.ret v) s else .ok (.nx (U<|aa<|e x) []) s) :
  (L.any q=am->rv C ms (.forr [i] it b) (U o) [] s=.ok (.ret v) s)/\(L.any q=aj->∃o',rv C ms (.forr [i] it b) (U o) [] s=.ok (.nx (U o') []) s):=by
 rw[QZ,hw,Za];clear hw
 induction L generalizing o with
 |nil=>exact#[λh=>(by cases h),λ_=>#[o,rfl]]
 |cons x L ih=>
  have ih:=ih (aa<|e x) λy hy=>hb y<|al _ hy
  have h1:=hb x<|ak ..;have step:Y2 (λx U os s=>if(([i]:List Nat).any os.contains)=am then .no else(po (Zn [i] x U) s).bind λU s=>rvs C ms b U os s) ((x::L).map e) (U o) [] s=if q x=am then .ok (.ret v) s else Y2 (λx U os s=>if(([i]:List Nat).any os.contains)=am then .no else(po (Zn [i] x U) s).bind λU s=>rvs C ms b U os s) (L.map e) (U<|aa<|e x) [] s:=by
   rw[aY,Y2,T8 #[2]]
   show((PR.ok ((U o).set i<|aa<|e x) s).bind λU s=>rvs C ms b U [] s).bind _=_
   rw[Za,hs o<|e x,h1];cases q x<;>rfl
  rw[step,fE];cases hq:q x with
  |true=>exact#[λ_=>rfl,λh=>(by cases h)]
  |false=>
   rw[T8 #[2],i5]
   exact ih
theorem GM{Q:V->Prop}:∀{es:List E},(∀e∈es,∃v,pv C e U s=.ok v s/\Q v)->∃vs,pvs C es U s=.ok vs s/\vs.length=es.length/\∀v∈vs,Q v
 |[],_=>#[[],Zf,rfl,λ_ h=>by cases h]
 |e::es,h=>by
  obtain⟨v,e1,q1⟩:=h e<|ak ..;obtain⟨vs,e2,l2,q2⟩:=GM λe he=>h e<|al _ he
  refine#[v::vs,Zb e1 e2,by rw[aT,aT,l2],λu hu=>?_]
  rcases az.mp hu with rfl|hu
  .exact q1
  .exact q2 u hu
end
section
variable{C:Zr}{U:Env}{s:DS}{a b:E}
def J1{c:Bool}(h1:pv C a U s=.ok (.bl aj) s)(h2:pv C b U s=.ok (.bl c) s):pv C (.or a b) U s=.ok (.bl c) s:=by rw[Zdt,h1];exact h2
def GN{c c':Bool}(h1:pv C a U s=.ok (.bl c) s)(h2:pv C b U s=.ok (.bl c') s):pv C (.and a b) U s=.ok (.bl<|c&&c') s:=by
 rw[Zgu,h1];cases c
 .rfl
 .exact h2
def wB{c:Bool}(h1:pv C a U s=.ok (.bl c) s):pv C (.not a) U s=.ok (.bl !c) s:=by rw[pE9,h1];rfl
def ZdY{P Q:List Row}(h1:pv C a U s=.ok (Zd P) s)(h2:pv C b U s=.ok (Zd Q) s):pv C (.cmp .eq a b) U s=.ok (.bl<|af<|P=Q) s:=by
 rw[YF,h1,Za,h2,Za];show po ((eqV ZA (Zd P)<|Zd Q).map V.bl) s=_;rw[ZA,ZaZ];rfl
def ZeI{c c':Bool}(h1:pv C a U s=.ok (.bl c) s)(h2:pv C b U s=.ok (.bl c') s)(h:c=c'):pv C (.cmp .ne a b) U s=.ok (.bl aj) s:=by
 subst h;rw[YF,h1,Za,h2,Za];cases c<;>rfl
def X2{f:Nat}{x y:E}{v w r:V}(h1:pv C x U s=.ok v s)(h2:pv C y U s=.ok w s)(h:C f [v,w] s=.ok r s):pv C (.call f [x,y]) U s=.ok r s:=Zq (Zb h1<|Zb h2 Zf) h
def QD{f:Nat}{x y z:E}{v w u r:V}(h1:pv C x U s=.ok v s)(h2:pv C y U s=.ok w s)(h3:pv C z U s=.ok u s)(h:C f [v,w,u] s=.ok r s):pv C (.call f [x,y,z]) U s=.ok r s:=Zq (Zb h1<|Zb h2<|Zb h3 Zf) h
def guard{ms:List Nat}{t:E}{x l:List Sm}(h:pv C t U s=.ok (.bl aj) s):rvs C ms (.ite t x []::l) U [] s=rvs C ms l U [] s:=by
 rw[Zi<|(XO<|YI h rfl).trans (by rw[T8 #[2],rvs])]
def YY{P:List Row}(h1:pv C a U s=.ok (Zd P) s):pv C (.blt .len [a]) U s=.ok (.int P.length) s:=by
 rw[Ys,Zb h1 Zf,Za];show po (aa<|V.int (P.map Zc).length) s=_;rw[aA];rfl
def Xt{x y:Int}(h1:pv C a U s=.ok (.int x) s)(h2:pv C b U s=.ok (.int y) s):pv C (.bin .add a b) U s=.ok (.int<|x+y) s:=by
 rw[pE7,h1,Za,h2,Za];rfl
def ne_int{x y:Int}(h1:pv C a U s=.ok (.int x) s)(h2:pv C b U s=.ok (.int y) s)(h:x=y):pv C (.cmp .ne a b) U s=.ok (.bl aj) s:=by
 rw[YF,h1,Za,h2,Za];show PR.ok (V.bl !decide (x=y)) s=_;rw[T5 h];rfl
def VI{x y:List V}(h1:pv C a U s=.ok (.lst x) s)(h2:pv C b U s=.ok (.lst y) s)(h:x.length+y.length<=lim):pv C (.bin .add a b) U s=.ok (.lst<|x++y) s:=by
 rw[pE7,h1,Za,h2,Za];show(if x.length+y.length<=lim then _ else _)=_
 rw[T9 h]
end
def Vw{C:Zr}{ms os:List Nat}{U:Env}{s:DS}{B:Type}{t:List Nat}{it:W}{b:List Sm}{L:List B}{e:B->V}(I:List B->Env->Prop){s0:DS}(hw:pvw C it (hide os U) s=.ok (L.map e) s0)(hI:I L U)(ht:(t.any os.contains)=aj)
  (h:∀x l U s,I (x::l) U->∃ρ1 ρ' s',Zn t (e x) U=aa ρ1/\rvs C ms b ρ1 os s=.ok (.nx ρ' os) s'/\I l ρ') :
  ∃ρ' s',I [] ρ'/\rv C ms (.forr t it b) U os s=.ok (.nx ρ' os) s':=by
 rw[QZ,hw,Za];clear hw
 induction L generalizing U s0 with
 |nil=>exact#[U,s0,hI,rfl]
 |cons x L ih=>
  obtain⟨ρ1,ρ',s',b1,b2,b3⟩:=h x L U s0 hI;obtain⟨ρ2,s2,c1,c2⟩:=ih b3;refine#[ρ2,s2,c1,?_];rw[aY,Y2,T8 (by rw[ht];simp),b1,ZP,Za,b2,Za]
  exact c2
section
variable{p n:Nat}[Base p]
def u4(d:Nat){x:V}{lo hi:Int}(s:DS)(hx:okV x=am):CV (d+1) 12 [x,.int lo,.int hi] s=.ok (.bl<|isW x lo hi) s:=by
 refine Zt rfl #[1] rfl ?_
 rcases Zaa hx with⟨i,rfl⟩|⟨b,rfl⟩|⟨ha,no⟩
 .by_cases h:lo<=i
  .simp[Ym,pvE,isW,Yn,XR,h]
  .simp[Ym,pvE,isW,Yn,XR,h]
 .simp[Ym,pvE,isW,Yn,XR]
 .rw[jH no]
  simp[Ym,pvE,ha]
def vH{C:Zr}{U:Env}{s:DS}{i:Nat}{x:V}(h:U[i]?=aa (aa x))(hx:okV x=am):pv C (.not<|.isi (.v i) [.tuple]) U s=.ok (.bl (!match x with|.tup _=>am|_=>aj)) s:=by
 have g:pv C (.isi (.v i) [.tuple]) U s=.ok (.bl (match x with|.tup _=>am|_=>aj)) s:=by
  rw[Zfh,Ze h,Za];rcases QV hx with⟨xs,rfl⟩|⟨ha,no⟩
  .rfl
  .rw[ha]
   cases x<;>first|rfl|exact T7 rfl<|no _
 exact wB g
def Zau{C:Zr}{U:Env}{s:DS}{i:Nat}{x:V}{e:E}{ms:List Nat}{l:List Sm}(h:U[i]?=aa (aa x))(hx:okV x=am)(he:pv C e U s=.ok (.int n) s):(∃xs,x=.tup xs/\xs.length=n/\rvs C ms (.ite (.or (.not<|.isi (.v i) [.tuple])<|.cmp .ne (.blt .len [(.v i)]) e) #[13] []::l) U [] s=rvs C ms l U [] s)\/
  ((∀xs,x=.tup xs->xs.length≠n)/\rvs C ms (.ite (.or (.not<|.isi (.v i) [.tuple])<|.cmp .ne (.blt .len [(.v i)]) e) #[13] []::l) U [] s=.ok (.ret<|.bl aj) s):=by
 have g:=vH (C:=C) (U:=U) (s:=s) h hx;have fin:pv C (.or (.not<|.isi (.v i) [.tuple])<|.cmp .ne (.blt .len [(.v i)]) e) U s=.ok (.bl am) s->rvs C ms (.ite (.or (.not<|.isi (.v i) [.tuple])<|.cmp .ne (.blt .len [(.v i)]) e) #[13] []::l) U [] s=.ok (.ret<|.bl aj) s:=λq=>by
  refine Zo ?_;rw[XO<|YI q rfl,T9 rfl];exact Zo<|ZH (by rw[pE1];rfl)
 rcases QV hx with⟨xs,rfl⟩|⟨_,no⟩
 .have e1:pv C (.cmp .ne (.blt .len [(.v i)]) e) U s=.ok (.bl !decide ((xs.length:Int)=n)) s:=by
   have:pv C (.blt .len [(.v i)]) U s=.ok (.int xs.length) s:=by rw[Ys,Zb (Ze h) Zf];rfl
   rw[YF,this,Za,he,Za];rfl
  by_cases c:xs.length=n
  .refine .inl #[xs,rfl,c,guard<|J1 g ?_]
   rw[e1,T5 #[3]];rfl
  .refine .inr #[λys z=>by cases z;exact c,fin<|J1 g ?_]
   rw[e1,T4 #[3]];rfl
 .refine .inr #[λxs z=>T7 z<|no xs,fin ?_]
  rw[Zdt,g];cases x<;>first|rfl|exact T7 rfl<|no _
def wF(d:Nat){x:V}(s:DS)(hn:n<=6)(hx:okV x=am):CV (d+2) 13 [spV p n,x] s=.ok (.bl<|ZK p n x) s:=by
 refine Zt rfl #[1] rfl ?_
 show rvs #[16] [] (.ite (.or (.not<|.isi (.v 1) [.tuple])<|.cmp .ne #[28]<|.ix (.v 0)<|.n 1) #[13] [] ::
  .ret (.blt .all [(.comp1 [0] 1 [0] (.of<|.v 1) []<|.call 12 [(.v 0),(.n 0),(.bin .sub (.ix (.v 1)<|.n 0)<|.n 1)])])::[]) [aa<|spV p n,aa x] [] s=_
 rcases Zau (C:=CV<|d+1) (ms:=[]) (i:=1) (U:=[aa<|spV p n,aa x]) (s:=s) (n:=n) (e:=.ix (.v 0)<|.n 1) (l:=.ret (.blt .all [(.comp1 [0] 1 [0] (.of<|.v 1) []<|.call 12 [(.v 0),(.n 0),(.bin .sub (.ix (.v 1)<|.n 0)<|.n 1)])])::[]) rfl hx (ix1 rfl)with⟨xs,rfl,hl,e⟩|⟨no,e⟩
 .rw[e]
  refine Zo<|ZH ?_;have hc:=ZS (C:=CV<|d+1) (cap:=[0]) (nl:=1) (t:=[0]) (it:=.of<|.v 1) (elt:=.call 12 [(.v 0),(.n 0),(.bin .sub (.ix (.v 1)<|.n 0)<|.n 1)]) (U:=[aa<|spV p n,aa<|.tup xs]) (s:=s) (l:=xs) (e:=id) (g:=λv=>V.bl<|isW v 0<|(p:Int)-1)
   (by rw[wE7,Ze rfl,Za,List.map_id];rfl) #[27] (λv hv=>#[[aa v,aa<|spV p n],rfl,by
    have e2:pv #[16] (.bin .sub (.ix (.v 1)<|.n 0)<|.n 1) [aa v,aa<|spV p n] s=.ok (.int<|(p:Int)-1) s:=by
     rw[pE7,ix0 rfl,Za,ZR,Za];rfl
    exact Zq (Zb #[10]<|Zb ZR<|Zb e2 Zf)<|u4 d s<|Xz hx v hv])
  rw[Ys,Zb hc Zf,Za];show po ((Z0<|xs.map λv=>V.bl<|isW v 0<|(p:Int)-1).map λbs=>V.bl<|bs.all id) s=_
  rw[Yu];show PR.ok (V.bl<|(xs.map λv=>isW v 0<|(p:Int)-1).all id) s=_
  unfold ZK;simp[hl]
 .rw[e]
  have:ZK p n x=aj:=by
   cases x with|tup xs=>show(af (xs.length=n)&&_)=aj;rw[T4<|no xs rfl];rfl|_=>rfl
  rw[this]
def Qc(L:List Row):(Zy L).length=L.length:=by
 have ins:∀(x:Row)(l:List Row),(YO x l).length=l.length+1:=λx l=>by
  induction l with|nil=>rfl|cons y l ih=>unfold YO;split<;>simp[ih]
 induction L with|nil=>rfl|cons x L ih=>show(YO x<|Zy L).length=_;rw[ins,ih];rfl
end
end K51
namespace Rw
open La
def Yi(r:Row):Nat:=(hdI r).getD r.length
def ZU(E:List Row):List Nat:=(aP 6).filter ((E.filter λr=>(hdI r).isSome).map Yi).contains
def Q9(E:List Row)(h:Nat)(r:Row):Bool:=(af (gt r h=1)&&af (Yi r=h))&&(ZU E).all λk=>af (k=h)||decide (gt r k=0)
def ZeD(E:List Row):List Row:=(ZU E).flatMap λh=>E.filter<|Q9 E h
def wE{l:List Row}{q:Row->Bool}{r:Row}(hn:l.Nodup)(hr:r∈l)(h:∀x∈l,q x=am↔x=r):l.filter q=[r]:=by
 have hm:∀x,x∈l.filter q↔x=r:=λx=>by
  rw[bX];exact#[λz=>(h x z.1).mp z.2,λe=>by subst e;exact#[hr,(h x hr).mpr rfl]]
 have hd:=hn.filter q;generalize l.filter q=m at hm hd
 match m,hm,hd with
 |[],hm,_=>exact T7 ((hm r).mpr rfl) #[2]
 |[x],hm,_=>rw[(hm x).mp #[2]]
 |x::y::m,hm,hd=>
  have e1:=(hm x).mp #[2]
  have e2:=(hm y).mp #[2]
  subst e1;subst e2;simp at hd
theorem JJ{g:Row->List Row}:∀{l:List Row},(∀r∈l,g r=[r])->l.flatMap g=l
 |[],_=>rfl
 |r::l,h=>by
  rw[pG,h r<|ak ..,JJ λx hx=>h x<|al _ hx];rfl
section
variable{p n:Nat}[Base p]
def X6{r:Row}{k:Nat}(h:hdI r=aa k):Yi r=k:=by unfold Yi;rw[h];rfl
def ZcF{E F P:List Row}(hn:n<=6)(h:HasK p n F P)(hE:E.Perm F):ZeD E=P:=by
 have hF:=λx=>hE.mem_iff.trans<|h.mem x
 have hP:=h.part;have hp:∀r∈P,r∈E/\∃k,hdI r=aa k/\k<n/\gt r k=1:=λr hr=>by
  obtain⟨k,h1,h2,h3⟩:=hP.head (fld).one0 hr;exact#[(hF r).mpr #[hP.row r hr,vb hP hr],k,h1,h2,(UI<|hP.row r hr).mp h3]
 have hpl:ZU E=ZC P:=by
  refine GQ (List.pairwise_lt_range.filter _) ?_ λk=>?_
  .have:=hP.pn.rf.heads
   rw[Wv]at this;exact this
  .unfold ZU
   rw[bX,aV,cB,aN];unfold ZC;rw[aN]
   constructor
   .rintro ⟨_,r,hr,rfl⟩
    obtain⟨hr,hs⟩:=bX.mp hr;obtain⟨k,hk⟩:=bS.mp hs;obtain⟨a,b⟩:=(hF r).mp hr;have hm:=(ZD hP a).mp b;obtain⟨e1,_,e2⟩:=ZT hk;obtain⟨c,hc,ec⟩:=yu hP.pn.rf hm (λz=>e1<|(Z4 a).mp z) λj hj=>(Z4 a).mpr<|e2 j hj
    obtain⟨q,hq,rfl⟩:=aN.mp hc;exact#[q,hq,by rw[X6 hk];exact ec]
   .rintro ⟨r,hr,rfl⟩
    obtain⟨h1,k,h2,h3,_⟩:=hp r hr;exact#[by rw[h2];show k<6;omega,r,bX.mpr #[h1,by rw[h2];rfl],by rw[X6 h2,h2];rfl]
 have nd:=hE.nodup_iff.mpr h.nd;unfold ZeD;have e:ZC P=P.map λr=>(hdI r).getD 0:=rfl
 rw[hpl,e,List.flatMap_map];refine JJ λr hr=>?_
 obtain⟨h1,k,h2,h3,h4⟩:=hp r hr;rw[h2];show E.filter (Q9 E k)=[r];have ir:=hP.row r hr;have ra:=Ya (p:=p) hr;rw[h2]at ra;refine wE nd h1 λx hx=>?_
 unfold Q9;rw[aF,aF,T0,T0,a8,hpl]
 constructor
 .rintro ⟨⟨g1,g2⟩,g3⟩
  obtain⟨a,b⟩:=(hF x).mp hx;have hm:=(ZD hP a).mp b;refine Y8 a ir ?_
  funext j
  have hj:toV p r j=pr (toP p P) (toV p r) j:=Xb hP.pn.rf ra j;rw[hm j,hj];refine yI (λc hc=>?_) j
  obtain⟨q,hq,rfl⟩:=aN.mp hc;obtain⟨_,i,i2,i3,i4⟩:=hp q hq;rw[i2];show toV p x i=toV p r i;have hi:i∈ZC P:=aN.mpr #[q,hq,by rw[i2];rfl]
  rcases(hZ _ _).mp (g3 i hi)with z|z
  .have z:=T6 z
   subst z;unfold toV;rw[g1,h4]
  .have z:=T6 z
   by_cases c:i=k
   .subst c;rw[g1]at z;cases z
   .have qa:=Ya (p:=p) hq
    rw[i2]at qa;have zz:toV p r i=0:=hP.pn.rf.zer _ qa _ ra λe=>c e
    rw[zz];exact(Z4 a).mpr z
 .rintro rfl
  refine#[#[h4,X6 h2],λi hi=>?_]
  obtain⟨q,hq,rfl⟩:=aN.mp hi;obtain⟨_,i,i2,i3,i4⟩:=hp q hq;rw[i2];show(af (i=k)||decide (gt x i=0))=am;by_cases c:i=k
  .rw[T5 c];rfl
  .have qa:=Ya (p:=p) hq
   rw[i2]at qa;have zz:toV p x i=0:=hP.pn.rf.zer _ qa _ ra λe=>c e
   rw[T5<|(Z4 ir).mp zz,Bool.or_true]
def uJ{E F P:List Row}(hn:n<=6)(h:HasK p n F P)(hE:E.Perm F):∀k∈ZU E,k<n:=λk hk=>by
 obtain⟨_,hk⟩:=bX.mp hk;obtain⟨r,hr,rfl⟩:=aN.mp<|cB.mp hk;obtain⟨hr,hs⟩:=bX.mp hr;obtain⟨k,e⟩:=bS.mp hs;have:=((h.mem r).mp<|hE.mem_iff.mp hr).1.1;rw[X6 e];have:=(ZT e).2.1;omega
def uM{R:List Row}(hR:∀r∈R,Zh p n r):YB p [] R=R↔pZ p n R:=
 #[λe=>by rw[<-e];exact(Wn hR).part,λh=>Ja h]
end
end Rw
namespace K51
open Ev Pv Rw La
open Ab (okV Yf)
theorem Ur:∀r:Row,Z0 (r.map V.int)=aa (r.map λa=>af<|a≠0)
 |[]=>rfl
 |a::r=>by rw[aY,Z0,Ur r];rfl
theorem Zah:∀r:Row,(r.map λa=>af<|a≠0).any id=(hdI r).isSome
 |[]=>rfl
 |a::r=>by
  rw[aY,fE,Zah r,hdI];by_cases c:a=0
  .subst c
   rw[T8 #[2]]
   cases hdI r<;>rfl
  .rw[T9 c,T5 c];rfl
def Zd9{C:Zr}{U:Env}{i:Nat}{r:Row}(s:DS)(h:U[i]?=aa (aa<|Zc r)):pv C (.blt .any [(.v i)]) U s=.ok (.bl (hdI r).isSome) s:=by
 rw[Ys,Zb (Ze h) Zf,Za];show po ((Z0<|r.map V.int).map λbs=>V.bl<|bs.any id) s=_
 rw[Ur];show PR.ok (V.bl _) s=_;rw[Zah]
def u5(r:Row):(((aP r.length).filter λk=>af<|gt r k≠0)++[r.length])[0]?=aa (Yi r):=by
 unfold Yi;cases q:hdI r with
 |none=>
  rw[List.filter_eq_nil_iff.mpr λk _=>by simp[Y1 q k]];rfl
 |some k=>
  obtain⟨a,b,c⟩:=ZT q;have f:(aP r.length).find? (λj=>af<|gt r j≠0)=aa k:=xM b a c
  rw[<-List.head?_filter]at f;generalize (aP r.length).filter (λj=>af<|gt r j≠0)=l at f
  cases l with|nil=>cases f|cons x l=>cases f;rfl
def QC(d:Nat){r:Row}(s:DS)(hl:r.length<=1000):CV (d+1) 4 [Zc r] s=.ok (Zp<|Yi r) s:=by
 refine Zt rfl #[1] rfl ?_
 show rvs (CV d) [] Ui.body [aa<|Zc r] [] s=_;have el:pv (CV d) (.blt .len [(.v 0)]) [aa<|Zc r] s=.ok (.int r.length) s:=by
  rw[Ys,Zb #[10] Zf,Za];show po (aa<|V.int (r.map V.int).length) s=_;rw[aA];rfl
 have hc:=Xa (cap:=[0]) (nl:=1) (t:=[0]) (tst:=.cmp .ne (.ix (.v 1)<|.v 0)<|.n 0) (elt:=.v 0) (q:=λk=>af<|gt r k≠0)
  (XH el<|by omega) (by rw[bH];unfold lim;omega) (λk hk=>by
   have hk:=aV.mp hk;refine#[[aa<|Zp k,aa<|Zc r],.bl<|!decide (gt r k=0),rfl,?_,?_,λ_=>Ze rfl]
   .rw[YF,UW rfl rfl hk,Za,ZR,Za];rfl
   .simp[Zw])
 refine Zo<|ZH ?_;have e2:pv (CV d) (.lst [(.blt .len [(.v 0)])]) [aa<|Zc r] s=.ok (.lst [Zp r.length]) s:=by
  rw[pE4,Zb el Zf,Za];rfl
 rw[X4,VI hc e2 (by
  have:=gq (λk=>af<|gt r k≠0)<|aP r.length
  rw[bH]at this;rw[aA,eX];unfold lim;omega),Za,ZR,Za]
 show po (at' _ ((0:Nat):Int)) s=_;rw[V2 (by
  have:=u5 r;rw[show[Zp r.length]=[r.length].map Zp from rfl,<-bV,aQ,this];rfl)];rfl
theorem Qd:∀l:List Nat,(∀k∈l,k<6)->WV (l.map Zp)=aa l
 |[],_=>rfl
 |k::l,h=>by
  have hk:=h k<|ak ..;show(if 0<=(k:Int)/\(k:Int)<6 then(WV<|l.map Zp).map ((k:Int).toNat :: ·)else ai)=_
  rw[T9 #[by omega,by omega],Qd l λx hx=>h x<|al _ hx];rfl
def qI{q q':Nat->Bool}(l:List Nat)(h:∀k∈l,q' k = !q k):((l.filter q).map Zp).isEmpty=l.all q':=by
 induction l with
 |nil=>rfl
 |cons k l ih=>
  rw[gY,<-ih λx hx=>h x<|al _ hx,h k<|ak ..,gO]
  cases q k<;>rfl
def ZgB{C:Zr}{a:E}{U:Env}{s:DS}{xs:List V}(h:pv C a U s=.ok (.lst xs) s):pv C (.cmp .eq a<|.lst []) U s=.ok (.bl xs.isEmpty) s:=by
 have e2:pv C (.lst []) U s=.ok (.lst []) s:=by rw[pE4,Zf];rfl
 rw[YF,h,Za,e2,Za];cases xs<;>rfl
theorem Uf{q:Row->Bool}:∀(l F:List Row),l.foldl (λF r=>if q r=am then F++[r]else F) F=F++l.filter q
 |[],F=>by simp
 |r::l,F=>by
  rw[dE,Uf l,gO];cases q r<;>simp
section
variable{p n:Nat}[Base p]
def qC(d:Nat){E F:List Row}{h:Nat}{r:Row}(s:DS)(hn:n<=6)(hr:Zh p n r)(hpl:∀k∈ZU E,k<n)(hh:h<n)(hl:F.length<lim) :
  rvs #[16] [3] [.ite (.and (.cmp .eq (.ix (.v 5)<|.v 4)<|.n 1)<|.cmp .eq (.call 4 [(.v 5)])<|.v 4) [.ite (.cmp .eq (.comp1 [4,5] 1 [0] (.of<|.v 2) [(.and (.cmp .ne (.v 0)<|.v 1)<|.cmp .ne (.ix (.v 2)<|.v 0)<|.n 0)]<|.v 0)<|.lst []) [.ex<|.mt .append (.v 3) [(.v 5)]] []] []] [aa<|spV p n,aa<|.lst<|E.map Zc,aa<|.lst<|(ZU E).map Zp,aa<|.lst<|F.map Zc,aa<|Zp h,aa<|Zc r] [3] s
   = .ok (.nx [aa<|spV p n,aa<|.lst<|E.map Zc,aa<|.lst<|(ZU E).map Zp,aa<|.lst<|(if Q9 E h r=am then F++[r]else F).map Zc,aa<|Zp h,aa<|Zc r] [3]) s:=by
 generalize hρ:[aa<|spV p n,aa<|.lst<|E.map Zc,aa<|.lst<|(ZU E).map Zp,aa<|.lst<|F.map Zc,aa<|Zp h,aa<|Zc r]=U;have g4:U[4]?=aa (aa<|Zp h):=by rw[<-hρ];rfl
 have g5:U[5]?=aa (aa<|Zc r):=by rw[<-hρ];rfl
 have a1:pv #[16] (.cmp .eq (.ix (.v 5)<|.v 4)<|.n 1) U s=.ok (.bl<|af<|gt r h=1) s:=by
  rw[YF,UW g5 g4 (by rw[hr.1];exact hh),Za,ZR,Za];rfl
 have a2:pv #[16] (.cmp .eq (.call 4 [(.v 5)])<|.v 4) U s=.ok (.bl<|af<|Yi r=h) s:=by
  rw[YF,Zq (Zb (Ze g5) Zf) (QC d s (by rw[hr.1];omega)),Za,Ze g4,Za]
  show PR.ok (V.bl<|af<|(Yi r:Int)=h) s=_
  congr 2
  exact decide_eq_decide.mpr #[λz=>by omega,λz=>by omega]
 have t1:=GN a1 a2;have hc:=Xa (C:=CV<|d+1) (cap:=[4,5]) (nl:=1) (t:=[0]) (it:=.of<|.v 2) (tst:=.and (.cmp .ne (.v 0)<|.v 1)<|.cmp .ne (.ix (.v 2)<|.v 0)<|.n 0) (elt:=.v 0) (U:=U) (s:=s)
  (by rw[wE7,Ze (by rw[<-hρ];rfl)];rfl) (by
   have:=gq ((E.filter λr=>(hdI r).isSome).map Yi).contains<|aP 6
   rw[bH]at this;unfold ZU lim;omega) (λk hk=>by
   have hk:=hpl k hk;refine#[[aa<|Zp k,aa<|Zp h,aa<|Zc r],.bl<|!decide (k=h) && !decide (gt r k=0),by rw[<-hρ];rfl,?_,rfl,λ_=>Ze rfl]
   refine GN ?_ ?_
   .rw[YF,Ze rfl,Za,Ze rfl,Za]
    show PR.ok (V.bl<|!decide ((k:Int)=h)) s=_
    congr 3
    exact decide_eq_decide.mpr #[λz=>by omega,λz=>by omega]
   .rw[YF,UW rfl rfl (by rw[hr.1];exact hk),Za,ZR,Za];rfl)
 have t2:=ZgB hc;rw[qI (q':=λk=>af (k=h)||decide (gt r k=0)) _ λk _=>by simp]at t2
 have ef:Q9 E h r=((af (gt r h=1)&&af (Yi r=h))&&(ZU E).all λk=>af (k=h)||decide (gt r k=0)):=rfl
 have stay:∀{t:Ev.E}{x:List Sm},pv #[16] t U s=.ok (.bl aj) s->rvs #[16] [3] [.ite t x []] U [3] s=.ok (.nx U [3]) s:=λ{t x} z=>by
  rw[Zi (by rw[XO<|YI z rfl,T8 #[1],rvs]),rvs]
 have into:∀{t:Ev.E}{x:List Sm}{R:PR FlV},pv #[16] t U s=.ok (.bl am) s->rvs #[16] [3] x U [3] s=R->rvs #[16] [3] [.ite t x []] U [3] s=R:=λ{t x R} z w=>by
  rw[rvs,XO<|YI z rfl,T9 rfl,w];cases R with|ok f s=>cases f<;>simp[PR.bind,rvs]|_=>rfl
 cases q1:(af (gt r h=1)&&af (Yi r=h))with
 |false=>
  rw[q1]at t1;rw[ef,q1,nr,T8 #[1],hρ]
  exact stay t1
 |true=>
  rw[q1]at t1;rw[ef,q1,Bool.true_and];refine into t1 ?_;cases q2:(ZU E).all λk=>af (k=h)||decide (gt r k=0)with
  |false=>
   rw[q2]at t2;rw[T8 #[1],hρ]
   exact stay t2
  |true=>
   rw[q2]at t2;rw[T9 rfl];refine into t2 ?_;rw[Zi (ρ':=U.set 3<|aa<|.lst<|(F++[r]).map Zc) (by
    rw[Zd6,T9<|show([3]:List Nat).contains 3=am from rfl,show qW U[3]?=aa (F.map Zc) by rw[<-hρ];rfl,ZP,Za,Ze g5,Za,T9 #[Wh r,by rw[aA];exact hl],bV];rfl),rvs,<-hρ]
   rfl
def QH(d:Nat){E F P:List Row}(s:DS)(hn:n<=6)(hK:HasK p n F P)(hE:E.Perm F)(hl:E.length<=1000):CV (d+2) 5 [spV p n,.lst<|E.map Zc] s=.ok (Zd P) s:=by
 have hpl:=uJ hn hK hE;have hR:=λr hr=>((hK.mem r).mp<|hE.mem_iff.mp hr).1
 have hF:=ZcF hn hK hE;refine Zt rfl #[1] rfl ?_
 show rvs #[16] [3] X7.body [aa<|spV p n,aa<|.lst<|E.map Zc,ai,ai,ai,ai] [] s=_
 dsimp only[X7]
 have hc:=Xa (cap:=[]) (nl:=1) (t:=[0]) (it:=.of<|.v 1) (tst:=.blt .any [(.v 0)]) (elt:=.call 4 [(.v 0)]) (U:=[aa<|spV p n,aa<|.lst<|E.map Zc,ai,ai,ai,ai])
  (by rw[wE7,Ze rfl];rfl) #[27] (λr hr=>#[[aa<|Zc r],.bl (hdI r).isSome,rfl,Zd9 s rfl,rfl,λ_=>Zq (Zb #[10] Zf)<|QC d s (by rw[(hR r hr).1];omega)])
 have e1:pv #[16] (.blt .sortedS [(.comp1 [] 1 [0] (.of<|.v 1) [(.blt .any [(.v 0)])]<|.call 4 [(.v 0)])]) [aa<|spV p n,aa<|.lst<|E.map Zc,ai,ai,ai,ai] s=.ok (.lst<|(ZU E).map Zp) s:=by
  rw[Ys,Zb hc Zf,Za,show(E.filter λr=>(hdI r).isSome).map (λr=>Zp<|Yi r)=((E.filter λr=>(hdI r).isSome).map Yi).map Zp by rw[cg];rfl]
  show po ((WV _).map λks=>V.lst (((aP 6).filter ks.contains).map λk:Nat=>.int k)) s=_
  rw[Qd _ λk hk=>by
   obtain⟨r,hr,rfl⟩:=aN.mp hk;obtain⟨hr,hs⟩:=bX.mp hr;obtain⟨k,e⟩:=bS.mp hs;rw[X6 e];have:=(ZT e).2.1;have:=(hR r hr).1;omega]
  rfl
 rw[Zi<|ZY e1 rfl];rw[Zi (ρ':=[aa<|spV p n,aa<|.lst<|E.map Zc,aa<|.lst<|(ZU E).map Zp,aa<|.lst<|([]:List Row).map Zc,ai,ai]) (os':=[3]) (by
  rw[rE1];show PR.bind (pv _ (.lst []) _ s) _=_;rw[pE4,Zf];rfl)]
 have lP:P.length<=1000:=by have:=hK.part;have:=dsum this;omega
 obtain⟨ρ',hI,e⟩:=ug (C:=CV<|d+1) (os:=[3]) (t:=[4]) (it:=.of<|.v 2) (s:=s)
  (λl U=>(∀k∈l,k<n)/\∃F a4 a5,U=[aa<|spV p n,aa<|.lst<|E.map Zc,aa<|.lst<|(ZU E).map Zp,aa<|.lst<|F.map Zc,a4,a5]/\F++(l.flatMap λh=>E.filter<|Q9 E h)=P) (by
   rw[wE7,Ze rfl];rfl) #[hpl,[],ai,ai,rfl,hF] rfl (λh l U hI=>by
   obtain⟨hh,F,a4,a5,rfl,hf⟩:=hI;have h0:=hh h<|ak ..;have lF:F.length<=1000:=by have:=congrArg iz hf;rw[aX]at this;omega
   obtain⟨b5,_,e5⟩:=w4 (C:=CV<|d+1) (os:=[3]) (t:=[5]) (it:=.of<|.v 1) (U:=λF x=>[aa<|spV p n,aa<|.lst<|E.map Zc,aa<|.lst<|(ZU E).map Zp,aa<|.lst<|F.map Zc,aa<|Zp h,x]) (st:=F) (s:=s)
    (λl F=>(∀r∈l,Zh p n r)/\F.length+l.length<lim) (by
     rw[wE7,Ze rfl];rfl) #[hR,by unfold lim;omega] rfl (λr l F x hI=>by
     obtain⟨i1,i2⟩:=hI;rw[aT]at i2;refine#[#[λq hq=>i1 q<|al _ hq,?_],by rw[Wh];rfl,[aa<|spV p n,aa<|.lst<|E.map Zc,aa<|.lst<|(ZU E).map Zp,aa<|.lst<|F.map Zc,aa<|Zp h,aa<|Zc r],aa<|Zc r,rfl,qC d s hn (i1 r<|ak ..) hpl h0 #[3]]
     split
     .rw[aX,eX];omega
     .omega)
   rw[Uf]at e5;refine#[rfl,[aa<|spV p n,aa<|.lst<|E.map Zc,aa<|.lst<|(ZU E).map Zp,aa<|.lst<|F.map Zc,aa<|Zp h,a5],_,rfl,by rw[Zi e5,rvs],λk hk=>hh k<|al _ hk,_,_,_,rfl,?_]
   rw[pG,<-bK]at hf;exact hf)
 obtain⟨_,F,a4,a5,rfl,hf⟩:=hI;rw[List.flatMap_nil,cz]at hf;subst hf;rw[Zi e];refine Zo<|ZH ?_;rw[Ys,Zb #[10] Zf];rfl
end
end K51
namespace Ab
open Ev Pv
end Ab
namespace Lv
open Ev Pv
noncomputable def V6:Fn:=#[2,2,[.ite (.cmp .lt (.v 1)<|.blt .len [(.v 0)]) [.ret<|.ix (.v 0)<|.v 1] [],.ret<|.n 0]]
noncomputable def Vz(c:Nat):Fn:=#[2,3,[.asg [2]<|.call c #[23],.ite (.cmp .ge (.v 2)<|.bin .pow (.n 10)<|.n 18) [.ret<|.lst [(.bin .sub (.v 2)<|.bin .pow (.n 10)<|.n 18),(.c<|.bl am)]] [],.ret<|.lst [(.bin .mod (.v 2)<|.n 2147483647),(.c<|.bl aj)]]]
noncomputable def GZ(nn:Nat)(M:Int)(st:Nat)(B:List Sm)(r:E):Fn:=#[1,nn,[.forr [1] (.rng1<|.blt .max2 [(.n 1),(.blt .min2 [(.blt .len [(.v 0)]),(.c<|.int M)])]) [.cel 2 st #[23] B],.ret r]]
abbrev ZhQ(nn:Nat)(M:Int)(st:Nat)(B:List Sm):Fn:=GZ nn M st B<|.c<|.bl am
def ZdN(ht:ca≠tk)(hC:F[ca]?=aa V6){s:DS}{ns:List Int}{k:Int}(d:Nat)(k0:0<=k):∃c,Zk F tk (d+1) ca [.scr ns,.int k] s=.ok (.int c) s:=by
 by_cases c:k<ns.length
 .have hk:k.toNat<ns.length:=by lia
  refine#[ns[k.toNat],?_];simp[Zk,ht,hC,V6,rvs,rE9,GI,pvs,pE1,pE2,YF,X4,Ys,YE,PR.bind,po,ZN,Y5,int2,Xo,QG,Yx,Zw,ixV,at',ixN,k0,c,hk,ofD]
 .refine#[0,?_]
  simp[Zk,ht,hC,V6,rvs,rE9,GI,pvs,pE1,pE2,YF,X4,Ys,YE,PR.bind,po,ZN,Y5,int2,Xo,QG,Yx,Zw,ixV,at',ixN,k0,c,ofD]
def Za0(ht:ca≠tk)(hts:st≠tk)(hC:F[ca]?=aa V6)(hS:F[st]?=aa (Vz ca)){s:DS}{ns:List Int}{k:Int}(d:Nat)(k0:0<=k):∃v d0,Zk F tk (d+2) st [.scr ns,.int k] s=.ok v s/\Qq v=aa d0/\okS d0.1 d0.2=am:=by
 obtain⟨c,e⟩:=ZdN ht hC (s:=s) (ns:=ns) d k0;rw[show d+2=(d+1)+1 from rfl,Zk,T8 hts,hS]
 generalize Zk F tk (d+1)=C at e ⊢;by_cases h:10^18<=c
 .have h':(1000000000000000000:Int)<=c:=by simpa using h
  have o:okS (c-1000000000000000000) am=am:=by simp[okS];lia
  refine#[.lst [.int<|c-1000000000000000000,.bl am],(c-1000000000000000000,am),?_,by simp[Qq,o],o]
  simp[Vz,rvs,rE1,rE9,GI,pvA,pvs,pE1,pE2,pE4,pE7,YF,Zax,YE,PR.bind,po,ZN,Y5,int2,Zw,ofD,Vu,Pv.Uw,e,h',yd,JD,ZaV,Zbf,Zb3,lim]
 .have h':¬(1000000000000000000:Int)<=c:=by simpa using h
  have o:okS (c%2147483647) aj=am:=by simp[okS];lia
  refine#[.lst [.int<|c%2147483647,.bl aj],(c%2147483647,aj),?_,by simp[Qq,o],o]
  simp[Vz,rvs,rE1,rE9,GI,pvA,pvs,pE1,pE2,pE4,pE7,YF,Zax,YE,PR.bind,po,ZN,Y5,int2,Zw,ofD,Vu,Pv.Uw,e,h',yd,JD,ZaV,Zbf,Zb3,lim]
theorem ym(P:Env->Prop):∀(xs:List V),(∀x∈xs,∀U s,P U->∃ρ' s',P ρ'/\body x U [] s=.ok (.nx ρ' []) s')->∀U s,P U->∃ρ' s',P ρ'/\Y2 body xs U [] s=.ok (.nx ρ' []) s'
 |[],_,U,s,h=>#[U,s,h,rfl]
 |x::xs,hb,U,s,h=>by
  obtain⟨ρ1,s1,h1,e1⟩:=hb x (ak ..) U s h;obtain⟨ρ2,s2,h2,e2⟩:=ym P xs (λy hy=>hb y<|al _ hy) ρ1 s1 h1
  refine#[ρ2,s2,h2,?_];rw[Y2,e1];exact e2
def W6 :hide [] U=U:=by
 unfold hide;apply ck
 intro i;rw[ke];cases U[i]?<;>rfl
def Zce(h0:U[0]?=aa (aa<|.scr ns))(h1:U[1]?=aa (aa<|.int k))(hl:U.length=nn+3):(Vd 2 U).set 2 (aa .drw)=aa (.scr ns)::aa (.int k)::aa .drw::aB nn ai:=by
 match U,h0,h1,hl with
 |a::b::l,h0,h1,hl=>
  cases h0;cases h1;have:l.length=nn+1:=by simpa using hl
  unfold Vd;simp[JM,V.flat,this,bY]
def ZdG{r:E}(d:Nat)(ht:ca≠tk)(hts:st≠tk)(htl:L≠tk)(hC:F[ca]?=aa V6)(hS:F[st]?=aa (Vz ca))(hL:F[L]?=aa (GZ (nn+3) M st B r))(hM:M<2^62)(hr:∀U s,pv (Zk F tk<|d+2) r U s=.ok (.bl am) s)
  (hv:∀(o:Option V)(k:Nat)(s:DS),∃U os s',rvs (Zk F tk<|d+2) (muts B) B (o::aa (.int k)::aa .drw::aB nn ai) [] s=.ok (.nx U os) s'/\U[0]?=aa o/\U.length=nn+3)(ns:List Int)(s:DS) :
  ∃S,Zk F tk (d+3) L [.scr ns] s=.ok (.bl am) S:=by
 rw[show d+3=(d+2)+1 from rfl,Zk,T8 htl,hL]
 have hst:=λk (k0:0<=k) s=>Za0 ht hts hC hS (s:=s) (ns:=ns) (k:=k) d k0
 generalize Zk F tk (d+2)=C at hv hst hr ⊢;have hR:=hr;clear hr;have hr:∃m,pvw C (.rng1<|.blt .max2 [(.n 1),(.blt .min2 [(.blt .len [(.v 0)]),(.c<|.int M)])]) (ZN (nn+3) [.scr ns]) s=.ok (Z5 0 m) s:=by
  have e:pv C (.blt .max2 [(.n 1),(.blt .min2 [(.blt .len [(.v 0)]),(.c<|.int M)])]) (ZN (nn+3) [.scr ns]) s=.ok (.int<|if(if M<(ns.length:Int)then M else(ns.length:Int))>1 then(if M<(ns.length:Int)then M else(ns.length:Int))else 1) s:=by
   simp[pE1,pE2,Ys,pvs,PR.bind,po,ZN,ofD,Xo,QG,blt2,qg,Yx]
  rw[wE1,e];refine#[_,(T9 ?_ :)];unfold WJ;refine T5 ?_;split<;>split<;>lia
 obtain⟨m,hr⟩:=hr;have hm:muts (GZ (nn+3) M st B r).body=muts B:=(cz _).trans<|cz _;simp only[hm];show ∃S,(if 1=1 then _ else _)=_
 rw[T9 rfl];unfold GZ;simp only;rw[rvs,QZ,W6,hr]
 let body:V->Env->List Nat->DS->PR FlV:=λx U os s=>if([1].any os.contains)=am then .no else(po (Zn [1] x U) s).bind λU s=>rvs C (muts B) [.cel 2 st #[23] B] U os s
 have hb:∀x∈Z5 0 m,∀U s,(U[0]?=aa (aa<|.scr ns)/\U.length=nn+3)->∃ρ' s',(ρ'[0]?=aa (aa<|.scr ns)/\ρ'.length=nn+3)/\body x U [] s=.ok (.nx ρ' []) s':=by
  intro x hx U s #[h0,hl];unfold Z5 at hx;obtain⟨k,_,rfl⟩:=aN.mp hx;rw[pF];obtain⟨v,d0,e1,e2,e3⟩:=hst (k:Int) #[0] s
  obtain⟨ρ2,os2,s2,e4,h2,l2⟩:=hv (aa<|.scr ns) k d0;have q0:(U.set 1<|aa<|.int (k:Int))[0]?=aa (aa<|.scr ns):=by rw[bf #[1]];exact h0
  have q1:(U.set 1<|aa<|.int (k:Int))[1]?=aa (aa<|.int (k:Int)):=bg #[0]
  have ql:(U.set 1<|aa<|V.int (k:Int)).length=nn+3:=by rw[bG];exact hl
  have a:pvs C #[23] (U.set 1<|aa<|.int (k:Int)) s=.ok [.scr ns,.int (k:Int)] s:=by
   simp only[pvs,pE2,q0,q1,PR.bind,po,Option.join];rfl
  refine#[ρ2.map JM,s,#[by rw[aQ,h2];rfl,by rw[aA];exact l2],?_]
  show(rvs C (muts B) [.cel 2 st #[23] B] (U.set 1<|aa<|.int (k:Int)) [] s)=_;rw[rvs,Zh3,T9 #[7],a]
  show PR.bind (PR.bind (C st [.scr ns,.int (k:Int)] s) _) _=_;rw[e1];show PR.bind (PR.bind (po (Qq v) s) _) _=_;rw[e2];simp only[po,PR.bind,Zce q0 q1 ql,e4,rvs]
 obtain⟨U,s',h,e⟩:=ym (body:=body) (λU=>U[0]?=aa (aa<|.scr ns)/\U.length=nn+3) (Z5 0 m) hb (ZN (nn+3) [.scr ns]) s #[rfl,by simp[ZN]]
 refine#[s',?_];show PR.bind (PR.bind (Y2 body (Z5 0 m) _ _ s) _) _=_;rw[e];show PR.bind (rvs C (muts B) [.ret r] U [] s') _=_;rw[rvs,rE9,hR];rfl
def law_of(d:Nat)(ht:ca≠tk)(hts:st≠tk)(htl:L≠tk)(hC:F[ca]?=aa V6)(hS:F[st]?=aa (Vz ca))(hL:F[L]?=aa (ZhQ (nn+3) M st B))(hM:M<2^62)
  (hv:∀(o:Option V)(k:Nat)(s:DS),∃U os s',rvs (Zk F tk<|d+2) (muts B) B (o::aa (.int k)::aa .drw::aB nn ai) [] s=.ok (.nx U os) s'/\U[0]?=aa o/\U.length=nn+3)(ns:List Int)(s:DS) :
  ∃S,Zk F tk (d+3) L [.scr ns] s=.ok (.bl am) S:=ZdG d ht hts htl hC hS hL hM (λ_ _=>by rw[pE1];rfl) hv ns s
end Lv
namespace K51
open Ev Pv Rw La
open Ab (okV Yf)
noncomputable def JT:List (Nat×Nat):=[(2,1),(2,2),(2,3),(2,4),(3,1),(3,2),(3,3),(5,1),(5,2),(2,3),(2,4),(3,3)]
noncomputable def Zew:List (Nat×Nat):=[(2,5),(2,6),(3,4),(5,3)]
def XJ:List (Nat×Nat):=JT++Zew
def Gg:∀q∈XJ,(q.1=2\/q.1=3\/q.1=5)/\1<=q.2/\q.2<=6/\q.1^q.2<=1000:=by decide
def qc(d:Nat){m:Int}(s:DS):∃q s',CV (d+2) 3 [.drw,.int m] s=.ok (spV q.1 q.2) s'/\q∈XJ:=by
 let L:=if m>27 then XJ else JT
 have hL:12<=L.length/\L.length<=16/\∀q∈L,q∈XJ:=by
  by_cases c:m>27
  .simp only[L,T9 c];exact#[by decide,by decide,λq hq=>hq]
  .simp only[L,T8 c];exact#[by decide,by decide,λq hq=>dy _ hq]
 obtain⟨v,s',f1,f2,f3⟩:=Uj (m:=L.length) s #[3] #[3]
 obtain⟨k,rfl⟩:∃k:Nat,v=k:=#[v.toNat,by omega]
 have hk:k<L.length:=by omega
 refine#[L[k],s',Zt rfl #[1] rfl ?_,hL.2.2 _<|aZ hk]
 show rvs #[16] [] XI.body [aa .drw,aa<|.int m,ai] [] s=_
 dsimp only[XI]
 rw[Zi (ρ':=[aa .drw,aa<|.int m,aa<|.lst<|JT.map λq=>spV q.1 q.2]) (os':=[]) (s':=s) (by simp[pvE,JT,spV])]
 have e0:pv #[16] (.cmp .gt (.v 1)<|.n 27) [aa .drw,aa<|.int m,aa<|.lst<|JT.map λq=>spV q.1 q.2] s=.ok (.bl<|af<|27<m) s:=by
  rw[YF,Ze rfl,Za,ZR,Za];rfl
 rw[Zi (ρ':=[aa .drw,aa<|.int m,aa<|.lst<|L.map λq=>spV q.1 q.2]) (by
  rw[XO<|YI e0 rfl];by_cases c:m>27
  .simp only[L,T9 c]
   rw[T5 c,T9 rfl];rw[Zi (ρ':=[aa .drw,aa<|.int m,aa<|.lst<|XJ.map λq=>spV q.1 q.2]) (os':=[]) (s':=s) (by simp[pvE,XJ,JT,Zew,spV]),rvs]
  .simp only[L,T8 c]
   rw[T4 c,T8 #[1],rvs])]
 refine Zo<|ZH ?_;have e1:pv #[16] (.blt .len [(.v 2)]) [aa .drw,aa<|.int m,aa<|.lst<|L.map λq=>spV q.1 q.2] s=.ok (.int L.length) s:=by
  rw[Ys,Zb #[10] Zf,Za];show po (aa<|V.int (L.map λq=>spV q.1 q.2).length) s=_
  rw[aA];rfl
 rw[X4,Ze rfl,Za,Zq (Zb #[10]<|Zb e1 Zf) f1,Za];show po (at' (L.map λq=>spV q.1 q.2) (k:Int)) s'=_
 rw[V2 (by rw[aQ,ag hk];rfl)];rfl
def xI{C:Zr}{cap:List Nat}{nl:Nat}{t:List Nat}{it:W}{elt:E}{U:Env}{s s0:DS}{k:Nat}{Q:V->Prop}(hw:pvw C it U s=.ok (Z5 0 k) s0)(hl:k<=lim)(h:∀(x:V)(s:DS),∃Z y s',Zn t x (Z3 cap nl U)=aa Z/\pv C elt Z s=.ok y s'/\Q y)(ho:own nl t=am:=by rfl) :
  ∃ys s',pv C (.comp1 cap nl t it [] elt) U s=.ok (.lst ys) s'/\ys.length=k/\∀y∈ys,Q y:=by
 obtain⟨ys,s',e1,e2,e3⟩:=VO (f:=λx s=>(po (Zn t x<|Z3 cap nl U) s).bind λZ s=>(pvt C [] Z s).bind λb s=>if b then(pv C elt Z s).bind λy s=>.ok [y] s else .ok [] s) (λx s=>by
  obtain⟨Z,y,s',f1,f2,f3⟩:=h x s;refine#[y,s',?_,f3];rw[f1,ZP,Za,pvt,Za];rw[f2];rfl) (Z5 0 k) s0
 have hk:(Z5 0 k).length=k:=by unfold Z5;simp
 refine#[ys,s',?_,by rw[e2,hk],e3]
 rw[qF,T9 ho,hw,Za,e1,Za,T9 (by rw[e2,hk];exact hl)];rfl
theorem Jb{p n:Nat}:∀{ys:List V},(∀y∈ys,∃r:Row,y=Zc r/\Zh p n r)->∃R:List Row,ys=R.map Zc/\∀r∈R,Zh p n r
 |[],_=>#[[],rfl,λ_ h=>by cases h]
 |y::ys,h=>by
  obtain⟨R,rfl,hR⟩:=Jb λz hz=>h z<|al _ hz
  obtain⟨r,rfl,hr⟩:=h y<|ak ..;refine#[r::R,rfl,λx hx=>?_]
  rcases az.mp hx with rfl|hx
  .exact hr
  .exact hR x hx
theorem zZ{p:Nat}:∀{ys:List V},(∀y∈ys,∃a:Int,y=.int a/\0<=a/\a<(p:Int))->∃r:Row,ys=r.map V.int/\∀a∈r,0<=a/\a<(p:Int)
 |[],_=>#[[],rfl,λ_ h=>by cases h]
 |y::ys,h=>by
  obtain⟨r,rfl,hr⟩:=zZ λz hz=>h z<|al _ hz
  obtain⟨a,rfl,h3⟩:=h y<|ak ..;refine#[a::r,rfl,λx hx=>?_]
  rcases az.mp hx with rfl|hx
  .exact h3
  .exact hr x hx
section
variable{p n:Nat}[Base p]
theorem YU:∀L:List Row,(Zy L).Perm L
 |[]=>cZ _
 |x::L=>by
  have ins:∀(x:Row)(l:List Row),(YO x l).Perm (x::l):=λx l=>by
   induction l with
   |nil=>exact cZ _
   |cons y l ih=>
    unfold YO;split
    .exact cZ _
    .exact(ih.cons y).trans<|lj ..
  exact(ins x<|Zy L).trans<|(YU L).cons x
def vx(d:Nat)(s:DS)(hn:n<=6):∃r s',CV (d+2) 6 [.drw,spV p n] s=.ok (Zc r) s'/\Zh p n r:=by
 have hp:=WF (p:=p);obtain⟨v,s1,f1,f2,f3⟩:=Uj (m:=(n:Int)+1) s #[3] #[3]
 obtain⟨w,s2,g1,g2,g3⟩:=Uj (m:=3) s1 #[3] #[3]
 obtain⟨k,hk,e0⟩:∃k:Nat,k<=n/\pv (CV<|d+1) (.bin .mul (.call 2 [(.v 0),(.bin .add (.ix (.v 1)<|.n 1)<|.n 1)])<|.blt .toInt [(.cmp .eq (.call 2 [(.v 0),(.n 3)])<|.n 0)]) [aa .drw,aa<|spV p n,ai] s=.ok (Zp k) s2:=by
  have h1:pv #[16] (.bin .add (.ix (.v 1)<|.n 1)<|.n 1) [aa .drw,aa<|spV p n,ai] s=.ok (.int<|(n:Int)+1) s:=Xt (ix1 rfl) ZR;have h2:pv #[16] (.call 2 [(.v 0),(.bin .add (.ix (.v 1)<|.n 1)<|.n 1)]) [aa .drw,aa<|spV p n,ai] s=.ok (.int v) s1:=Zq (Zb #[10]<|Zb h1 Zf) f1;have h3:pv #[16] (.call 2 [(.v 0),(.n 3)]) [aa .drw,aa<|spV p n,ai] s1=.ok (.int w) s2:=Zq (Zb #[10]<|Zb ZR Zf) g1;have h4:pv #[16] (.blt .toInt [(.cmp .eq (.call 2 [(.v 0),(.n 3)])<|.n 0)]) [aa .drw,aa<|spV p n,ai] s1=.ok (.int<|b2i<|af<|w=0) s2:=by
   have:pv #[16] (.cmp .eq (.call 2 [(.v 0),(.n 3)])<|.n 0) [aa .drw,aa<|spV p n,ai] s1=.ok (.bl<|af<|w=0) s2:=by
    rw[YF,h3,Za,ZR,Za];rfl
   rw[Ys,Zb this Zf];rfl
  by_cases c:w=0
  .refine#[v.toNat,by omega,?_]
   rw[pE7,h2,Za,h4,Za,T5 c];show(if(fits v&&fits 1)=am then PR.ok (V.int<|v*1) s2 else .no)=_
   rw[T9 (by rw[Z6 #[3] #[3]];rfl)]
   unfold Zp;rw[show v*1=((v.toNat:Nat):Int) by omega]
  .refine#[0,by omega,?_]
   rw[pE7,h2,Za,h4,Za,T4 c];show(if(fits v&&fits 0)=am then PR.ok (V.int<|v*0) s2 else .no)=_
   rw[T9 (by rw[Z6 #[3] #[3]];rfl),Int.mul_zero];rfl
 obtain⟨ys,s3,e1,e2,e3⟩:=uX (C:=CV<|d+1) (cap:=[0,1]) (nl:=1) (t:=[0]) (it:=.rng1<|.bin .sub (.ix (.v 1)<|.n 1)<|.v 2) (elt:=.call 2 [(.v 1),(.ix (.v 2)<|.n 0)]) (U:=[aa .drw,aa<|spV p n,aa<|Zp k]) (s:=s2) (k:=n-k) (Q:=λy=>∃a:Int,y=.int a/\0<=a/\a<(p:Int))
  (by
   rw[ze];refine XH ?_ #[3]
   rw[pE7,ix1 rfl,Za,Ze rfl,Za];show PR.ok (V.int<|(n:Int)-(k:Int)) s2=_;rw[show(n:Int)-(k:Int)=((n-k:Nat):Int) by omega]) #[27] (λx s=>by
   obtain⟨v,s',f1,f2,f3⟩:=Uj (m:=p) s #[3] #[3]
   exact#[[aa x,aa .drw,aa<|spV p n],.int v,s',rfl,Zq (Zb #[10]<|Zb (ix0 rfl) Zf) f1,v,rfl,f2,f3])
 obtain⟨r,rfl,hr⟩:=zZ e3;rw[aA]at e2;refine#[aB k 0++r,s3,Zt rfl #[1] rfl ?_,by rw[aX,bR,e2];omega,λa ha=>?_]
 .show rvs #[16] [] WZ.body [aa .drw,aa<|spV p n,ai] [] s=_
  dsimp only[WZ]
  rw[Zi<|ZY e0 rfl];show rvs _ _ _ [aa .drw,aa<|spV p n,aa<|Zp k] [] s2=_;refine Zo<|ZH ?_;have g:pv #[16] (.tup [(.n 0)]) [aa .drw,aa<|spV p n,aa<|Zp k] s2=.ok (.tup [.int 0]) s2:=Yk ZR;have g2:pv #[16] (.bin .mul (.tup [(.n 0)])<|.v 2) [aa .drw,aa<|spV p n,aa<|Zp k] s2=.ok (.tup<|(aB k (0:Int)).map V.int) s2:=by
   rw[pE7,g,Za,Ze rfl,Za];show(if(0:Int)<=k/\(k:Int)<1000/\1<=1000 then PR.ok (V.tup (aB (k:Int).toNat [V.int 0]).flatten) s2 else .no)=_
   rw[T9 #[by omega,by omega,by omega],dm,jA]
  have g3:pv #[16] (.blt .tuple [(.comp1 [0,1] 1 [0] (.rng1<|.bin .sub (.ix (.v 1)<|.n 1)<|.v 2) []<|.call 2 [(.v 1),(.ix (.v 2)<|.n 0)])]) [aa .drw,aa<|spV p n,aa<|Zp k] s2=.ok (.tup<|r.map V.int) s3:=by
   rw[Ys,Zb e1 Zf];rfl
  rw[pE7,g2,Za,g3,Za];show(if((aB k (0:Int)).map V.int).length+(r.map V.int).length<=lim then PR.ok (V.tup<|(aB k (0:Int)).map V.int++r.map V.int) s3 else .no)=_
  rw[T9 (by rw[aA,aA,bR];unfold lim;omega),<-bV];rfl
 .rcases cp.mp ha with ha|ha
  .rw[g9 ha];omega
  .exact hr a ha
def QT(d:Nat)(s:DS)(hn:n<=6)(h1:1<=n)(hp:p^n<=1000):∃P s',CV (d+3) 9 [.drw,spV p n] s=.ok (Zd P) s'/\pZ p n P:=by
 obtain⟨v,s1,f1,f2,f3⟩:=Uj (m:=(n:Int)+1) s #[3] #[3]
 obtain⟨k,rfl⟩:∃k:Nat,v=k:=#[v.toNat,by omega]
 obtain⟨ys,s2,e1,e2,e3⟩:=xI (cap:=[0,1]) (nl:=1) (t:=[0]) (it:=.rng1<|.call 2 [(.v 0),(.bin .add (.ix (.v 1)<|.n 1)<|.n 1)]) (elt:=.call 6 [(.v 1),(.v 2)]) (U:=[aa .drw,aa<|spV p n,ai]) (Q:=λy=>∃r:Row,y=Zc r/\Zh p n r)
  (by
   rw[ze];exact XH (Zq (Zb #[10]<|Zb (Xt (ix1 rfl) ZR) Zf) f1)<|by omega) #[27] (λx s=>by
   obtain⟨r,s',g1,g2⟩:=vx (p:=p) d s hn;exact#[[aa x,aa .drw,aa<|spV p n],Zc r,s',rfl,Zq (Zb #[10]<|Zb #[10] Zf) g1,r,rfl,g2])
 obtain⟨R,rfl,hR⟩:=Jb e3;have hK:=Wn hR;have hl:(Zy<|Xf p n R).length<=1000:=by
  rw[Qc,hK.len];have:=WF (p:=p);exact cc (dC #[3]<|dsum hK.part) hp
 refine#[YB p [] R,s2,Zt rfl #[1] rfl ?_,hK.part]
 show rvs (CV<|d+2) [] Wj.body [aa .drw,aa<|spV p n,ai] [] s=_
 dsimp only[Wj]
 rw[Zi<|ZY e1 rfl];exact Zo<|ZH<|X2 #[10] (X2 #[10] #[10]<|Wi d s2 hn h1 hp hR rfl)<|QH d s2 hn hK (YU _) hl
def yF(d:Nat){x:V}(s:DS)(hn:n<=6)(h1:1<=n)(hp:p^n<=1000)(hx:okV x=am):CV (d+3) 14 [spV p n,x] s=.ok (.bl<|isP p n x) s:=by
 refine Zt rfl #[1] rfl ?_
 let l2:List Sm:=[.ret<|.cmp .eq (.call 5 [(.v 0),(.call 8 #[23])])<|.v 1]
 let l1:List Sm:=.forr [2] (.of<|.v 1) [.ite (.not<|.call 13 [(.v 0),(.v 2)]) #[13] []]::l2
 show rvs (CV<|d+2) [] (.ite (.or (.not<|.isi (.v 1) [.tuple])<|.cmp .gt #[28]<|.ix (.v 0)<|.n 1) #[13] []::l1) [aa<|spV p n,aa x,ai] [] s=_;have g:=vH (C:=CV<|d+2) (U:=[aa<|spV p n,aa x,ai]) (s:=s) (i:=1) rfl hx;have fin:pv (CV<|d+2) (.or (.not<|.isi (.v 1) [.tuple])<|.cmp .gt #[28]<|.ix (.v 0)<|.n 1) [aa<|spV p n,aa x,ai] s=.ok (.bl am) s->rvs (CV<|d+2) [] (.ite (.or (.not<|.isi (.v 1) [.tuple])<|.cmp .gt #[28]<|.ix (.v 0)<|.n 1) #[13] []::l1) [aa<|spV p n,aa x,ai] [] s=.ok (.ret<|.bl aj) s:=λq=>by
  refine Zo ?_;rw[XO<|YI q rfl,T9 rfl];exact Zo<|ZH (by rw[pE1];rfl)
 rcases QV hx with⟨xs,rfl⟩|⟨_,no⟩
 .have e1:pv (CV<|d+2) (.cmp .gt #[28]<|.ix (.v 0)<|.n 1) [aa<|spV p n,aa<|.tup xs,ai] s=.ok (.bl<|af<|(n:Int)<xs.length) s:=by
   have:pv (CV<|d+2) #[28] [aa<|spV p n,aa<|.tup xs,ai] s=.ok (.int xs.length) s:=by rw[Ys,Zb #[10] Zf];rfl
   rw[YF,this,Za,ix1 rfl,Za];rfl
  by_cases c:xs.length<=n
  .rw[T4<|by omega]at e1
   rw[guard<|J1 g e1];obtain⟨g1,g2⟩:=ZdA (C:=CV<|d+2) (ms:=[]) (i:=2) (it:=.of<|.v 1) (b:=[.ite (.not<|.call 13 [(.v 0),(.v 2)]) #[13] []]) (L:=xs) (e:=id) (q:=λv=>!ZK p n v) (v:=.bl aj) (U:=λo=>[aa<|spV p n,aa<|.tup xs,o]) (s:=s) ai
    (by
     show pvw (CV<|d+2) (.of<|.v 1) [aa<|spV p n,aa<|.tup xs,ai] s=_;rw[wE7,Ze rfl,Za,List.map_id];rfl) (λ_ _=>rfl) (λv hv=>by
     have e3:pv (CV<|d+2) (.not<|.call 13 [(.v 0),(.v 2)]) [aa<|spV p n,aa<|.tup xs,aa v] s=.ok (.bl !ZK p n v) s:=wB<|X2 #[10] #[10]<|wF d s hn<|Xz hx v hv;show rvs _ _ _ [aa<|spV p n,aa<|.tup xs,aa v] [] s=if(!ZK p n v)=am then _ else PR.ok (.nx [aa<|spV p n,aa<|.tup xs,aa v] []) s
     cases q:(!ZK p n v)with
     |true=>
      rw[q]at e3;rw[T9 rfl];refine Zo ?_;rw[XO<|YI e3 rfl,T9 rfl];exact Zo<|ZH (by rw[pE1];rfl)
     |false=>rw[q]at e3;rw[T8 #[1],guard e3,rvs])
   cases q:xs.all (ZK p n)with
   |false=>
    have:(xs.any λv=>!ZK p n v)=am:=by
     rw[mH];simp[q]
    rw[show l1=.forr [2] (.of<|.v 1) [.ite (.not<|.call 13 [(.v 0),(.v 2)]) #[13] []]::l2 from rfl,Zo<|g1 this]
    have:isP p n (.tup xs)=aj:=by
     show(xs.all (ZK p n)&&_)=aj;rw[q,nr]
    rw[this]
   |true=>
    have:(xs.any λv=>!ZK p n v)=aj:=by
     rw[mH];simp[q]
    obtain⟨o',g2⟩:=g2 this;obtain⟨R,rfl,hR⟩:=WE q;rw[show l1=.forr [2] (.of<|.v 1) [.ite (.not<|.call 13 [(.v 0),(.v 2)]) #[13] []]::l2 from rfl,Zi g2]
    refine Zo<|ZH ?_;have hK:=Wn hR;have hl:(Zy<|Xf p n R).length<=1000:=by
     rw[Qc,hK.len];have:=WF (p:=p);exact cc (dC #[3]<|dsum hK.part) hp
    rw[ZdY (P:=YB p [] R) (Q:=R) (X2 #[10] (X2 #[10] #[10]<|Wi d s hn h1 hp hR rfl)<|QH d s hn hK (YU _) hl)<|Ze rfl];have eb:isP p n (.tup<|R.map Zc)=W7 R:=by
     show((R.map Zc).all (ZK p n)&&match Yh (R.map Zc)with|some R=>W7 R|none=>aj)=_
     rw[q,YT];rfl
    rw[eb]
    congr 2
    rw[cy,T0,VZ hR,uM hR]
  .rw[T5<|by omega]at e1
   rw[fin<|J1 g e1];have:isP p n (.tup xs)=aj:=by
    cases q:isP p n (.tup xs)with
    |false=>rfl
    |true=>
     obtain⟨P,e,hP⟩:=UA.mp q;exact T7 (WU hP xs e.symm) c
   rw[this]
 .rw[ZaA no]
  refine fin ?_;rw[Zdt,g];cases x<;>first|rfl|exact T7 rfl<|no _
end
section
variable{C:Zr}{U:Env}{s s':DS}{a b e:E}{x y:V}{xs ys:List V}
def W8{Q:V->Prop}{es:List E}(hl:es.length<=1000)(h:∀e∈es,∃v,pv C e U s=.ok v s/\Q v):∃vs,pv C (.lst es) U s=.ok (.lst vs) s/\vs.length=es.length/\∀v∈vs,Q v:=by
 obtain⟨vs,e,l,q⟩:=GM h;refine#[vs,?_,l,q];rw[pE4,e,Za,T9 #[27]]
def Wq{k:Int}(h:pv C a U s=.ok (.int k) s):pv C (.bin .add a<|.n 1) U s=.ok (.int<|k+1) s:=Xt h ZR
def Qj{lo hi:E}{j k:Int}(ha:pv C a U s=.ok (.tup xs) s)(hlo:pv C lo U s=.ok (.int j) s)(hhi:pv C hi U s=.ok (.int k) s)(hb:pv C b U s=.ok x s)(hl:xs.length<=400)(ho:Yf xs=am)(hx:okV x=am):∃ys,pv C (.bin .add (.bin .add (.sl a ai<|aa lo)<|.tup [b])<|.sl a (aa hi) ai) U s=.ok (.tup ys) s/\Yf ys=am/\ys.length<=1000:=by
 have l1:=YA (xs:=xs) (lo:=ai) (hi:=aa j);have l2:=YA (xs:=xs) (lo:=aa k) (hi:=ai);refine#[(Z8 xs ai (aa j)++[x])++Z8 xs (aa k) ai,YZ (YZ (vI ha hlo) (Yk hb)<|by simp;omega) (UH ha hhi) (by simp;omega),VD (VD (Wk ho) ?_)<|Wk ho,by simp;omega]
 show(okV x&&am)=am;rw[hx];rfl
def uc{lo hi:E}{j k:Int}(ha:pv C a U s=.ok (.tup xs) s)(hlo:pv C lo U s=.ok (.int j) s)(hhi:pv C hi U s=.ok (.int k) s)(hl:xs.length<=400)(ho:Yf xs=am):∃ys,pv C (.bin .add (.sl a ai<|aa lo)<|.sl a (aa hi) ai) U s=.ok (.tup ys) s/\Yf ys=am/\ys.length<=1000:=by
 have l1:=YA (xs:=xs) (lo:=ai) (hi:=aa j);have l2:=YA (xs:=xs) (lo:=aa k) (hi:=ai);exact#[_,YZ (vI ha hlo) (UH ha hhi) #[3],VD (Wk ho)<|Wk ho,by simp;omega]
def zm(h:pv C a U s=.ok (.tup xs) s):pv C (.bin .add (.blt .len [a])<|.n 1) U s=.ok (.int<|(xs.length:Int)+1) s:=Wq (by rw[Ys,Zb h Zf];rfl)
def ut(h:pv C a U s=.ok (.tup xs) s):pv C (.rev a) U s=.ok (.tup xs.reverse) s:=by rw[Zh0,h];rfl
def Zad(h:Yf xs=am):Yf xs.reverse=am:=Zbg λx hx=>Xz h x<|eP.mp hx
def xp(h:pv C a U s=.ok (.tup xs) s):pv C (.blt .list [a]) U s=.ok (.lst xs) s:=by rw[Ys,Zb h Zf];rfl
def Zal:pv C (.c .non) U s=.ok .non s:=by rw[pE1];rfl
def Ul(h1:okV x=am)(h2:∀xs,x≠.tup xs):Ab.Th 1000 x:=#[h1,λxs e=>T7 e<|h2 xs]
def V7(h:Yf xs=am)(hl:xs.length<=1000):Ab.Th 1000 (.tup xs):=#[h,λys e=>by cases e;exact hl]
def UZ(h:okV x=am):Yf [x]=am:=by show(okV x&&am)=am;rw[h];rfl
end
def GC(d:Nat){q:Nat×Nat}{r:Row}(s:DS)(hq:q∈XJ)(hr:Zh q.1 q.2 r):∃v s',CV (d+2) 10 [.drw,spV q.1 q.2,Zc r] s=.ok v s'/\Ab.Th 1000 v:=by
 obtain⟨hb,_,hn,_⟩:=Gg _ hq;obtain⟨p,n⟩:=q
 haveI:Base p:=⟨hb⟩
 have hp:=WF (p:=p);have hn:n<=6:=hn;have hl:r.length=n:=hr.1
 let U (a3 a4 a5:Option V):Env:=[aa .drw,aa<|spV p n,aa<|Zc r,a3,a4,a5]
 have op:=GS r;have lp:(r.map V.int).length<=6:=by rw[aA];omega
 have ep:∀a b c s,pv #[16] (.v 2) (U a b c) s=.ok (.tup<|r.map .int) s:=λ_ _ _ s=>Ze rfl
 obtain⟨j,s1,t1,t2,t3⟩:=Yr d s (i:=0) (U:=U ai ai ai) rfl (zm<|ep ..) #[3] #[3]
 obtain⟨ods,m1,m2,m3⟩:=W8 (C:=CV<|d+1) (U:=U (aa<|.int j) ai ai) (s:=s1) (Q:=λv=>okV v=am) (es:=[(.ix (.v 1)<|.n 0),(.neg<|.n 1),(.c<|.bl am),(.c<|.bl aj),(.c .non),(.c<|.str<|ly "0"),(.tup [(.n 0)]),(.bin .pow (.n 10)<|.n 29),(.n 0),(.n 1),(.bin .sub (.ix (.v 1)<|.n 0)<|.n 1)]) #[1] (λe he=>by
  simp only[az,bx,or_false]at he;rcases he with rfl|rfl|rfl|rfl|rfl|rfl|rfl|rfl|rfl|rfl|rfl
  .exact#[_,ix0 rfl,rfl]
  .exact#[.int<|-1,by rw[pE8,ZR];rfl,rfl]
  .exact#[.bl am,by rw[pE1];rfl,rfl]
  .exact#[.bl aj,by rw[pE1];rfl,rfl]
  .exact#[_,Zal,rfl]
  .exact#[.str<|ly "0",by rw[pE1];rfl,rfl]
  .exact#[_,Yk ZR,rfl]
  .exact#[.int<|10^29,by simp[pvE,ofD,Vu,Uw],rfl]
  .exact#[_,ZR,rfl]
  .exact#[_,ZR,rfl]
  .exact#[.int<|(p:Int)-1,by rw[pE7,ix0 rfl,Za,ZR,Za];rfl,rfl])
 obtain⟨v2,s2,w1,w2,w3⟩:=Yr d s1 (m:=11) (i:=0) (U:=U (aa<|.int j) ai ai) rfl ZR #[1] #[1]
 obtain⟨od,hod,e6⟩:=pick m1 w1 w2 (by rw[m2];exact w3)
 have ho:=m3 od hod;have e3:∀a s,pv #[16] (.v 3) (U (aa<|.int j) (aa od) a) s=.ok (.int j) s:=λ_ s=>Ze rfl
 have e4:∀a s,pv #[16] (.v 4) (U (aa<|.int j) (aa od) a) s=.ok od s:=λ_ s=>Ze rfl
 obtain⟨ra,a1,a2,a3⟩:=W8 (C:=CV<|d+1) (U:=U (aa<|.int j) (aa od) ai) (s:=s2) (Q:=Ab.Th 1000) (es:=[(.bin .add (.bin .add #[14]<|.tup [(.v 4)])<|.sl (.v 2) #[26] ai),(.bin .add (.bin .add #[14]<|.tup [(.v 4)])<|.sl (.v 2) (aa<|.v 3) ai),(.bin .add #[14]<|.sl (.v 2) #[26] ai),(.blt .list [(.v 2)])]) #[1] (λe he=>by
  simp only[az,bx,or_false]at he;rcases he with rfl|rfl|rfl|rfl
  .obtain⟨ys,g,h,l⟩:=Qj (ep ..) (e3 ..) (Wq<|e3 ..) (e4 ..) #[3] op ho
   exact#[_,g,V7 h l]
  .obtain⟨ys,g,h,l⟩:=Qj (ep ..) (e3 ..) (e3 ..) (e4 ..) #[3] op ho
   exact#[_,g,V7 h l]
  .obtain⟨ys,g,h,l⟩:=uc (ep ..) (e3 ..) (Wq<|e3 ..) #[3] op
   exact#[_,g,V7 h l]
  .exact#[_,xp<|ep ..,Ul op λxs z=>by cases z])
 let ρ5:Env:=U (aa<|.int j) (aa od)<|aa<|.lst ra
 obtain⟨rb,b1,b2,b3⟩:=W8 (C:=CV<|d+1) (U:=ρ5) (s:=s2) (Q:=Ab.Th 1000) (es:=[(.rev<|.v 2),(.c .non),.dnew,(.lst [(.v 4)]),(.tup [(.v 2)])]) #[1] (λe he=>by
  simp only[az,bx,or_false]at he;rcases he with rfl|rfl|rfl|rfl|rfl
  .exact#[_,ut<|ep ..,V7 (Zad op) (by rw[gV];omega)]
  .exact#[_,Zal,Ul rfl λxs z=>by cases z]
  .exact#[.dct<|.inl [],by rw[pE5],Ul rfl λxs z=>by cases z]
  .exact#[.lst [od],by rw[pE4,Zb (e4 ..) Zf];rfl,Ul (UZ ho) λxs z=>by cases z]
  .exact#[_,Yk<|ep ..,V7 (UZ (x:=.tup _) op) (by show 1<=1000;decide)])
 have b8:=VI (C:=CV<|d+1) (U:=ρ5) (a:=.v 5) #[10] b1 (by rw[a2,b2];decide)
 obtain⟨v5,s5,c1,c2,c3⟩:=Yr d s2 (m:=12) (i:=0) (U:=ρ5) rfl ZR #[1] #[1]
 obtain⟨ix,hix,c4⟩:=pick (a:=.lst [(.n 0),(.n 0),(.n 0),(.n 0),(.n 1),(.n 2),(.n 3),(.n 4),(.n 5),(.n 6),(.n 7),(.n 8)]) (xs:=[.int 0,.int 0,.int 0,.int 0,.int 1,.int 2,.int 3,.int 4,.int 5,.int 6,.int 7,.int 8]) (s:=s2) (by simp[pvE,ofD]) c1 c2 c3
 obtain⟨k,rfl,hk0,hk⟩:∃k:Int,ix=.int k/\0<=k/\k<9:=by
  simp at hix;rcases hix with rfl|rfl|rfl|rfl|rfl|rfl|rfl|rfl|rfl<;>exact#[_,rfl,by decide,by decide]
 obtain⟨one,hone,c5⟩:=pick b8 c4 hk0 (by rw[aX,a2,b2];exact hk)
 refine#[one,s5,Zt rfl #[1] rfl ?_,(cp.mp hone).elim (a3 one)<|b3 one]
 show rvs #[16] [] YH.body (U ai ai ai) [] s=_
 dsimp only[YH]
 rw[Zi<|ZY t1 rfl];show rvs _ _ _ (U (aa<|.int j) ai ai) _ _=_;rw[Zi<|ZY e6 rfl];show rvs _ _ _ (U (aa<|.int j) (aa od) ai) _ _=_;rw[Zi<|ZY a1 rfl];exact Zo<|ZH c5
section
variable{p n:Nat}[Base p]
def Za2(d:Nat){P:List Row}(s:DS)(hq:(p,n)∈XJ)(hP:pZ p n P):∃v s',CV (d+3) 11 [.drw,spV p n,Zd P] s=.ok v s'/\Ab.Th 1000 v:=by
 obtain⟨_,h1,hn,_⟩:=Gg _ hq;have hn:n<=6:=hn;have h1:1<=n:=h1;have hp:=WF (p:=p);have hl:=dsum hP
 let U (a3 a4 a5 a6 a7:Option V):Env:=[aa .drw,aa<|spV p n,aa<|Zd P,a3,a4,a5,a6,a7]
 have op:=zj P;have lp:(P.map Zc).length<=6:=by rw[aA];omega
 have ep:∀a b c e f s,pv (CV<|d+2) (.v 2) (U a b c e f) s=.ok (.tup<|P.map Zc) s:=λ_ _ _ _ _ s=>Ze rfl
 obtain⟨j,s1,t1,t2,t3⟩:=Yr (d+1) s (i:=0) (U:=U ai ai ai ai ai) rfl (zm<|ep ..) #[3] #[3]
 have hu:Zh p n (1::aB (n-1) 0):=#[by rw[aT,bR];omega,λa ha=>by
  rcases az.mp ha with rfl|ha
  .omega
  .rw[g9 ha];omega]
 have eu:∀a s,pv (CV<|d+2) (.bin .add (.tup [(.n 1)])<|.bin .mul (.tup [(.n 0)])<|.bin .sub (.ix (.v 1)<|.n 1)<|.n 1) (U a ai ai ai ai) s=.ok (Zc (1::aB (n-1) 0)) s:=λa s=>by
  have g:pv (CV<|d+2) (.bin .sub (.ix (.v 1)<|.n 1)<|.n 1) (U a ai ai ai ai) s=.ok (.int ((n-1:Nat):Int)) s:=by
   rw[pE7,ix1 rfl,Za,ZR,Za,show((n-1:Nat):Int)=(n:Int)-1 by omega];rfl
  have g2:pv (CV<|d+2) (.bin .mul (.tup [(.n 0)])<|.bin .sub (.ix (.v 1)<|.n 1)<|.n 1) (U a ai ai ai ai) s=.ok (.tup<|(aB (n-1) (0:Int)).map V.int) s:=by
   rw[pE7,Yk ZR,Za,g,Za];show(if(0:Int)<=((n-1:Nat):Int)/\((n-1:Nat):Int)<1000/\1<=1000 then PR.ok (V.tup (aB ((n-1:Nat):Int).toNat [V.int 0]).flatten) s else .no)=_
   rw[T9 #[by omega,by omega,by omega],dm,jA]
  rw[YZ (Yk ZR) g2 (by rw[aA,bR];show 1+(n-1)<=1000;omega)];rfl
 have rows:∀{u:Row},Zh p n u->∀k:Int,0<=k->k<(P.map Zc++[Zc u]).length->∃r,(P.map Zc++[Zc u]).getD k.toNat .non=Zc r/\Zh p n r:=λ{u} hu k h0 hk=>by
  have hk':k.toNat<(P.map Zc++[Zc u]).length:=by omega
  rw[aD,ag hk',ml];have m:=aZ hk';rcases cp.mp m with m|m
  .obtain⟨r,hr,e⟩:=aN.mp m
   exact#[r,e.symm,hP.row r hr]
  .exact#[u,bc.mp m,hu]
 have la:∀{u:V},(P.map Zc++[u]).length=P.length+1:=λ{u}=>by rw[aX,aA];rfl
 have lm:((P.map Zc).length:Int)=P.length:=by rw[aA]
 have e4:=Zey (YZ (ep (aa<|.int j) ai ai ai ai s1) (Yk<|eu (aa<|.int j) s1)<|by rw[aA];show P.length+1<=1000;omega) (Ze (i:=3) (v:=.int j) rfl) t2 (by rw[la];omega)
 obtain⟨r,er,hr⟩:=rows hu j t2 (by rw[la];omega)
 rw[er]at e4;obtain⟨x,s2,e5,hx⟩:=GC d (q:=(p,n)) s1 hq hr
 let ρ5 (a6 a7:Option V):Env:=U (aa<|.int j) (aa<|Zc r) (aa x) a6 a7
 obtain⟨v1,s3,u1,u2,u3⟩:=Yr (d+1) s2 (m:=2) (i:=0) (U:=ρ5 ai ai) rfl ZR #[1] #[1]
 obtain⟨v2,s4,w1,w2,w3⟩:=Yr (d+1) s3 (i:=0) (U:=ρ5 ai ai) rfl (zm<|ep ..) #[3] #[3]
 have e7:=Zey (s:=s3) (YZ (ep (aa<|.int j) (aa<|Zc r) (aa x) ai ai s3) (Yk<|Ze (i:=4) (v:=Zc r) rfl)<|by rw[aA];show P.length+1<=1000;omega) w1 w2 (by rw[la];omega)
 obtain⟨o,eo,ho⟩:=rows hr v2 w2 (by rw[la];omega)
 rw[eo]at e7;have e8:=Qk (d+1) (p:=p) (n:=n) (k:=1+v1) s4 hn hr ho #[3]
 have e9:pv (CV<|d+2) (.call 7 [(.v 1),(.v 4),(.bin .add (.n 1)<|.call 2 [(.v 0),(.n 2)]),(.ix (.bin .add (.v 2)<|.tup [(.v 4)])<|.call 2 [(.v 0),(.bin .add (.blt .len [(.v 2)])<|.n 1)])]) (ρ5 ai ai) s2=.ok (Zc<|ZG p r o<|1+v1) s4:=by
  have g:pv (CV<|d+2) (.bin .add (.n 1)<|.call 2 [(.v 0),(.n 2)]) (ρ5 ai ai) s2=.ok (.int<|1+v1) s3:=by
   rw[pE7,ZR,Za,u1,Za];rfl
  exact Zq (Zb #[10]<|Zb #[10]<|Zb g<|Zb e7 Zf) e8
 let m:V:=Zc<|ZG p r o<|1+v1
 let ρ6 (a7:Option V):Env:=ρ5 (aa m) a7
 have v3:∀a s,pv (CV<|d+2) (.v 3) (ρ6 a) s=.ok (.int j) s:=λ_ s=>Ze rfl
 have ep6:∀a s,pv (CV<|d+2) (.v 2) (ρ6 a) s=.ok (.tup<|P.map Zc) s:=λ_ s=>Ze rfl
 obtain⟨ra,a1,a2,a3⟩:=W8 (C:=CV<|d+2) (U:=ρ6 ai) (s:=s4) (Q:=Ab.Th 1000) (es:=[(.bin .add (.bin .add #[14]<|.tup [(.v 5)])<|.sl (.v 2) #[26] ai),(.bin .add (.bin .add #[14]<|.tup [(.v 6)])<|.sl (.v 2) #[26] ai),(.bin .add (.bin .add #[14]<|.tup [(.v 4)])<|.sl (.v 2) (aa<|.v 3) ai)]) #[1] (λe he=>by
  simp only[az,bx,or_false]at he;rcases he with rfl|rfl|rfl
  .obtain⟨ys,g,h,l⟩:=Qj (ep6 ..) (v3 ..) (Wq<|v3 ..) (Ze (i:=5) (v:=x) rfl) #[3] op hx.1
   exact#[_,g,V7 h l]
  .obtain⟨ys,g,h,l⟩:=Qj (ep6 ..) (v3 ..) (Wq<|v3 ..) (Ze (i:=6) (v:=m) rfl) #[3] op (zn _)
   exact#[_,g,V7 h l]
  .obtain⟨ys,g,h,l⟩:=Qj (ep6 ..) (v3 ..) (v3 ..) (Ze (i:=4) (v:=Zc r) rfl) #[3] op (zn _)
   exact#[_,g,V7 h l])
 obtain⟨r2,s5,f1,f2⟩:=vx d (p:=p) (n:=n) s4 hn;have f3:pv (CV<|d+2) (.bin .add (.bin .add #[14]<|.tup [(.call 6 #[23])])<|.sl (.v 2) (aa<|.v 3) ai) (ρ6<|aa<|.lst ra) s4=.ok (.tup<|(Z8 (P.map Zc) ai (aa j)++[Zc r2])++Z8 (P.map Zc) (aa j) ai) s5:=by
  have l1:=YA (xs:=P.map Zc) (lo:=ai) (hi:=aa j);have l2:=YA (xs:=P.map Zc) (lo:=aa j) (hi:=ai);have g1:pv (CV<|d+2) (.tup [(.call 6 #[23])]) (ρ6<|aa<|.lst ra) s4=.ok (.tup [Zc r2]) s5:=by
   rw[pE3,Zb (Zq (Zb #[10]<|Zb #[10] Zf) f1) Zf];rfl
  have g2:pv (CV<|d+2) (.bin .add #[14]<|.tup [(.call 6 #[23])]) (ρ6<|aa<|.lst ra) s4=.ok (.tup<|Z8 (P.map Zc) ai (aa j)++[Zc r2]) s5:=by
   rw[pE7,vI (ep6 ..)<|v3 ..,Za,g1,Za];show(if(Z8 (P.map Zc) ai<|aa j).length+1<=lim then _ else _)=_
   rw[T9 #[27]]
  rw[pE7,g2,Za,UH (ep6 ..)<|v3 ..,Za];show(if(Z8 (P.map Zc) ai (aa j)++[Zc r2]).length+(Z8 (P.map Zc) (aa j) ai).length<=lim then _ else _)=_
  rw[T9 (by rw[aX];unfold lim;show _+1+_<=_;omega)]
 obtain⟨rb,b1,b2,b3⟩:=GM (C:=CV<|d+2) (U:=ρ6<|aa<|.lst ra) (s:=s5) (Q:=Ab.Th 1000) (es:=[(.rev<|.v 2),(.blt .list [(.v 2)]),(.c .non),.dnew,(.tup [(.v 2)])]) (λe he=>by
  simp only[az,bx,or_false]at he;rcases he with rfl|rfl|rfl|rfl|rfl
  .exact#[_,ut<|ep6 ..,V7 (Zad op) (by rw[gV];omega)]
  .exact#[_,xp<|ep6 ..,Ul op λxs z=>by cases z]
  .exact#[_,Zal,Ul rfl λxs z=>by cases z]
  .exact#[.dct<|.inl [],by rw[pE5],Ul rfl λxs z=>by cases z]
  .exact#[_,Yk<|ep6 ..,V7 (UZ (x:=.tup _) op) (by show 1<=1000;decide)])
 let x4:V:=.tup<|(Z8 (P.map Zc) ai (aa j)++[Zc r2])++Z8 (P.map Zc) (aa j) ai
 have hx4:Ab.Th 1000 x4:=V7 (VD (VD (Wk op)<|UZ<|zn r2)<|Wk op) (by
  have l1:=YA (xs:=P.map Zc) (lo:=ai) (hi:=aa j);have l2:=YA (xs:=P.map Zc) (lo:=aa j) (hi:=ai);rw[aX,aX];show _+1+_<=_;omega)
 have b8:pv (CV<|d+2) (.bin .add (.v 7)<|.lst [(.bin .add (.bin .add #[14]<|.tup [(.call 6 #[23])])<|.sl (.v 2) (aa<|.v 3) ai),(.rev<|.v 2),(.blt .list [(.v 2)]),(.c .non),.dnew,(.tup [(.v 2)])]) (ρ6<|aa<|.lst ra) s4=.ok (.lst (ra++x4::rb)) s5:=by
  have g:pv (CV<|d+2) (.lst [(.bin .add (.bin .add #[14]<|.tup [(.call 6 #[23])])<|.sl (.v 2) (aa<|.v 3) ai),(.rev<|.v 2),(.blt .list [(.v 2)]),(.c .non),.dnew,(.tup [(.v 2)])]) (ρ6<|aa<|.lst ra) s4=.ok (.lst (x4::rb)) s5:=by
   rw[pE4,Zb f3 b1,Za,T9 (by rw[aT,b2];decide)]
  rw[pE7,Ze (v:=.lst ra) rfl,Za,g,Za];show(if ra.length+(x4::rb).length<=lim then _ else _)=_
  rw[T9 (by rw[show ra.length=3 from a2,show(x4::rb).length=6 from congrArg (· + 1) b2];decide)]
 let rc:List V:=ra++x4::rb
 have lc:rc.length=9:=by rw[aX,show ra.length=3 from a2,show(x4::rb).length=6 from congrArg (· + 1) b2]
 obtain⟨rd,g1,g2,g3⟩:=W8 (C:=CV<|d+2) (U:=ρ6<|aa<|.lst rc) (s:=s5) (Q:=Ab.Th 1000) (es:=[(.bin .add #[14]<|.sl (.v 2) #[26] ai),(.lst [(.v 5)]),(.bin .add (.sl (.v 2) (aa<|.v 3) ai)<|.sl (.v 2) ai<|aa<|.v 3)]) #[1] (λe he=>by
  simp only[az,bx,or_false]at he;rcases he with rfl|rfl|rfl
  .obtain⟨ys,g,h,l⟩:=uc (ep6 ..) (v3 ..) (Wq<|v3 ..) #[3] op
   exact#[_,g,V7 h l]
  .exact#[.lst [x],by rw[pE4,Zb #[10] Zf];rfl,Ul (UZ hx.1) λxs z=>by cases z]
  .have l1:=YA (xs:=P.map Zc) (lo:=aa j) (hi:=ai)
   have l2:=YA (xs:=P.map Zc) (lo:=ai) (hi:=aa j);exact#[_,YZ (UH (ep6 ..)<|v3 ..) (vI (ep6 ..)<|v3 ..) #[3],V7 (VD (Wk op)<|Wk op) (by rw[aX];omega)])
 have g4:=VI (C:=CV<|d+2) (U:=ρ6<|aa<|.lst rc) (a:=.v 7) #[10] g1 (by rw[lc,g2];decide)
 obtain⟨v5,s6,c1,c2,c3⟩:=Yr (d+1) s5 (m:=16) (i:=0) (U:=ρ6<|aa<|.lst<|rc++rd) rfl ZR #[1] #[1]
 obtain⟨ix,hix,c4⟩:=pick (a:=.lst [(.n 0),(.n 0),(.n 0),(.n 1),(.n 1),(.n 2),(.n 3),(.n 3),(.n 4),(.n 5),(.n 6),(.n 7),(.n 8),(.n 9),(.n 10),(.n 11)]) (xs:=[.int 0,.int 0,.int 0,.int 1,.int 1,.int 2,.int 3,.int 3,.int 4,.int 5,.int 6,.int 7,.int 8,.int 9,.int 10,.int 11]) (s:=s5) (by simp[pvE,ofD]) c1 c2 c3
 obtain⟨k,rfl,hk0,hk⟩:∃k:Int,ix=.int k/\0<=k/\k<12:=by
  simp at hix;rcases hix with rfl|rfl|rfl|rfl|rfl|rfl|rfl|rfl|rfl|rfl|rfl|rfl<;>exact#[_,rfl,by decide,by decide]
 obtain⟨one,hone,c5⟩:=pick (a:=.v 7) #[10] c4 hk0 (by rw[aX,lc,g2];exact hk)
 have th1:Ab.Th 1000 one:=by
  rcases cp.mp hone with h|h
  .rcases cp.mp h with h|h
   .exact a3 one h
   .rcases az.mp h with rfl|h
    .exact hx4
    .exact b3 one h
  .exact g3 one h
 refine#[one,s6,Zt rfl #[1] rfl ?_,th1]
 show rvs (CV<|d+2) [] X3.body (U ai ai ai ai ai) [] s=_
 dsimp only[X3]
 rw[Zi<|ZY t1 rfl];show rvs _ _ _ (U (aa<|.int j) ai ai ai ai) _ _=_;rw[Zi<|ZY e4 rfl];show rvs _ _ _ (U (aa<|.int j) (aa<|Zc r) ai ai ai) _ _=_;rw[Zi<|ZY (Zq (Zb #[10]<|Zb #[10]<|Zb #[10] Zf) e5) rfl];show rvs _ _ _ (ρ5 ai ai) _ _=_;rw[Zi<|ZY e9 rfl];show rvs _ _ _ (ρ6 ai) _ _=_;rw[Zi<|ZY a1 rfl];show rvs _ _ _ (ρ6<|aa<|.lst ra) _ _=_;rw[Zi<|ZY b8 rfl];show rvs _ _ _ (ρ6<|aa<|.lst rc) _ _=_;rw[Zi<|ZY g4 rfl];exact Zo<|ZH c5
end
end K51
namespace Rw
open La
section
variable{p n:Nat}[Base p]
def xG{u:Vec (Fin p)}(hs:Supp n u):∃r,Zh p n r/\toV p r=u:=by
 refine#[(aP n).map λj=>((u j).val:Int),#[by simp,λa ha=>?_],funext λj=>?_]
 .obtain⟨j,_,rfl⟩:=aN.mp ha
  have:=(u j).isLt;omega
 .unfold toV gt
  by_cases h:j<n
  .have:=(u j).isLt
   rw[aD,aQ,cT h];exact WD (by rw[Yv];exact fB #[2] (by simp[this]))
  .rw[aD,bM (by simpa using h),hs j #[3]]
   exact WA
theorem Jl{P:Pt (Fin p)}:∀vs,Uv P vs λ_=>0
 |[]=>Yj
 |v::vs=>#[0,by rw[show(λj=>0-0*v j)=λ_=>0 by funext j;grind];exact Jl vs]
theorem vD{P:Pt (Fin p)}{v:Vec (Fin p)}:∀{vs},v∈vs->Uv P vs v
 |w::vs,h=>by
  rcases az.mp h with rfl|h
  .exact#[1,by rw[show(λj=>v j-1*v j)=λ_=>0 by funext j;grind];exact Jl vs]
  .exact#[0,by rw[show(λj=>v j-0*w j)=v by funext j;grind];exact vD h]
theorem WN{R:Pt (Fin p)}:∀{vs u},(∀v∈vs,Mem R v)->Uv [] vs u->Mem R u
 |[],u,_,h=>by rw[show u=λ_=>0 from funext<|GE.mp h];exact Yj
 |v::vs,u,hv,#[c,h]=>by
  have:=YN c (WN (λw hw=>hv w<|al _ hw) h)<|hv v<|ak ..
  rw[show(λj=>u j-c*v j+c*v j)=u by funext j;grind]at this
  exact this
def Yp{P Q:List Row}{r:Row}(hP:pZ p n P)(hQ:pZ p n Q):r∈Vm p n P Q↔Zh p n r/\XS p P r=am/\XS p Q r=am:=by
 unfold Vm;rw[bX,cB,Vq hP,Vq hQ];exact#[λh=>#[h.1.1,h.1.2,h.2.2],λh=>#[#[h.1,h.2.1],h.1,h.2.2]]
def qp{P Q:List Row}(hP:pZ p n P)(hQ:pZ p n Q):∃M,pZ p n M/\(∀u,Mm p M u↔Mm p P u/\Mm p Q u)/\(YB p P Q).length+M.length=P.length+Q.length:=by
 have hr:∀r∈Vm p n P Q,Zh p n r:=λr h=>((Yp hP hQ).mp h).1
 obtain⟨hM,e⟩:=Gc (P:=[]) pZ.nil hr;have hm:=(Vc fld ((Vm p n P Q).map<|toV p) Pn.nil λv hv=>by
  obtain⟨r,h,rfl⟩:=aN.mp hv;exact X0<|hr r h).2
 have h:∀u,Mm p (YB p []<|Vm p n P Q) u↔Mm p P u/\Mm p Q u:=λu=>by
  unfold Mm;rw[e];refine(hm u).trans #[λh=>#[WN (λv hv=>?_) h,WN (λv hv=>?_) h],λ#[h1,h2]=>?_]
  .obtain⟨r,h,rfl⟩:=aN.mp hv
   have:=(Yp hP hQ).mp h;exact(ZD hP this.1).mp this.2.1
  .obtain⟨r,h,rfl⟩:=aN.mp hv
   have:=(Yp hP hQ).mp h;exact(ZD hQ this.1).mp this.2.2
  .obtain⟨r,hr,rfl⟩:=xG (Zbz hP.pn h1)
   exact vD<|aN.mpr #[r,(Yp hP hQ).mpr #[hr,(ZD hP hr).mpr h1,(ZD hQ hr).mpr h2],rfl]
 refine#[_,hM,h,?_];have:=uG fld hP.pn hQ.pn hM.pn h;rw[<-(X1 hP hQ).2,VB,VB,VB,VB]at this;exact this
def Ws{P:List Row}(hP:pZ p n P):XS p P (aB n 0)=am:=
 (ZD hP Z1).mpr (vn _<|GE.mpr λj=>(Z4 Z1).mpr<|YS j)
def jo{P Q:List Row}(hP:pZ p n P)(hQ:pZ p n Q):af ((Vm p n Q P).length>1) = !YD p P Q:=by
 have nd:(Vm p n Q P).Nodup:=(Gx hQ).sublist List.filter_sublist;obtain⟨M,hM,h,hl⟩:=qp hP hQ;cases em:M with
 |nil=>
  rw[em]at hl h;rw[show YD p P Q=am from T5 hl]
  have:=X9 (A:=[aB n 0]) nd λr hr=>by
   obtain⟨h1,h2,h3⟩:=(Yp hQ hP).mp hr;rw[bc];exact xx (by rw[h1.1,bR]) λj=>by
    rw[YS];exact(Z4 h1).mp<|GE.mp ((h _).mpr #[(ZD hP h1).mp h3,(ZD hQ h1).mp h2]) j
  rw[eX]at this;exact T4 #[3]
 |cons r l=>
  have hr:r∈M:=by rw[em];exact ak ..
  have hz:=hM.row r hr;obtain⟨l1,l2⟩:=(h _).mp<|Xb hM.pn.rf<|Ya hr;obtain⟨k,hk,_⟩:=hM.head fld.one0 hr;have ne:aB n 0≠r:=λz=>(ZT hk).1 (by rw[<-z,YS])
  have:=X9 (L:=[aB n 0,r]) (A:=Vm p n Q P) (by simp[ne]) λx hx=>by
   rcases az.mp hx with rfl|hx
   .exact(Yp hQ hP).mpr #[Z1,Ws hQ,Ws hP]
   .rw[bc.mp hx];exact(Yp hQ hP).mpr #[hz,(ZD hQ hz).mpr l2,(ZD hP hz).mpr l1]
  rw[em]at hl;rw[show YD p P Q=aj from T4 (by rw[aT]at hl;omega)]
  exact T5 this
end
end Rw
namespace K51
open Ev Pv Rw La
open Ab (okV Yf)
section
variable{C:Zr}{ms os:List Nat}{U:Env}{s s':DS}{a b:E}
def W3{x y:Int}(h1:pv C a U s=.ok (.int x) s)(h2:pv C b U s=.ok (.int y) s):pv C (.cmp .eq a b) U s=.ok (.bl<|af<|x=y) s:=by
 rw[YF,h1,Za,h2,Za];rfl
def ZdC{e:E}{w:Bool}{c:Nat}(h:pv C e U s=.ex c s')(hc:1<=c/\c<=10):pv C (.refu w e) U s=.ok (Zak w<|c-1) s':=by
 rw[ZfS,h];show(if 1<=c/\c<=10 then _ else _)=_
 rw[T9 hc]
def wQ{f c:Nat}{as:List E}{vs:List V}{i:Int}(h:pvs C as U s=.ok vs s)(hc:C f vs s=.ex c s)(h1:1<=c/\c<=10)(hi:((c-1:Nat):Int)=i):pv C (.cmp .ne (.refu aj<|.call f as)<|.c<|.int i) U s=.ok (.bl aj) s:=
 ne_int (ZdC (XX h hc) h1) ZR hi
def Zdv{o i:Nat}{e:E}{v:V}(h:pv C e (hide (o::os) U) s=.ok v s')(hm:(ms.contains i&&fresh e)=aj):rv C ms (.asg [i] e) U (o::os) s=.ok (.nx (U.set i<|aa v) ((o::os).filter (· != i))) s':=by
 have h1:pvA C e U (o::os) s=.ok v s':=by unfold pvA;dsimp only;rw[h]
 rw[rE1,h1,Za,T8 (by rw[hm];simp)]
def Zgd{t:E}{x l:List Sm}(h:pv C t U s=.ok (.bl aj) s):rvs C ms (.ite t x []::l) U os s=rvs C ms l U os s:=by
 rw[Zi (by rw[XO<|YI h rfl,T8 #[2],rvs])]
theorem vS:∀t:List Nat,(t.any ([]:List Nat).contains)=aj
 |[]=>rfl
 |i::t=>by rw[fE,vS t];rfl
def Zdz{B:Type}{t:List Nat}{it:W}{b:List Sm}{L:List B}{e:B->V}(Q:V->Prop)(I:Env->Prop){s0:DS}(hw:pvw C it (hide [] U) s=.ok (L.map e) s0)(hI:I U)
  (h:∀x U s,I U->∃ρ1,Zn t (e x) U=aa ρ1/\((∃v s',rvs C ms b ρ1 [] s=.ok (.ret v) s'/\Q v)\/∃ρ' s',rvs C ms b ρ1 [] s=.ok (.nx ρ' []) s'/\I ρ')) :
  (∃v s',rv C ms (.forr t it b) U [] s=.ok (.ret v) s'/\Q v)\/∃ρ' s',rv C ms (.forr t it b) U [] s=.ok (.nx ρ' []) s'/\I ρ':=by
 rw[QZ,hw,Za];clear hw;have hn:=vS t
 induction L generalizing U s0 with
 |nil=>exact .inr #[U,s0,rfl,hI]
 |cons x L ih=>
  obtain⟨ρ1,b1,b2⟩:=h x U s0 hI;rw[aY,Y2,T8 (by rw[hn];simp),b1,ZP,Za]
  rcases b2 with⟨v,s',b2,b3⟩|⟨ρ',s',b2,b3⟩
  .exact .inl #[v,s',by rw[b2];rfl,b3]
  .rw[b2,Za]
   exact ih b3
end
section
variable{p n:Nat}[Base p]
def ZbH{P Q:List Row}(h:pZ p n P)(s:Q.Sublist P):pZ p n Q:=by
 have m:(toP p Q).Sublist (toP p P):=s.map _;exact#[λr hr=>h.row r<|s.subset hr,#[#[h.pn.rf.inc.sublist m,λa ha=>h.pn.rf.low a<|m.subset ha,λa ha=>h.pn.rf.one a<|m.subset ha,λa ha b hb=>h.pn.rf.zer a (m.subset ha) b<|m.subset hb],λa ha=>h.pn.lt a<|m.subset ha,λa ha=>h.pn.sp a<|m.subset ha]]
def vT(d:Nat){P Q:List Row}(s:DS)(hn:n<=6)(hP:pZ p n P)(hQ:pZ p n Q):CV (d+6) 34 [spV p n,Zd P,Zd Q] s=.ok (.bl<|YD p P Q) s:=by
 refine Zt rfl #[1] rfl ?_
 show rvs (CV<|d+5) [] Jt.body [aa<|spV p n,aa<|Zd P,aa<|Zd Q] [] s=_;have e1:pv (CV<|d+5) (.call 33 [(.v 0),(.v 1),(.v 2)]) [aa<|spV p n,aa<|Zd P,aa<|Zd Q] s=.ok (Zd<|YB p P Q) s:=QD #[10] #[10] #[10]<|Qu d s hn hP hQ.row rfl;refine Zo<|ZH ?_;rw[W3 (YY e1)<|Xt (YY<|Ze rfl)<|YY<|Ze rfl];unfold YD;rw[show af (((YB p P Q).length:Int)=(P.length:Int)+(Q.length:Int))=af ((YB p P Q).length=P.length+Q.length)from decide_eq_decide.mpr #[3]]
def miss(d:Nat){P Q:List Row}(s:DS)(hn:n<=6)(hP:pZ p n P)(hQ:pZ p n Q):CV (d+7) 35 [spV p n,Zd P,Zd Q] s=.ok (.bl<|YD p P Q) s:=by
 refine Zt rfl #[1] rfl ?_
 dsimp only[Zbi]
 rw[Zi<|ZaX<|QD #[10] #[10] #[10]<|Qy (d+1) s hn hP hQ];exact Zo<|ZH<|QD #[10] #[10] #[10]<|vT d s hn hP hQ
def xX(d:Nat){P Q:List Row}(s:DS)(hn:n<=6)(hP:pZ p n P)(hQ:pZ p n Q):CV (d+7) 36 [spV p n,Zd P,Zd Q] s=.ok (.bl<|af (P.length+Q.length=n)&&YD p P Q) s:=by
 refine Zt rfl #[1] rfl ?_
 dsimp only[Vg]
 rw[Zi<|ZaX<|QD #[10] #[10] #[10]<|Qy (d+1) s hn hP hQ];rw[Zi<|Wr _ _ (by show pv _ _ _ _=_;exact Ze rfl) #[rfl,rfl]]
 have e:=W3 (C:=CV<|d+6) (U:=[aa<|spV p n,aa<|Zd P,aa<|Zd Q,aa<|.int p,aa<|.int n]) (a:=.bin .add #[28]<|.blt .len [(.v 2)]) (b:=.v 4) (s:=s) (Xt (YY<|Ze rfl)<|YY<|Ze rfl)<|Ze rfl;rw[show af ((P.length:Int)+(Q.length:Int)=n)=af (P.length+Q.length=n)from decide_eq_decide.mpr<|by omega]at e
 exact Zo<|ZH<|GN e<|QD #[10] #[10] #[10]<|vT d s hn hP hQ
def Ug(d:Nat){x y:V}(s:DS)(hn:n<=6)(hx:Ab.Th 1000 x)(hy:Ab.Th 1000 y)(h:isP p n x=aj\/isP p n x=am/\isP p n y=aj):CV (d+5) 26 [spV p n,x,y] s=.ex 2 s:=by
 have e1:=WR (p:=p) d s hn hx.1 hx.2;have e2:=WR (p:=p) d s hn hy.1 hy.2;refine UN rfl #[1] rfl ?_
 dsimp only[XC]
 rcases h with h|⟨h,h'⟩
 .rw[T8<|by rw[h];simp]at e1
  exact J6<|Gj<|XX (Zb #[10]<|Zb #[10] Zf) e1
 .rw[T9 h]at e1
  rw[T8<|by rw[h'];simp]at e2
  rw[Zi<|ZaX<|X2 #[10] #[10] e1];exact J6<|Gj<|XX (Zb #[10]<|Zb #[10] Zf) e2
def Zhl(d:Nat){x y:V}(s:DS)(hn:n<=6)(hx:Ab.Th 1000 x)(hy:Ab.Th 1000 y)(h:isP p n x=aj\/isP p n x=am/\isP p n y=aj):CV (d+7) 35 [spV p n,x,y] s=.ex 2 s:=by
 refine UN rfl #[1] rfl ?_
 exact J6<|Gj<|XX (Zb #[10]<|Zb #[10]<|Zb #[10] Zf)<|Ug (d+1) s hn hx hy h
def zO(d:Nat){x y:V}(s:DS)(hn:n<=6)(hx:Ab.Th 1000 x)(hy:Ab.Th 1000 y)(h:isP p n x=aj\/isP p n x=am/\isP p n y=aj):CV (d+7) 36 [spV p n,x,y] s=.ex 2 s:=by
 refine UN rfl #[1] rfl ?_
 exact J6<|Gj<|XX (Zb #[10]<|Zb #[10]<|Zb #[10] Zf)<|Ug (d+1) s hn hx hy h
def Zd7:isP p n (.tup [Zc<|aB n 0])=aj:=by
 cases h:isP p n (.tup [Zc<|aB n 0])with
 |false=>rfl
 |true=>
  obtain⟨P,e,hP⟩:=UA.mp h;have e:[Zc<|aB n 0]=P.map Zc:=by injection e
  have l1:=congrArg iz e;rw[aA]at l1;obtain⟨r,rfl⟩:=List.length_eq_one_iff.mp l1.symm;have e:Zc (aB n 0)=Zc r:=by injection e
  have e:(aB n (0:Int)).map V.int=r.map V.int:=by injection e
  obtain⟨k,hk,_⟩:=hP.head fld.one0<|List.mem_singleton_self r;have h1:=(ZT hk).1;have e2:r=aB n 0:=by
   have:=congrArg (λl:List V=>l.map λv=>match v with|.int i=>i|_=>0) e
   simp only[cg,Function.comp_def,List.map_id']at this;exact this.symm
  rw[e2]at h1;exact T7 (YS k) h1
def z5(d:Nat)(s:DS)(hn:n<=6)(h1:1<=n)(hp:p^n<=1000)(hq:(p,n)∈XJ):∃v s',CV (d+4) 15 [.drw,spV p n] s=.ok v s'/\Ab.Th 1000 v/\isP p n v=aj:=by
 have key:∃v s',rvs (CV<|d+3) [] Y3.body [aa .drw,aa<|spV p n,ai,ai] [] s=.ok (.ret v) s'/\(Ab.Th 1000 v/\isP p n v=aj):=by
  dsimp only[Y3]
  have hl:=Zdz (t:=[2]) (it:=.rng1<|.n 8) (L:=aP 8) (U:=[aa .drw,aa<|spV p n,ai,ai]) (s:=s) (λv=>Ab.Th 1000 v/\isP p n v=aj) (λU=>∃a2 a3,U=[aa .drw,aa<|spV p n,a2,a3]) (XH ZR<|by omega) #[_,_,rfl] (λx U s hI=>by
   obtain⟨a2,a3,rfl⟩:=hI;refine#[[aa .drw,aa<|spV p n,aa<|Zp x,a3],rfl,?_];obtain⟨P,s1,e1,hP⟩:=QT d s hn h1 hp;obtain⟨v,s2,e2,hv⟩:=Za2 d s1 hq hP;have e3:=yF d s2 hn h1 hp hv.1;have st:∀{r},rvs (CV<|d+3) [] [.ite (.not<|.call 14 [(.v 1),(.v 3)]) [.ret<|.v 3] []] [aa .drw,aa<|spV p n,aa<|Zp x,aa v] [] s2=r->rvs (CV<|d+3) [] [.asg [3]<|.call 11 [(.v 0),(.v 1),(.call 9 #[23])],
  .ite (.not<|.call 14 [(.v 1),(.v 3)]) [.ret<|.v 3] []] [aa .drw,aa<|spV p n,aa<|Zp x,a3] [] s=r:=λh=>
    (Zi<|ZY (Zq (Zb #[10]<|Zb #[10]<|Zb (Zq (Zb #[10]<|Zb #[10] Zf) e1) Zf) e2) rfl).trans h
   have e4:pv (CV<|d+3) (.not<|.call 14 [(.v 1),(.v 3)]) [aa .drw,aa<|spV p n,aa<|Zp x,aa v] s2=.ok (.bl !isP p n v) s2:=wB<|X2 #[10] #[10] e3;cases h:isP p n v with
   |true=>
    rw[h]at e4;exact .inr #[_,s2,st (by rw[guard e4,rvs]),_,_,rfl]
   |false=>
    rw[h]at e4;refine .inl #[v,s2,st<|Zo ?_,hv,h];rw[XO (b:=am)<|YI e4 rfl,T9 rfl];exact Zo<|ZH<|Ze rfl)
  rcases hl with⟨v,s',e,h⟩|⟨ρ',s',e,a2,a3,rfl⟩
  .exact#[v,s',Zo e,h]
  .rw[Zi e]
   obtain⟨i,s2,e2,i0,i3⟩:=Uj (m:=3) s' #[3] #[3]
   have g2:pv (CV<|d+3) (.bin .mul (.tup [(.n 2)])<|.ix (.v 1)<|.n 1) [aa .drw,aa<|spV p n,a2,a3] s'=.ok (.tup (aB (n:Int).toNat [V.int 2]).flatten) s':=by
    have g:pv (CV<|d+3) (.tup [(.n 2)]) [aa .drw,aa<|spV p n,a2,a3] s'=.ok (.tup [.int 2]) s':=by simp[pvE,ofD]
    rw[pE7,g,Za,ix1 rfl,Za];show(if(0:Int)<=n/\(n:Int)<1000/\1<=1000 then PR.ok (V.tup (aB (n:Int).toNat [V.int 2]).flatten) s' else .no)=_
    rw[T9 #[by omega,by omega,by omega]]
   have gl:pv (CV<|d+3) (.lst [(.c .non),(.lst [(.tup [])]),(.tup [(.bin .mul (.tup [(.n 0)])<|.ix (.v 1)<|.n 1)]),(.tup [(.bin .mul (.tup [(.n 2)])<|.ix (.v 1)<|.n 1)])]) [aa .drw,aa<|spV p n,a2,a3] s'=.ok (.lst [.non,.lst [.tup []],.tup [Zc<|aB n 0],.tup [.tup (aB (n:Int).toNat [V.int 2]).flatten]]) s':=by
    have n0:pv (CV<|d+3) (.c .non) [aa .drw,aa<|spV p n,a2,a3] s'=.ok .non s':=by rw[pE1];rfl
    have n1:pv (CV<|d+3) (.lst [(.tup [])]) [aa .drw,aa<|spV p n,a2,a3] s'=.ok (.lst [.tup []]) s':=by simp[pvE]
    rw[pE4,Zb n0<|Zb n1<|Zb (Yk<|vy hn rfl)<|Zb (Yk g2) Zf];rfl
   have e3:=Zq (as:=[(.v 0),(.n 3)]) (U:=[aa .drw,aa<|spV p n,a2,a3]) (Zb #[10]<|Zb ZR Zf) e2;have th:∀v,okV v=am->(∀xs,v=.tup xs->xs.length<=1000)->Ab.Th 1000 v:=λv a b=>#[a,b]
   obtain rfl|rfl|rfl:i=0\/i=1\/i=2:=by omega
   .exact#[.non,s2,Zo (ZH (by rw[X4,gl,Za,e3,Za];rfl)),#[rfl,λxs z=>by cases z],rfl]
   .exact#[.lst [.tup []],s2,Zo (ZH (by rw[X4,gl,Za,e3,Za];rfl)),#[rfl,λxs z=>by cases z],rfl]
   .refine#[.tup [Zc<|aB n 0],s2,Zo (ZH (by rw[X4,gl,Za,e3,Za];rfl)),#[Gy [aB n 0],λxs z=>by cases z;show 1<=1000;omega],Zd7]
 obtain⟨v,s',e,h⟩:=key;exact#[v,s',Zt rfl #[1] rfl e,h]
theorem ZbZ(j:Nat):∀hs:List Nat,XF (Zp j) (hs.map Zp)=aa (hs.contains j)
 |[]=>rfl
 |h::hs=>by
  show(match eqV ZA (Zp h) (Zp j),XF (Zp j) (hs.map Zp)with|some a,aa b=>aa (a||b)|_,_=>ai)=_
  rw[ZbZ j hs,oE];show aa (af ((h:Int)=(j:Int))||hs.contains j)=_;rw[show af ((h:Int)=(j:Int))=(j == h) by rw[cy];simp;omega]
def Zai:∀r∈units n,Zh p n r:=uW
def qe{P Q A B:List Row}(hA:HasK p n A P)(hB:HasK p n B Q):af ((((B.filter λr=>A.contains r).length:Nat):Int)=1)=YD p P Q:=by
 have hP:=hA.part;have hQ:=hB.part;have h:=jo hP hQ;have nd1:(B.filter λr=>A.contains r).Nodup:=hB.nd.filter _
 have nd2:(Vm p n Q P).Nodup:=(Gx hQ).filter _;have e:=List.Perm.length_eq ((List.perm_ext_iff_of_nodup nd1 nd2).mpr λr=>by
  rw[Yp hQ hP,bX,cB,hA.mem,hB.mem];exact#[λ#[#[a,b],_,c]=>#[a,b,c],by rintro ⟨a,b,c⟩;exact #[#[a,b],a,c]])
 have z:=(Yp hQ hP).mpr #[Z1,Ws hQ,Ws hP];have:=mV z;rw[e];cases m:YD p P Q with
 |true=>
  rw[m]at h;have:=of_decide_eq_false h;exact T5 #[3]
 |false=>
  rw[m]at h;have:=T6 h;exact T4 #[3]
abbrev bE(P:List Row)(R:List Row)(a5 a6 a7:Option V):Env:=[aa .drw,aa<|spV p n,aa<|Zd P,aa<|.lst<|(P.map Yi).map Zp,aa<|.lst<|R.map Zc,a5,a6,a7]
def QB(d:Nat){P:List Row}(s:DS)(hn:n<=6)(h1:1<=n)(hp:p^n<=1000)(hP:pZ p n P):∃Q s',CV (d+3) 17 [.drw,spV p n,Zd P] s=.ok (Zd Q) s'/\pZ p n Q:=by
 have lP:=dsum hP;have hpp:=WF (p:=p);have key:∃Q s',rvs (CV<|d+2) [4] Xi.body [aa .drw,aa<|spV p n,aa<|Zd P,ai,ai,ai,ai,ai] [] s=.ok (.ret<|Zd Q) s'/\pZ p n Q:=by
  dsimp only[Xi]
  have hc:=ZS (cap:=[]) (nl:=1) (t:=[0]) (it:=.of<|.v 2) (elt:=.call 4 [(.v 0)]) (U:=[aa .drw,aa<|spV p n,aa<|Zd P,ai,ai,ai,ai,ai])
   (by rw[wE7,Ze rfl];rfl) #[27] (λr hr=>#[[aa<|Zc r],rfl,Zq (Zb #[10] Zf)<|QC (d+1) s (by rw[(hP.row r hr).1];omega)])
  rw[Zi<|ZY hc rfl,show(P.map λr=>Zp<|Yi r)=(P.map Yi).map Zp by rw[cg];rfl]
  rw[Zi (ρ':=bE P [] ai ai ai) (os':=[4]) (by
   rw[rE1];show PR.bind (pv _ (.lst []) _ s) _=_;rw[pE4,Zf];rfl)]
  let w:List V:=(units n).map Zc
  have lw:w.length<=6:=by rw[aA,units,aA,bH];exact hn
  obtain⟨ρ',s1,⟨_,R,a5,a6,a7,hR,_,rfl⟩,e1⟩:=Vw (ms:=[4]) (os:=[4]) (t:=[5,6]) (it:=.enum<|.call 16 [(.v 1)]) (b:=[.ite (.cmp .nin (.v 5)<|.v 3) [.forr [7] (.of<|.v 2) [.asg [6]<|.call 7 [(.v 1),(.v 6),(.call 2 [(.v 0),(.ix (.v 1)<|.n 0)]),(.v 7)]],
  .ex (.mt .append (.v 4) [(.v 6)])] []]) (L:=(Z5 0 w.length).zip w)
   (λl U=>(∀q∈l,∃(k:Nat)(r:Row),q=(Zp k,Zc r)/\Zh p n r)/\∃(R:List Row)(a5 a6 a7:Option V),(∀r∈R,Zh p n r)/\R.length+l.length<=6/\U=bE (p:=p) (n:=n) P R a5 a6 a7)
   (by
    rw[wE6,Zq (Zb #[10] Zf)<|uQ (d+1) s hn];rfl)
   #[λq hq=>by
    obtain⟨q1,q2⟩:=q;obtain⟨m1,m2⟩:=gf hq;obtain⟨r,hr,rfl⟩:=aN.mp m2;obtain⟨k,_,rfl⟩:=aN.mp m1;exact#[k,r,by rw[pF];rfl,Zai r hr],[],ai,ai,ai,(λr hr=>by cases hr),by rw[gh];simp;omega,rfl] rfl (λq l U s hI=>by
    obtain⟨hq,R,a5,a6,a7,hR,hl,rfl⟩:=hI;obtain⟨k,r,rfl,hr⟩:=hq q<|ak ..;have hq':=λq h=>hq q<|al _ h
    rw[aT]at hl;refine#[bE (p:=p) (n:=n) P R (aa<|Zp k) (aa<|Zc r) a7,?_];have e2:pv (CV<|d+2) (.cmp .nin (.v 5)<|.v 3) (bE (p:=p) (n:=n) P R (aa<|Zp k) (aa<|Zc r) a7) s=.ok (.bl !((P.map Yi).contains k)) s:=by
     rw[YF,Ze rfl,Za,Ze rfl,Za];show po ((XF (Zp k)<|(P.map Yi).map Zp).map λb=>V.bl !b) s=_
     rw[ZbZ];rfl
    cases c:(P.map Yi).contains k with
    |true=>
     rw[c]at e2;exact#[_,s,rfl,by rw[Zgd e2,rvs],hq',R,_,_,_,hR,by omega,rfl]
    |false=>
     rw[c]at e2;obtain⟨ρ2,s2,⟨_,r2,b7,hr2,rfl⟩,e3⟩:=Vw (C:=CV<|d+2) (ms:=[4]) (os:=[4]) (t:=[7]) (it:=.of<|.v 2) (b:=[.asg [6]<|.call 7 [(.v 1),(.v 6),(.call 2 [(.v 0),(.ix (.v 1)<|.n 0)]),(.v 7)]])
      (λl U=>(∀o∈l,Zh p n o)/\∃(r:Row)(b7:Option V),Zh p n r/\U=bE (p:=p) (n:=n) P R (aa<|Zp k) (aa<|Zc r) b7)
      (by rw[wE7,Ze rfl];rfl) #[hP.row,r,a7,hr,rfl] rfl (λo l U s hI=>by
       obtain⟨ho,r,b7,hr,rfl⟩:=hI;have ho':=ho o<|ak ..;obtain⟨v,s2,f1,f2,f3⟩:=Uj (m:=(p:Int)) s #[3] #[3]
       refine#[bE P R (aa<|Zp k) (aa<|Zc r)<|aa<|Zc o,bE P R (aa<|Zp k) (aa<|Zc<|ZG p r o v)<|aa<|Zc o,s2,rfl,?_,λo h=>ho o<|al _ h,_,_,Zs hr ho',rfl]
       rw[Zi (Zdv (Zq (Zb #[10]<|Zb #[10]<|Zb (Zq (Zb #[10]<|Zb (ix0 rfl) Zf) f1)<|Zb #[10] Zf)<|Qk (d+1) s2 hn hr ho'<|by omega) rfl),rvs]
       rfl)
     have e4:rv (CV<|d+2) [4] (.ex<|.mt .append (.v 4) [(.v 6)]) (bE (p:=p) (n:=n) P R (aa<|Zp k) (aa<|Zc r2) b7) [4] s2=.ok (.nx (bE (p:=p) (n:=n) P (R++[r2]) (aa<|Zp k) (aa<|Zc r2) b7) [4]) s2:=by
      rw[Zd6,T9 #[7]]
      show(PR.ok (R.map Zc) s2).bind _=_;rw[Za,Ze rfl,Za,T9 #[Wh r2,by rw[aA];unfold lim;omega]]
      rw[show R.map Zc++[Zc r2]=(R++[r2]).map Zc by rw[bV];rfl];rfl
     refine#[bE P (R++[r2]) (aa<|Zp k) (aa<|Zc r2) b7,s2,rfl,?_,hq',R++[r2],_,_,_,λx hx=>?_,by rw[aX,eX];omega,rfl]
     .rw[Zi (by
       rw[XO (b:=am)<|YI e2 rfl,T9 rfl,Zi e3,Zi e4,rvs]),rvs]
     .rcases cp.mp hx with hx|hx
      .exact hR x hx
      .rw[bc.mp hx];exact hr2)
  rw[Zi e1];have hK:=Wn hR;have hl:(Zy<|Xf p n R).length<=1000:=by
   rw[Qc,hK.len];exact cc (dC #[3]<|dsum hK.part) hp
  have e5:=Wi d (v:=.lst<|R.map Zc) s1 hn h1 hp hR rfl;have e6:=QH d s1 hn hK (YU _) hl;exact#[_,s1,Zo<|ZH<|X2 #[10] (X2 #[10] #[10] e5) e6,hK.part]
 obtain⟨Q,s',e,h⟩:=key;exact#[Q,s',Zt rfl #[1] rfl e,h]
end
noncomputable def Zbo:List Sm:=[.par [11,12] [(.call 35 [(.v 3),(.v 9),(.v 10)]),(.call 36 [(.v 3),(.v 9),(.v 10)])],
  .ite (.or (.not<|.isi (.v 11) [.bool])<|.or (.cmp .ne (.v 11)<|.cmp .eq (.v 8)<|.n 1)<|.not<|.isi (.v 12) [.bool]) #[13] [],
  .ite (.cmp .ne (.v 12)<|.and (.cmp .eq (.v 8)<|.n 1)<|.cmp .eq (.bin .add (.blt .len [(.v 4)])<|.blt .len [(.v 6)])<|.ix (.v 3)<|.n 1) #[13] []]
def j8:List Sm:=[.asg [7]<|.blt .dictP [(.comp1 [] 1 [0] (.of<|.call 8 [(.v 3),(.v 4)]) []<|.tup [(.v 0),(.c<|.bl am)])],
  .asg [8] (.blt .len [(.comp1 [7] 1 [0] (.of<|.call 8 [(.v 3),(.v 6)]) [(.cmp .inn (.v 0)<|.v 1)]<|.v 0)]),
  .forr [9,10] (.of<|.lst [(.tup [(.v 4),(.v 6)]),(.tup [(.v 6),(.v 4)])]) Zbo]
noncomputable def Zgm:List Sm:=[.ite (.cmp .ne (.refu aj<|.call 35 [(.v 3),(.ix (.v 14)<|.n 0),(.ix (.v 14)<|.n 1)])<|.n 1) #[13] [],
  .ite (.cmp .ne (.refu aj<|.call 36 [(.v 3),(.ix (.v 14)<|.n 0),(.ix (.v 14)<|.n 1)])<|.n 1) #[13] []]
def ZeM:List Sm:=[.asg [3]<|.call 3 [(.v 2),(.ix (.lst [(.n 27),(.n 125)])<|.blt .toInt [(.cmp .eq (.v 1)<|.n 0)])],
  .asg [4] (.call 9 [(.v 2),(.v 3)]),
  .asg [5] (.lst [(.call 9 [(.v 2),(.v 3)]),(.call 17 [(.v 2),(.v 3),(.v 4)]),(.tup []),(.v 4)]),
  .forr [6] (.of<|.bin .add (.v 5)<|.lst [(.sl (.call 17 [(.v 2),(.v 3),(.v 4)]) ai<|aa<|.neg<|.n 1)]) j8,
  .asg [13] (.call 15 [(.v 2),(.v 3)]),
  .forr [14] (.of<|.lst [(.tup [(.v 13),(.v 4)]),(.tup [(.v 4),(.v 13)]),(.tup [(.v 13),(.c .non)])]) Zgm]
abbrev kE(o:Option V)(k p n:Nat)(P:List Row)(x5 x6 x7 x8 x9 x10 x11 x12 x13 x14:Option V):Env:=[o,aa<|.int k,aa .drw,aa<|spV p n,aa<|Zd P,x5,x6,x7,x8,x9,x10,x11,x12,x13,x14]
def Zdb{C:Zr}{ms:List Nat}{U ρ':Env}{s s1 s2:DS}{i j:Nat}{e f:E}{u v:V}(h1:pv C e U s=.ok u s1)(h2:pv C f U s1=.ok v s2)(hf:YL [i,j] [u,v] U=aa ρ'):rv C ms (.par [i,j] [e,f]) U [] s=.ok (.nx ρ' []) s2:=by
 rw[rE3];show(pvs C [e,f] U s).bind _=_;rw[Zb h1<|Zb h2 Zf,Za,T8 #[2],hf];rfl
theorem yO:∀L:List Row,WT (L.map λr=>V.tup [Zc r,.bl am])=aa L
 |[]=>rfl
 |r::L=>by
  show((intsV<|r.map V.int).bind λa=>(WT<|L.map λr=>V.tup [Zc r,.bl am]).map (a :: ·))=_
  rw[Yt,yO L];rfl
def yx{C:Zr}{U:Env}{s:DS}{i:Nat}{b:Bool}(h:U[i]?=aa (aa<|.bl b)):pv C (.not<|.isi (.v i) [.bool]) U s=.ok (.bl aj) s:=by
 rw[pE9,Zfh,Ze h];rfl
def yk{C:Zr}{U:Env}{s:DS}{a b:E}{x y:V}(h1:pv C a U s=.ok x s)(h2:pv C b U s=.ok y s):pv C (.tup [a,b]) U s=.ok (.tup [x,y]) s:=by
 rw[pE3,Zb h1<|Zb h2 Zf];rfl
section
variable{p n:Nat}[Base p]
def yv(d:Nat){o x5 x7 x9 x10 x11 x12 x13 x14:Option V}{k m:Nat}{P Q A B:List Row}(s:DS)(hn:n<=6)(hA:pZ p n A)(hB:pZ p n B)(hl:A.length+B.length=P.length+Q.length)(hm:af ((m:Int)=1)=YD p A B) :
  ∃y11 y12,rvs (CV<|d+7) [] Zbo (kE o k p n P x5 (aa<|Zd Q) x7 (aa<|.int m) (aa<|Zd A) (aa<|Zd B) x11 x12 x13 x14) [] s=.ok (.nx (kE o k p n P x5 (aa<|Zd Q) x7 (aa<|.int m) (aa<|Zd A) (aa<|Zd B) y11 y12 x13 x14) []) s:=by
 refine#[aa<|.bl<|YD p A B,aa<|.bl<|af (A.length+B.length=n)&&YD p A B,?_];unfold Zbo;rw[Zi<|Zdb (QD #[10] #[10] #[10]<|miss d s hn hA hB) (QD #[10] #[10] #[10]<|xX d s hn hA hB) rfl];show rvs _ _ _ (kE o k p n P x5 (aa<|Zd Q) x7 (aa<|.int m) (aa<|Zd A) (aa<|Zd B) (aa<|.bl<|YD p A B) (aa<|.bl<|af (A.length+B.length=n)&&YD p A B) x13 x14) [] s=_;rw[guard<|J1 (yx rfl)<|J1 (ZeI #[10] (W3 #[10] ZR) hm.symm)<|yx rfl];rw[guard (ZeI #[10] (GN (W3 #[10] ZR)<|W3 (Xt (YY<|Ze rfl)<|YY<|Ze rfl)<|ix1 rfl) (by
  rw[hm,Bool.and_comm]
  congr 1
  exact decide_eq_decide.mpr #[3])),rvs]
def ZbR{F P:List Row}(h:HasK p n F P):HasK p n (Zy F) P:=#[h.part,(YU F).nodup_iff.mpr h.nd,λx=>(YU F).mem_iff.trans<|h.mem x]
def J0{P:List Row}(hP:pZ p n P):HasK p n (Zy<|Xf p n P) P:=by
 have h:=Wn hP.row;rw[Ja hP]at h;exact ZbR h
def Za9(d:Nat){o x5 x7 x8 x9 x10 x11 x12 x13 x14:Option V}{k:Nat}{P Q:List Row}(s:DS)(hn:n<=6)(h1:1<=n)(hp:p^n<=1000)(hP:pZ p n P)(hQ:pZ p n Q) :
  ∃y7 y8 y9 y10 y11 y12 s',rvs (CV<|d+7) [] j8 (kE o k p n P x5 (aa<|Zd Q) x7 x8 x9 x10 x11 x12 x13 x14) [] s=.ok (.nx (kE o k p n P x5 (aa<|Zd Q) y7 y8 y9 y10 y11 y12 x13 x14) []) s':=by
 have hpp:=WF (p:=p);have hA:=J0 hP;have hB:=J0 hQ;have lA:(Zy<|Xf p n P).length<=1000:=by
  rw[hA.len];exact cc (dC #[3]<|dsum hP) hp
 have lB:(Zy<|Xf p n Q).length<=1000:=by
  rw[hB.len];exact cc (dC #[3]<|dsum hQ) hp
 have r1:=Wi (d+5) (p:=p) (n:=n) (v:=Zd P) s hn h1 hp hP.row rfl;have r2:=Wi (d+5) (p:=p) (n:=n) (v:=Zd Q) s hn h1 hp hQ.row rfl;have hm:=qe hA hB;generalize hEA:Zy (Xf p n P)=A at hA lA r1 hm;generalize hEB:Zy (Xf p n Q)=B at hB lB r2 hm;have hc:=ZS (cap:=[]) (nl:=1) (t:=[0]) (it:=.of<|.call 8 [(.v 3),(.v 4)]) (elt:=.tup [(.v 0),(.c<|.bl am)]) (U:=kE o k p n P x5 (aa<|Zd Q) x7 x8 x9 x10 x11 x12 x13 x14) (s:=s) (l:=A) (e:=Zc)
  (by rw[wE7,X2 #[10] #[10] r1];rfl) #[27] (λr _=>#[[aa<|Zc r],rfl,by
   have g:pv (CV<|d+7) (.c<|.bl am) [aa<|Zc r] s=.ok (.bl am) s:=by rw[pE1];rfl
   rw[pE3,Zb #[10]<|Zb g Zf,Za,T9 (by show 2<=lim;unfold lim;omega)]])
 have hd:pv (CV<|d+7) (.blt .dictP [(.comp1 [] 1 [0] (.of<|.call 8 [(.v 3),(.v 4)]) []<|.tup [(.v 0),(.c<|.bl am)])]) (kE o k p n P x5 (aa<|Zd Q) x7 x8 x9 x10 x11 x12 x13 x14) s=.ok (.dct<|.inr A) s:=by
  rw[Ys,Zb hc Zf,Za];show po ((WT<|A.map λr=>V.tup [Zc r,.bl am]).bind λks=>if Qz ks=am then aa (V.dct<|.inr ks)else ai) s=_
  rw[yO];show po (if Qz A=am then aa (V.dct<|.inr A)else ai) s=_
  rw[T9 (by
   unfold Qz;rw[aF];exact#[T5 #[27],T5 hA.nd])];rfl
 unfold j8;rw[Zi<|ZY hd rfl];show ∃y7 y8 y9 y10 y11 y12 s',rvs _ _ _ (kE o k p n P x5 (aa<|Zd Q) (aa<|.dct<|.inr A) x8 x9 x10 x11 x12 x13 x14) [] s=PR.ok (.nx (kE o k p n P x5 (aa<|Zd Q) y7 y8 y9 y10 y11 y12 x13 x14) []) s';have hc2:=Xa (cap:=[7]) (nl:=1) (t:=[0]) (it:=.of<|.call 8 [(.v 3),(.v 6)]) (tst:=.cmp .inn (.v 0)<|.v 1) (elt:=.v 0) (U:=kE o k p n P x5 (aa<|Zd Q) (aa<|.dct<|.inr A) x8 x9 x10 x11 x12 x13 x14) (s:=s) (l:=B) (e:=Zc) (g:=Zc)
  (by rw[wE7,X2 #[10] #[10] r2];rfl) #[27] (λr _=>#[[aa<|Zc r,aa<|.dct<|.inr A],.bl<|A.contains r,rfl,by
   rw[YF,Ze rfl,Za,Ze rfl,Za];show po (((intsV<|r.map V.int).map λk=>A.contains k).map λb=>V.bl b) s=_
   rw[Yt];rfl,rfl,λ_=>Ze rfl])
 have el:pv (CV<|d+7) (.blt .len [(.comp1 [7] 1 [0] (.of<|.call 8 [(.v 3),(.v 6)]) [(.cmp .inn (.v 0)<|.v 1)]<|.v 0)]) (kE o k p n P x5 (aa<|Zd Q) (aa<|.dct<|.inr A) x8 x9 x10 x11 x12 x13 x14) s=.ok (.int (B.filter λr=>A.contains r).length) s:=by
  rw[Ys,Zb hc2 Zf,Za];show po (aa<|V.int ((B.filter λr=>A.contains r).map Zc).length) s=_
  rw[aA];rfl
 rw[Zi<|ZY el rfl];generalize (B.filter λr=>A.contains r).length=m at hm
 show ∃y7 y8 y9 y10 y11 y12 s',rvs _ _ _ (kE o k p n P x5 (aa<|Zd Q) (aa<|.dct<|.inr A) (aa<|.int m) x9 x10 x11 x12 x13 x14) [] s=PR.ok (.nx (kE o k p n P x5 (aa<|Zd Q) y7 y8 y9 y10 y11 y12 x13 x14) []) s';obtain⟨ρ',s',⟨_,y9,y10,y11,y12,rfl⟩,e⟩:=Vw (C:=CV<|d+7) (ms:=[]) (os:=[]) (t:=[9,10]) (it:=.of<|.lst [(.tup [(.v 4),(.v 6)]),(.tup [(.v 6),(.v 4)])]) (L:=[(P,Q),(Q,P)]) (e:=λq=>V.tup [Zd q.1,Zd q.2]) (s:=s) (s0:=s)
  (λl U=>(∀q∈l,q=(P,Q)\/q=(Q,P))/\∃y9 y10 y11 y12,U=kE o k p n P x5 (aa<|Zd Q) (aa<|.dct<|.inr A) (aa<|.int m) y9 y10 y11 y12 x13 x14)
  (by
   rw[wE7,pE4,Zb (yk #[10]<|Ze rfl)<|Zb (yk #[10]<|Ze rfl) Zf];rfl)
  #[λq hq=>by simpa using hq,_,_,_,_,rfl] rfl (λq l U s hI=>by
   obtain⟨hq,y9,y10,y11,y12,rfl⟩:=hI;have hq':=λq h=>hq q<|al _ h
   rcases hq q (ak ..)with rfl|rfl
   .obtain⟨z11,z12,e⟩:=yv d (o:=o) (x5:=x5) (x9:=ai) (x10:=ai) (k:=k) (P:=P) (Q:=Q) s hn hP hQ rfl hm
    exact#[_,_,s,rfl,e,hq',_,_,_,_,rfl]
   .obtain⟨z11,z12,e⟩:=yv d (o:=o) (x5:=x5) (x9:=ai) (x10:=ai) (x12:=y12) (x14:=x14) (k:=k) (P:=P) (Q:=Q) s hn hQ hP #[3] (hm.trans<|uO hP hQ)
    exact#[_,_,s,rfl,e,hq',_,_,_,_,rfl])
 exact#[_,_,_,_,_,_,s',by rw[Zi e,rvs]]
def Zc0(d:Nat){o x5 x6 x7 x8 x9 x10 x11 x12 x13:Option V}{k:Nat}{P:List Row}{x y:V}(s:DS)(hn:n<=6)(hx:Ab.Th 1000 x)(hy:Ab.Th 1000 y)(h:isP p n x=aj\/isP p n x=am/\isP p n y=aj) :
  rvs (CV<|d+7) [] Zgm (kE o k p n P x5 x6 x7 x8 x9 x10 x11 x12 x13<|aa<|.tup [x,y]) [] s=.ok (.nx (kE o k p n P x5 x6 x7 x8 x9 x10 x11 x12 x13<|aa<|.tup [x,y]) []) s:=by
 have a0:pv (CV<|d+7) (.ix (.v 14)<|.n 0) (kE o k p n P x5 x6 x7 x8 x9 x10 x11 x12 x13<|aa<|.tup [x,y]) s=.ok x s:=by
  rw[X4,Ze rfl,Za,ZR,Za];rfl
 have a1:pv (CV<|d+7) (.ix (.v 14)<|.n 1) (kE o k p n P x5 x6 x7 x8 x9 x10 x11 x12 x13<|aa<|.tup [x,y]) s=.ok y s:=by
  rw[X4,Ze rfl,Za,ZR,Za];rfl
 have as:pvs (CV<|d+7) [(.v 3),(.ix (.v 14)<|.n 0),(.ix (.v 14)<|.n 1)] (kE o k p n P x5 x6 x7 x8 x9 x10 x11 x12 x13<|aa<|.tup [x,y]) s=.ok [spV p n,x,y] s:=Zb #[10]<|Zb a0<|Zb a1 Zf;unfold Zgm;rw[guard (wQ (i:=1) as (Zhl d s hn hx hy h) #[by decide,by decide] rfl),guard (wQ (i:=1) as (zO d s hn hx hy h) #[by decide,by decide] rfl),rvs]
def jx(d:Nat)(o:Option V)(k:Nat)(s:DS):∃U os s',rvs (CV<|d+7) [] ZeM (o::aa (.int k)::aa .drw::aB 12 ai) [] s=.ok (.nx U os) s'/\U[0]?=aa o/\U.length=15:=by
 have e0:∃m,pv (CV<|d+7) (.ix (.lst [(.n 27),(.n 125)])<|.blt .toInt [(.cmp .eq (.v 1)<|.n 0)]) (o::aa (.int k)::aa .drw::aB 12 ai) s=.ok (.int m) s:=by
  by_cases c:(k:Int)=0
  .have c':k=0:=by omega
   exact#[125,by simp[pvE,c',ZA,b2i,at',ixN]]
  .have c':k≠0:=by omega
   exact#[27,by simp[pvE,c',ZA,b2i,at',ixN]]
 obtain⟨m,e0⟩:=e0;obtain⟨⟨p,n⟩,s1,e1,hq⟩:=qc (d+5) (m:=m) s;obtain⟨hb,h1,hn,hp⟩:=Gg _ hq
 haveI:Base p:=⟨hb⟩
 have hn:n<=6:=hn;have h1:1<=n:=h1;have hp:=hp;obtain⟨P,s2,e2,hP⟩:=QT (d+4) (p:=p) (n:=n) s1 hn h1 hp;obtain⟨A,s3,e3,hA⟩:=QT (d+4) (p:=p) (n:=n) s2 hn h1 hp;obtain⟨B,s4,e4,hB⟩:=QB (d+4) (p:=p) (n:=n) s3 hn h1 hp hP;obtain⟨D,s5,e5,hD⟩:=QB (d+4) (p:=p) (n:=n) s4 hn h1 hp hP;obtain⟨R,hR,hs⟩:∃R:List Row,Z8 (D.map Zc) ai (aa<|-1)=R.map Zc/\R.Sublist D:=by
  unfold Z8;exact#[_,by rw[<-sV,<-sU],(lG _ _).trans<|pc _ _]
 have hRp:=ZbH hD hs;obtain⟨ρ',s6,⟨_,y6,y7,y8,y9,y10,y11,y12,rfl⟩,e6⟩:=Vw (os:=[]) (t:=[6]) (it:=.of<|.bin .add (.v 5)<|.lst [(.sl (.call 17 [(.v 2),(.v 3),(.v 4)]) ai<|aa<|.neg<|.n 1)]) (L:=[A,B,[],P,R])
  (λl U=>(∀Q∈l,pZ p n Q)/\∃y6 y7 y8 y9 y10 y11 y12,U=kE o k p n P #[24] y6 y7 y8 y9 y10 y11 y12 ai ai)
  (by
   show pvw _ _ (kE o k p n P #[24] ai ai ai ai ai ai ai ai ai) s4=_;have g1:pv (CV<|d+7) (.call 17 [(.v 2),(.v 3),(.v 4)]) (kE o k p n P #[24] ai ai ai ai ai ai ai ai ai) s4=.ok (.tup<|D.map Zc) s5:=Zq (Zb #[10]<|Zb #[10]<|Zb #[10] Zf) e5;have n1:pv (CV<|d+7) (.neg<|.n 1) (kE o k p n P #[24] ai ai ai ai ai ai ai ai ai) s5=.ok (.int<|-1) s5:=by rw[pE8,ZR];rfl
   have g2:pv (CV<|d+7) (.sl (.call 17 [(.v 2),(.v 3),(.v 4)]) ai<|aa<|.neg<|.n 1) (kE o k p n P #[24] ai ai ai ai ai ai ai ai ai) s4=.ok (Zd R) s5:=by
    rw[ZcR,g1,Za,pvo,Za,pvo,n1,Za];show po (aa<|V.tup<|Z8 (D.map Zc) ai<|aa<|-1) s5=_;rw[hR];rfl
   rw[wE7,pE7,Ze rfl,Za,pE4,Zb g2 Zf];rfl)
  #[λQ hQ=>by
   simp only[az,bx,or_false]at hQ;rcases hQ with rfl|rfl|rfl|rfl|rfl
   .exact hA
   .exact hB
   .exact pZ.nil
   .exact hP
   .exact hRp,_,_,_,_,_,_,_,rfl] rfl (λQ l U s hI=>by
   obtain⟨hQ,y6,y7,y8,y9,y10,y11,y12,rfl⟩:=hI;obtain⟨z7,z8,z9,z10,z11,z12,s',e⟩:=Za9 d (o:=o) (k:=k) s hn h1 hp hP<|hQ Q<|ak ..;exact#[_,_,s',rfl,e,λq h=>hQ q<|al _ h,_,_,_,_,_,_,_,rfl])
 obtain⟨x,s7,e7,hx,hx0⟩:=z5 (d+3) (p:=p) (n:=n) s6 hn h1 hp hq;have hPt:Ab.Th 1000 (Zd P):=#[Gy P,λxs z=>by have:=WU hP xs z;omega]
 have hPi:=UA.mpr #[P,rfl,hP];have hN:Ab.Th 1000 .non:=#[rfl,λxs z=>by cases z]
 obtain⟨ρ',s8,⟨_,y14,rfl⟩,e8⟩:=Vw (C:=CV<|d+7) (os:=[]) (t:=[14]) (it:=.of<|.lst [(.tup [(.v 13),(.v 4)]),(.tup [(.v 4),(.v 13)]),(.tup [(.v 13),(.c .non)])]) (L:=[(x,Zd P),(Zd P,x),(x,V.non)]) (e:=λq=>V.tup [q.1,q.2]) (s:=s7)
  (λl U=>(∀q∈l,Ab.Th 1000 q.1/\Ab.Th 1000 q.2/\(isP p n q.1=aj\/isP p n q.1=am/\isP p n q.2=aj))/\∃y14,U=kE o k p n P #[24] y6 y7 y8 y9 y10 y11 y12 (aa x) y14)
  (by
   show pvw _ _ (kE o k p n P #[24] y6 y7 y8 y9 y10 y11 y12 (aa x) ai) s7=_;rw[wE7,pE4,Zb (yk #[10]<|Ze rfl)<|Zb (yk #[10]<|Ze rfl)<|Zb (yk #[10]<|by rw[pE1];rfl) Zf];rfl)
  #[λq hq=>by
   simp only[az,bx,or_false]at hq;rcases hq with rfl|rfl|rfl
   .exact#[hx,hPt,.inl hx0]
   .exact#[hPt,hx,.inr #[hPi,hx0]]
   .exact#[hx,hN,.inl hx0],ai,rfl] rfl (λq l U s hI=>by
   obtain⟨hq,y14,rfl⟩:=hI;obtain⟨a,b,c⟩:=hq q<|ak ..;exact#[_,_,s,rfl,Zc0 d s hn a b c,λq h=>hq q<|al _ h,_,rfl])
 refine#[kE o k p n P #[24] y6 y7 y8 y9 y10 y11 y12 (aa x) y14,[],s8,?_,rfl,rfl];unfold ZeM;rw[Zi<|ZY (Zq (Zb #[10]<|Zb e0 Zf) e1) rfl];rw[Zi<|ZY (Zq (Zb #[10]<|Zb #[10] Zf) e2) rfl];show rvs _ _ _ (kE o k p n P ai ai ai ai ai ai ai ai ai ai) [] s2=_;have t0:pv (CV<|d+7) (.tup []) (kE o k p n P ai ai ai ai ai ai ai ai ai ai) s4=.ok (Zd []) s4:=by rw[pE3,Zf];rfl
 have e9:pv (CV<|d+7) (.lst [(.call 9 [(.v 2),(.v 3)]),(.call 17 [(.v 2),(.v 3),(.v 4)]),(.tup []),(.v 4)]) (kE o k p n P ai ai ai ai ai ai ai ai ai ai) s2=.ok (.lst [Zd A,Zd B,Zd [],Zd P]) s4:=by
  rw[pE4,Zb (Zq (Zb #[10]<|Zb #[10] Zf) e3)<|Zb (Zq (Zb #[10]<|Zb #[10]<|Zb #[10] Zf) e4)<|Zb t0<|Zb #[10] Zf];rfl
 rw[Zi<|ZY e9 rfl];show rvs _ _ _ (kE o k p n P #[24] ai ai ai ai ai ai ai ai ai) [] s4=_;rw[Zi e6,Zi<|ZY (Zq (Zb #[10]<|Zb #[10] Zf) e7) rfl];show rvs _ _ _ (kE o k p n P #[24] y6 y7 y8 y9 y10 y11 y12 (aa x) ai) [] s7=_;rw[Zi e8,rvs]
end
def law_ok(ns:List Int)(s:DS):∃S,CV 63 38 [.scr ns] s=.ok (.bl am) S:=
 Lv.law_of 60 #[1] #[1] #[1] rfl rfl rfl #[1] (λo k s=>jx 55 o k s) ns s
end K51
namespace K51
open PySem PySem.Spec PyProof.Rows L2 Sd Gn
open Sd (zA wX ZaD ZaQ uh jc ZeB Zab Zaw vN vZ j5 jC wO Jo ZaS Zap Zbh j9 xA uk ui wM wK JC yy wW uj v4 Q8 jV)
def Zg6(s:eE):bn:=match s with|.FunctionDef x _ _ _ _ _ _ _ _ _=>x|_=>""
def top(i:Nat):eE:=PySem.Challenge.pw_fewspaces_k51_parts_that_miss_one_anothe.main.body.getD i<|.Pass #[0,0,0,0]
abbrev R(i m k:Nat):FR:=#[Zg6<|top i,top i,((Zg<|top i).names.map (·.1)).take m,k]
abbrev r0:=R 35 2 2
abbrev r1:=R 36 3 2
abbrev r2:=R 37 4 2
abbrev r3:=R 39 3 2
abbrev r4:=R 43 1 1
abbrev r5:FR:=#["_law_form",top 44,["_law_space_here","_law_every","_law_places","_law_found","_law_head_here","_law_row_here"],2]
abbrev r6:=R 41 3 2
abbrev r7:=R 40 4 4
abbrev r8:=R 42 6 2
abbrev r9:=R 45 3 2
abbrev r10:=R 49 6 3
abbrev r11:=R 50 8 3
abbrev r12:=R 46 3 3
abbrev r13:=R 47 2 2
abbrev r14:=R 48 3 2
abbrev r15:=R 51 4 2
abbrev r16:=R 52 1 1
abbrev r17:FR:=#["_law_beside",top 53,["_law_state_here","_law_space_here","_law_part_here","_law_places","_law_rows_here","_law_place","_law_row_here","_law_one"],3]
abbrev r18:=R 15 3 1
abbrev r19:=R 14 1 1
abbrev r20:=R 20 2 2
abbrev r21:=R 24 3 3
abbrev r22:=R 13 3 3
abbrev r23:=R 22 4 2
abbrev r24:=R 23 3 2
abbrev r25:=R 25 2 2
abbrev r26:=R 26 3 3
abbrev r27:=R 17 4 4
abbrev r28:=R 19 4 4
abbrev r29:=R 29 7 3
abbrev r30:=R 16 3 3
abbrev r31:=R 18 3 2
abbrev r32:=R 28 9 3
abbrev r33:=R 27 5 3
abbrev r34:=R 32 3 3
abbrev r35:=R 31 3 3
abbrev r36:=R 33 5 3
abbrev r37:=R 38 4 1
abbrev r38:FR:=#["law",top 54,["_law_script","_law_k","_law_state_here","_law_space_here","_law_one","_law_others","_law_other","_law_gone","_law_both","_law_first","_law_second","_law_found","_law_beside_here","_law_none","_law_pair"],1]
noncomputable abbrev rL:FR:=r38
abbrev fs:List FR:=[r0,r1,r2,r3,r4,r5,r6,r7,r8,r9,r10,r11,r12,r13,r14,r15,r16,r17,r18,r19,r20,r21,r22,r23,r24,r25,r26,r27,r28,r29,r30,r31,r32,r33,r34,r35,r36,r37]
abbrev zs:List bn:=["all","any","bool","dict","enumerate","int","isinstance","len","list","max","min","range","set","sorted","sum","tuple","zip","ValueError"]
abbrev gs:List (bn×Gv):=[]
noncomputable def pp(k:Nat):gu:=([#[123,7,123,17],#[123,21,123,25],#[123,7,123,25],#[124,15,124,19],#[124,8,124,19],#[123,4,124,19],#[125,4,125,14],#[125,17,125,114],#[125,4,125,114],#[126,4,126,14],#[126,17,126,27],#[126,30,126,129],#[126,17,126,129],#[126,4,126,129],#[127,4,127,14],#[127,17,127,27],#[127,30,127,126],#[127,17,127,126],#[127,4,127,126],#[128,4,128,14],#[128,4,128,54],#[129,7,129,45],#[129,7,129,101],#[130,16,130,17],#[130,15,130,17],#[130,8,130,17],#[129,4,130,17],#[131,11,131,21],#[131,28,131,32],#[131,4,131,33],#[128,4,128,21],#[128,4,128,54],#[131,11,131,27],#[131,11,131,33],#[0,0,0,0],#[0,0,0,0],#[0,0,0,0],#[0,0,0,0],#[0,0,0,0],#[0,0,0,0],#[125,18,125,28],#[125,29,125,39],#[125,41,125,46],#[125,18,125,47],#[125,49,125,59],#[125,60,125,70],#[125,72,125,78],#[125,49,125,79],#[125,81,125,91],#[125,92,125,102],#[125,104,125,112],#[125,81,125,113],#[126,31,126,41],#[126,42,126,52],#[126,54,126,61],#[126,31,126,62],#[126,64,126,74],#[126,75,126,85],#[126,87,126,96],#[126,64,126,97],#[126,99,126,109],#[126,110,126,120],#[126,122,126,127],#[126,99,126,128],#[127,31,127,41],#[127,42,127,52],#[127,54,127,60],#[127,31,127,61],#[127,63,127,73],#[127,74,127,84],#[127,86,127,91],#[127,63,127,92],#[127,94,127,104],#[127,105,127,115],#[127,117,127,124],#[127,94,127,125],#[128,22,128,32],#[128,33,128,43],#[128,45,128,52],#[128,22,128,53],#[129,11,129,21],#[129,22,129,32],#[129,34,129,44],#[129,11,129,45],#[0,0,0,0],#[0,0,0,0],#[0,0,0,0],#[0,0,0,0],#[0,0,0,0],#[0,0,0,0],#[118,4,118,14],#[118,17,118,21],#[118,4,118,21],#[120,8,120,17],#[120,8,120,19],#[120,8,120,19],#[121,11,121,21],#[122,8,122,18],#[122,21,122,22],#[122,8,122,22],#[121,4,122,22],#[119,4,122,22],#[0,0,0,0],#[0,0,0,0],#[0,0,0,0],#[0,0,0,0],#[0,0,0,0],#[0,0,0,0],#[0,0,0,0],#[0,0,0,0],#[0,0,0,0],#[0,0,0,0]]:List gu).getD k #[0,0,0,0]
noncomputable abbrev jE{X xw C e}(i:Ev.E):=Sd.CE X xw C e i
noncomputable abbrev jF{X xw C e}(i:Ev.E):=Sd.CF X xw C e i
noncomputable abbrev jT{X xw C e}(i:Ev.E):=Sd.CT X xw C e i
noncomputable abbrev jS{X xw a C b e}(i:Ev.Sm):=Sd.CS X xw a C b e i
def okl:OkX fs zs gs fns tk sn 0 fs (fns.take 38)/\ZhO aj fs zs gs fns tk 37 r37.st/\BdR aj fs zs gs fns tk sn 37 r37.st rL ZeS:=by
 refine#[?a,?b,?c]
 case' a=>repeat'(first|exact fD|refine#[#[rfl,rfl,by decide +kernel,?_],?_]|exact jM|intro P w K mg base cl f fd d T L h hn cdv A outer s H E hr hu)
 case' b=>intro P w K mg base f fd d T hn cdv A outer s H hu;unfold Sd.ksum
 case' c=>intro P w K mg base cl f fd fL c Pt d T L h RA hn hC hB hP A outer s H E hp hr hr0 hu
 all_goals
 (repeat'(first
 |(with_reducible refine (?_:aG _ _=_));(first|exact wX|exact zA|exact vN|exact Zaw|exact ZaD|exact jc|exact vZ|exact ZaQ|exact ZeB|exact Zab|exact uh)
 |(with_reducible refine (?_:Cx.mg _ _=_));(exact Top.no #[4] #[5])
 |(with_reducible refine (?_:_=_));first|exact Zgv _|kernel_rfl!
 |(with_reducible refine (?_:Gl _ _));show _=_;kernel_rfl!
 |refine (?_:Sd.CSs _ _ _ _ _ _ [.cel _ _ _ _]);refine ZgM Sd.Zcf #[4] #[4] #[4] ?_ ?_ #[4] #[5] #[5] (show _=_ from by kernel_rfl!) #[5] (by first|exact wX|exact zA|exact vN|exact Zaw|exact ZaD|exact jc|exact vZ|exact ZaQ|exact ZeB|exact Zab|exact uh) rfl #[5] (by first|exact Or.inl #[5]|exact pS #[5]|exact pS (Or.inl #[5])|exact pS (pS #[5])) (by first|exact .inl rfl|exact .inr<|by kernel_rfl!) #[5] #[5] #[5]
 |refine (?_:Sd.CSs _ _ _ _ _ _ _);first|apply Ze8|apply Zdl
 |refine (?_:Sd.CA _ _ _ _ _);first|apply Ze0|apply Zc8
 |refine (?_:jF (.blt .sortedS _));apply wb
 |refine (?_:jF (.blt .list _));apply vG yy
 |refine (?_:jF (.blt .listD _));apply vG (qG rfl)
 |refine (?_:jF (.blt .sortedD _));apply Zc2 (yt rfl)
 |refine (?_:jF (.lst _));apply Zgg
 |refine (?_:jF (.comp1 _ _ _ _ _ _));refine jJ rfl (by first|assumption|exact T6<|by kernel_rfl!) (jL<|by kernel_rfl!) ?_ (λ_ _ _ _=>#[?_,?_,?_]) (hs:=by intro _;kernel_rfl!)
 |refine (?_:Sd.CE _ _ _ (.BoolOp _ [_] _) _);apply ZgG
 |refine (?_:jE (.dix _ aj));apply Zeh
 |refine (?_:jE (.dix _ am));apply ZdQ
 |refine (?_:jE (.v _));apply Ziv
 |refine (?_:jE (.c _));first|apply Zgh|apply ZhU|apply ZfD|apply Zft
 |refine (?_:jE (.call _ _));first|refine Zaj Sd.Zcf #[4] #[4] #[4] ?_ #[5] (show _=_ from by kernel_rfl!) #[5] (by first|exact wX|exact zA|exact vN|exact Zaw|exact ZaD|exact jc|exact vZ|exact ZaQ|exact ZeB|exact Zab|exact uh) rfl|refine ZgP #[4] #[4] #[4] ?_ #[5] (show _=_ from by kernel_rfl!) #[5] (by first|exact wX|exact zA|exact vN|exact Zaw|exact ZaD|exact jc|exact vZ|exact ZaQ|exact ZeB|exact Zab|exact uh) rfl|refine Zaj Sd.Zih #[4] #[4] #[4] ?_ #[5] (show _=_ from by kernel_rfl!) #[5] (by first|exact wX|exact zA|exact vN|exact Zaw|exact ZaD|exact jc|exact vZ|exact ZaQ|exact ZeB|exact Zab|exact uh) rfl
 |refine (?_:jE (.refu _ _));refine Zg8 (Pp:=pp) Sd.Zcf #[4] #[4] #[4] #[4] rfl #[5] #[5] #[5] #[4] #[4] #[4] #[4] rfl rfl rfl rfl #[5] #[5] (show _=_ from by kernel_rfl!) λ_ _ _ _ _ _ _ _ _ _ _=>?_
 |refine (?_:jE .dnew);apply Zcs
 |refine (?_:jE (.ix _ _));apply Zh6
 |refine (?_:jE (.blt .len _));apply Wx uk
 |refine (?_:jE (.blt .tuple _));apply zb JC
 |refine (?_:jE (.blt .all _));apply Wx (wW rfl)
 |refine (?_:jE (.blt .any _));apply Wx (uj rfl)
 |refine (?_:jE (.blt .toInt _));apply zb wK
 |refine (?_:jE (.blt .max2 _));apply Wx (ui rfl)
 |refine (?_:jE (.blt .min2 _));apply Wx (wM rfl)
 |refine (?_:jE (.blt .sum _));apply Wx (v4 rfl)
 |refine (?_:jE (.blt .dictP _));apply zb (Q8 rfl #[4])
 |refine (?_:jE (.blt _ _));apply xN
 |refine (?_:jE (.bin _ _ _));first|apply ZfC|apply Zgy|apply Zfu|apply ZgE|apply Zcm|apply ZgO
 |refine (?_:jE (.tup _));apply ZfB
 |refine (?_:jE (.neg _));apply Zf7
 |refine (?_:jE (.not _));apply Zfe
 |refine (?_:jE (.cmp .eq _ _));apply XD (j5 #[4])
 |refine (?_:jE (.cmp .ne _ _));apply XD (jC #[4])
 |refine (?_:jE (.cmp .lt _ _));apply XD (wO #[4])
 |refine (?_:jE (.cmp .le _ _));apply XD (Jo #[4])
 |refine (?_:jE (.cmp .gt _ _));apply XD (ZaS #[4])
 |refine (?_:jE (.cmp .ge _ _));apply XD (Zap #[4])
 |refine (?_:jE (.cmp .is _ _));apply XD (Zbh #[4])
 |refine (?_:jE (.cmp .inn _ _));apply XD (j9 #[4])
 |refine (?_:jE (.cmp .nin _ _));apply XD (xA #[4])
 |refine (?_:jE (.chain _ _ _ _ _));first|apply zR (Jo<|by assumption) (Jo #[4])|apply zR (Jo<|by assumption) (wO #[4])
 |refine (?_:jE (.sl _ _ _));apply ZhR
 |refine (?_:jE (.rev _));apply ZgI
 |refine (?_:jE (.isi _ _));first|apply UX (T:="int") (t:=.int)|apply UX (T:="bool") (t:=.bool)|apply UX (T:="tuple") (t:=.tuple)|apply UX (T:="list") (t:=.list)|apply UX (T:="dict") (t:=.dict)
 |(first|show jE (.callF _ _)|show jE (.blt .rangeL _)|show jE (.lst _)|show jE (.comp1 _ _ _ _ _ _)|show jE (.comp2 _ _ _ _ _ _ _ _ _)|show jE (.blt .list _)|show jE (.blt .sorted _)|show jE (.blt .listD _)|show jE (.blt .sortedD _)|show jE (.blt .sortedS _)|show jE (.blt .sortedT _)|show jE (.blt .sortedU _));refine CF.ce ?_
 |refine (?_:jE _);apply Zf2
 |refine (?_:Sd.CO _ _ _ _ _);first|apply Zcu|apply ZcM
 |refine (?_:jS (.raise _ []));apply Zhk Sd.Zcf
 |refine (?_:jS (.ret _));first|apply Zfl|apply Zco
 |refine (?_:jS (.dnw _ _));apply Zge
 |refine (?_:jS (.dput _ _ _));apply Zds
 |refine (?_:jS (.forF _ _ _));apply Zcy lV
 |refine (?_:jS (.dset _ _));apply ZcI
 |refine (?_:jS (.par _ _));apply ZgU
 |refine (?_:jS (.asg _<|.comp1 _ _ _ _ _ _));refine ZaK rfl #[4] (jL<|by kernel_rfl!) ?_ (λ_ _ _ _=>#[?_,?_,?_]) (hsw:=by kernel_rfl!) (hy:=by kernel_rfl!) (hx:=by first|exact Or.inl #[5]|exact pS #[5]|exact pS (Or.inl #[5])|exact pS (pS #[5])) (hf:=by first|exact .inl rfl|exact .inr<|by kernel_rfl!) (hs:=by intro _;kernel_rfl!)
 |refine (?_:jS (.asg [_] _));first|refine ZcS ?_ ?_ (hf:=by kernel_rfl!) (hs:=by kernel_rfl!) (hw:=by kernel_rfl!) (h1:=by kernel_rfl!)|apply ZcO
 |refine (?_:jS (.asg _ _));apply ZfT
 |refine (?_:jS (.ex<|.mt .append _ _));apply qd
 |refine (?_:jS (.ex _));apply Zdm
 |refine (?_:jS (.ite _ _ _));apply Zg4
 |refine (?_:jS (.forr _ _ _));apply Zf6 lV
 |refine (?_:jS (.whl _ _));apply jD lV
 |refine (?_:jS (.aug _ _ _));apply Zf1 jV
 |refine (?_:jT (.not _));apply Zgf
 |refine (?_:jT (.cmp .eq _ _));apply XG (j5 #[4])
 |refine (?_:jT (.cmp .ne _ _));apply XG (jC #[4])
 |refine (?_:jT (.cmp .lt _ _));apply XG (wO #[4])
 |refine (?_:jT (.cmp .le _ _));apply XG (Jo #[4])
 |refine (?_:jT (.cmp .gt _ _));apply XG (ZaS #[4])
 |refine (?_:jT (.cmp .ge _ _));apply XG (Zap #[4])
 |refine (?_:jT (.cmp .is _ _));apply XG (Zbh #[4])
 |refine (?_:jT (.cmp .inn _ _));apply XG (j9 #[4])
 |refine (?_:jT (.cmp .nin _ _));apply XG (xA #[4])
 |refine (?_:jT (.and _ _));refine CWh.ct<|Zca ?_ ?_
 |refine (?_:jT (.or _ _));refine CWh.ct<|Zeq ?_ ?_
 |refine (?_:jT _);apply ZgV
 |refine (?_:Sd.CWh _ _ _ _ _);first|apply Zca|apply Zdu|apply Zeq|apply ZgW
 |refine (?_:Sd.CTs _ _ _ _ _);first|apply Zdn|apply Zcp
 |refine (?_:Sd.CW _ _ _ _ _ _);first|apply ZcT|apply Zcq|apply Ze1|apply ZcK|apply ZhZ
 |refine (?_:Sd.CG _ _ _);first|apply Zej|apply Ze6
 |refine (?_:Sd.CGs _ _ _);first|apply Zck|apply Zcb
 |(first|exact Or.inl #[5]|exact pS #[5]|exact pS (Or.inl #[5])|exact pS (pS #[5]))
 |assumption
 |exact T6 #[5]
 |decide
 |(intro _;kernel_rfl!)
 |(intro _ _;kernel_rfl!)
 |(intro m h;cases h)))
end K51
namespace PySem.W.Fast
def tw2526239550377826862:=0
def tw2244979682549144921:=0
def tw16194456087073347621:=0
def tw4418422417310559888:=0
def tw4031386802734341332:=0
def tw5297184988274298584:=0
def tw11271472339943762753:=0
def tw4375633932463959828:=0
def tw9615433713402863848:=0
def tw7678415418090509323:=0
def tw2218653830147976243:=0
def tw13501369187033133906:=0
def tw11920997954014341922:=0
def tw4473832160166358787:=0
def tw16383166618040825908:=0
def tw3945947682774064516:=0
def tw14099025877180758201:=0
def tw14687028407006928591:=0
def tw4133818619456474748:=0
def tw17517301605001295999:=0
def tw7372409574724946934:=0
def tw1682154964924804583:=0
def tw2970146416845021490:=0
def tw12234975881154876989:=0
def tw6918029134967104181:=0
def tw11612960752729529796:=0
def tw387924159000123499:=0
def tw1272655024906769969:=0
def tw419731792321542163:=0
def tw352928097520985527:=0
def tw13284166333214018609:=0
def tw17956116302655406370:=0
def tw1987283903333125067:=0
def tw18278067767779658701:=0
def tw168102743827881765:=0
def tw9776527228694948257:=0
def tw9501456485898749654:=0
def tw13697309744713013305:=0
def tw6166260389870832004:=0
def tw5374304626989667882:=0
def tw16764679635540058176:=0
def tw18175688412894317021:=0
def tw11863424436116447923:=0
def tw13681680457823838448:=0
def tw12258106938969557403:=0
def tw10921389548932169553:=0
def tw1978361965899771111:=0
def tw15881598795946890598:=0
def tw6433332525290602263:=0
def tw9358993271668439186:=0
def tw14359086664196584732:=0
def tw7876629754741815750:=0
def tw17990440710462738565:=0
def tw2431108593013840134:=0
def tw3981362990331217771:=0
def tw16383972281324434389:=0
def tw16533822338987588774:=0
def tw10276117349732592075:=0
def tw5093802403249909707:=0
def tw14635489237697739457:=0
def tw8163900114593286717:=0
def tw5507370102262686779:=0
def tw5903435974053915339:=0
def tw2725075244984396860:=0
def tw4618852558327776284:=0
def tw8054020078828927414:=0
def tw10228936783267729389:=0
def tw9030637168855996274:=0
def tw4315500277051862854:=0
def tw7434549698594192341:=0
def tw1362376806616753328:=0
def tw283146955268242228:=0
def tw8389920669248183855:=0
def tw17696024786237148396:=0
def tw5289809204963438558:=0
def tw9511372288405681809:=0
def tw12526392280346469228:=0
def tw3016838887600364170:=0
def tw15426769072624312163:=0
def tw8749664690006887004:=0
def tw4102203548822105632:=0
def tw11690673408204529286:=0
def tw16965734934225229066:=0
def tw3501229063751562927:=0
def tw17132746664499620926:=0
def tw17842276178156255803:=0
def tw11899303990919532851:=0
def tw3456118265766082238:=0
def tw15119834961600460387:=0
def tw4679610101722680877:=0
def tw4693220354384792885:=0
def tw7131445519796814389:=0
def tw7210340003355714576:=0
def tw6445249891089050004:=0
def tw1185091348299063748:=0
def tw8171726489644674789:=0
def tw2753637298823894677:=0
def tw2758011986983382692:=0
def tw194206714121852622:=0
def tw2739943306145639536:=0
def tw3490976127390434446:=0
def tw17196280796116503605:=0
def tw14499929020706139526:=0
def tw14284661514162122527:=0
def tw5519709683728789866:=0
def tw12283520473373812836:=0
def tw6981882909242534031:=0
def tw5954965643127861075:=0
def tw8191651967991316458:=0
def tw13243552865720889065:=0
def tw9452895877352972718:=0
def tw7805359752136300914:=0
def tw4671995237461183677:=0
def tw2626674678268531707:=0
def tw6678481242671284299:=0
def tw16860045580778940460:=0
def tw12208581300074490245:=0
def tw5679610734276321146:=0
def tw4424267225316863215:=0
def tw5660547319028136854:=0
def tw7770722736515610172:=0
def tw3531702575184140713:=0
def tw10120099801225832385:=0
def tw11098725016435105045:=0
def tw4239223729327513438:=0
def tw108840049129900774:=0
def tw8003383744506819015:=0
def tw5769519168460047132:=0
def tw8400939244078241347:=0
def tw14957485703897619338:=0
def tw16281082059652896403:=0
def tw8571726005098142154:=0
def tw15420623506943937641:=0
def tw9335966877514617453:=0
def tw4825001345521107757:=0
def tw16965827671216373516:=0
def tw11564897862921616254:=0
def tw10412236477982539259:=0
def tw8736684241591165028:=0
def tw5193862311327662618:=0
def tw2833735711923170428:=0
def tw5289606624097750322:=0
def tw10614420981349642910:=0
def tw8108687940401645706:=0
def tw5539608036459740603:=0
def tw15549419773509454607:=0
def tw8425433054740580548:=0
def tw17308940587545893784:=0
def tw5711626180598343432:=0
def tw11832914663325380452:=0
def tw2565463303551863412:=0
def tw8293983177054492809:=0
def tw268861221659946681:=0
def tw979476603815827236:=0
def tw13615109393185921754:=0
def tw10809553643442552826:=0
def tw9043327989175389293:=0
def tw9422016925105138324:=0
def tw1345121156406311124:=0
def tw8141352530457844000:=0
def tw3917936671669120791:=0
def tw8241760117870486640:=0
def tw12744988278133696638:=0
def tw15198455474164079099:=0
def tw6193689365157892420:=0
def tw6963798776785131158:=0
def tw7079841188348344801:=0
def tw2874195302151421523:=0
def tw2038756810441751161:=0
def tw4774715196672141034:=0
def tw7036593636983752516:=0
def tw5295201252447643040:=0
def tw17981975141663508431:=0
def tw1100818457189169620:=0
def tw885654487281318550:=0
def tw7160101389116564909:=0
def tw14730441128654040496:=0
def tw6707866270413264207:=0
def tw7786109159628251253:=0
def tw13376837806256071014:=0
def tw7678154023797784370:=0
def tw8012887043446542106:=0
def tw12512522930483305156:=0
def tw1420702875067248340:=0
def tw8737539569546531833:=0
def tw9407263423401233703:=0
def tw1285269404297247562:=0
def tw16703280557649415196:=0
def tw14991153774653670911:=0
def tw4788722113035828517:=0
def tw14867899914170378544:=0
def tw6905755699384544208:=0
def tw11903223589704570378:=0
def tw13884000318623812533:=0
def tw15613467427070307669:=0
def tw10681140996297532733:=0
def tw15400485066022243558:=0
def tw2057874269956800275:=0
def tw17839174867896912396:=0
def tw12472149466065799321:=0
def tw12188978213671725251:=0
def tw14811469875075665567:=0
def tw3094817369899027721:=0
def tw8107264350750113062:=0
def tw3094078883574186487:=0
def tw9071817633676951229:=0
def tw4253092931642272038:=0
def tw10793334636476434061:=0
def tw4607175760619599887:=0
def tw10764795870867561210:=0
def tw15084189583643105327:=0
def tw11989238229123305035:=0
def tw9619649986643142649:=0
def tw8030242618608378620:=0
def tw2234745317683943151:=0
def tw16813873989206423953:=0
def tw16802439281600181686:=0
def tw4208882046694104417:=0
def tw8091801297075877097:=0
def tw4278796561743805095:=0
def tw16696254318794370204:=0
def tw12661057300895092469:=0
def tw11061125132785528454:=0
def tw7162396770513997123:=0
def tw2142518011767582869:=0
def tw1420276086663708863:=0
def tw10121103229074151581:=0
def tw579037286825858786:=0
def tw14726569293979288886:=0
def tw12242229119664404355:=0
def tw16538316967268769877:=0
def tw13543078807380829276:=0
def tw9755423385971266506:=0
def tw15293119491090202346:=0
def tw12407456377509736584:=0
def tw11643892062828165105:=0
def tw1728813146100037634:=0
def tw12654692988601291338:=0
def tw8384591019730608937:=0
def tw10906759351993525977:=0
def tw17875159341406099530:=0
def tw8037324171498779607:=0
def tw13166106755290449259:=0
def tw15925130716189968860:=0
def tw9803682365473147396:=0
def tw8918020103883054210:=0
def tw3291082442006454337:=0
def tw11641925458806281826:=0
def tw6130506704072989170:=0
def tw11172235998225981533:=0
def tw10565277272284133586:=0
def tw7102186156822750367:=0
def tw9131183084684502809:=0
def tw1280856745419654332:=0
def tw12499789828115480409:=0
def tw11987710947169156259:=0
def tw11418195846868658015:=0
def tw14890276614479982245:=0
def tw5050821875644925239:=0
def tw17741578915222878469:=0
def tw9459076661360672754:=0
def tw17715182955030161495:=0
end PySem.W.Fast
open PySem PySem.W PyProof.Rows Gn
set_option maxRecDepth 100000 in
set_option maxHeartbeats 0 in
theorem PySem.Challenge.cw_fewspaces_k51_parts_that_miss_one_anothe_holds : PySem.Challenge.rw_fewspaces_k51_parts_that_miss_one_anothe.Holds := by
  w_on; o_law; k_head; (case hw => w_witness2)
  k_fill
  refine Gn.jg (l := PySem.Challenge.rw_fewspaces_k51_parts_that_miss_one_anothe) (F := K51.fns) (tk := K51.tk) (L := 38) (c := 385) (Pt := 383) (cl := fun _ => [24, 37, 49, 61, 73, 85, 97, 109, 121, 133, 145]) (fun ns s => K51.law_ok ns s) rfl rfl (fun w h Y => PySem.W.km_in_of Y) rfl (fun w => by kernel_rfl!) (fun w => by kernel_rfl!) ?F
  case F =>
    intro w mg fa h KX G hmg;refine' Gn.Zdi (fs := K51.fs) (zs := K51.zs) (gs := K51.gs) (sn := K51.sn) KX G hmg K51.okl.1 (fun i fn e => by rw [cL] at e; split at e; exact e; cases e) rfl #[1] ?A ?Z ?Y ?E ?L rfl rfl rfl (by decide +kernel) (Gn.Zfr (Pp := K51.pp) K51.okl.2.1 K51.okl.2.2 #[5] #[5] #[5] #[5] #[5]) ?R
    case A => repeat' (first|exact FnsAt.nil|refine' FnsAt.cons ?h1 ?h2 ?h3 ?h4 ?h5 ?_; (case h1 => k_is); (case h2 => k_is); (case h3 => k_is); (case h4 => k_is); (case h5 => first|exact bd1 fun _ _ _ _ _ _ _ => rfl|exact bd2 fun _ _ _ _ _ _ _ _ => rfl|exact bd3 fun _ _ _ _ _ _ _ _ _ => rfl|exact bd4 fun _ _ _ _ _ _ _ _ _ _ => rfl|exact bd5 fun _ _ _ _ _ _ _ _ _ _ _ => rfl|exact bd6 fun _ _ _ _ _ _ _ _ _ _ _ _ => rfl))
    case L => repeat' (first|exact FnsAt.nil|refine' FnsAt.cons ?h1 ?h2 ?h3 ?h4 ?h5 ?_; (case h1 => k_is); (case h2 => k_is); (case h3 => k_is); (case h4 => k_is); (case h5 => first|exact bd1 fun _ _ _ _ _ _ _ => rfl|exact bd2 fun _ _ _ _ _ _ _ _ => rfl|exact bd3 fun _ _ _ _ _ _ _ _ _ => rfl|exact bd4 fun _ _ _ _ _ _ _ _ _ _ => rfl|exact bd5 fun _ _ _ _ _ _ _ _ _ _ _ => rfl|exact bd6 fun _ _ _ _ _ _ _ _ _ _ _ _ => rfl))
    case Z => repeat' (first|exact ZsAt.nil|refine' ZsAt.cons ?h1 ?_; (case h1 => k_is))
    case Y => repeat' (first|exact GsAt.nil|refine' GsAt.cons ?h1 ?_; (case h1 => k_is))
    case E => kernel_rfl!
    case R => rfl
