import PyProof.Rows.All
import Wide.All
import OpenK.AllK
import PySem.Challenge.RW_fewspaces_k63_parts_between
set_option Elab.async false
set_option linter.all false
set_option compiler.extract_closed false
set_option maxRecDepth 100000
set_option maxHeartbeats 0
local macro_rules
|`(#[$x,$y])=>`(⟨$x,$y⟩)
|`(#[$x,$y,$z,*])=>`(⟨$x,$y,$z,*⟩)
|`(#[0])=>`(by lia)
|`(#[1])=>`(by decide)
|`(#[2])=>`(by simp)
|`(#[3])=>`(by omega)
|`(#[4])=>`(by assumption)
|`(#[5])=>`(by kernel_rfl!)
|`(#[7])=>`(by rfl)
set_option hygiene false in
local macro_rules|`(tactic|left)=>`(tactic|rintro Z H Q ⟨U,l,S,st,lr,h⟩)
set_option hygiene false in
local macro_rules|`(tactic|right)=>`(tactic|rintro D Z H ⟨U,H0,W,l,os,S,st,en,h⟩)
set_option hygiene false in
local macro_rules
|`(#[8])=>`(aV prog w)
|`(#[9])=>`(("__debug__" : bq))
|`(#[10])=>`(aV X.prog X.w)
|`(#[11])=>`(Ze rfl)
|`(#[12])=>`(cxC X N scope cl s H fp)
|`(#[13])=>`(CV<|d+1)
|`(#[14])=>`(List Int)
|`(#[15])=>`(("__classdict__" : bq))
|`(#[16])=>`(by unfold lim;lia)
|`(#[17])=>`(.Call (.Name x p) (e::es) [] pos)
|`(#[18])=>`(λz=>nomatch z)
|`(#[19])=>`([.ret<|.c<|.bl ak])
|`(#[20])=>`((ak,cu e X.env))
|`(#[21])=>`([(.v 3),(.v 8),(.v 9)])
|`(#[22])=>`(.ListComp elt [#[t1,i1,f1,0],#[t2,i2,f2,0]] scope pos)
|`(#[23])=>`(v1::v2::rest)
|`(#[24])=>`(aa<|Zx some')
|`(#[25])=>`(Zb #[11]<|Zb #[11] Zg)
|`(#[26])=>`([(.v 0),(.v 1)])
|`(#[27])=>`(Pv.Zl F tk d)
|`(#[28])=>`(xwE cl E)
|`(#[29])=>`(by first|exact wQ|exact zZ|exact wu|exact ZaR|exact qR|exact Zbb|exact vW|exact ZaZ|exact Zd9|exact Zbk|exact vi)
|`(#[30])=>`(.ref s.heap.objs.size)
|`(#[31])=>`(by rw[wE7,Ze rfl];rfl)
|`(#[32])=>`(aa<|Zi<|P.length+i)
|`(#[33])=>`(List Row)
|`(#[34])=>`(.ix (.v 1)<|.n 0)
|`(#[35])=>`(.lst xs)
|`(#[36])=>`(CV<|d+2)
|`(#[37])=>`((ak,cu a X.env))
|`(#[38])=>`(lead p f j)
|`(#[39])=>`([(.v 1),(.v 0),(.v 2),(.neg<|.ix (.v 0)<|.v 3)])
|`(#[40])=>`(CV<|d+9)
|`(#[41])=>`(U ae ae ae ae ae ae ae ae)
|`(#[42])=>`(.Call (.Name y p') (e::es) [] p)
|`(#[43])=>`(I.ok.hd hc)
|`(#[44])=>`(.done (aa r,c))
|`(#[45])=>`(.bin .add (.v 0)<|.bin .mul (.v 2)<|.v 1)
|`(#[46])=>`(#[h,g,d,t,os])
|`(#[47])=>`(ha pq s Z H _ I h)
|`(#[48])=>`(.Constant (.int 0) q p2)
noncomputable section
abbrev T9:=@if_pos
abbrev T8:=@if_neg
abbrev T7:=@absurd
abbrev T6:=@of_decide_eq_true
abbrev T5:=@decide_eq_true
abbrev T4:=@decide_eq_false
abbrev T0:=@decide_eq_true_eq
open Option renaming some->aa,none->ae,bind_eq_some_iff->bM,map_eq_some_iff->cw,isSome_iff_exists->c7,ne_none_iff_exists'->k7,map_eq_none_iff->mL,isSome_some->ow,isSome_map->oP,getD_none->pi
open Decidable renaming decide->af
open PySem renaming wpAny_bind->ag,Value->au,Shared->aA,starEach->aB,wpAny_pure->aD,Addr->aE,model->aV,wpAny->bf,sizeLine->bj,Str->bq,mainGlobals->bB,Program->bE,wpAny_newObj_type->bT,World->bZ,foldedSetIterable->cc,eval->cu,Heap->cy,Around->cz,wpAny_field->cC,assignEach->cJ,wpAny_holding->cK,compareOp->cO,FuncData->cQ,wpAny_mono->cW,wpAny_callSpecial?_slot->dm,sizeLine_eq->du,cellsFrom->dE,backTo->dG,bootBuiltins->dJ,cLine->dN,wpAny_call_entry->dO,Scope->dS,mem_of_lookup->d3,wpAny_rule->d6,swapsWithSole->eA,swappedStores->eB,wpAny_of_eq->eF,tupleKind->eI,wpAny_truthy_bool->eJ,NameKind->eQ,codeAny->eT,Builtin->eV,assign->eW,behindInMarks->eX,wpAny_standAt->eY,swapsWith->eZ,sysModules->fe,Stmt->fg,wpAny_seqItems->fk,wpAny_setField_rec->fm,binaryOp->fA,wpAny_Call_Name_kw->fO,wpAny_typeOf->fP,Obj->fW,Pos->gj,wpAny_pyIter_list->gu,wpAny_loadPart_at->gB,call_meets->gF,wpAny_execs_cons->gK,wpAny_execs_nil->g8,wpAny_passesOwn->g9,rawInt->hZ,wpAny_pyIter_tuple->h8,sliceBounds->io,wpAny_pyIter_rangeiter->iu,closureFor->iY,wpAny_isInstance->i4,holding->i8,wpAny_updateSeq_pair->kh,codeAny_call_builtin->kn,wpAny_loadPart'->kA,codeAny_builtin->kB,codeAny_mono->kK,codeAmong->kO,wpAny_Name->kP,wpAny_newFunctionEnv_cells->kS,IsPart->kT,typeLookup->kY,tupleKind_room_in1->kZ,wpAny_binaryOp_repeat_ref->lz,standAt->lD,wpAny_assign_Name->lE,getItem->lG,wpAny_sequenceKey->lH,intKind->lK,wpAny_onRaise->lT,wpAny_attempt->lV,wpAny_eqBool_int->l4,noFill_tuple_add->l6,DictEntry->l9,wpAny_pyNext_list_item->mB,wpAny_pyNext_range_end->mC,typeIs_int->mF,IsPair->mH,richCompare_meets_room->mK,letOwnedTupleGo->mM,pushCells_keeps->mP,wpAny_isTrue_Compare1->mT,wpAny_pyNext_list_end->mU,codeAny_call_function->mV,exec_Assign_Name_used->mW,builtinLookup_eq_fast->mZ,wpAny_loadName_local->m8,bindArgs->m9,ZipApart->ni,BindsTo->nC,callerA->nD,wpAny_loadName_cell->nF,wpAny_loadName_free->nG,assignInOrder->nM,rangeSize_one->nN,seq_tuple_add->nO,evalPart_none->nQ,attributeBase->nS,plainId_quiet->nY,builtinsNs->n5,pyIter->n8,wpAny_load->oa,Sem->oD,rule->oH,concat_meets->oK,seqIndex_neg->oM,Keyword->oN,valueAt->oO,wpAny_pyIter_enum->oW,pyNext->o7,Result->pc,Arguments->pe,reduceHash->pj,TriplesOk->pz,seqSlot_of->pA,pushCells->pE,preSum->pG,isSubtype->pR,seqIndex_of->pW,keywordEach->pX,IsZip->rc,wpAny_letGo->re,unsupported->rg,Tok->rJ,GenState->rK,wpAny_call->rO,call->rR,atKey->rS,Meets->rT,compTurn->rV,getAttr?->sj,bindL->sP,bindC->sQ,truthy->sS,DefRec->sT,CmpOp->sU,ret->sV
open List renaming getElem?_eq_getElem->ai,mem_cons_self->al,mem_cons_of_mem->ao,length_map->ax,mem_cons->ay,size_toArray->az,getD_eq_getElem?_getD->aF,length_cons->aG,getElem?_eq_some_iff->aH,replicate->aJ,range->aM,length_append->aN,mem_map->aO,mem_singleton->aT,getElem?_map->aU,map_cons->aX,all_eq_true->aY,pairwise_cons->aZ,getElem_mem->ba,mem_range->bc,getElem?_set_ne->bg,length_range->bi,getElem?_set_self->bn,mem_append_right->bt,append_assoc->bu,map_append->bw,length_set->bC,length_drop->bF,not_mem_nil->bG,mem_append->bK,append_nil->bO,getElem?_append_right->bP,length_take->bQ,lookup_cons->bR,zip_cons_cons->bV,map_map->bY,getElem?_append_left->cg,drop_eq_getElem_cons->ck,pairwise_iff_getElem->cn,replicate_succ->cp,mem_of_mem_drop->cx,getElem?_replicate->cB,filterMap_cons->cD,getElem_of_mem->cE,take_of_length_le->cG,getElem?_take->cM,length_replicate->cS,length_singleton->cT,take_append_drop->cU,mem_append_left->cX,mem_of_getElem?->cY,getElem?_range->db,flatten_cons->de,ext_getElem?->dg,pairwise_map->dk,mem_of_mem_take->dv,mem_filter->dy,nodup_cons->dz,toArray->dC,mem_flatMap->dD,getElem?_eq_none->dF,foldl_cons->dM,mem_reverse->ei,pairwise_append->eG,length_nil->eM,nil_append->eN,mem_map_of_mem->eR,map_congr_left->eS,drop_length->fc,getElem?_drop->fq,find?_cons->fw,reverse_cons->fB,map_uncurry_zip_eq_zipWith->fG,any_eq_true->fK,pairwise_singleton->fM,all_map->fQ,length_take_of_le->fT,of_mem_zip->fX,length_zip->fZ,any_cons->gh,contains_iff_mem->gn,pairwise_reverse->gp,length_filter_le->gq,nodup_append->gv,getElem_take->gw,getElem_drop->gy,reverse_perm->gA,flatMap_cons->gC,getElem?_mapIdx->gG,take_length->gN,getElem?_zip_eq_some->gR,extract_eq_take_drop->gT,getLast?_eq_some_iff->gU,eq_of_mem_replicate->g7,zip_nil_right->ig,length_eq_zero_iff->ip,range_succ_eq_map->iG,getElem?_inj->iK,zip_nil_left->iM,sum_replicate_nat->iP,foldl_nil->iQ,getElem?_reverse->iU,ext_getElem->i5,mapIdx_cons->i6,all_cons->i9,isEmpty_toArray->kf,drop_append_of_le_length->kj,take_append_of_le_length->kl,mem_zipIdx_iff_getElem?->ku,length_reverse->kD,length_flatMap->kI,drop_zero->lg,drop_drop->lm,drop_left->lq,take_left->lu,getLast?_eq_none_iff->lC,take_sublist->lF,take_add_one->lL,contains->lS,find?_range_eq_some->lZ,zipIdx_cons->md,map_reverse->ml,filter_cons->mv,flatMap_nil->my,mem_nil_iff->mz,map_nil->mG,drop_of_length_le->mJ,forIn_cons->mO,mem_iff_getElem->nk,map->nq,take->nE,reverse_append->nI,mem_filterMap->oi,filterMap_map->oq,find?_toArray->ox,find?_eq_none->oB,map_replicate->oC,getElem?_set->oQ,drop_append->pI,countP_cons->pJ,nodup_range->pK,cons_append->pS,map_flatMap->pT,length->pV,zipIdx_nil->rm,map_const'->rE,forIn_nil->rW,take_take->rY,perm_cons->sd,nodup_nil->sr,tail_cons->sC,set_comm->sF,map_tail->sJ,map_take->sK,drop->sR
open Bool renaming true->aj,false->ak,and_eq_true->aC,false_ne_true->aS,eq_iff_iff->cA,false_eq_true->cL,or_eq_true->fY,not_true->gZ,not_false->iN,not_eq_true'->lN,false_or->lO,and_false->rQ,true_and->sN,and_true->sO
open PySem.W renaming Frag->am,katRev->bx,hideAll_none->dq,CodeHd->dH,kia_one->dL,kia_tup->d4,fnOf->eU,hideAll->fv,kat_len->fz,keepIn->fI,envX->fU,kla_obj->gf,kitOne->gD,kitAny->gI,nsIn->gO,hideAll_get->gV,of_hideAll->hV,kitx_list->iz,kitx_dict->iA,cellsFrom_some->iB,mg_of->ke,kat_nil->kz,codeIn->kR,katRev->lW,OpenLaw->mS,noTabs->ny,kitx_tuple->om,callWith_K->on,codeRec_of->oo,kitx_none->oI,kitx_bool->oJ,looks_findIn->oZ,plainGet->o8,kitx_int->o9,kitx_str->pb,kat_cons->pO,kat_kind->pP,kat_yes->rq,kat_one->rA,KatTups->rB,kat_len->rH,KatLex->sf,kat_no->sh,kat_lt->si,findIn->sk,exmOne->sm,kla_fn->sw,tabObj->sA,tabIn->sH,WalkO->sI
open Option.some renaming inj->aq
open PySem.Heap renaming get?_push_of_some->aw,lt_size->aQ,get?_push_size->aR,size_push->cH,SameBut->gJ,ExtBut->iq,get?_push_ne->iL,get?_update_self->iT,size_update->mj,get?_update_other->mE,get?_update_ne->nJ
open Nat renaming le_refl->aI,lt_of_lt_of_le->br,ne_of_lt->bv,lt_irrefl->bz,le_trans->bW,add_sub_cancel_left->cf,pow_le_pow_right->cZ,lt_trans->dA,le_add_right->dB,lt_succ_of_lt->dW,add_assoc->eD,zero_le->eE,lt_of_succ_lt->eL,le_of_not_lt->fb,le_succ->fN,lt_of_le_of_ne->fR,ne_of_gt->gL,succ_mul->gM,pow_succ->gP,min_eq_left->hJ,add_comm->iD,mul_le_mul->iF,lt_succ_self->iZ,sub_succ_lt_self->kg,add_sub_cancel'->kG,le_of_lt->kJ,mul_comm->kL,lt_of_add_lt_add_left->lB,max_eq_right->me,exists_eq_add_of_le->mf,exists_eq_add_of_lt->mh,not_lt_of_le->mn,le_mul_of_pos_right->mw,le_of_eq->mI,le_sub_of_add_le'->mY,add_lt_of_lt_sub'->m5,sub_lt_sub_right->nA,mul_le_mul_left->nL,mul_assoc->nZ,lt_min->oy,add_sub_cancel->oA,min_self->oS,zero_add->oY,min_le_right->pf,lt_of_not_le->pH,log2_lt->pY,max_eq_left->rn
open PyProof.Rows renaming wpS_bind->aK,wpS_pure->aW,arrOf->bo,pendingOf->bp,callWith_type1->bU,SortSt->bX,Keyed->cq,slot_tuple_getitem->cR,wpS_forRange->cV,envOfC->ee,wpS_mono->fD,wpS_modify->fS,failedOf->gH,elem'->gS,setPending->h9,SortKind->iH,wpS_get->iJ,AllBare->i7,seqObj->ky,entry_tuple_getitem->kC,assignInOrder_cons->kQ,slicePart_none->kU,args_tuple_getitem->kX,list_sort_rev->lv,subscriptTail_builtinR->mD,wpS->m7,tupleItemsOf_->nP,listUpdate_at->nV,boot_range->oh,IsTup->oE,assignInOrder_nil->oG,seqEpoch_at->rh,IntsAre->rF,minRun'->rG,Call_->rM,Subscript_->rP,setArr->rZ
open Array renaming length_toList->aP,getElem?_toList->bD,perm_iff_toList_perm->bJ,getElem?_eq_getElem->bS,toList_append->cr,size_push->eO,size_extract_of_le->fF,toList_push->gz,size_append->iI,toList_extract->ki,toList_setIfInBounds->ln,append_empty->lw,toList_inj->mi,toList_reverse->nj,append_assoc->n6,size_reverse->oz,toList->oF,toList_map->pL
open And renaming intro->bh
open PySem.Value renaming bool->bH,none->bN,ref->dZ,builtin->kc,int->l0,isStrOf->sE
open PySem.NameKind renaming free->bI,cell->da
open PySem.Str renaming ofString->bL,ofString->kN
open Pure renaming pure->cF
open List.Perm renaming refl->cI,of_eq->mR,swap->nr,nil_eq->pN
open PySem.Builtin.Range renaming rangeFitsLong->cP,rangeSize->fH
open PySem.Builtin.Slice renaming slicePlaces->c6,sliceAdjust->gQ,sliceApplied->kW
open True renaming intro->dU
open PySem.AutoSeq1 renaming wpAny_loadPart'->eg,sub_tuple_tuple->eC,wpAny_loadPart'->gY,idx_int->l7
open Sum renaming inl->ej,inr->nB
open PySem.F renaming plainAttrs_list->eK,slot_tuple_iterator_next->fj,args_tuple_add_2->gW,entry_tuple_add->im,slot_tuple_add->iC,typeOf_object_class->iV,slot_int_rmul->kq,args_tuple_iterator_next_1->kw,slot_zip_next->kx,entry_tuple_iterator_next->kM,args_tuple_mul_2->k9,entry_tuple_mul->lI,slot_list_append->lQ,type_list_append->lR,slot_tuple_mul->l8,slot_list_index->mq,type_list_index->mr,plain_reversed_new->nv,args_int_rmul_2->oR,args_zip_next_1->oV,args_tuple_lt_2->oX,entry_int_rmul->pB,entry_zip_next->pF,entry_tuple_lt->pQ,fills_int_mul->rj,slot_tuple_lt->rC
open PySem.Builtin.SmallTypes renaming nextOf->fu
open Int renaming toNat_natCast->fC,emod_lt_of_pos->fV,emod_nonneg->hU,emod_eq_of_lt->iO,natCast_nonneg->ly,natCast_add->mQ,toNat_of_nonneg->nK,zero_add->o6
open PySem.Obj renaming mapSeq->fE,data_mapFields->lh,isFreed_of_fields->mX,cls_mapFields->oU
open LawfulBEq renaming eq_of_beq->fJ
open PySem.Builtin.Tuple renaming tupleItemsOf->gE,tupleHashOf->iR,tupleCompareSizes->iS,tupleTooMany->k8
open PySem.Builtin.List renaming listTooLong->gX
open List.Pairwise renaming nil->iE,filter->nz
open PyProof.Rows.IsTup renaming new->iW
open PySem.SeqAt renaming EqAt->iX
open PySem.Around renaming under_plainId->km,frames_deeper->ng
open PySem.SeqAt.EqAt renaming same->ko,of_refs->lc,bool_bool->lx,int_str->n3,str_int->n4,int_int->ou
open ForInStep renaming yield->kr
open PySem.Heap.SameBut renaming update->kF
open Lean.Grind renaming CommRing->kH
open Break renaming runK->lj
open PySem.SeqAt.RcAt renaming tuples->lJ,lists_lengths->lP,lists->pC
open PySem.Builtin.Dict renaming updateFrom->mm
open PySem.Builtin.Int renaming intBits->nH
open ForIn renaming forIn->nU
open PySem.P renaming truthy_int->oj
open PySem.Heap.IsSliceOf renaming new->ot
open Classical renaming not_not->o4
open Or renaming inr->pD
open PySem.IsRange renaming new->pU
open PyProof.Rows.SortSt renaming mk'->rX
open PySem.Value.type renaming inj->sB
open Min renaming min->sD
open PySem.Code renaming compLoop->sG
open Function renaming comp->sL
namespace L2
open PySem PySem.Spec PyProof.Rows
abbrev Key:=Sum Int bq
noncomputable def Q5:Key->au->Bool
 |.inl k,v=>au.isInt k v
 |.inr x,v=>sE x v
noncomputable def ZhM(w:bZ):Key->Int
 |.inl k=>hashInt k
 |.inr x=>hashStr w x
def ZX:∀{k:Key}{v:au},Q5 k v=aj->(∃i t,k=ej i/\v=l0 i t)\/(∃x t,k=nB x/\v=au.str x t)
 |.inl i,v,h=>by
  obtain⟨t,e⟩:=au.isInt_shape h;exact .inl #[i,t,rfl,e]
 |.inr x,v,h=>by
  obtain⟨t,e⟩:=au.isStrOf_shape h;exact .inr #[x,t,rfl,e]
def qx(i:Int)(t:rJ):Q5 (.inl i) (.int i t)=aj:=by simp[Q5,au.isInt]
def qE(x:bq)(t:rJ):Q5 (.inr x) (.str x t)=aj:=by simp[Q5,sE]
def Zf6(a b:Int):af ((ej a:Key)=ej b)=(a == b):=by
 by_cases e:a=b
 .subst e;simp
 .have h:¬(ej a:Key)=ej b:=λq=>e (ej.inj q)
  rw[T4 h];exact(beq_eq_false_iff_ne.mpr e).symm
def Zfk(a b:bq):af ((nB a:Key)=nB b)=af (a=b):=by
 by_cases e:a=b
 .subst e;simp
 .have h:¬(nB a:Key)=nB b:=λq=>e (nB.inj q)
  rw[T4 h,T4 e]
def ZfU(a:Int)(b:bq):af ((ej a:Key)=nB b)=ak:=T4 (λq=>nomatch q)
def Ze6(a:bq)(b:Int):af ((nB a:Key)=ej b)=ak:=T4 (λq=>nomatch q)
def ZK(prog:bE)(w:bZ):PySem.KeyKind prog w Key where
 is:=Q5
 hash:=ZhM w
 inj:=λv a b ha hb=>by
  rcases ZX ha with⟨i,t,rfl,rfl⟩|⟨x,t,rfl,rfl⟩
  .rcases ZX hb with⟨j,u,rfl,e⟩|⟨y,u,rfl,e⟩
   .injection e with e1 _;rw[e1]
   .exact nomatch e
  .rcases ZX hb with⟨j,u,rfl,e⟩|⟨y,u,rfl,e⟩
   .exact nomatch e
   .injection e with e1 _;rw[e1]
 byValue:=λk v h=>by
  rcases ZX h with⟨i,t,rfl,rfl⟩|⟨x,t,rfl,rfl⟩<;>rfl
 pyHash:=λhv h=>by
  rcases ZX hv with⟨i,t,rfl,rfl⟩|⟨x,t,rfl,rfl⟩
  .exact wpAny_pyHash_int h
  .exact wpAny_pyHash_str h
 eqBool:=λhu hv h=>by
  rcases ZX hu with⟨i,t,rfl,rfl⟩|⟨x,t,rfl,rfl⟩
  .rcases ZX hv with⟨j,u,rfl,rfl⟩|⟨y,u,rfl,rfl⟩
   .rw[Zf6]at h;exact l4 h
   .rw[ZfU]at h;exact n3 i t y u _ _ _ _ h
  .rcases ZX hv with⟨j,u,rfl,rfl⟩|⟨y,u,rfl,rfl⟩
   .rw[Ze6]at h;exact n4 x t j u _ _ _ _ h
   .rw[Zfk]at h;exact wpAny_eqBool_str h
 «strs»:=λk x t v h=>by
  rcases ZX h with⟨i,u,rfl,e⟩|⟨y,u,rfl,e⟩
  .exact nomatch e
  .injection e with e1 _
   subst e1;cases v<;>rfl
def yC(prog:bE)(w:bZ)(i:Int)(t:rJ):(ZK prog w).is (.inl i) (.int i t)=aj:=qx i t
def GY(prog:bE)(w:bZ)(x:bq)(t:rJ):(ZK prog w).is (.inr x) (.str x t)=aj:=qE x t
inductive V where
 |non|bl (b:Bool)|int (i:Int)|str (x:bq)|ref (a:aE)|ty (n:String)
 deriving DecidableEq
def Zy:V->au->Prop
 |.non,u=>u=bN
 |.bl b,u=>u=bH b
 |.int i,u=>∃t,u=l0 i t
 |.str x,u=>∃t,u=au.str x t
 |.ref a,u=>u=dZ a
 |.ty n,u=>u=au.type n
abbrev Vals:List V->List au->Prop:=Paired Zy
theorem Vals.length{xs:List V}{us:List au}(r:Vals xs us):xs.length=us.length:=Paired.length r
theorem Vals.get:∀{xs:List V}{us:List au}{i:Nat}{x:V},Vals xs us->xs[i]?=aa x->∃u,us[i]?=aa u/\Zy x u
 |_,_,_,_,.nil,e=>by simp at e
 |_,_,0,_,.cons r _,e=>by simp at e;subst e;exact#[_,rfl,r]
 |_,_,i+1,x,.cons _ t,e=>by
  obtain⟨u,h1,h2⟩:=Vals.get t (by simpa using e)
  exact#[u,by simpa using h1,h2]
theorem Vals.set(r:Zy x u):∀{xs:List V}{us:List au}(i:Nat),Vals xs us->Vals (xs.set i x) (us.set i u)
 |_,_,_,.nil=>.nil
 |_,_,0,.cons _ t=>.cons r t
 |_,_,i+1,.cons q t=>.cons q<|Vals.set r i t
theorem Vals.append:∀{xs ys:List V}{us ws:List au},Vals xs us->Vals ys ws->Vals (xs++ys) (us++ws)
 |_,_,_,_,.nil,s=>s
 |_,_,_,_,.cons r t,s=>.cons r<|Vals.append t s
theorem Vals.take:∀{xs:List V}{us:List au}(n:Nat),Vals xs us->Vals (xs.take n) (us.take n)
 |_,_,0,_=>.nil
 |_,_,_+1,.nil=>.nil
 |_,_,n+1,.cons r t=>.cons r<|Vals.take n t
theorem Vals.drop:∀{xs:List V}{us:List au}(n:Nat),Vals xs us->Vals (xs.drop n) (us.drop n)
 |_,_,0,r=>r
 |_,_,_+1,.nil=>.nil
 |_,_,n+1,.cons _ t=>Vals.drop n t
def Zc5:Option V->Option au->Prop
 |some v,aa u=>Zy v u
 |none,ae=>True
 |_,_=>False
def KV{κ:Type}:List (κ×V)->List (κ×au)->Prop:=Paired λ(p:κ×V) (q:κ×au)=>p.1=q.1/\Zy p.2 q.2
noncomputable def kV:Key->V
 |.inl i=>.int i
 |.inr x=>.str x
inductive HO where
 |lst (xs:List V)
 |tup (xs:List V)
 |dK (kvs:List (Key×V))|dT (kvs:List (List Key×V))
 |own (x:aE)
 |frz (o:fW) (u:HO)
 |tbl (ps:Array au)
abbrev Hp:=aE->Option HO
noncomputable def upd(H:Hp)(a:aE)(o:HO):Hp:=λb=>if b=a then aa o else H b
def Zn :upd H a o a=aa o:=by unfold upd;rw[T9 rfl]
def Zj(h:b≠a):upd H a o b=H b:=by unfold upd;rw[T8 h]
def Zdv :upd (upd H a o) a u=upd H a u:=by
 funext b;unfold upd;split<;>rfl
def ZO{H:Hp}{a b:aE}{o:HO}(h:H a=aa o)(h':H b=ae):a≠b:=by
 intro e;subst e;rw[h]at h';cases h'
section
variable(P:bE)(w:bZ)
def Z7(H:Hp)(h:cy)(a:aE):HO->Prop
 |.lst xs=>xs.length<=bj/\∃(its:List au)(n:Nat),Vals xs its/\h.get? a=aa {cls:=.type "list",data:=.seq its.toArray n}
 |.tup xs=>xs.length<=bj/\∃its:List au,Vals xs its/\oE h a its.toArray
 |.dK kvs=>kvs.length<=bj/\(a == fe)=ak/\∃vs,KV kvs vs/\h.DictOf (ZK P w) a vs
 |.dT kvs=>kvs.length<=bj/\(a == fe)=ak/\∃xs:List (List Key×aE×au),
   Paired (λ(p:List Key×V) (q:List Key×aE×au)=>p.1=q.1/\H q.2.1=aa (.tup<|p.1.map kV)/\Zy p.2 q.2.2) kvs xs/\
   ∃o es ep,h.get? a=aa o/\o.ExactDict/\o.data=.dict es ep/\es.toList=xs.map (entryOfKey<|eI<|ZK P w)/\(xs.map (·.1)).Nodup
 |.own _=>∃o,h.get? a=aa o
 |.frz o u=>h.get? a=aa o/\Z7 H h a u
 |.tbl ps=>h.get? a=aa {cls:=.none,data:=.fields ps}
def HOk(H:Hp)(h:cy):Prop:=∀a o,H a=aa o->Z7 P w H h a o
end
theorem Z7.lt(x:Z7 P w H h a o):a<h.objs.size:=by
 cases o with|lst xs=>obtain⟨_,_,_,_,e⟩:=x;exact aQ e|tup xs=>obtain⟨_,_,_,p⟩:=x;exact p.lt|dK kvs=>obtain⟨_,_,_,_,o,_,_,e,_⟩:=x;exact aQ e|dT kvs=>obtain⟨_,_,_,_,o,_,_,e,_⟩:=x;exact aQ e|own y=>obtain⟨_,e⟩:=x;exact aQ e|frz ob u=>obtain⟨e,_⟩:=x;exact aQ e|tbl ps=>exact aQ (x)
theorem Paired.mapP{B β:Type}{F G:B->β->Prop}:∀{l₁:List B}{l₂:List β},Paired F l₁ l₂->(∀a b,F a b->G a b)->Paired G l₁ l₂
 |_,_,.nil,_=>.nil
 |_,_,.cons r t,f=>.cons (f _ _ r)<|Paired.mapP t f
def Z7.stay(x:Z7 P w H h a o)(k:∀b u,(b=a\/H b=aa (.own a))->h.get? b=aa u->h'.get? b=aa u)
  (ho:∀b,H b=aa (.own a)->H' b=aa (.own a))(ht:∀b xs,H b=aa (.tup xs)->H' b=aa (.tup xs)):Z7 P w H' h' a o:=by
 induction o with
 |lst xs=>obtain⟨z,its,n,r,e⟩:=x;exact#[z,its,n,r,k _ _ (.inl rfl) e]
 |tup xs=>obtain⟨z,its,r,ob,e,c⟩:=x;exact#[z,its,r,ob,k _ _ (.inl rfl) e,c]
 |dK kvs=>obtain⟨z,y,vs,r,ob,es,ep,e,c⟩:=x;exact#[z,y,vs,r,ob,es,ep,k _ _ (.inl rfl) e,c]
 |dT kvs=>
  obtain⟨z,y,xs,r,ob,es,ep,e,c⟩:=x;exact#[z,y,xs,Paired.mapP r λp q z=>#[z.1,ht _ _ z.2.1,z.2.2],ob,es,ep,k _ _ (.inl rfl) e,c]
 |own y=>obtain⟨ob,e⟩:=x;exact#[ob,k _ _ (.inl rfl) e]
 |frz ob u ih=>obtain⟨e,q⟩:=x;exact#[k _ _ (.inl rfl) e,ih q]
 |tbl ps=>
  have e:=x;exact k a _ (.inl rfl) e
theorem HOk.lt(x:HOk P w H h)(e:H a=aa o):a<h.objs.size:=(x a o e).lt
def HOk.fresh(x:HOk P w H h)(e:h.objs.size<=a):H a=ae:=by
 cases q:H a with|none=>rfl|some u=>exact T7 (br (x.lt q) e)<|bz _
def HOk.kept(x:HOk P w H h)(k:∀b u,h.get? b=aa u->h'.get? b=aa u):HOk P w H h':=λa o e=>
 (x a o e).stay (λb u _ q=>k b u q) (λ_ q=>q) λ_ _ q=>q
def HOk.laid(x:HOk P w H h)(k:∀b u,h.get? b=aa u->h'.get? b=aa u)(hp:h.objs.size<=a)(new:Z7 P w (upd H a o) h' a o):HOk P w (upd H a o) h':=λb u e=>by
 have hn:=x.fresh hp;by_cases hb:b=a
 .subst hb;rw[Zn]at e;cases e;exact new
 .rw[Zj hb]at e
  exact(x b u e).stay (λc v _ q=>k c v q) (λc q=>by rw[Zj<|ZO q hn];exact q) λc xs q=>by rw[Zj<|ZO q hn];exact q
def Rd(H:Hp)(a:aE)(u:HO):Prop:=H a=aa u\/∃o,H a=aa (.frz o u)
def Rd.ok(r:Rd H a u)(x:HOk P w H h):Z7 P w H h a u:=by
 rcases r with r|⟨o,r⟩
 .exact x a u r
 .obtain⟨_,q⟩:=x a _ r
  exact q
def Mut:Option HO->Prop
 |some (.lst _)=>True
 |some (.dK _)=>True
 |some (.dT _)=>True
 |_=>False
def HOk.write(ok:HOk P w H h)(mu:Mut (H x))(he:e=x\/H e=aa (.own x))(k:∀b u,b≠e->h.get? b=aa u->h'.get? b=aa u)(heo:∃u,h'.get? e=aa u)
  (new:Z7 P w (upd H x o') h' x o'):HOk P w (upd H x o') h':=λb u q=>by
 have nown:∀c y,H c=aa (.own y)->c≠x:=λc y r z=>by subst z;rw[r]at mu;exact mu
 have ntup:∀c xs,H c=aa (.tup xs)->c≠x:=λc xs r z=>by subst z;rw[r]at mu;exact mu
 by_cases hb:b=x
 .subst hb;rw[Zn]at q;cases q;exact new
 .rw[Zj hb]at q
  by_cases hbe:b=e
  .have q':H b=aa (.own x):=by
    rcases he with z|z
    .exact T7 (hbe.trans z) hb
    .rw[hbe];exact z
   rw[q]at q';cases q';obtain⟨v,hv⟩:=heo;exact#[v,by rw[hbe];exact hv]
  .refine(ok b u q).stay (λc v hc r=>k c v ?_ r) (λc r=>by rw[Zj<|nown c b r];exact r) λc xs r=>by rw[Zj<|ntup c xs r];exact r
   rcases hc with rfl|hc
   .exact hbe
   .rintro rfl
    rcases he with z|z
    .exact nown c b hc z
    .rw[hc]at z;cases z;exact hb rfl
structure Un(fs ex:List aE)(H H':Hp)(h h':cy):Prop where
 keep:∀b o,h.get? b=aa o->H b=ae->b∉fs->b∉ex->h'.get? b=aa o
 slot:∀b o,h.get? b=aa o->H b=ae->b∈fs->b∉ex->∃sl,h'.get? b=aa {o with slots:=sl}
 free:∀b o,h.get? b=aa o->H b=ae->b∉ex->H' b=ae
 there:∀b o,h.get? b=aa o->b∉ex->∃o',h'.get? b=aa o'
 tups:∀b xs,H b=aa (.tup xs)->H' b=aa (.tup xs)
 frzs:∀b o u,H b=aa (.frz o u)->H' b=aa (.frz o u)
 tbls:∀b ps,H b=aa (.tbl ps)->∃more,H' b=aa (.tbl<|ps++more)
def Un.any(u:Un fs ex H H1 h h1)(q:h.get? b=aa ob)(n:H b=ae)(hx:b∉ex):∃sl,h1.get? b=aa {ob with slots:=sl}:=by
 by_cases hb:b∈fs
 .exact u.slot b ob q n hb hx
 .exact#[ob.slots,u.keep b ob q n hb hx]
def Un.kept(k:∀b u,h.get? b=aa u->h'.get? b=aa u):Un fs ex H H h h':=
 #[λb ob q _ _ _=>k b ob q,λb ob q _ _ _=>#[ob.slots,k b ob q],λ_ _ _ n _=>n,λb ob q _=>#[ob,k b ob q],λ_ _ q=>q,λ_ _ _ q=>q,λ_ ps q=>#[#[],by rw[q];simp]]
def Un.refl:Un fs ex H H h h:=Un.kept λ_ _ q=>q
def Un.laid(k:∀b u,h.get? b=aa u->h'.get? b=aa u)(hp:h.objs.size<=a)(hn:H a=ae):Un fs ex H (upd H a o) h h' where
 keep:=λb u q _ _ _=>k b u q
 slot:=λb u q _ _ _=>#[u.slots,k b u q]
 free:=λb u q n _=>by rw[Zj<|bv<|br (aQ q) hp];exact n
 there:=λb u q _=>#[u,k b u q]
 tups:=λb xs q=>by rw[Zj<|ZO q hn];exact q
 frzs:=λb u xs q=>by rw[Zj<|ZO q hn];exact q
 tbls:=λb ps q=>#[#[],by rw[Zj<|ZO q hn,q];simp]
def Un.write(mu:Mut (H x))(he:e=x\/H e=aa (.own x))(k:∀b u,b≠e->h.get? b=aa u->h'.get? b=aa u)(heo:∃u,h'.get? e=aa u):Un fs ex H (upd H x o) h h':=by
 have hx:∀b,H b=ae->b≠x:=λb n z=>by subst z;rw[n]at mu;exact mu
 have hb:∀b,H b=ae->b≠e:=λb n z=>by
  subst z;rcases he with r|r
  .exact hx b n r
  .rw[n]at r;cases r
 have hm:∀b u,H b=aa u->¬Mut (aa u)->b≠x:=λb u q nm z=>by subst z;rw[q]at mu;exact nm mu
 refine#[λb u q n _ _=>k b u (hb b n) q,λb u q n _ _=>#[u.slots,k b u (hb b n) q],λb u q n _=>by rw[Zj<|hx b n];exact n,λb u q _=>?_,
  λb xs q=>by rw[Zj<|hm b _ q λz=>z];exact q,λb u xs q=>by rw[Zj<|hm b _ q λz=>z];exact q,λb ps q=>#[#[],by rw[Zj<|hm b _ q λz=>z,q];simp]]
 by_cases hbe:b=e
 .subst hbe;exact heo
 .exact#[u,k b u hbe q]
noncomputable def trk(h:cy)(H:Hp):List aE:=(aM h.objs.size).filter λa=>(H a).isSome
def Q2(h:cy)(H:Hp):cy:=fv h<|trk h H
def uf(h:cy)(H:Hp):(Q2 h H).objs.size=h.objs.size:=PySem.W.hideAll_size _ _
def jg(e:h.get? b=aa o)(n:H b=ae):(Q2 h H).get? b=aa o:=
 gV _ e λhm=>by
  have q:=(dy.mp hm).2;rw[n]at q;simp at q
def ZcF(e:(Q2 h H).get? b=aa o):h.get? b=aa o/\H b=ae:=by
 have e':=hV (trk h H) e;refine#[e',?_];cases q:H b with
 |none=>rfl
 |some x=>
  have hm:b∈trk h H:=dy.mpr #[bc.mpr<|aQ e',by simp[q]]
  have z:(Q2 h H).get? b=ae:=dq (trk h H) hm;rw[z]at e;cases e
structure Mod(K:am)(mg:bq->Option au)(base:cy):Prop where
 kin:K.In base
 glob:base.Ns bB mg
 blt:∃mb,base.Ns n5 mb/\∀x:bq,x≠"__name__"->mb x=dJ x
 nolimit:base.NoLimit
structure Cx where
 prog:bE
 w:bZ
 K:am
 mg:bq->Option au
 base:cy
 A:cz
 N:List bq
 s₀:aA
 H₀:Hp
 env:Env
 outer:List Env
 stack:List Env
 ex:List aE
 fn:bq->Bool
 calm:Bool
 pn:List (aE×fW)
 xe:au->aA->Prop
noncomputable def frs(l:List Env):List aE:=l.filterMap (·.frame)
abbrev Cx.fs(X:Cx):List aE:=frs X.outer
def Vis(sc:dS)(x:bq):Prop:=sc.names.lookup x=aa .local\/sc.names.lookup x=aa .cell\/sc.names.lookup x=aa .free
def Loc(sc:dS)(x:bq):Prop:=sc.names.lookup x=aa .local\/sc.names.lookup x=aa .cell
def Look(env:Env)(h:cy)(m:bq->Option au)(x:bq)(u:au):Prop:=
 (env.kindOf x=aa .local/\m x=aa u)\/((env.kindOf x=aa .cell\/env.kindOf x=aa .free)/\∃c,env.cells.lookup x=aa c/\h.IsCell c (aa u))
structure Cx.Ok(X:Cx):Prop where
 mod:Mod X.K X.mg X.base
 kind:X.env.scope.kind=.function
 glob:X.env.globals=bB
 blt:X.env.builtins=n5
 above:X.s₀.heap.objs.size<=X.env.locals
 inj:∀x y c,X.env.cells.lookup x=aa c->X.env.cells.lookup y=aa c->x=y
 has:∀x,(X.env.kindOf x=aa .cell\/X.env.kindOf x=aa .free)->∃c,X.env.cells.lookup x=aa c
 cab:∀x c,X.fn x=aj->X.env.cells.lookup x=aa c->X.s₀.heap.objs.size<=c
 hd:X.calm=aj->X.A.handled=ae
 frames:X.A.frames=aa X.stack
 stk:X.stack=X.outer\/(X.stack=X.env::X.outer/\X.env.frame=aa X.env.locals)
 exf:∀b∈X.ex,b≠X.env.locals/\∀x c,X.env.cells.lookup x=aa c->c≠b
 bs:∀b o,X.base.get? b=aa o->X.s₀.heap.get? b=aa o/\X.H₀ b=ae
 bsz:X.base.objs.size<=X.s₀.heap.objs.size
 noex:∀b o,X.base.get? b=aa o->b∉X.ex
 exfs:∀b∈X.ex,b∉X.fs
 funs:X.s₀.heap.FunFrames X.base X.outer
 frf:∀b∈X.fs,X.H₀ b=ae
structure Inv(X:Cx)(pq:List (aE×fW))(Z:List (Option V))(H:Hp)(s:aA):Prop where
 ok:X.Ok
 os:s.os=X.s₀.os
 bare:i7 s.gens
 base:Un X.fs X.ex X.H₀ H X.s₀.heap s.heap
 loc:∃m,s.heap.Ns X.env.locals m/\∀(i:Nat)(x:bq)(v:V),X.N[i]?=aa x->Z[i]?=aa (aa v)->Vis X.env.scope x->∃u,Zy v u/\Look X.env s.heap m x u
 cell:∀x c,X.env.cells.lookup x=aa c->∃v,s.heap.IsCell c v
 free:H X.env.locals=ae
 freeC:∀x c,X.env.cells.lookup x=aa c->H c=ae
 pin:∀p∈X.pn++pq,s.heap.get? p.1=aa p.2/\H p.1=ae/\p.1≠X.env.locals/\p.1∉X.fs/\∀v,p.2.data≠.cell v
 hok:HOk X.prog X.w H s.heap
 len:Z.length=X.N.length
section
variable{X:Cx}{pq:List (aE×fW)}{Z:List (Option V)}{H H':Hp}{s:aA}{h':cy}
def Cx.Ok.nofr(ok:X.Ok)(e:X.base.get? b=aa o):b∉X.fs:=λhb=>by
 have:=(ok.funs.mem hb).1;rw[e]at this;cases this
theorem Inv.bs(I:Inv X pq Z H s):∀b o,X.base.get? b=aa o->s.heap.get? b=aa o/\H b=ae:=λb o e=>
 #[I.base.keep b o (I.ok.bs b o e).1 (I.ok.bs b o e).2 (I.ok.nofr e)<|I.ok.noex b o e,I.base.free b o (I.ok.bs b o e).1 (I.ok.bs b o e).2<|I.ok.noex b o e]
def Inv.bk(I:Inv X pq Z H s):∀b o,X.base.get? b=aa o->s.heap.get? b=aa o:=λb o e=>(I.bs b o e).1
theorem Inv.mod(I:Inv X pq Z H s):Mod X.K X.mg X.base:=I.ok.mod
def Inv.kIn(I:Inv X pq Z H s):X.K.In s.heap:=I.ok.mod.kin.keeps I.bk
theorem Inv.lt(I:Inv X pq Z H s):X.env.locals<s.heap.objs.size:=let #[_,hn,_]:=I.loc;hn.lt
def Inv.sz(I:Inv X pq Z H s):X.s₀.heap.objs.size<=s.heap.objs.size:=bW I.ok.above<|kJ I.lt
def Inv.nofs(I:Inv X pq Z H s)(h:s.heap.objs.size<=a):a∉X.fs:=λhb=>by
 obtain⟨_,o,ho,_⟩:=I.ok.funs.mem hb;exact T7 (br (aQ ho)<|bW I.sz h)<|bz _
def Inv.cne(I:Inv X pq Z H s):∀x c,X.env.cells.lookup x=aa c->c≠X.env.locals:=λx c e z=>by
 obtain⟨v,o,ho,hd⟩:=I.cell x c e;obtain⟨m,⟨o',es,ep,ho',hd',_⟩,_⟩:=I.loc;rw[z,ho']at ho;cases ho;rw[hd']at hd;cases hd
theorem Inv.funs(I:Inv X pq Z H s):s.heap.FunFrames X.base X.outer:=by
 have all:∀(l:List Env),(∀b∈frs l,b∈X.fs)->X.s₀.heap.FunFrames X.base l->s.heap.FunFrames X.base l:=by
  intro l
  induction l with
  |nil=>intro _ _;trivial
  |cons env r ih=>
   intro hs hl;obtain⟨hk,⟨L,o,hf,hn,ho,hd⟩,hr⟩:=hl;have hL:=hs L (by unfold frs;rw[cD,hf];exact al)
   obtain⟨sl,e⟩:=I.base.slot L o ho (I.ok.frf L hL) hL λz=>I.ok.exfs L z hL
   exact#[hk,#[L,_,hf,hn,e,hd],ih (λb hb=>hs b<|by unfold frs;rw[cD,hf];exact ao _ hb) hr]
 exact all X.outer (λ_ hb=>hb) I.ok.funs
theorem Inv.stack(I:Inv X pq Z H s):s.heap.FunFrames X.base X.stack:=by
 rcases I.ok.stk with e|⟨e,hf⟩
 .rw[e];exact I.funs
 .rw[e]
  obtain⟨m,hn,_⟩:=I.loc;refine .cons (by rw[I.ok.kind];decide) hf hn ?_ I.funs
  exact cy.get?_none_of_le<|bW I.ok.bsz I.ok.above
def Inv.stkSub(I:Inv X pq Z H s):∀b∈frs X.stack,b∈X.env.locals::X.fs:=λb hb=>by
 rcases I.ok.stk with e|⟨e,hf⟩
 .rw[e]at hb;exact ao _ hb
 .rw[e]at hb
  unfold frs at hb;rw[cD,hf]at hb;exact hb
def Inv.stkFree(I:Inv X pq Z H s):∀b∈frs X.stack,H b=ae:=λb hb=>by
 rcases ay.mp (I.stkSub b hb)with e|hb
 .rw[e];exact I.free
 .obtain⟨_,o,ho,_⟩:=I.ok.funs.mem hb
  exact I.base.free b o ho (I.ok.frf b hb) λz=>I.ok.exfs b z hb
def Inv.step{g':Array rK}{t':Nat}{d':Drawn}{ch:List aE}(I:Inv X pq Z H s)
  (hch:∀b∈ch,(b∈X.ex\/X.s₀.heap.objs.size<=b)/\b≠X.env.locals/\(∀x c,X.env.cells.lookup x=aa c->c≠b)/\∀p∈X.pn++pq,p.1≠b)
  (keep:∀b o,b≠X.env.locals->b∉X.fs->b∉ch->s.heap.get? b=aa o->H b=ae->h'.get? b=aa o)
  (slot:∀b o,b≠X.env.locals->b∈X.fs->b∉ch->s.heap.get? b=aa o->H b=ae->∃sl,h'.get? b=aa {o with slots:=sl})(free:∀b o,b∉ch->s.heap.get? b=aa o->H b=ae->H' b=ae)
  (there:∀b o,b∉ch->s.heap.get? b=aa o->∃o',h'.get? b=aa o')
  (tups:∀b xs,H b=aa (.tup xs)->H' b=aa (.tup xs))(frzs:∀b o u,H b=aa (.frz o u)->H' b=aa (.frz o u))(tbls:∀b ps,H b=aa (.tbl ps)->∃more,H' b=aa (.tbl<|ps++more))
  (ns:∀m,s.heap.Ns X.env.locals m->h'.Ns X.env.locals m)(hok:HOk X.prog X.w H' h')(hg:i7 g') :
  Inv X pq Z H' {s with heap:=h',gens:=g',drawn:=d',toks:=t' }:=by
 have neL:∀b o,X.s₀.heap.get? b=aa o->b≠X.env.locals:=λb o e=>bv<|br (aQ e) I.ok.above
 have neC:∀b o,X.s₀.heap.get? b=aa o->b∉X.ex->b∉ch:=λb o e hx hb=>by
  rcases(hch b hb).1 with z|z
  .exact hx z
  .exact T7 (br (aQ e) z)<|bz _
 have cellK:∀x c,X.env.cells.lookup x=aa c->∀v,s.heap.IsCell c v->h'.IsCell c v:=by
  rintro x c e v ⟨o,ho,hd⟩;have nch:=λz=>(hch c z).2.2.1 x c e rfl
  by_cases hc:c∈X.fs
  .obtain⟨sl,q⟩:=slot c o (I.cne x c e) hc nch ho (I.freeC x c e)
   exact#[_,q,hd]
  .exact#[o,keep c o (I.cne x c e) hc nch ho<|I.freeC x c e,hd]
 refine#[I.ok,I.os,hg,#[λb o e n hb hx=>?_,λb o e n hb hx=>?_,λb o e n hx=>?_,λb o e hx=>?_,λb xs e=>tups b xs<|I.base.tups b xs e,λb o xs e=>frzs b o xs<|I.base.frzs b o xs e,λb ps e=>?_],?_,λx c e=>?_,?_,λx c e=>?_,λp hp=>?_,hok,I.len]
 .exact keep b o (neL b o e) hb (neC b o e hx) (I.base.keep b o e n hb hx)<|I.base.free b o e n hx
 .obtain⟨sl,e1⟩:=I.base.slot b o e n hb hx
  obtain⟨sl',e2⟩:=slot b _ (neL b o e) hb (neC b o e hx) e1<|I.base.free b o e n hx;exact#[sl',e2]
 .obtain⟨o',e1⟩:=I.base.there b o e hx
  exact free b o' (neC b o e hx) e1<|I.base.free b o e n hx
 .obtain⟨o',e1⟩:=I.base.there b o e hx
  exact there b o' (neC b o e hx) e1
 .obtain⟨m1,e1⟩:=I.base.tbls b ps e
  obtain⟨m2,e2⟩:=tbls b _ e1;exact#[m1++m2,by rw[e2,n6]]
 .obtain⟨m,hn,hl⟩:=I.loc
  refine#[m,ns m hn,λi x v e1 e2 e3=>?_]
  obtain⟨u,r,l⟩:=hl i x v e1 e2 e3;refine#[u,r,?_];rcases l with l|⟨k,c,e,z⟩
  .exact .inl l
  .exact .inr #[k,c,e,cellK x c e _ z]
 .obtain⟨v,z⟩:=I.cell x c e
  exact#[v,cellK x c e v z]
 .obtain⟨m,⟨o,_,_,ho,_⟩,_⟩:=I.loc
  exact free _ o (λz=>(hch _ z).2.1 rfl) ho I.free
 .obtain⟨v,o,ho,hd⟩:=I.cell x c e
  exact free c o (λz=>(hch c z).2.2.1 x c e rfl) ho<|I.freeC x c e
 .obtain⟨e,n,ne,nf,d⟩:=I.pin p hp
  have nch:=λz=>(hch p.1 z).2.2.2 p hp rfl
  exact#[keep p.1 p.2 ne nf nch e n,free p.1 p.2 nch e n,ne,nf,d]
def Inv.un{t':Nat}(I:Inv X pq Z H s)(u:Un X.fs [] H H' s.heap h')(hok:HOk X.prog X.w H' h'):Inv X pq Z H' {s with heap:=h',toks:=t' }:=by
 obtain⟨m,⟨o,es,ep,ho,r⟩,_⟩:=id I.loc;obtain⟨sl,hL⟩:=u.any ho I.free #[2]
 exact I.step (g':=s.gens) (d':=s.drawn) (ch:=[]) (λ_ z=>nomatch z) (λb o _ hb _ e n=>u.keep b o e n hb<|by simp) (λb o _ hb _ e n=>u.slot b o e n hb<|by simp) (λb o _ e n=>u.free b o e n<|by simp) (λb o _ e=>u.there b o e<|by simp) u.tups u.frzs u.tbls (λm' hm=>by
  obtain⟨o',es',ep',ho',r'⟩:=hm;rw[ho]at ho';cases ho';exact#[_,es',ep',hL,r']) hok I.bare
def Inv.call{g':Array rK}{t':Nat}{d':Drawn}{ch:List aE}(I:Inv X pq Z H s)(u:Un (frs X.stack) ch H H' s.heap h')(hok:HOk X.prog X.w H' h')(hg:i7 g')
  (hch:∀b∈ch,(b∈X.ex\/X.s₀.heap.objs.size<=b)/\b≠X.env.locals/\(∀x c,X.env.cells.lookup x=aa c->c≠b)/\∀p∈X.pn++pq,p.1≠b) :
  Inv X pq Z H' {s with heap:=h',gens:=g',drawn:=d',toks:=t' }:=by
 obtain⟨m,⟨o,es,ep,ho,r⟩,_⟩:=id I.loc;obtain⟨sl,hL⟩:=u.any ho I.free λz=>(hch _ z).2.1 rfl
 exact I.step hch (λb o hL hb hc e n=>u.keep b o e n (λz=>(ay.mp<|I.stkSub b z).elim hL hb) hc) (λb o _ _ hc e n=>u.any e n hc) (λb o hc e n=>u.free b o e n hc) (λb o hc e=>u.there b o e hc) u.tups u.frzs u.tbls (λm' hm=>by
  obtain⟨o',es',ep',ho',r'⟩:=hm;rw[ho]at ho';cases ho';exact#[_,es',ep',hL,r']) hok hg
def Inv.turned{t':Nat}{it:aE}(I:Inv X pq Z H s)(k:∀b o,b≠it->s.heap.get? b=aa o->h'.get? b=aa o)(hn:H it=ae)(hL:it≠X.env.locals)
  (h1:it∈X.ex\/X.s₀.heap.objs.size<=it)(h2:∀x c,X.env.cells.lookup x=aa c->c≠it)(h3:∀p∈X.pn++pq,p.1≠it):Inv X pq Z H {s with heap:=h',toks:=t' }:=by
 have nit:∀b u,H b=aa u->b≠it:=λb u e z=>by rw[z,hn]at e;cases e
 refine I.step (g':=s.gens) (d':=s.drawn) (ch:=[it]) (λb hb=>?_) (λb o _ _ hc e _=>k b o (λz=>hc<|by simp[z]) e) (λb o _ _ hc e _=>#[o.slots,k b o (λz=>hc<|by simp[z]) e]) (λ_ _ _ _ n=>n)
  (λb o hc e=>#[o,k b o (λz=>hc<|by simp[z]) e]) (λ_ _ e=>e) (λ_ _ _ e=>e) (λb ps e=>#[#[],by rw[e];simp]) (λm hm=>?_) (λb u e=>?_) I.bare
 .have e:b=it:=by simpa using hb
  subst e;exact#[h1,hL,h2,h3]
 .obtain⟨o,es,ep,ho,r⟩:=hm
  exact#[o,es,ep,k _ o (Ne.symm hL) ho,r]
 .refine(I.hok b u e).stay (λc v hc q=>k c v ?_ q) (λ_ q=>q) λ_ _ q=>q
  rcases hc with z|z
  .rw[z];exact nit b u e
  .exact nit c _ z
def Inv.tok(I:Inv X pq Z H s)(t:Nat):Inv X pq Z H {s with toks:=t}:=I.un (h':=s.heap) (t':=t) Un.refl I.hok
theorem Inv.kept(I:Inv X pq Z H s)(k:∀b u,s.heap.get? b=aa u->h'.get? b=aa u):Inv X pq Z H {s with heap:=h',toks:=t' }:=I.un (Un.kept k)<|I.hok.kept k
theorem Inv.laid(I:Inv X pq Z H s)(k:∀b u,s.heap.get? b=aa u->h'.get? b=aa u)(hp:s.heap.objs.size<=a)(new:Z7 X.prog X.w (upd H a o) h' a o) :
  Inv X pq Z (upd H a o) {s with heap:=h',toks:=t' }:=I.un (Un.laid k hp<|I.hok.fresh hp)<|I.hok.laid k hp new
theorem Inv.write(I:Inv X pq Z H s)(mu:Mut (H x))(he:e=x\/H e=aa (.own x))(k:∀b u,b≠e->s.heap.get? b=aa u->h'.get? b=aa u)(heo:∃u,h'.get? e=aa u)
  (new:Z7 X.prog X.w (upd H x o) h' x o):Inv X pq Z (upd H x o) {s with heap:=h',toks:=t' }:=I.un (Un.write mu he k heo)<|I.hok.write mu he k heo new
def Inv.pins_of(I:Inv X pq Z H s)(h:∀p∈pins',s.heap.get? p.1=aa p.2/\H p.1=ae/\p.1≠X.env.locals/\p.1∉X.fs/\∀v,p.2.data≠.cell v):Inv X pins' Z H s:=
 #[I.ok,I.os,I.bare,I.base,I.loc,I.cell,I.free,I.freeC,λp hp=>(bK.mp hp).elim (λz=>I.pin p<|cX _ z)<|h p,I.hok,I.len]
def UO{N:List bq}(hN:N.Nodup){i j:Nat}{x:bq}(a:N[i]?=aa x)(b:N[j]?=aa x):i=j:=by
 obtain⟨h1,e1⟩:=aH.mp a;obtain⟨h2,e2⟩:=aH.mp b;exact(List.getElem_inj hN).mp<|e1.trans e2.symm
def VJ{M:Model}{A:cz}{E:au->aA->Prop}{i:Nat}{x:bq}{v:V}{u:au}{Q:Unit->aA->Prop}(I:Inv X pq Z H s)(hN:X.N.Nodup)(hi:X.N[i]?=aa x)(hx:Loc X.env.scope x)(r:Zy v u)
  (h:∀s',Inv X pq (Z.set i<|aa v) H s'->(∃a,gJ a s.heap s'.heap/\(a=X.env.locals\/X.env.cells.lookup x=aa a))->Q () s')(hf:X.fn x=aj\/X.env.scope.names.lookup x=aa .local:=by first|exact .inl rfl|exact .inr rfl|assumption):bf M A (storeName X.env x u) Q E s:=by
 obtain⟨m,hn,hl⟩:=id I.loc;have hcls:(X.env.scope.kind == .class||(X.env.scope.kind == .module&&X.env.locals != X.env.globals))=ak:=by rw[I.ok.kind];rfl
 have hiσ:i<Z.length:=by rw[I.len];exact(aH.mp hi).1
 have cne:=I.cne;have tracked:∀{a:aE}{h':cy},(∃o,s.heap.get? a=aa o/\H a=ae)->gJ a s.heap h'->HOk X.prog X.w H h':=λ{a h'} ha hs b ob e=>by
  obtain⟨_,_,hfree⟩:=ha;refine(I.hok b ob e).stay (λc w' hc q=>(hs.2 c ?_).trans q) (λ_ q=>q) λ_ _ q=>q
  rintro rfl
  rcases hc with rfl|hc
  .rw[hfree]at e;cases e
  .rw[hfree]at hc;cases hc
 rcases hx with hk|hk
 .refine wpAny_storeName_local hk hn (λh' hn' hs=>?_) hcls
  obtain⟨oL,_,_,hoL,_⟩:=id hn;refine h _ #[I.ok,I.os,I.bare,#[λb o e n hb hx=>?_,λb o e n hb hx=>?_,I.base.free,λb o e hx=>?_,I.base.tups,I.base.frzs,I.base.tbls],#[_,hn',λj y v' e1 e2 e3=>?_],λy c e=>?_,I.free,I.freeC,λp hp=>?_,tracked #[oL,hoL,I.free] hs,by simpa using I.len] #[_,hs,.inl rfl]
  .exact(hs.2 b<|bv<|br (aQ e) I.ok.above).trans<|I.base.keep b o e n hb hx
  .obtain⟨sl,e1⟩:=I.base.slot b o e n hb hx
   exact#[sl,(hs.2 b<|bv<|br (aQ e) I.ok.above).trans e1]
  .obtain⟨o',e1⟩:=I.base.there b o e hx
   exact#[o',(hs.2 b<|bv<|br (aQ e) I.ok.above).trans e1]
  .by_cases hj:j=i
   .subst hj
    rw[hi]at e1;cases e1;rw[bn hiσ]at e2;cases e2;exact#[u,r,.inl #[hk,by simp]]
   .rw[bg<|Ne.symm hj]at e2
    obtain⟨u',r',q⟩:=hl j y v' e1 e2 e3;refine#[u',r',?_];rcases q with⟨k,e⟩|⟨k,c,e,z⟩
    .refine .inl #[k,?_]
     have:y≠x:=λe=>hj<|UO hN e1<|e▸hi
     simp[this,e]
    .exact .inr #[k,c,e,z.sameBut hs<|cne y c e]
  .obtain⟨w',z⟩:=I.cell y c e
   exact#[w',z.sameBut hs<|cne y c e]
  .obtain⟨e,n,ne,nf,d⟩:=I.pin p hp
   exact#[(hs.2 p.1 ne).trans e,n,ne,nf,d]
 .have hfn:X.fn x=aj:=by
   rcases hf with z|z
   .exact z
   .rw[z]at hk;cases hk
  obtain⟨c,hc⟩:=I.ok.has x<|.inl hk;obtain⟨w',z⟩:=I.cell x c hc;refine wpAny_storeName_cell I.ok.kind hk hc z λh' hc' hs=>?_
  obtain⟨oc,hoc,hocd⟩:=id z;refine h {s with heap:=h' } #[I.ok,I.os,I.bare,#[λb o e n hb hx=>?_,λb o e n hb hx=>?_,I.base.free,λb o e hx=>?_,I.base.tups,I.base.frzs,I.base.tbls],#[m,hn.sameBut hs<|Ne.symm<|cne x c hc,λj y v' e1 e2 e3=>?_],λy c' e=>?_,I.free,I.freeC,λp hp=>?_,tracked #[oc,hoc,I.freeC x c hc] hs,by simpa using I.len] #[c,hs,.inr hc]
  .exact(hs.2 b<|bv<|br (aQ e)<|I.ok.cab x c hfn hc).trans<|I.base.keep b o e n hb hx
  .obtain⟨sl,e1⟩:=I.base.slot b o e n hb hx
   exact#[sl,(hs.2 b<|bv<|br (aQ e)<|I.ok.cab x c hfn hc).trans e1]
  .obtain⟨o',e1⟩:=I.base.there b o e hx
   exact#[o',(hs.2 b<|bv<|br (aQ e)<|I.ok.cab x c hfn hc).trans e1]
  .by_cases hj:j=i
   .subst hj
    rw[hi]at e1;cases e1;rw[bn hiσ]at e2;cases e2;exact#[u,r,.inr #[.inl hk,c,hc,hc']]
   .rw[bg<|Ne.symm hj]at e2
    obtain⟨u',r',q⟩:=hl j y v' e1 e2 e3;refine#[u',r',?_];rcases q with q|⟨k,c',e,z'⟩
    .exact .inl q
    .refine .inr #[k,c',e,z'.sameBut hs ?_]
     rintro rfl
     exact hj<|UO hN e1<|I.ok.inj _ _ _ e hc▸hi
  .by_cases hcc:c'=c
   .subst hcc;exact#[_,hc']
   .obtain⟨w2,z2⟩:=I.cell y c' e
    exact#[w2,z2.sameBut hs hcc]
  .obtain⟨e,n,ne,nf,d⟩:=I.pin p hp
   refine#[(hs.2 p.1 ?_).trans e,n,ne,nf,d];intro q;rw[q,hoc]at e;have q':=aq e;exact d w' (by rw[<-q'];exact hocd)
def X3{E:au->aA->Prop}{Q:Unit->aA->Prop}(I:Inv X pq Z H s)(hN:X.N.Nodup)(hi:X.N[i]?=aa x)(hx:Loc X.env.scope x)(r:Zy v u)
  (h:∀s',Inv X pq (Z.set i<|aa v) H s'->Q () s')(hf:X.fn x=aj\/X.env.scope.names.lookup x=aa .local:=by first|exact .inl rfl|exact .inr rfl|assumption):bf M A (storeName X.env x u) Q E s:=
 VJ I hN hi hx r (λs' I' _=>h s' I') hf
def Inv.call'(I:Inv X pq Z H s)(ho:s'.os=s.os)(u:Un (frs X.stack) ch H H' s.heap s'.heap)(hok:HOk X.prog X.w H' s'.heap)(hg:i7 s'.gens)
  (hch:∀b∈ch,(b∈X.ex\/X.s₀.heap.objs.size<=b)/\b≠X.env.locals/\(∀x c,X.env.cells.lookup x=aa c->c≠b)/\∀p∈X.pn++pq,p.1≠b):Inv X pq Z H' s':=by
 obtain⟨h',g',d',t',o'⟩:=s';have e:=ho;subst e;exact I.call (g':=g') (t':=t') (d':=d') u hok hg hch
end
abbrev XK:=au->Option aE->Hp->Prop
abbrev St:=List<|Option V
abbrev VK:=V->Hp->Prop
abbrev TE:=St->Hp->VK->Prop
abbrev TT:=St->Hp->(Bool->Hp->Prop)->Prop
abbrev TA:=St->Hp->(List V->Hp->Prop)->Prop
structure Ends where
 nx:St->Hp->Prop
 rt:VK
 bk:St->Hp->Prop:=λ_ _=>False
 ct:St->Hp->Prop:=λ_ _=>False
abbrev TS:=Ends->St->Hp->Prop
def EP(X:Cx)(pq:List (aE×fW))(Z:St)(Q:VK)(u:au)(s':aA):Prop:=∃v H',Inv X pq Z H' s'/\Zy v u/\Q v H'
def TP(X:Cx)(pq:List (aE×fW))(Z:St)(Q:Bool->Hp->Prop)(b:Bool)(s':aA):Prop:=∃H',Inv X pq Z H' s'/\Q b H'
def AP(X:Cx)(pq:List (aE×fW))(Z:St)(Q:List V->Hp->Prop)(us:List au)(s':aA):Prop:=∃vs H',Inv X pq Z H' s'/\Vals vs us/\Q vs H'
def SP(X:Cx)(pq:List (aE×fW))(D:Ends)(f:Flow)(s':aA):Prop:=
 match f with
 |.next=>∃σ' H',Inv X pq σ' H' s'/\D.nx σ' H'
 |.brk=>∃σ' H',Inv X pq σ' H' s'/\D.bk σ' H'
 |.cont=>∃σ' H',Inv X pq σ' H' s'/\D.ct σ' H'
 |.ret u=>∃v σ' H',Inv X pq σ' H' s'/\Zy v u/\D.rt v H'
def PE(X:Cx)(e:Expr)(t:TE):Prop:=
 ∀pq s Z H Q,Inv X pq Z H s->t Z H Q->bf #[10] X.A (cu e X.env) (EP X pq Z Q) X.xe s
def PT(X:Cx)(e:Expr)(t:TT):Prop:=
 ∀pq s Z H Q,Inv X pq Z H s->t Z H Q->bf #[10] X.A (isTrue e X.env<|cu e X.env) (TP X pq Z Q) X.xe s
def PW(X:Cx)(e:Expr)(t:TT):Prop:=
 ∀(whole:oD au)(pq:List (aE×fW))(s:aA)(Z:St)(H:Hp)(Q:Bool->Hp->Prop),Inv X pq Z H s->t Z H Q->bf #[10] X.A (isTrue e X.env whole) (TP X pq Z Q) X.xe s
def PW.pt(h:PW X e t):PT X e t:=h _
def PA(X:Cx)(es:List Expr)(t:TA):Prop:=
 ∀(pos:gj)(pq:List (aE×fW))(s:aA)(Z:St)(H:Hp)(Q:List V->Hp->Prop),Inv X pq Z H s->t Z H Q->bf #[10] X.A (spliced<|dG pos<|aB es X.env) (AP X pq Z Q) X.xe s
def PS(X:Cx)(st:fg)(t:TS):Prop:=
 ∀pq s Z H D,Inv X pq Z H s->t D Z H->bf #[10] X.A (exec st X.env) (SP X pq D) X.xe s
def PSs(X:Cx)(st:List fg)(t:TS):Prop:=
 ∀pq s Z H D,Inv X pq Z H s->t D Z H->bf #[10] X.A (execs st X.env) (SP X pq D) X.xe s
def thn{B:Type}{t:oD B}{Q Q':B->aA->Prop}{M:Model}{A:cz}{E:au->aA->Prop}{s:aA}(h:bf M A t Q E s)(hQ:∀a s,Q a s->Q' a s):bf M A t Q' E s:=cW h hQ λ_ _ x=>x
def JN(i:Nat):TE:=λZ H Q=>∃v,Z[i]?=aa (aa v)/\Q v H
def tC(v:V):TE:=λ_ H Q=>Q v H
def Yn(hN:X.N[i]?=aa x)(hv:Vis X.env.scope x)(hd:(x == #[9])=ak:=by decide)(hcd:(x == #[15])=ak:=by decide):PE X (.Name x pos) (JN i):=by
 intro pq s Z H Q I h;obtain⟨v,e,h⟩:=h;obtain⟨m,hn,hl⟩:=I.loc;obtain⟨u,r,l⟩:=hl i x v hN e hv;have fin:EP X pq Z Q u s:=#[v,H,I,r,h];rcases l with⟨hk,hm⟩|⟨hk,c,hc,hcell⟩
 .exact kP (m8 I.ok.kind hk hn hm fin) hd
 .rcases hk with hk|hk
  .exact kP (nF I.ok.kind hk hc hcell fin) hd
  .exact kP (nG I.ok.kind hk hc hcell fin hcd) hd
def WW{i j pos}:PE X (.Constant (.int i) j pos) (tC<|.int i):=λ_ _ _ H _ I h=>wpAny_Constant_int #[.int i,H,I.tok _,#[_,rfl],h]
def jA{b j pos}:PE X (.Constant (.bool b) j pos) (tC<|.bl b):=λ_ _ _ H _ I h=>Constant_bool #[.bl b,H,I,rfl,h]
def xy{j pos}:PE X (.Constant .none j pos) (tC .non):=λ_ _ _ H _ I h=>Constant_none #[.non,H,I,rfl,h]
def GC{x j pos}:PE X (.Constant (.str x) j pos) (tC<|.str x):=λ_ _ _ H _ I h=>Calls.Constant_str #[.str x,H,I.tok _,#[_,rfl],h]
def Gl(X:Cx)(x:bq):Prop:=X.env.kindOf x=aa .globalImplicit
def Vv{E:au->aA->Prop}{Q:au->aA->Prop}(I:Inv X pq Z H s)(hg:Gl X x)(hm:X.mg x=aa u)(h:Q u s)
  (hd:(x == #[9])=ak:=by decide):bf #[10] X.A (cu (.Name x pos) X.env) Q E s:=
 Calls.Name_function_global I.ok.kind hg (Calls.loadGlobal_global (by rw[I.ok.glob];exact I.mod.glob.keeps I.bk) hm h) hd
def Y1{E:au->aA->Prop}{Q:au->aA->Prop}(I:Inv X pq Z H s)(hg:Gl X x)(hm:X.mg x=ae)(hv:dJ x=aa u)(h:Q u s)
  (hn:x≠"__name__":=by decide)(hd:(x == #[9])=ak:=by decide):bf #[10] X.A (cu (.Name x pos) X.env) Q E s:=by
 obtain⟨mb,h1,h2⟩:=I.mod.blt;exact Calls.Name_function_global I.ok.kind hg (Calls.loadGlobal_builtin (by rw[I.ok.glob];exact I.mod.glob.keeps I.bk) hm (by rw[I.ok.blt];exact h1.keeps I.bk) ((h2 x hn).trans hv) h) hd
def ZcQ(hg:Gl X x)(hm:X.mg x=aa u)(r:Zy v u)(hd:(x == #[9])=ak:=by decide):PE X (.Name x pos) (tC v):=
 λ_ _ _ H _ I h=>Vv I hg hm #[v,H,I,r,h] hd
def UC(hg:Gl X x)(hm:X.mg x=ae)(hv:dJ x=aa u)(r:Zy v u)(hn:x≠"__name__":=by decide)(hd:(x == #[9])=ak:=by decide):PE X (.Name x pos) (tC v):=
 λ_ _ _ H _ I h=>Y1 I hg hm hv #[v,H,I,r,h] hn hd
def PC(X:Cx)(op:sU)(a b:Expr)(t:TE):Prop:=
 ∀pq s Z H Q,Inv X pq Z H s->t Z H Q->
  bf #[10] X.A (cu a X.env) (λv s₁=>bf #[10] X.A (cu b X.env) (λu s₂=>bf #[10] X.A (cO op v u) (EP X pq Z Q) X.xe s₂) X.xe s₁) X.xe s
def jx(b:Expr)(h:op≠.In)(h2:op≠.NotIn):eX op b=ak:=by
 have e1:(op == sU.In)=ak:=by cases op<;>first|rfl|exact T7 rfl h
 have e2:(op == sU.NotIn)=ak:=by cases op<;>first|rfl|exact T7 rfl h2
 cases b<;>simp[eX,e1,e2]
def Zhd(ta:TE):TE:=λZ H Q=>ta Z H λx H1=>Q (.bl<|af<|x=.non) H1
def Zy.none_iff(r:Zy x v):(v == bN)=af (x=.non):=by
 cases x with|non=>cases r;rfl|bl _=>cases r;rfl|int _=>obtain⟨t,rfl⟩:=r;rfl|str _=>obtain⟨t,rfl⟩:=r;rfl|ref _=>cases r;rfl|ty _=>cases r;rfl
def Zfl{j pos'}(ha:PE X a ta):PC X .Is a (.Constant .none j pos') (Zhd ta):=by
 intro pq s Z H Q I h;refine thn #[47] λv s1 #[x,H1,I1,r1,q1]=>?_
 exact Constant_none<|is_none_gen #[.bl _,H1,I1,by rw[r1.none_iff];rfl,q1]
def tB(t:TE):TT:=λZ H Q=>t Z H λx H1=>∃c,x=.bl c/\Q c H1
def Zgn{op:sU}{t:TE}(h:PC X op a b t)(h1:eX op b=ak:=by first|exact jx _ #[1] #[1]|rfl):PT X (.Compare a [op] [b] pos) (tB t):=by
 intro pq s Z H Q I hw;refine mT (thn (h pq s Z H _ I hw) λv s1 h1=>thn h1 λu s2 h2=>thn h2 λc s3 #[x,H1,I1,r1,q1]=>?_) h1
 obtain⟨d,rfl,q⟩:=q1;cases r1;exact eJ #[H1,I1,q]
def ZfS{e:Expr}{t:TE}(h:PE X e t)(he:∀whole,isTrue e X.env whole=(do let v <-whole;lD e.pos;i8 [v] (sS v)):=by intro _;rfl):PT X e (tB t):=by
 intro pq s Z H Q I hw;refine isTrue_plain (thn (h pq s Z H _ I hw) λv s1 #[x,H1,I1,r1,q1]=>?_)<|he _
 obtain⟨d,rfl,q⟩:=q1;cases r1;exact eJ #[H1,I1,q]
def Zif(t u:TT):TT:=λZ H Q=>t Z H λc H1=>if c=aj then u Z H1 Q else Q ak H1
def tOr(t u:TT):TT:=λZ H Q=>t Z H λc H1=>if c=aj then Q aj H1 else u Z H1 Q
def Zg6(t:TT):TT:=λZ H Q=>t Z H λc H1=>Q (!c) H1
def Zdq(ha:PT X a tA):PW X (.BoolOp .And [a] pos) tA:=by
 intro wh pq s Z H Q I h;refine isTrue_and<|thn (ha pq s Z H Q I h) λc s1 e=>?_
 cases c with|true=>exact isTrue_and_nil e|false=>exact e
def jD(ha:PT X a tA):PW X (.BoolOp .Or [a] pos) tA:=by
 intro wh pq s Z H Q I h;refine isTrue_or<|thn (ha pq s Z H Q I h) λc s1 e=>?_
 cases c with|false=>exact isTrue_or_nil e|true=>exact e
def ZeX(ha:PT X a tA)(hb:PW X (.BoolOp .And (b::rest) pos) tB'):PW X (.BoolOp .And (a::b::rest) pos) (Zif tA tB'):=by
 intro wh pq s Z H Q I h;refine isTrue_and<|thn #[47] λc s1 #[H1,I1,q1]=>?_
 cases c with|true=>exact hb wh pq s1 Z H1 Q I1 q1|false=>exact#[H1,I1,q1]
def Zee(ha:PT X a tA)(hb:PW X (.BoolOp .Or (b::rest) pos) tB'):PW X (.BoolOp .Or (a::b::rest) pos) (tOr tA tB'):=by
 intro wh pq s Z H Q I h;refine isTrue_or<|thn #[47] λc s1 #[H1,I1,q1]=>?_
 cases c with|true=>exact#[H1,I1,q1]|false=>exact hb wh pq s1 Z H1 Q I1 q1
def Za5(ha:PT X a tA):PT X (.UnaryOp .Not a pos) (Zg6 tA):=by
 intro pq s Z H Q I h;exact isTrue_not<|ha pq s Z H (λc H1=>Q (!c) H1) I h
def ZgW(ta tb:TE):TE:=λZ H Q=>ta Z H λx H1=>∃c,x=.bl c/\if c=aj then tb Z H1 Q else Q (.bl ak) H1
def Zfq{op}{t:TE}(h:PE X a t):PE X (.BoolOp op [a] pos) t:=λpq s Z H Q I hw=>BoolOp_one<|h pq s Z H Q I hw
def ZeH(ha:PE X a ta)(hb:PE X (.BoolOp .And (b::rest) pos) tb):PE X (.BoolOp .And (a::b::rest) pos) (ZgW ta tb):=by
 intro pq s Z H Q I h;refine BoolOp_and<|thn #[47] λv s1 #[x,H1,I1,r1,q1]=>?_
 obtain⟨c,rfl,q1⟩:=q1;cases r1;refine eJ ?_;cases c with|true=>exact hb pq s1 Z H1 Q I1 q1|false=>exact#[.bl ak,H1,I1,rfl,q1]
def tIf(t:TT)(ta tb:TE):TE:=λZ H Q=>t Z H λc H1=>if c=aj then ta Z H1 Q else tb Z H1 Q
def Zae{c:Expr}(hc:PT X c tA)(ha:PE X a ta)(hb:PE X b tb):PE X (.IfExp c a b pos) (tIf tA ta tb):=by
 intro pq s Z H Q I h;refine wpAny_IfExp<|thn (hc pq s Z H _ I h) λd s1 #[H1,I1,q1]=>?_
 cases d with|true=>exact ha pq s1 Z H1 Q I1 q1|false=>exact hb pq s1 Z H1 Q I1 q1
def SqL(K:am)(H:Hp)(a:aE)(xs:List V):Prop:=
 Rd H a #[35]\/
  ∃(o:fW)(its:Array au)(n:Nat),K.lookup a=aa o/\o.cls=.type "list"/\o.dict=ae/\o.data=.seq its n/\its.size<=bj/\Vals xs its.toList
def SqT(K:am)(H:Hp)(a:aE)(xs:List V):Prop:=
 Rd H a (.tup xs)\/
  ∃(o:fW)(its:Array au)(n:Nat),K.lookup a=aa o/\o.cls=.type "tuple"/\o.data=.seq its n/\its.size<=bj/\Vals xs its.toList
noncomputable def ZhV:au->Option V
 |.none=>aa .non
 |.bool b=>aa<|.bl b
 |.int i _=>aa<|.int i
 |.str x _=>aa<|.str x
 |.ref a=>aa<|.ref a
 |.type n=>aa<|.ty n
 |_=>ae
def Zy.abs(r:Zy x u):ZhV u=aa x:=by
 cases x with|non=>cases r;rfl|bl _=>cases r;rfl|int _=>obtain⟨t,rfl⟩:=r;rfl|str _=>obtain⟨t,rfl⟩:=r;rfl|ref _=>cases r;rfl|ty _=>cases r;rfl
def Zy.inj{x y:V}{u:au}(r:Zy x u)(q:Zy y u):x=y:=aq<|r.abs.symm.trans q.abs
theorem Vals.inj:∀{xs ys:List V}{us:List au},Vals xs us->Vals ys us->xs=ys
 |_,_,_,.nil,.nil=>rfl
 |_,_,_,.cons r t,.cons r' t'=>by rw[r.inj r',Vals.inj t t']
def SqL.of{K:am}(h:H a=aa #[35]):SqL K H a xs:=.inl<|.inl h
def SqT.of{K:am}(h:H a=aa (.tup xs)):SqT K H a xs:=.inl<|.inl h
def Inv.list(I:Inv X pq Z H s)(h:SqL X.K H a xs):∃its:List au,Vals xs its/\PlainL s.heap a its.toArray/\xs.length<=bj:=by
 rcases h with h|⟨o,its,n,hk,hc,hd,hs,hz,r⟩
 .obtain⟨z,its,n,r,e⟩:=h.ok I.hok
  exact#[its,r,#[_,n,e,rfl,rfl,rfl],z]
 .refine#[its.toList,r,#[o,n,I.kIn a o hk,hc,hd,by simpa using hs],?_]
  have e:=r.length;simp only[aP]at e;lia
def Inv.tuple(I:Inv X pq Z H s)(h:SqT X.K H a xs):∃its:List au,Vals xs its/\oE s.heap a its.toArray/\xs.length<=bj:=by
 rcases h with h|⟨o,its,n,hk,hc,hs,hz,r⟩
 .obtain⟨z,its,r,p⟩:=h.ok I.hok
  exact#[its,r,p,z]
 .refine#[its.toList,r,#[o,I.kIn a o hk,hc,n,by simpa using hs],?_]
  have e:=r.length;simp only[aP]at e;lia
def Inv.list_inj(I:Inv X pq Z H s)(h:SqL X.K H a xs)(h':SqL X.K H a ys):xs=ys:=by
 obtain⟨its,r,⟨o,n,e,_,_,d⟩,_⟩:=I.list h;obtain⟨its',r',⟨o',n',e',_,_,d'⟩,_⟩:=I.list h';rw[e]at e';cases e';rw[d]at d';injection d' with d1 _
 have:its=its':=by simpa using congrArg oF d1
 subst this;exact r.inj r'
def Inv.tuple_inj(I:Inv X pq Z H s)(h:SqT X.K H a xs)(h':SqT X.K H a ys):xs=ys:=by
 obtain⟨its,r,⟨o,e,_,n,d⟩,_⟩:=I.tuple h;obtain⟨its',r',⟨o',e',_,n',d'⟩,_⟩:=I.tuple h';rw[e]at e';cases e';rw[d]at d';injection d' with d1 _
 have:its=its':=by simpa using congrArg oF d1
 subst this;exact r.inj r'
section
variable{X:Cx}{st:fg}{rest:List fg}{t u:TS}{e:Expr}{te:TE}{pos:gj}
def qI:TS:=λD Z H=>D.nx Z H
def JW(t u:TS):TS:=λD Z H=>t {D with nx:=u D} Z H
def Gh:PSs X [] qI:=λ_ _ Z H _ I h=>g8 #[Z,H,I,h]
def Yw(h1:PS X st t)(h2:PSs X rest u):PSs X (st::rest) (JW t u):=by
 intro pq s Z H D I h;refine gK<|thn (h1 pq s Z H {D with nx:=u D} I h) λf s1 q=>?_
 cases f with
 |next=>
  obtain⟨σ',H',I',q⟩:=q;exact h2 pq s1 σ' H' D I' q
 |ret v=>exact q
 |brk=>exact q
 |cont=>exact q
def Vz(h1:PS X st t):PSs X [st] t:=by
 intro pq s Z H D I h;refine gK<|thn (h1 pq s Z H D I h) λf s1 q=>?_
 cases f with|next=>exact g8 q|ret v=>exact q|brk=>exact q|cont=>exact q
def Zg4:TS:=λD Z H=>D.ct Z H
def ya:PS X (.Continue pos) Zg4:=λ_ _ Z H _ I h=>wpAny_Continue #[Z,H,I,h]
def Inv.quiet(I:Inv X pq Z H s):interactive X.env=ak:=by simp[interactive,I.ok.kind]
def Zex(te:TE):TS:=λD Z H=>te Z H λ_ H1=>D.nx Z H1
def UL(he:PE X e te)(hs:eZ e ae pos.line X.env=cF ak:=by rfl):PS X (.Expr e pos) (Zex te):=by
 intro pq s Z H D I h;exact wpAny_Expr_any (thn (he pq s Z H _ I h)<|by rintro v s1 ⟨x,H1,I1,r1,q1⟩;exact #[Z,H1,I1,q1]) I.quiet hs
def Za8(te:TE):TS:=λD Z H=>te Z H D.rt
def WS(he:PE X e te):PS X (.Return (aa e) pos) (Za8 te):=by
 intro pq s Z H D I h;exact wpAny_Return_some<|thn (he pq s Z H _ I h)<|by rintro v s1 ⟨x,H1,I1,r1,q1⟩;exact #[x,Z,H1,I1,r1,q1]
def ZfB(c:TT)(t u:TS):TS:=λD Z H=>c Z H λb H1=>if b=aj then t D Z H1 else u D Z H1
def ZbL{c:Expr}{a b:List fg}{tc:TT}(hc:PT X c tc)(ha:PSs X a t)(hb:PSs X b u):PS X (.If c a b pos) (ZfB tc t u):=by
 intro pq s Z H D I h;refine wpAny_If<|thn (hc pq s Z H _ I h) λd s1 #[H1,I1,q1]=>?_
 cases d with|true=>exact ha pq s1 Z H1 D I1 q1|false=>exact hb pq s1 Z H1 D I1 q1
end
abbrev TG:=V->St->Hp->(St->Hp->Prop)->Prop
abbrev TGs:=List V->St->Hp->(St->Hp->Prop)->Prop
def PG(X:Cx)(target:Expr)(t:TG):Prop:=
 ∀pq s Z H v u Q,Inv X pq Z H s->Zy v u->t v Z H Q->
  bf #[10] X.A (assign target X.env u) (λ_ s'=>∃σ' H',Inv X pq σ' H' s'/\Q σ' H') X.xe s
def PGs(X:Cx)(ts:List Expr)(t:TGs):Prop:=
 ∀pq s Z H vs us Q,Inv X pq Z H s->Vals vs us->t vs Z H Q->
  bf #[10] X.A (nM ((cJ ts X.env).map (·.2)) us) (λ_ s'=>∃σ' H',Inv X pq σ' H' s'/\Q σ' H') X.xe s
abbrev TSet:=V->V->V->Hp->(Hp->Prop)->Prop
def PSet(X:Cx)(t:TSet):Prop:=
 ∀pq s Z H o i v ov iv u Q,Inv X pq Z H s->Zy o ov->Zy i iv->Zy v u->t o i v H Q->
  bf #[10] X.A (setItem ov iv u) (λ_ s'=>∃H',Inv X pq Z H' s'/\Q H') X.xe s
def Qq(i:Nat):TG:=λv Z H Q=>Q (Z.set i<|aa v) H
def UB(hN:X.N.Nodup)(hi:X.N[i]?=aa x)(hx:Loc X.env.scope x)(hf:X.fn x=aj\/X.env.scope.names.lookup x=aa .local:=by first|exact .inl rfl|exact .inr rfl|assumption):PG X (.Name x pos) (Qq i):=by
 intro pq s Z H v u Q I r h;exact lE<|X3 I hN hi hx r (λs' I'=>#[_,H,I',h]) hf
def ZhW:TGs:=λvs Z H Q=>vs=[]/\Q Z H
def Zhw(t:TG)(u:TGs):TGs:=λvs Z H Q=>∃v r,vs=v::r/\t v Z H λσ' H'=>u r σ' H' Q
def ZcE:PGs X [] ZhW:=by
 intro pq s Z H vs us Q I r h;obtain⟨e,h⟩:=h;subst e;cases r;exact oG #[Z,H,I,h]
def ZbQ{e:Expr}{es:List Expr}{t:TG}{u:TGs}(h1:PG X e t)(h2:PGs X es u)
  (hs:(cJ (e::es) X.env).map (·.2)=assign e X.env::(cJ es X.env).map (·.2):=by rfl):PGs X (e::es) (Zhw t u):=by
 intro pq s Z H vs us Q I r h;obtain⟨v,vr,e1,h⟩:=h;subst e1;cases r with
 |cons r rr=>
  rw[hs];refine kQ<|thn (h1 pq s Z H _ _ _ I r h) λ_ s1 #[σ1,H1,I1,q1]=>?_
  exact h2 pq s1 σ1 H1 _ _ Q I1 rr q1
def Zik(K:am)(n:Nat)(t:TGs):TG:=λv Z H Q=>∃a xs,v=.ref a/\SqT K H a xs/\xs.length=n/\t xs Z H Q
def Zf5(hc:X.calm=aj)(h:PGs X es t)
  (hn:(cJ es X.env).length=n:=by rfl)(hst:(cJ es X.env).findIdx? (·.1)=ae:=by rfl):PG X (.Tuple es k pos) (Zik X.K n t):=by
 intro pq s Z H v u Q I r hw;obtain⟨a,xs,e1,hq,hl,hw⟩:=hw;subst e1;cases r;obtain⟨its,rv,ht,hz⟩:=I.tuple hq;refine assign_Tuple_tuple #[43] ht (by simp[hn,<-hl,rv.length]) hst λh' hx=>?_
 have I1:=I.kept (t':=s.toks) λb o e=>hx b o (bv<|aQ e) e
 exact h pq _ Z H xs _ Q I1 (by simpa using rv) hw
def Zh1(to ti:TE)(t:TSet):TG:=λv Z H Q=>to Z H λo H1=>ti Z H1 λi H2=>t o i v H2 λH3=>Q Z H3
def Zfy{o i:Expr}{to ti:TE}{t:TSet}(ho:PE X o to)(hi:PE X i ti)(hs:PSet X t)
  (ha:∀v,assign (.Subscript o i pos) X.env v=(do
   let ov <-i8 [v] (cu o X.env)
   let iv <-i8 [v,ov] (cu i X.env)
   lD pos
   i8 [v,ov,iv] (setItem ov iv v)
   release [v,ov,iv] []):=by intro _;rfl):PG X (.Subscript o i pos) (Zh1 to ti t):=by
 intro pq s Z H v u Q I r h;rw[ha];refine ag<|cK<|thn (ho pq s Z H _ I h) λov s1 #[x,H1,I1,r1,q1]=>?_
 refine ag<|cK<|thn (hi pq s1 Z H1 _ I1 q1) λiv s2 #[y,H2,I2,r2,q2]=>?_
 refine ag<|eY<|ag<|cK<|thn (hs pq s2 Z H2 x y v ov iv u _ I2 r1 r2 r q2) λ_ s3 #[H3,I3,q3]=>?_
 exact wpAny_release #[Z,H3,I3,q3]
def yT(te:TE)(g:TG):TS:=λD Z H=>te Z H λx H1=>g x Z H1 D.nx
def VW{tg e:Expr}{te:TE}{g:TG}(he:PE X e te)(hg:PG X tg g)(hs:eA [tg] e pos.line X.env=cF ak:=by rfl)(hw:eB [tg] e X.env=cF ae:=by rfl)
  (h1:(cJ [tg] X.env).map (·.2)=[assign tg X.env]:=by rfl):PS X (.Assign [tg] e pos) (yT te g):=by
 intro pq s Z H D I h;refine wpAny_Assign_stores (thn (he pq s Z H _ I h) λv s1 #[x,H1,I1,r1,q1]=>?_) hs hw
 rw[h1];exact thn (hg pq s1 Z H1 x v _ I1 r1 q1) λ_ s2 q=>q
def VL{i:Nat}{x:bq}{e:Expr}{te:TE}{pos':gj}(hN:X.N.Nodup)(hi:X.N[i]?=aa x)(hx:Loc X.env.scope x)(he:PE X e te)(hs:eZ e (aa<|.Name x pos') pos.line X.env=cF ak:=by rfl)(hf:X.fn x=aj\/X.env.scope.names.lookup x=aa .local:=by first|exact .inl rfl|exact .inr rfl|assumption) :
  PS X (.Assign [.Name x pos'] e pos) (yT te<|Qq i):=by
 intro pq s Z H D I h;refine wpAny_Assign_Name (thn (he pq s Z H _ I h) λv s1 #[y,H1,I1,r1,q1]=>?_) hs
 exact X3 I1 hN hi hx r1 (λs2 I2=>#[_,H1,I2,q1]) hf
def Zh5(i j:Nat)(ta:TA):TS:=λD Z H=>ta Z H λvs H1=>∃v w,vs=[v,w]/\D.nx ((Z.set i<|aa v).set j<|aa w) H1
def ZeI{i j:Nat}{x y:bq}{a b:Expr}{ta:TA}{px py pt:gj}{kt k2 pt2}(hc:X.calm=aj)(hN:X.N.Nodup)(hi:X.N[i]?=aa x)(hj:X.N[j]?=aa y)(hij:i≠j)
  (hx:X.env.scope.names.lookup x=aa .local)(hy:X.env.scope.names.lookup y=aa .local)(ha:PA X [a,b] ta)
  (hw:eB [.Tuple [.Name x px,.Name y py] kt pt] (.Tuple [a,b] k2 pt2) X.env=cF (aa [x,y]))
  (hs:eA [.Tuple [.Name x px,.Name y py] kt pt] (.Tuple [a,b] k2 pt2) pos.line X.env=cF ak:=by rfl) :
  PS X (.Assign [.Tuple [.Name x px,.Name y py] kt pt] (.Tuple [a,b] k2 pt2) pos) (Zh5 i j ta):=by
 intro pq s Z H D I h;rw[exec_Assign_arm];refine ag<|eY ?_;rw[hs];refine ag<|aD ?_;rw[T8 #[1]]
 refine ag<|Tuple_<|thn (ha _ pq s Z H _ I h) λus s1 #[vs,H1,I1,r1,q1]=>?_
 obtain⟨v,w,e1,q1⟩:=q1;subst e1;obtain⟨u1,u2,rfl,rv,rw'⟩:∃u1 u2,us=[u1,u2]/\Zy v u1/\Zy w u2:=by
  cases r1 with
  |cons p q=>
   cases q with
   |cons p' q'=>
    cases q';exact#[_,_,rfl,p,p']
 refine bT ?_ (by show 2<=bj;decide)
 have I2:Inv X pq Z H1 {s1 with heap:=s1.heap.push {cls:=.type "tuple",data:=.seq [u1,u2].toArray}}:=I1.kept (t':=s1.toks) λb o e=>aw _ e
 rw[hw];refine ag<|aD ?_;show bf #[10] X.A (do oH "assign.swapped-stores";let items <-unpackItems (.ref s1.heap.objs.size) 2 ae;nM [λv=>bindName X.env y v,λv=>bindName X.env x v] items.reverse;cF Flow.next) _ _ _
 refine ag<|d6<|ag<|unpackItems_tuple (items:=[u1,u2].toArray) #[43] (iW s1.heap _) λh' hx'=>?_
 have I3:=I2.kept (h':=h') (t':=s1.toks) λb o e=>hx' b o (bv<|aQ e) e
 refine ag<|kQ<|wpAny_bindName<|X3 I3 hN hj (.inl hy) rw' (λs2 I4=>?_)<|.inr hy
 refine kQ<|wpAny_bindName<|X3 I4 hN hi (.inl hx) rv (λs3 I5=>oG<|aD ?_)<|.inr hx
 rw[sF _ _<|Ne.symm hij]at I5;exact#[_,H1,I5,q1]
structure It where
 go:Nat->Hp->Prop
 yld:Nat->Hp->V->Hp->Prop
 stop:Nat->Hp->Prop
def Vk(X:Cx)(pq:List (aE×fW))(H:Hp)(b:aE):Prop:=
 H b=ae/\b≠X.env.locals/\b∉X.fs/\(b∈X.ex\/X.s₀.heap.objs.size<=b)/\(∀x c,X.env.cells.lookup x=aa c->c≠b)/\∀p∈X.pn++pq,p.1≠b
def Inv.fpOk(I:Inv X pq Z H s)(hb:s.heap.objs.size<=b)(hn:H' b=ae):Vk X pq H' b:=by
 refine#[hn,gL<|br I.lt hb,I.nofs hb,.inr<|bW I.sz hb,λx c e z=>?_,λp hp z=>?_]
 .obtain⟨v,q⟩:=I.cell x c e
  exact T7 (br q.lt<|by rw[z];exact hb)<|bz _
 .exact T7 (br (aQ (I.pin p hp).1)<|by rw[z];exact hb)<|bz _
structure Turn(P:bE)(w:bZ)(K:am)(tg:Expr)(J:It)(fp:List aE)(it:aE)(tn:Nat->cy->Prop):Prop where
 mem:it∈fp
 obj:∀i h,tn i h->∀b∈fp,∃o,h.get? b=aa o/\∀v,o.data≠.cell v
 keep:∀i h h',tn i h->(∀b∈fp,∀o,h.get? b=aa o->h'.get? b=aa o)->tn i h'
 item:∀(X:Cx),X.prog=P->X.w=w->X.K=K->X.calm=aj->∀(i:Nat)(pq:List (aE×fW))(s:aA)(Z:St)(H:Hp)(E:au->aA->Prop),Inv X pq Z H s->(∀b∈fp,Vk X pq H b)->tn i s.heap->J.go i H->
  bf (aV P w) X.A (o7<|.ref it) (λr s1=>∃u,r=aa u/\
   bf (aV P w) X.A (mM tg (.ref it) u) (λ_ s2=>∃x H',Inv X pq Z H' s2/\Zy x u/\J.yld i H x H'/\tn (i+1) s2.heap/\∀b∈fp,H' b=ae) E s1) E s
 done:∀(X:Cx),X.prog=P->X.w=w->X.K=K->X.calm=aj->∀(i:Nat)(pq:List (aE×fW))(s:aA)(Z:St)(H:Hp)(E:au->aA->Prop),Inv X pq Z H s->(∀b∈fp,Vk X pq H b)->tn i s.heap->J.stop i H->
  bf (aV P w) X.A (o7<|.ref it) (λr s1=>r=ae/\Inv X pq Z H s1) E s
 self:∀(A:cz)(i:Nat)(s:aA)(Q:au->aA->Prop)(E:au->aA->Prop),tn i s.heap->Q (.ref it) s->bf (aV P w) A (n8<|.ref it) Q E s
abbrev TI:=St->Hp->(It->Hp->Prop)->Prop
def PIE(X:Cx)(pq:List (aE×fW))(Z:St)(tg:Expr)(R:It->Hp->Prop)(itv:au)(s2:aA):Prop:=
 ∃(it:aE)(fp:List aE)(tn:Nat->cy->Prop)(J:It)(H':Hp),itv=.ref it/\Inv X pq Z H' s2/\Turn X.prog X.w X.K tg J fp it tn/\tn 0 s2.heap/\(∀b∈fp,Vk X pq H' b)/\R J H'
def PI(X:Cx)(tg iter:Expr)(wi:TI):Prop:=
 ∀pq s Z H R,Inv X pq Z H s->wi Z H R->
  bf #[10] X.A (cu iter X.env) (λv s1=>bf #[10] X.A (n8 v) (PIE X pq Z tg R) X.xe s1) X.xe s
def wZ{E:au->aA->Prop}{Q:Unit->aA->Prop}(ho:s.heap.get? it=aa o)(hc:o.cls=.type n)(hd:o.data=.fields vs)
  (hn:["enumerate","zip","dict_itemiterator","dict_reverseitemiterator","odict_iterator","itertools.zip_longest","itertools.pairwise"].contains n=ak)(hQ:Q () s):bf M A (mM tg (.ref it) u) Q E s:=by
 cases tg<;>first
  |exact aD hQ
  |(cases u<;>first
    |exact aD hQ
    |(refine ag (oa ho ?_)
      rw[hc,hd];show bf M A (if(["enumerate","zip","dict_itemiterator","dict_reverseitemiterator","odict_iterator","itertools.zip_longest","itertools.pairwise"].contains n&&vs[0]? == aa (hZ _))=aj then _ else _) Q E s
      rw[T8 (by intro h;rw[hn,Bool.false_and]at h;cases h)]
      exact aD hQ))
noncomputable def Itl(K:am)(a:aE):It:=
 #[λi H=>∃xs x,SqL K H a xs/\xs[i]?=aa x,λi H x H'=>H'=H/\∀xs,SqL K H a xs->xs[i]?=aa x,λi H=>∃xs,SqL K H a xs/\xs.length<=i]
noncomputable def Itt(K:am)(a:aE):It:=
 #[λi H=>∃xs x,SqT K H a xs/\xs[i]?=aa x,λi H x H'=>H'=H/\∀xs,SqT K H a xs->xs[i]?=aa x,λi H=>∃xs,SqT K H a xs/\xs.length<=i]
noncomputable def Itr(lo:Int)(n:Nat):It:=#[λi _=>i<n,λi H x H'=>H'=H/\x=.int (lo+i),λi _=>n<=i]
def qg{P:bE}{w:bZ}{K:am}{tg:Expr}(a it:aE):Turn P w K tg (Itl K a) [it] it (λi h=>h.IsListIter it a i) where
 mem:=by simp
 obj:=λi h st b hb=>by
  have e:b=it:=by simpa using hb
  subst e;obtain⟨o,e,c,d⟩:=st;exact#[o,e,λv z=>by rw[d]at z;cases z]
 keep:=λi h h' st k=>st.at λo e=>k it #[2] o e
 item:=by
  intro X hP hw hK hc i pq s Z H E I hf st hg;subst hP hw hK;obtain⟨xs,x,hq,hx⟩:=hg;obtain⟨its,rv,p,hz⟩:=I.list hq;obtain⟨u,hu,ru⟩:=rv.get hx;obtain⟨f0,f1,f2,f3,f4,f5⟩:=hf it #[2]
  refine mB st p.isList (by simpa using hu) λh' st' sb=>?_
  have I1:=I.turned (t':=s.toks) (λb o hb e=>(sb.2 b hb).trans e) f0 f1 f3 f4 f5
  obtain⟨o,e,c,d⟩:=id st';exact#[u,rfl,wZ e c d #[1] #[x,H,I1,ru,#[rfl,λys hy=>by rw[I.list_inj hy hq];exact hx],st',λb hb=>(hf b hb).1]]
 done:=by
  intro X hP hw hK hc i pq s Z H E I hf st hg;subst hP hw hK;obtain⟨xs,hq,hx⟩:=hg;obtain⟨its,rv,p,hz⟩:=I.list hq;obtain⟨f0,f1,f2,f3,f4,f5⟩:=hf it #[2]
  have hl:=rv.length;exact mU #[43] st p.isList (by simp;lia) λh' eb=>#[rfl,I.turned (t':=s.toks) (λb o hb e=>eb b o hb e) f0 f1 f3 f4 f5]
 self:=λ_ _ _ _ _ st h=>wpAny_pyIter_listiter st h
def xk{P:bE}{w:bZ}{K:am}{tg:Expr}(a it:aE):Turn P w K tg (Itt K a) [it] it (λi h=>h.IsTupleIter it a i) where
 mem:=by simp
 obj:=λi h st b hb=>by
  have e:b=it:=by simpa using hb
  subst e;obtain⟨o,e,c,d⟩:=st;exact#[o,e,λv z=>by rw[d]at z;cases z]
 keep:=λi h h' st k=>st.at λo e=>k it #[2] o e
 item:=by
  intro X hP hw hK hc i pq s Z H E I hf st hg;subst hP hw hK;obtain⟨xs,x,hq,hx⟩:=hg;obtain⟨its,rv,p,hz⟩:=I.tuple hq;obtain⟨u,hu,ru⟩:=rv.get hx;obtain⟨f0,f1,f2,f3,f4,f5⟩:=hf it #[2]
  refine wpAny_pyNext_tuple_item st (p) (by simpa using hu) λh' st' sb=>?_
  have I1:=I.turned (t':=s.toks) (λb o hb e=>(sb.2 b hb).trans e) f0 f1 f3 f4 f5
  obtain⟨o,e,c,d⟩:=id st';exact#[u,rfl,wZ e c d #[1] #[x,H,I1,ru,#[rfl,λys hy=>by rw[I.tuple_inj hy hq];exact hx],st',λb hb=>(hf b hb).1]]
 done:=by
  intro X hP hw hK hc i pq s Z H E I hf st hg;subst hP hw hK;obtain⟨xs,hq,hx⟩:=hg;obtain⟨its,rv,p,hz⟩:=I.tuple hq;obtain⟨f0,f1,f2,f3,f4,f5⟩:=hf it #[2]
  have hl:=rv.length;exact wpAny_pyNext_tuple_end #[43] st (p) (by simp;lia) λh' eb=>#[rfl,I.turned (t':=s.toks) (λb o hb e=>eb b o hb e) f0 f1 f3 f4 f5]
 self:=λ_ _ _ _ _ st h=>wpAny_pyIter_tupleiter st h
def xL{P:bE}{w:bZ}{K:am}{tg:Expr}(it:aE)(lo:Int)(n:Nat):Turn P w K tg (Itr lo n) [it] it (λi h=>IsRangeIter h it (lo+(i:Nat)*1) ((n:Int)-(i:Nat)) 1) where
 mem:=by simp
 obj:=λi h st b hb=>by
  have e:b=it:=by simpa using hb
  subst e;exact#[_,st,λv z=>by
   have z':=z;cases z']
 keep:=λi h h' st k=>k it #[2] _ st
 item:=by
  intro X hP hw hK hc i pq s Z H E I hf st hg;subst hP hw hK;obtain⟨f0,f1,f2,f3,f4,f5⟩:=hf it #[2]
  have W:=Walks.range (prog:=X.prog) (w:=X.w) #[43] it lo 1 n;refine W.item i s _ _ hg st λv h' tk hv st' kk=>?_
  obtain⟨t,rfl⟩:=hv;have I1:Inv X pq Z H {s with heap:=h',toks:=tk}:=I.turned (λb o hb e=>kk b o (by simpa using hb) e) f0 f1 f3 f4 f5
  refine#[_,rfl,wZ st' rfl rfl #[1] #[.int<|lo+i,H,I1,#[t,?_],#[rfl,rfl],st',λb hb=>(hf b hb).1]]
  rw[Int.mul_one]
 done:=by
  intro X hP hw hK hc i pq s Z H E I hf st hg;subst hP hw hK;obtain⟨f0,f1,f2,f3,f4,f5⟩:=hf it #[2]
  exact mC #[43] st (by have:n<=i:=hg;lia) λh' eb=>#[rfl,I.turned (t':=s.toks) (λb o hb e=>eb b o hb e) f0 f1 f3 f4 f5]
 self:=λ_ _ _ _ _ st h=>iu st h
def yR{pq:List (aE×fW)}{Z:St}{H:Hp}{s:aA}{R:It->Hp->Prop}{E:au->aA->Prop}{lo hi:Int}{t u v:rJ}{tk:Nat}(I:Inv X pq Z H s)(h1:-(2^62)<=lo)(h2:lo<2^62)(h3:-(2^62)<=hi)(h4:hi<2^62)
  (q:R (Itr lo (hi-lo).toNat) H):bf #[10] X.A (n8<|.ref s.heap.objs.size) (PIE X pq Z tg R) E {s with heap:=s.heap.push {cls:=.type "range",data:=.fields [.int lo t,.int hi u,.int 1 v].toArray},toks:=tk}:=by
 refine wpAny_pyIter_range (pU ..) (small_one h1 h2 h3 h4) ?_;have I1:Inv X pq Z H {s with heap:=s.heap.push {cls:=.type "range",data:=.fields [.int lo t,.int hi u,.int 1 v].toArray},toks:=tk}:=I.kept λb o e=>aw _ e
 refine#[(s.heap.push {cls:=.type "range",data:=.fields [.int lo t,.int hi u,.int 1 v].toArray}).objs.size,[(s.heap.push {cls:=.type "range",data:=.fields [.int lo t,.int hi u,.int 1 v].toArray}).objs.size],_,_,H,rfl,
  I1.kept (t':=tk) λb o e=>aw _ e,xL _ lo (hi-lo).toNat,?_,λb hb=>?_,q]
 .have e1:lo+((0:Nat):Int)*1=lo:=by simp
  have e2:(((hi-lo).toNat:Nat):Int)-((0:Nat):Int)=fH lo hi 1:=by rw[nN];split<;>lia
  rw[e1,e2];exact aR _ rfl
 .have e:b=(s.heap.push {cls:=.type "range",data:=.fields [.int lo t,.int hi u,.int 1 v].toArray}).objs.size:=by simpa using hb
  subst e;exact I1.fpOk (aI _)<|I1.hok.fresh<|aI _
def Zhr(ta:TA):TI:=λZ H R=>ta Z H λvs H1=>∃j:Int,vs=[.int j]/\-(2^62)<=j/\j<2^62/\R (Itr 0 j.toNat) H1
def Zhn(ta:TA):TI:=λZ H R=>ta Z H λvs H1=>∃i j:Int,vs=[.int i,.int j]/\(-(2^62)<=i/\i<2^62/\-(2^62)<=j/\j<2^62)/\R (Itr i (j-i).toNat) H1
def ux{a:Expr}{ta:TA}{p pos:gj}(hg:Gl X "range")(hm:X.mg "range" = ae)(ha:PA X [a] ta)(hs:aB [a] X.env=[#[37]]:=by rfl):PI X tg (.Call (.Name "range" p) [a] [] pos) (Zhr ta):=by
 intro pq s Z H R I h;refine rM<|Y1 I hg hm oh<|bU (thn (ha pos pq s Z H _ I h) λus s1 #[vs,H1,I1,r1,q1]=>?_) hs rfl
 obtain⟨j,e,q1,q2,q⟩:=q1;subst e;cases r1 with
 |cons r rr=>
  cases rr;obtain⟨t,rfl⟩:=r;exact call_range_1<|yR I1 #[0] #[0] q1 q2 (by simpa using q)
def uZ{a b:Expr}{ta:TA}{p pos:gj}(hg:Gl X "range")(hm:X.mg "range" = ae)(ha:PA X [a,b] ta)(hs:aB [a,b] X.env=[#[37],(ak,cu b X.env)]:=by rfl)(hs2:aB [b] X.env=[(ak,cu b X.env)]:=by rfl) :
  PI X tg (.Call (.Name "range" p) [a,b] [] pos) (Zhn ta):=by
 intro pq s Z H R I h;refine rM<|Y1 I hg hm oh<|bU (thn (ha pos pq s Z H _ I h) λus s1 #[vs,H1,I1,r1,q1]=>?_) (by rw[hs,hs2]) (by rw[hs2];rfl)
 obtain⟨i,j,e,⟨q1,q2,q3,q4⟩,q⟩:=q1;subst e;cases r1 with
 |cons r rr=>
  cases rr with
  |cons r' rr=>
   cases rr;obtain⟨t,rfl⟩:=r;obtain⟨t',rfl⟩:=r';exact call_range_2<|yR I1 q1 q2 q3 q4 q
def Zh8(wi:TI)(g:TG)(tb:TS):TS:=λD Z H=>wi Z H λJ H1=>∃W:Nat->Nat->St->Hp->Prop,(∃m,W 0 m Z H1)/\∀i m Z H,W i m Z H->
 (J.stop i H/\D.nx Z H)\/(J.go i H/\∃N:St->Hp->Prop,(∀σ' H',N σ' H'->∃m',m'<m/\W (i+1) m' σ' H')/\∀x H',J.yld i H x H'->g x Z H' λσ2 H2=>tb {D with nx:=N,ct:=N,bk:=D.nx} σ2 H2)
noncomputable def Qk(fp:List aE)(h:cy):List (aE×fW):=fp.filterMap λb=>(h.get? b).map λo=>(b,o)
def XD(hb:b∈fp)(e:h.get? b=aa o):(b,o)∈Qk fp h:=oi.mpr #[b,hb,by rw[e];rfl]
def qh(hp:p∈Qk fp h):p.1∈fp/\h.get? p.1=aa p.2:=by
 obtain⟨b,hb,e⟩:=oi.mp hp;cases q:h.get? b with
 |none=>rw[q]at e;cases e
 |some o=>
  rw[q]at e;have e':=aq e;subst e';exact#[hb,q]
def Inv.pinned(I:Inv X pq Z H s)(hf:∀b∈fp,Vk X pq H b)(ho:∀b∈fp,∃o,s.heap.get? b=aa o/\∀v,o.data≠.cell v):Inv X (pq++Qk fp s.heap) Z H s:=
 I.pins_of λp hp=>(bK.mp hp).elim (λz=>I.pin p<|bt _ z) λz=>by
  obtain⟨hb,e⟩:=qh z;obtain⟨f0,f1,f2,_⟩:=hf p.1 hb;obtain⟨o,e',d⟩:=ho p.1 hb;rw[e]at e';cases e';exact#[e,f0,f1,f2,d]
def Inv.unpinned(I:Inv X (pq++pl) Z H s):Inv X pq Z H s:=I.pins_of λp hp=>I.pin p<|bt _<|cX _ hp
def Zf3{iter:Expr}{body:List fg}{wi:TI}{g:TG}{tb:TS}{pos:gj}(hp:PassesOwn #[10] X.A X.env X.xe)(hc:X.calm=aj)(hi:PI X tg iter wi)(hg:PG X tg g)(hb:PSs X body tb)
  (hs:∀x,cc iter X.env x=cF x:=by intro _;rfl):PS X (.For tg iter body [] pos) (Zh8 wi g tb):=by
 intro pq s Z H D I h;refine wpAny_For (thn (hi pq s Z H _ I h) λv s1 h1=>thn h1 λitv s2 h2=>?_) hs
 obtain⟨it,fp,tn,J,H2,e,I2,T,st2,f2,W,⟨m0,w0⟩,turn⟩:=h2;subst e;have stat:∀{H':Hp},(∀b∈fp,H' b=ae)->∀b∈fp,Vk X pq H' b:=λhn b hb=>#[hn b hb,(f2 b hb).2]
 refine codeAny_forLoop_any (λn s'=>∃i σ' H',Inv X pq σ' H' s'/\tn i s'.heap/\(∀b∈fp,H' b=ae)/\W i n σ' H') ?_ m0 #[0,Z,H2,I2,st2,λb hb=>(f2 b hb).1,w0]
 rintro n s3 ⟨i,σ3,H3,I3,st3,fr3,w3⟩
 rcases turn i n σ3 H3 w3 with⟨stop,qn⟩|⟨go,N,hN,step⟩
 .refine g9 hp (thn (T.done X rfl rfl rfl hc i pq s3 σ3 H3 X.xe I3 (stat fr3) st3 stop) λr s4 #[hr,I4]=>?_)
  subst hr;exact g8 #[σ3,H3,I4,qn]
 .refine g9 hp (thn (T.item X rfl rfl rfl hc i pq s3 σ3 H3 X.xe I3 (stat fr3) st3 go) λr s4 #[u,hr,h4]=>?_)
  subst hr;refine g9 hp<|thn h4 λ_ s5 #[x,H5,I5,r5,y5,st5,fr5]=>?_
  have I5':=I5.pinned (stat fr5)<|T.obj _ _ st5;refine g9 hp<|thn (hg _ s5 σ3 H5 x u _ I5' r5<|step x H5 y5) λ_ s6 #[σ6,H6,I6,q6]=>?_
  refine g9 hp<|thn (hb _ s6 σ6 H6 _ I6 q6) λf s7 q7=>?_
  have again:∀{σ7:St}{H7:Hp},Inv X (pq++Qk fp s5.heap) σ7 H7 s7->N σ7 H7->∃m,m<n/\∃i σ' H',Inv X pq σ' H' s7/\tn i s7.heap/\(∀b∈fp,H' b=ae)/\W i m σ' H':=λ{σ7 H7} I7 n7=>by
   obtain⟨m',hm,w7⟩:=hN σ7 H7 n7;refine#[m',hm,i+1,σ7,H7,I7.unpinned,T.keep _ _ _ st5 λb hb o e=>(I7.pin (b,o)<|bt _<|bt _<|XD hb e).1,λb hb=>?_,w7]
   obtain⟨o,e,d⟩:=T.obj _ _ st5 b hb;exact(I7.pin (b,o)<|bt _<|bt _<|XD hb e).2.1
  cases f with|next=>obtain⟨σ7,H7,I7,n7⟩:=q7;exact again I7 n7|cont=>obtain⟨σ7,H7,I7,n7⟩:=q7;exact again I7 n7|brk=>obtain⟨σ7,H7,I7,q7⟩:=q7;exact#[σ7,H7,I7.unpinned,q7]|ret v=>obtain⟨x7,σ7,H7,I7,r7,q7⟩:=q7;exact#[x7,σ7,H7,I7.unpinned,r7,q7]
abbrev R2:=V->V->Hp->VK->Prop
def OpR(X:Cx)(f:au->au->oD au)(r:R2):Prop:=
 ∀pq s Z H x y v u Q,Inv X pq Z H s->Zy x v->Zy y u->r x y H Q->
  bf #[10] X.A (f v u) (EP X pq Z Q) X.xe s
def UnR(X:Cx)(f:au->oD au)(r:V->Hp->VK->Prop):Prop:=
 ∀pq s Z H x v Q,Inv X pq Z H s->Zy x v->r x H Q->
  bf #[10] X.A (f v) (EP X pq Z Q) X.xe s
def ZB(X:Cx)(f:au)(r:List V->Hp->VK->Prop):Prop:=
 ∀pq s Z H xs us Q,Inv X pq Z H s->Vals xs us->r xs H Q->
  bf #[10] X.A (call f us) (EP X pq Z Q) X.xe s
def Zic(X:Cx)(r:V->Hp->(Bool->Hp->Prop)->Prop):Prop:=
 ∀pq s Z H x v Q,Inv X pq Z H s->Zy x v->r x H Q->
  bf #[10] X.A (sS v) (TP X pq Z Q) X.xe s
def tOp(r:R2)(ta tb:TE):TE:=λZ H Q=>ta Z H λx H1=>tb Z H1 λy H2=>r x y H2 Q
def tUn(r:V->Hp->VK->Prop)(ta:TE):TE:=λZ H Q=>ta Z H λx H1=>r x H1 Q
def rI(C:Int->Int->Prop)(g:Int->Int->V):R2:=λx y H Q=>∃i j,x=.int i/\y=.int j/\C i j/\Q (g i j) H
def rI0(g:Int->Int->V):R2:=λx y H Q=>∃i j,x=.int i/\y=.int j/\Q (g i j) H
def rU(g:Int->V):V->Hp->VK->Prop:=λx H Q=>∃i,x=.int i/\Q (g i) H
def ZfA(ha:PE X a ta)(hb:PE X b tb){pq:List (aE×fW)}{s:aA}{Z:St}{H:Hp}{R:V->V->Hp->Prop}(I:Inv X pq Z H s)
  (h:ta Z H λx H1=>tb Z H1 λy H2=>R x y H2){Q:au->aA->Prop}{f:au->au->oD au}
  (hf:∀v u s2 x y H2,Inv X pq Z H2 s2->Zy x v->Zy y u->R x y H2->bf #[10] X.A (f v u) Q X.xe s2) :
  bf #[10] X.A (cu a X.env) (λv s₁=>bf #[10] X.A (cu b X.env) (λu s₂=>bf #[10] X.A (f v u) Q X.xe s₂) X.xe s₁) X.xe s:=by
 refine thn #[47] λv s1 #[x,H1,I1,r1,q1]=>?_
 refine thn (hb pq s1 Z H1 _ I1 q1) λu s2 #[y,H2,I2,r2,q2]=>?_
 exact hf v u s2 x y H2 I2 r1 r2 q2
def Uj(ho:OpR X (fA op) r)(ha:PE X a ta)(hb:PE X b tb):PE X (.BinOp a op b pos) (tOp r ta tb):=by
 intro pq s Z H Q I h;exact wpAny_BinOp<|ZfA ha hb I h λv u s2 x y H2 I2 rx ry q=>ho pq s2 Z H2 x y v u Q I2 rx ry q
def Zel{op:UnaryOp}{r:V->Hp->VK->Prop}(ho:UnR X (unaryOp op) r)(ha:PE X a ta):PE X (.UnaryOp op a pos) (tUn r ta):=by
 intro pq s Z H Q I h;exact UnaryOp_<|thn #[47]<|by rintro v s1 ⟨x,H1,I1,r1,q1⟩;exact ho pq s1 Z H1 x v Q I1 r1 q1
def opI{f:au->au->oD au}{C:Int->Int->Prop}{g:Int->Int->Int}
  (oH:∀(i j:Int)(t u:rJ)(s:aA)(Q:au->aA->Prop)(E:au->aA->Prop),C i j->Q (.int (g i j) s.toks) {s with toks:=s.toks+1}->bf #[10] X.A (f (.int i t)<|.int j u) Q E s) :
  OpR X f (rI C λi j=>.int<|g i j):=by
 intro pq s Z H x y v u Q I rx ry h;obtain⟨i,j,rfl,rfl,hc,q⟩:=h;obtain⟨t,rfl⟩:=rx;obtain⟨t',rfl⟩:=ry;exact oH i j t t' s _ _ hc #[.int<|g i j,H,I.tok _,#[_,rfl],q]
def ZhF{f:au->au->oD au}{g:Int->Int->Int}
  (oH:∀(i j:Int)(t u:rJ)(s:aA)(Q:au->aA->Prop)(E:au->aA->Prop),Q (.int (g i j) s.toks) {s with toks:=s.toks+1}->bf #[10] X.A (f (.int i t)<|.int j u) Q E s) :
  OpR X f (rI0 λi j=>.int<|g i j):=by
 intro pq s Z H x y v u Q I rx ry h;obtain⟨i,j,rfl,rfl,q⟩:=h;obtain⟨t,rfl⟩:=rx;obtain⟨t',rfl⟩:=ry;exact oH i j t t' s _ _ #[.int<|g i j,H,I.tok _,#[_,rfl],q]
def ZcI{f:au->au->oD au}{g:Int->Int->Bool}
  (oH:∀(i j:Int)(t u:rJ)(s:aA)(Q:au->aA->Prop)(E:au->aA->Prop),Q (.bool<|g i j) s->bf #[10] X.A (f (.int i t)<|.int j u) Q E s) :
  OpR X f (rI0 λi j=>.bl<|g i j):=by
 intro pq s Z H x y v u Q I rx ry h;obtain⟨i,j,rfl,rfl,q⟩:=h;obtain⟨t,rfl⟩:=rx;obtain⟨t',rfl⟩:=ry;exact oH i j t t' s _ _ #[.bl<|g i j,H,I,rfl,q]
def CPow(i j:Int):Prop:=0<=j/\j<=1000000/\i.natAbs<2^64
def Zgg:OpR X (fA .Add) (rI0 λi j=>.int<|i+j):=ZhF λ_ _ _ _ _ _ _ q=>add_int q
def Zfg:OpR X (fA .Sub) (rI0 λi j=>.int<|i-j):=ZhF λ_ _ _ _ _ _ _ q=>sub_int q
def Zgh:OpR X (fA .Mod) (rI (λ_ j=>0<j) λi j=>.int<|i%j):=opI λi j _ _ _ _ _ hc q=>by
 have h1:=hc;exact mod_int' #[0] (by rw[Int.fmod_eq_emod_of_nonneg i #[0]];exact q)
def ZeC:OpR X (fA .Pow) (rI CPow λi j=>.int<|i^j.toNat):=opI λ_ _ _ _ _ _ _ hc q=>pow_int_small hc.1 hc.2.1 hc.2.2 q
def unI{f:au->oD au}{g:Int->Int}
  (oH:∀(i:Int)(t:rJ)(s:aA)(Q:au->aA->Prop)(E:au->aA->Prop),Q (.int (g i) s.toks) {s with toks:=s.toks+1}->bf #[10] X.A (f<|.int i t) Q E s) :
  UnR X f (rU λi=>.int<|g i):=by
 intro pq s Z H x v Q I rx h;obtain⟨i,rfl,q⟩:=h;obtain⟨t,rfl⟩:=rx;exact oH i t s _ _ #[.int<|g i,H,I.tok _,#[_,rfl],q]
def Zbp:UnR X (unaryOp .USub) (rU λi=>.int<|-i):=unI λ_ _ _ _ _ q=>neg_int q
noncomputable def scal:V->V->Bool
 |.non,.non=>aj|.non,.int _=>aj|.int _,.non=>aj|.non,.bl _=>aj|.bl _,.non=>aj|.non,.str _=>aj|.str _,.non=>aj
 |.int _,.int _=>aj|.bl _,.bl _=>aj|.str _,.str _=>aj
 |.int _,.str _=>aj|.str _,.int _=>aj|.bl _,.str _=>aj|.str _,.bl _=>aj
 |_,_=>ak
def rEq:R2:=λx y H Q=>scal x y=aj/\Q (.bl<|af<|x=y) H
def rNe:R2:=λx y H Q=>scal x y=aj/\Q (.bl<|!decide (x=y)) H
def vz :af (V.int i=V.int j)=(i == j):=by
 rw[cA];simp
def ZaF :af (V.bl i=V.bl j)=(i == j):=by
 rw[cA];simp
def vM :af (V.str i=V.str j)=(i == j):=by
 rw[cA];simp
def ZF(I:Inv X pq Z H s)(q:Q (.bl k) H)(e:k=k'):EP X pq Z Q (.bool k') s:=by
 subst e;exact#[.bl k,H,I,rfl,q]
def ZhE:OpR X (cO .Eq) rEq:=by
 intro pq s Z H x y v u Q I rx ry h;obtain⟨hs,q⟩:=h;cases x with
 |non=>
  cases rx;cases y with|non=>cases ry;exact PySem.EqNone.eq_none_none<|ZF I q #[2]|bl j=>cases ry;exact PySem.EqNone.eq_none_bool<|ZF I q #[2]|int j=>obtain⟨t',rfl⟩:=ry;exact PySem.EqNone.eq_none_int<|ZF I q #[2]|str j=>obtain⟨t',rfl⟩:=ry;exact PySem.EqNone.eq_none_str<|ZF I q #[2]|_=>exact T7 (hs) aS
 |bl i=>
  cases rx;cases y with|non=>cases ry;exact PySem.EqNone.eq_bool_none<|ZF I q #[2]|bl j=>cases ry;exact eq_bool<|ZF I q ZaF|str j=>obtain⟨t',rfl⟩:=ry;exact PySem.EqMixed.eq_bool_str<|ZF I q #[2]|_=>exact T7 (hs) aS
 |int i=>
  obtain⟨t,rfl⟩:=rx;cases y with|non=>cases ry;exact PySem.EqNone.eq_int_none<|ZF I q #[2]|int j=>obtain⟨t',rfl⟩:=ry;exact eq_int<|ZF I q vz|str j=>obtain⟨t',rfl⟩:=ry;exact PySem.EqMixed.eq_int_str<|ZF I q #[2]|_=>exact T7 (hs) aS
 |str i=>
  obtain⟨t,rfl⟩:=rx;cases y with|non=>cases ry;exact PySem.EqNone.eq_str_none<|ZF I q #[2]|bl j=>cases ry;exact PySem.EqMixed.eq_str_bool<|ZF I q #[2]|int j=>obtain⟨t',rfl⟩:=ry;exact PySem.EqMixed.eq_str_int<|ZF I q #[2]|str j=>obtain⟨t',rfl⟩:=ry;exact eq_str<|ZF I q vM|_=>exact T7 (hs) aS
 |_=>cases y<;>exact T7 (hs) aS
def ZgI:OpR X (cO .NotEq) rNe:=by
 intro pq s Z H x y v u Q I rx ry h;obtain⟨hs,q⟩:=h;cases x with
 |non=>
  cases rx;cases y with|non=>cases ry;exact PySem.EqNone.ne_none_none<|ZF I q #[2]|bl j=>cases ry;exact PySem.EqNone.ne_none_bool<|ZF I q #[2]|int j=>obtain⟨t',rfl⟩:=ry;exact PySem.EqNone.ne_none_int<|ZF I q #[2]|str j=>obtain⟨t',rfl⟩:=ry;exact PySem.EqNone.ne_none_str<|ZF I q #[2]|_=>exact T7 (hs) aS
 |bl i=>
  cases rx;cases y with|non=>cases ry;exact PySem.EqNone.ne_bool_none<|ZF I q #[2]|bl j=>cases ry;exact ne_bool<|ZF I q<|congrArg not ZaF|str j=>obtain⟨t',rfl⟩:=ry;exact PySem.EqMixed.ne_bool_str<|ZF I q #[2]|_=>exact T7 (hs) aS
 |int i=>
  obtain⟨t,rfl⟩:=rx;cases y with|non=>cases ry;exact PySem.EqNone.ne_int_none<|ZF I q #[2]|int j=>obtain⟨t',rfl⟩:=ry;exact ne_int<|ZF I q<|congrArg not vz|str j=>obtain⟨t',rfl⟩:=ry;exact PySem.EqMixed.ne_int_str<|ZF I q #[2]|_=>exact T7 (hs) aS
 |str i=>
  obtain⟨t,rfl⟩:=rx;cases y with|non=>cases ry;exact PySem.EqNone.ne_str_none<|ZF I q #[2]|bl j=>cases ry;exact PySem.EqMixed.ne_str_bool<|ZF I q #[2]|int j=>obtain⟨t',rfl⟩:=ry;exact PySem.EqMixed.ne_str_int<|ZF I q #[2]|str j=>obtain⟨t',rfl⟩:=ry;exact ne_str<|ZF I q<|congrArg not vM|_=>exact T7 (hs) aS
 |_=>cases y<;>exact T7 (hs) aS
def Zhe:OpR X (cO .Lt) (rI0 λi j=>.bl<|af<|i<j):=ZcI λ_ _ _ _ _ _ _ q=>lt_int q
def Zhu:OpR X (cO .LtE) (rI0 λi j=>.bl<|af<|i<=j):=ZcI λ_ _ _ _ _ _ _ q=>le_int q
def ZgK:OpR X (cO .Gt) (rI0 λi j=>.bl<|af<|j<i):=ZcI λ_ _ _ _ _ _ _ q=>gt_int q
def Zhg:OpR X (cO .GtE) (rI0 λi j=>.bl<|af<|j<=i):=ZcI λ_ _ _ _ _ _ _ q=>ge_int q
def Zfc:OpR X (cO .Is) (λx y H Q=>y=.non/\Q (.bl<|af<|x=.non) H):=by
 intro pq s Z H x y v u Q I rx ry h;obtain⟨rfl,q⟩:=h;cases ry;refine is_none_gen<|ZF I q ?_;cases x<;>first
  |(cases rx;rfl)
  |(obtain⟨t,rfl⟩:=rx;rfl)
def OpR.or(h:OpR X f r)(h':OpR X f r'):OpR X f (λx y H Q=>r x y H Q\/r' x y H Q):=by
 intro pq s Z H x y v u Q I rx ry q;rcases q with q|q
 .exact h pq s Z H x y v u Q I rx ry q
 .exact h' pq s Z H x y v u Q I rx ry q
def Ze3(b:Expr)(h:op≠.In:=by decide)(h2:op≠.NotIn:=by decide):eX op b=ak:=by
 have e1:(op == sU.In)=ak:=by cases op<;>first|rfl|exact T7 rfl h
 have e2:(op == sU.NotIn)=ak:=by cases op<;>first|rfl|exact T7 rfl h2
 cases b<;>simp[eX,e1,e2]
def Zd2(ho:OpR X (cO op) r)(ha:PE X a ta)(hb:PE X b tb)(hm:eX op b=ak):PE X (.Compare a [op] [b] pos) (tOp r ta tb):=by
 intro pq s Z H Q I h;exact wpAny_Compare1 (ZfA ha hb I h λv u s2 x y H2 I2 rx ry q=>ho pq s2 Z H2 x y v u Q I2 rx ry q) hm
def ZgD(t:TE):TT:=λZ H Q=>t Z H λx H'=>∃k,x=.bl k/\Q k H'
def Zdt(ho:OpR X (cO op) r)(ha:PE X a ta)(hb:PE X b tb)(hm:eX op b=ak):PT X (.Compare a [op] [b] pos) (ZgD<|tOp r ta tb):=by
 intro pq s Z H Q I h;refine mT (thn #[47] λv s1 #[x,H1,I1,r1,q1]=>thn (hb pq s1 Z H1 _ I1 q1) λu s2 #[y,H2,I2,r2,q2]=>
  thn (ho pq s2 Z H2 x y v u _ I2 r1 r2 q2) λc s3 #[z,H3,I3,r3,k,e,q3]=>?_) hm
 subst e;cases r3;exact eJ #[H3,I3,q3]
def ZfP(r r':R2)(ta tb tc:TE):TE:=λZ H Q=>ta Z H λx H1=>tb Z H1 λy H2=>r x y H2 λz H3=>∃k,z=.bl k/\
 (if k=aj then tc Z H3 λw' H4=>r' y w' H4 Q else Q (.bl ak) H3)
def jq(ho:OpR X (cO op) r)(ho':OpR X (cO op') r')(ha:PE X a ta)(hb:PE X b tb)(hc:PE X c tc)
  (hm:lastMarks [op,op'] [b,c]=ak:=by with_unfolding_all rfl):PE X (.Compare a [op,op'] [b,c] pos) (ZfP r r' ta tb tc):=by
 intro pq s Z H Q I h;refine Compare_chain (thn #[47] λv s1 #[x,H1,I1,r1,q1]=>chain_link (thn (hb pq s1 Z H1 _ I1 q1) λu s2 #[y,H2,I2,r2,q2]=>
  thn (ho pq s2 Z H2 x y v u _ I2 r1 r2 q2) λd s3 #[z,H3,I3,r3,k,e,q3]=>?_)) hm
 subst e;cases r3;refine eJ ?_;cases k with|false=>exact ite_ff #[.bl ak,H3,I3,rfl,q3]|true=>exact ite_tt<|chain_last<|thn (hc pq s3 Z H3 _ I3 q3)<|by rintro w' s4 ⟨z',H4,I4,r4,q4⟩;exact ho' pq s4 Z H4 y z' u w' Q I4 r2 r4 q4
def Zcc(K:am)(x:V)(H:Hp)(k:Bool):Prop:=
 match x with
 |.non=>k=ak
 |.bl b=>k=b
 |.int i=>k=(i != 0)
 |.str y=>y.length<=bj/\k=((y.length:Int) != 0)
 |.ref p=>(∃xs,SqL K H p xs/\k = !xs.isEmpty)\/(∃xs,SqT K H p xs/\k = !xs.isEmpty)\/∃kvs,H p=aa (.dK kvs)/\k = !kvs.isEmpty
 |_=>False
def xM{κ:Type}{kvs:List (κ×V)}{vs:List (κ×au)}(r:KV kvs vs):(!vs.isEmpty) = !kvs.isEmpty:=by
 cases r<;>rfl
def UQ{xs:List V}{its:List au}(r:Vals xs its):(!its.toArray.isEmpty) = !xs.isEmpty:=by
 cases r<;>simp
def U7:(bj:Nat)<2^63:=by rw[du];decide
def ZbI:Zic X (λx H Q=>∃k,Zcc X.K x H k/\Q k H):=by
 intro pq s Z H x v Q I rx h;obtain⟨k,e,q⟩:=h;have hl:=U7;have hs:=du;cases x with
 |non=>
  cases rx;have e':=e;subst e';exact truthy_none #[H,I,q]
 |bl b=>
  cases rx;have e':k=b:=e;subst e';exact eJ #[H,I,q]
 |int i=>
  obtain⟨t,rfl⟩:=rx;have e':=e;subst e';exact oj #[H,I,q]
 |str y=>
  obtain⟨t,rfl⟩:=rx;obtain⟨hy,e'⟩:=e;subst e';exact PySem.P.truthy_str #[0] #[H,I.tok _,q]
 |ref p=>
  cases rx;have e':=e;rcases e' with⟨xs,hx,e'⟩|⟨xs,hx,e'⟩|⟨kvs,hx,e'⟩
  .subst e'
   obtain⟨its,r,pl,hz⟩:=I.list hx;have hlen:=r.length;exact wpAny_truthy_list pl.isList (by simp only[az];lia) #[H,I.tok _,by rw[UQ r];exact q]
  .subst e'
   obtain⟨its,r,pl,hz⟩:=I.tuple hx;have hlen:=r.length;exact truthy_tuple pl (by simp only[az];lia) #[H,I.tok _,by rw[UQ r];exact q]
  .subst e'
   obtain⟨hz,hS,vs,r,m⟩:=I.hok p _ hx;have hlen:=Paired.length r;exact wpAny_truthy_dict hS m #[0] #[H,I.tok _,by rw[xM r];exact q]
 |_=>exact(e).elim
def Zbx(ha:PE X a ta)(he:∀whole,isTrue a X.env whole=(do let v <-whole;lD a.pos;i8 [v] (sS v))) :
  PT X a (λZ H Q=>ta Z H λx H'=>∃k,Zcc X.K x H' k/\Q k H'):=by
 intro pq s Z H Q I h;exact isTrue_plain (thn #[47]<|by rintro v s1 ⟨x,H1,I1,r1,q1⟩;exact ZbI pq s1 Z H1 x v Q I1 r1 q1)<|he _
def Wb(r:Vals [x] us):∃u,us=[u]/\Zy x u:=by
 cases r with|cons r1 r2=>cases r2;exact#[_,rfl,r1]
def yn(r:Vals [x,y] us):∃u w',us=[u,w']/\Zy x u/\Zy y w':=by
 cases r with
 |cons r1 r2=>
  cases r2 with|cons r3 r4=>cases r4;exact#[_,_,rfl,r1,r3]
def uM(hc:X.calm=aj):ZB X (.builtin "max") (λxs H Q=>∃i j,xs=[.int i,.int j]/\Q (.int (if j>i then j else i)) H):=by
 intro pq s Z H xs us Q I r h;obtain⟨i,j,rfl,q⟩:=h;obtain⟨u,w',rfl,⟨t,rfl⟩,⟨t',rfl⟩⟩:=yn r;refine max_two_ints #[43] λh' tk k=>#[_,H,I.kept k,?_,q]
 by_cases hj:j>i
 .rw[T9 hj,T9 hj];exact#[_,rfl]
 .rw[T8 hj,T8 hj];exact#[_,rfl]
def ub(hc:X.calm=aj):ZB X (.builtin "min") (λxs H Q=>∃i j,xs=[.int i,.int j]/\Q (.int (if j<i then j else i)) H):=by
 intro pq s Z H xs us Q I r h;obtain⟨i,j,rfl,q⟩:=h;obtain⟨u,w',rfl,⟨t,rfl⟩,⟨t',rfl⟩⟩:=yn r;refine min_two_ints #[43] λh' tk k=>#[_,H,I.kept k,?_,q]
 by_cases hj:j<i
 .rw[T9 hj,T9 hj];exact#[_,rfl]
 .rw[T8 hj,T8 hj];exact#[_,rfl]
def uJ:ZB X (.type "int") (λxs H Q=>(∃i,xs=[.int i]/\Q (.int i) H)\/∃k,xs=[.bl k]/\Q (.int (if k then 1 else 0)) H):=by
 intro pq s Z H xs us Q I r h;rcases h with⟨i,rfl,q⟩|⟨k,rfl,q⟩
 .obtain⟨u,rfl,t,rfl⟩:=Wb r
  exact call_int_int #[.int i,H,I,#[_,rfl],q]
 .obtain⟨u,rfl,r1⟩:=Wb r
  cases r1;exact call_int_bool #[.int (if k then 1 else 0),H,I.tok _,#[_,rfl],q]
structure ObjM(h:cy)(x dx C:aE)(mA:bq->Option au):Prop where
 obj:h.get? x=aa (PySem.W.instObj C dx)
 ns:h.Ns1 dx mA
 ne:dx≠x
structure Cls(K:am)(C:aE):Prop where
 pg:o8 K C bq.empty=aj
 hd:PySem.W.hasDictIn K C=aj
 po:PySem.W.plainOver K C=aj
 sa:PySem.W.findIn K (.ref C) "__setattr__" = aa (aa<|.builtin "object.__setattr__")
def Cls.get{K:am}{C:aE}(c:Cls K C)(f:bq):o8 K C f=aj:=c.pg
inductive TyOf(K:am)(H:Hp):V->au->Prop where
 |non:TyOf K H .non (.type "NoneType")
 |bl (x:Bool):TyOf K H (.bl x) (.type "bool")
 |int (i:Int):TyOf K H (.int i) (.type "int")
 |str (x:bq):TyOf K H (.str x) (.type "str")
 |lst {a:aE} {xs:List V} (e:H a=aa (.lst xs)):TyOf K H (.ref a) (.type "list")
 |frz {a:aE} {o:fW} {xs:List V} (e:H a=aa (.frz o<|.lst xs)):TyOf K H (.ref a) (.type "list")
 |tup {a:aE} {xs:List V} (e:H a=aa (.tup xs)):TyOf K H (.ref a) (.type "tuple")
 |dK {a:aE} {kvs:List (Key×V)} (e:H a=aa (.dK kvs)):TyOf K H (.ref a) (.type "dict")
 |dT {a:aE} {kvs:List (List Key×V)} (e:H a=aa (.dT kvs)):TyOf K H (.ref a) (.type "dict")
def qz(I:Inv X pq Z H s)(rx:Zy x u)(ty:TyOf X.K H x t)(e:gD X.K t c=aa b)(h:∀tk,Q (.bool b) {s with toks:=tk}) :
  bf #[10] A (call (.builtin "isinstance") [u,c]) Q E s:=by
 cases ty with
 |non=>cases(rx);exact dL oI I.kIn dU e #[18] h
 |bl y=>cases(rx);exact dL oJ I.kIn dU e #[18] h
 |int i=>obtain⟨t,q⟩:=(rx);cases q;exact dL o9 I.kIn dU e #[18] h
 |str y=>obtain⟨t,q⟩:=(rx);cases q;exact dL pb I.kIn dU e #[18] h
 |@lst a xs ea=>
  cases(rx)
  obtain⟨_,_,n,_,h1⟩:=(I.hok a _ ea)
  exact dL iz I.kIn #[_,h1,rfl] e #[18] h
 |@frz a ob xs ea=>
  cases(rx)
  obtain⟨_,_,_,n,_,h1⟩:=(I.hok a _ ea)
  exact dL iz I.kIn #[_,h1,rfl] e #[18] h
 |@tup a xs ea=>
  cases(rx)
  obtain⟨_,_,_,p⟩:=(I.hok a _ ea)
  obtain⟨o,h1,h2,_⟩:=p;exact dL om I.kIn #[o,h1,h2] e #[18] h
 |@dK a kvs ea=>
  cases(rx)
  obtain⟨_,_,vs,_,p⟩:=(I.hok a _ ea)
  obtain⟨o,es,ep,h1,h2,_⟩:=p;exact dL iA I.kIn #[o,h1,h2.1] e #[18] h
 |@dT a kvs ea=>
  cases(rx)
  obtain⟨_,_,xs,_,o,es,ep,h1,h2,_⟩:=(I.hok a _ ea)
  exact dL iA I.kIn #[o,h1,h2.1] e #[18] h
structure Room(k:Nat)(A:cz):Prop where
 hd:A.handled=ae
 dp:A.depth+3*k+5<recursionLimit
 un:A.units+16*k+200<dN
 gd:A.guards=aa []
def Room.mono{j k:Nat}{A:cz}(r:Room k A)(h:j<=k):Room j A:=#[r.hd,by have:=r.dp;lia,by have:=r.un;lia,r.gd]
theorem Room.deeper{k:Nat}{A:cz}(r:Room (k+1) A)(env:Env):Room k (A.deeper env):=
 #[r.hd,by have:=r.dp;show A.depth+1+3*k+5<_;lia,by have:=r.un;show A.units+3+16*k+200<_;lia,r.gd]
theorem Room.depth(r:Room k A):A.depth<recursionLimit:=by have:=r.dp;lia
def Gb:TA:=λ_ H Q=>Q [] H
def YJ(ta:TE)(tr:TA):TA:=λZ H Q=>ta Z H λx H1=>tr Z H1 λxs H2=>Q (x::xs) H2
def Ym:PA X [] Gb:=λ_ _ _ _ H Q I h=>Calls.spliced_nil #[[],H,I,.nil,h]
def Zz(ha:PE X e te)(hr:PA X es t)(hs:aB (e::es) X.env=#[20]::aB es X.env:=by rfl):PA X (e::es) (YJ te t):=by
 intro pos pq s Z H Q I h;rw[hs];refine Calls.spliced_cons<|thn #[47] λu s1 #[x,H1,I1,r1,q1]=>?_
 exact thn (hr pos pq s1 Z H1 _ I1 q1)<|by rintro us s2 ⟨xs,H2,I2,r2,q2⟩;exact #[x::xs,H2,I2,.cons r1 r2,q2]
def Zie(t:TA):TE:=λZ H Q=>t Z H λxs H1=>xs.length<=bj/\∀p,H1 p=ae->Q (.ref p) (upd H1 p<|.tup xs)
def v4(t:TA):TE:=λZ H Q=>t Z H λxs H1=>xs.length<=bj/\∀p,H1 p=ae->Q (.ref p) (upd H1 p<|.lst xs)
def Za3{x1}(h:PA X es t):PE X (.Tuple es x1 pos) (Zie t):=by
 intro pq s Z H Q I hq;refine wpAny_Tuple_spliced<|thn (h pos pq s Z H _ I hq) λus s1 #[xs,H1,I1,r,z,q]=>#[by rw[<-r.length];exact z,?_]
 have hf:=I1.hok.fresh<|aI _;refine#[.ref s1.heap.objs.size,upd H1 s1.heap.objs.size<|.tup xs,I1.laid (t':=s1.toks) (λb u e=>aw _ e) (aI _) ?_,rfl,q _ hf]
 exact#[z,us,r,#[_,aR _ rfl,rfl,_,rfl]]
def U4(h:PA X es t):PE X (.List es pos) (v4 t):=by
 intro pq s Z H Q I hq;refine wpAny_List_spliced<|thn (h pos pq s Z H _ I hq) λus s1 #[xs,H1,I1,r,z,q]=>#[by rw[<-r.length];exact z,?_]
 have hf:=I1.hok.fresh<|aI _;refine#[.ref s1.heap.objs.size,upd H1 s1.heap.objs.size<|.lst xs,I1.laid (t':=s1.toks) (λb u e=>aw _ e) (aI _) ?_,rfl,q _ hf]
 exact#[z,us,0,r,aR _ rfl]
abbrev Sp:=List V->Hp->VK->XK->Prop
abbrev CXT:=List Env->Hp->aA->XK->au->aA->Prop
structure Env0(P:bE)(w:bZ)(K:am)(mg:bq->Option au)(base:cy)(A:cz)(outer:List Env)(s:aA)(H:Hp):Prop where
 frames:A.frames=aa outer
 mod:Mod K mg base
 bs:∀b o,base.get? b=aa o->s.heap.get? b=aa o/\H b=ae
 bsz:base.objs.size<=s.heap.objs.size
 funs:s.heap.FunFrames base outer
 frf:∀b∈frs outer,H b=ae
 hok:HOk P w H s.heap
 bare:i7 s.gens
def CE(outer:List Env)(P:bE)(w:bZ)(H:Hp)(s:aA)(Q:VK)(u:au)(s':aA):Prop:=
 ∃v H',s'.os=s.os/\i7 s'.gens/\Un (frs outer) [] H H' s.heap s'.heap/\HOk P w H' s'.heap/\Zy v u/\Q v H'
def CR(CX:CXT)(outer:List Env)(P:bE)(w:bZ)(H:Hp)(s:aA)(Q:VK)(E:XK)(r:pc)(s':aA):Prop:=
 match r with
 |.ok (.ret u)=>CE outer P w H s Q u s'
 |.ok _=>False
 |.error e=>CX outer H s E e s'
structure FnOk(P:bE)(w:bZ)(K:am)(mg:bq->Option au)(base:cy)(CX:CXT)(k:Nat)(f:aE)(fd:cQ)(ps:List bq)(sp:Sp):Prop where
 len:∀vs H Q E,sp vs H Q E->vs.length=ps.length
 run:∀(A:cz)(outer:List Env)(s:aA)(H:Hp)(args:Args)(us:List au)(vs:List V)(Q:VK)(E:XK),Room k A->Env0 P w K mg base A outer s H->nC s fd args (ps.zip us)->Vals vs us->sp vs H Q E->
  eT (aV P w) A (.call (.ref f) args) (CR CX outer P w H s Q E) s
def Inv.env0(I:Inv X pq Z H s):Env0 X.prog X.w X.K X.mg X.base X.A X.stack s H:=
 #[I.ok.frames,I.ok.mod,I.bs,bW I.ok.bsz I.sz,I.stack,I.stkFree,I.hok,I.bare]
def Inv.after(I:Inv X pq Z H s)(h:CE X.stack X.prog X.w H s Q u s'):EP X pq Z Q u s':=by
 obtain⟨v,H',os,bare,un,hok,r,q⟩:=h;obtain⟨hh,g,d,t,os'⟩:=s';obtain rfl:os'=s.os:=os;exact#[v,H',I.call (h':=hh) (g':=g) (d':=d) (t':=t) un hok bare (λb z=>T7 z #[2]),r,q]
def Zei(sp:Sp)(dvs:List V)(E:XK)(t:TA):TE:=λZ H Q=>t Z H λvs H1=>sp (vs++dvs) H1 Q E
def Vl(K:am)(fd:cQ)(ps:List bq)(ds:List au):Prop:=
 ∀(s:aA)(us:List au),K.In s.heap->(us++ds).length=ps.length->nC s fd #[us,[]] (ps.zip<|us++ds)
def Vl.all{K:am}{fd:cQ}{ps:List bq}(h:∀us:List au,us.length=ps.length->m9 fd #[us,[]]=cF (ps.zip us)):Vl K fd ps []:=λs us _ hl=>by
 rw[bO]at hl ⊢;exact .of_eq<|h us hl
def V1(CX:CXT)(X:Cx)(E:XK):Prop:=∀(pq:List (aE×fW))(Z:St)(H:Hp)(s:aA)(e:au)(s':aA),Inv X pq Z H s->CX X.stack H s E e s'->X.xe e s'
def Ze2(F:FnOk X.prog X.w X.K X.mg X.base CX k f fd ps sp)(hr:Room k X.A)(hb:Vl X.K fd ps ds)(hd:Vals dvs ds)(hx:V1 CX X E)
  (I:Inv X pq Z H s)(r:Vals vs us)(h:sp (vs++dvs) H Q E):bf #[10] X.A (call (.ref f) us) (EP X pq Z Q) X.xe s:=by
 have r2:=r.append hd;have hl:(us++ds).length=ps.length:=by rw[<-r2.length];exact F.len _ _ _ _ h
 refine rO<|kK (F.run X.A X.stack s H #[us,[]] (us++ds) (vs++dvs) Q E hr I.env0 (hb s us I.kIn hl) r2 h) λr s' hq=>?_
 cases r with
 |error e=>exact hx pq Z H s e s' I hq
 |ok fl=>
  cases fl with|ret u=>exact I.after hq|next=>exact False.elim hq|brk=>exact False.elim hq|cont=>exact False.elim hq
def GV(F:FnOk X.prog X.w X.K X.mg X.base CX k f fd ps sp)(hr:Room k X.A)(hg:Gl X x)(hm:X.mg x=aa (.ref f))(hk:fI X.K (.ref f)=aj)(hb:Vl X.K fd ps ds)(hd:Vals dvs ds)(hx:V1 CX X E)
  (ha:PA X (e::es) t)(hdb:(x == #[9])=ak:=by decide)(he:aB (e::es) X.env=#[20]::aB es X.env:=by rfl)(hpl:(dG pos<|aB es X.env).any (·.1)=ak:=by rfl) :
  PE X #[17] (Zei sp dvs E t):=by
 intro pq s Z H Q I h;refine fO<|Vv I hg hm ?_ hdb;refine on I.ok.mod.kin hk (thn (ha pos pq s Z H _ I h) λus s1 #[vs,H1,I1,r,q]=>#[I1.kIn,?_]) he hpl
 exact Ze2 F hr hb hd hx I1 r q
structure FnScope(N P:List bq)(sc:dS):Prop where
 kind:sc.kind=.function
 co:sc.isCoroutine=ak
 gen:sc.isGenerator=ak
 nd:N.Nodup
 pre:N.take P.length=P
 par:∀x∈P,sc.names.lookup x=aa .local\/sc.names.lookup x=aa .cell
 nofree:∀y∈sc.names,y.2≠.free
theorem Ju{kindOf:bq->Option eQ}{x:bq}:∀{binds:List (bq×au)}{m:bq->Option au},(∀v,(x,v)∉binds)->sP kindOf binds m x=m x
 |[],_,_=>rfl
 |(n,v)::r,m,h=>by
  unfold sP;rw[Ju λw hw=>h w<|ao _ hw]
  split
  .have:x≠n:=by rintro rfl;exact h v al
   simp[this]
  .rfl
theorem Jk{kindOf:bq->Option eQ}{x:bq}:∀{binds:List (bq×au)}{m:bq->Option au},(∀v,(x,v)∉binds)->sQ kindOf binds m x=m x
 |[],_,_=>rfl
 |(n,v)::r,m,h=>by
  unfold sQ;rw[Jk λw hw=>h w<|ao _ hw]
  split
  .rfl
  .have:x≠n:=by rintro rfl;exact h v al
   simp[this]
theorem JA{kindOf:bq->Option eQ}{x:bq}{v:au}:∀{P:List bq}{vs:List au}{i:Nat}{m:bq->Option au},P.Nodup->P[i]?=aa x->vs[i]?=aa v->kindOf x=aa .local->
  sP kindOf (P.zip vs) m x=aa v
 |[],_,_,_,_,h,_,_=>by simp at h
 |_::_,[],_,_,_,_,h,_=>by simp at h
 |p::P,w::vs,0,m,nd,h1,h2,hk=>by
  simp at h1 h2;subst h1;subst h2;show sP kindOf ((p,w)::P.zip vs) m p=_;unfold sP;rw[Ju λv hv=>(dz.mp nd).1 (fX hv).1,T9 hk]
  simp
 |p::P,w::vs,i+1,m,nd,h1,h2,hk=>by
  unfold sP;exact JA (dz.mp nd).2 (by simpa using h1) (by simpa using h2) hk
theorem Q7{kindOf:bq->Option eQ}{x:bq}{v:au}:∀{P:List bq}{vs:List au}{i:Nat}{m:bq->Option au},P.Nodup->P[i]?=aa x->vs[i]?=aa v->kindOf x≠aa .local->
  sQ kindOf (P.zip vs) m x=aa v
 |[],_,_,_,_,h,_,_=>by simp at h
 |_::_,[],_,_,_,_,h,_=>by simp at h
 |p::P,w::vs,0,m,nd,h1,h2,hk=>by
  simp at h1 h2;subst h1;subst h2;show sQ kindOf ((p,w)::P.zip vs) m p=_;unfold sQ;rw[Jk λv hv=>(dz.mp nd).1 (fX hv).1,T8 hk]
  simp
 |p::P,w::vs,i+1,m,nd,h1,h2,hk=>by
  unfold sQ;exact Q7 (dz.mp nd).2 (by simpa using h1) (by simpa using h2) hk
noncomputable def start(N:List bq)(vs:List V):St:=vs.map aa++aJ (N.length-vs.length) ae
noncomputable def XX(CX:CXT)(P:bE)(w:bZ)(K:am)(mg:bq->Option au)(base:cy)(N:List bq)(qual:bq)(scope:dS)(f:aE)(cd:au)(A:cz)(outer:List Env)(s:aA)(H:Hp)(E:XK):Cx where
 prog:=P
 w:=w
 K:=K
 mg:=mg
 base:=base
 A:=A.deeper<|ee qual scope s.heap.objs.size f cd
 N:=N
 s₀:=s
 H₀:=H
 env:=ee qual scope s.heap.objs.size f cd
 outer:=outer
 stack:=ee qual scope s.heap.objs.size f cd::outer
 ex:=[]
 calm:=aj
 fn:=λ_=>aj
 pn:=[]
 xe:=λe s'=>bf (aV P w) (A.deeper<|ee qual scope s.heap.objs.size f cd) (leaving (ee qual scope s.heap.objs.size f cd) e) (λ_ s''=>CX outer H s E e s'') (λe' s''=>CX outer H s E e' s'') s'
def UT{sc:dS}{n:Nat}{x:bq}(h:sc.names.lookup x=aa .cell):∃c,(dE n sc.names []).lookup x=aa c:=by
 have q:=iB sc.names n []<|.inl h;exact c7.mp q
def JF{CX:CXT}{P:bE}{w:bZ}{K:am}{mg:bq->Option au}{base:cy}{N ps:List bq}{qual:bq}{scope:dS}{f:aE}{cd:au}{A:cz}{outer:List Env}{s s1:aA}{H:Hp}{E:XK}{us:List au}{vs:List V}
  (S:FnScope N ps scope)(hd:A.handled=ae)(e0:Env0 P w K mg base A outer s H)(hl:vs.length=ps.length)(r:Vals vs us)
  (x:InCallC s s.heap.objs.size (sP (ee qual scope s.heap.objs.size f cd).kindOf (ps.zip us) λ_=>ae) (dE (s.heap.objs.size+1) scope.names []) (sQ (ee qual scope s.heap.objs.size f cd).kindOf (ps.zip us) λ_=>ae) s1) :
  Inv (XX CX P w K mg base N qual scope f cd A outer s H E) [] (start N vs) H s1:=by
 have hpl:ps.length<=N.length:=by have:=congrArg pV S.pre;rw[bQ]at this;lia
 obtain⟨h1,tk,rfl,hk⟩:=x.done;have noA:∀b:aE,b∉(XX CX P w K mg base N qual scope f cd A outer s H E).ex:=λb z=>T7 (show b∈([]:List aE)from z) #[2]
 refine#[#[e0.mod,S.kind,rfl,rfl,aI _,λy z c h1 h2=>?_,λy hy=>?_,λy c _ h=>?_,λ_=>hd,ng e0.frames,.inr #[rfl,rfl],λb z=>T7 z<|noA b,e0.bs,e0.bsz,λb _ _=>noA b,λb z=>T7 z<|noA b,e0.funs,e0.frf],
  rfl,e0.bare,Un.kept hk,#[_,x.toInCall.ns,λi y v h1 h2 h3=>?_],λy c h=>#[_,x.cell y c h],e0.hok.fresh<|aI _,λy c h=>?_,λp hp=>T7 (show p∈([]:List (aE×fW))from hp) #[2],e0.hok.kept hk,?_]
 .exact name_of_addr x.apart (d3 h1)<|d3 h2
 .have hy:=hy
  rcases hy with hy|hy
  .exact UT hy
  .exact T7 rfl<|S.nofree _<|d3 hy
 .exact kJ<|x.above y c<|d3 h
 .have hi:i<vs.length:=by
   unfold start at h2;by_cases hi:i<vs.length
   .exact hi
   .rw[bP<|by simpa using hi]at h2
    rw[cB]at h2;split at h2<;>cases h2
  have ha:vs[i]?=aa v:=by
   unfold start at h2;rw[cg (by simpa using hi),aU]at h2
   cases e:vs[i]? with|none=>rw[e]at h2;cases h2|some a=>rw[e]at h2;cases h2;rfl
  obtain⟨u,hu,rv⟩:=r.get ha;have hp:ps[i]?=aa y:=by
   rw[<-S.pre,List.getElem?_take_of_lt #[0]];exact h1
  have ndP:ps.Nodup:=by rw[<-S.pre];exact S.nd.sublist<|lF _ _
  refine#[u,rv,?_];rcases S.par y (cY hp)with k|k
  .exact .inl #[k,JA ndP hp hu k]
  .obtain⟨c,e⟩:=UT k
   refine .inr #[.inl k,c,e,?_];have q:=x.cell y c e;rw[Q7 ndP hp hu<|by show scope.names.lookup y≠_;rw[k];decide]at q
   exact q
 .exact e0.hok.fresh<|kJ<|x.above y c<|d3 h
 .unfold start
  show _=N.length;rw[aN,ax,cS];lia
def Zem{CX:CXT}{P:bE}{w:bZ}{K:am}{mg:bq->Option au}{base:cy}{k:Nat}{f:aE}{name qual:bq}{params:pe}{body:List fg}{scope:dS}{dV kV doc pm cdv ct oc:au}{an od:Option aE}
  {osl:Array (Option au)}{N ps:List bq}{sp:Sp}(lk:K.lookup f=aa #[oc,od,.func<|eU name qual params body scope dV kV doc pm an cdv ct,osl])(hcd:kR K cdv qual=aj)(S:FnScope N ps scope)
  (len:∀vs H Q E,sp vs H Q E->vs.length=ps.length)
  (hbody:∀(A:cz)(outer:List Env)(s:aA)(H:Hp)(vs:List V)(Q:VK)(E:XK),Room k (A.deeper<|ee qual scope s.heap.objs.size f cdv)->sp vs H Q E->
   ∃t,PSs (XX CX P w K mg base N qual scope f cdv A outer s H E) body t/\t {nx:=λ_ H'=>Q .non H',rt:=Q} (start N vs) H) :
  FnOk P w K mg base CX (k+1) f (eU name qual params body scope dV kV doc pm an cdv ct) ps sp:=by
 refine#[len,λA outer s H args us vs Q E hr e0 hb r hsp=>?_]
 have hl:=len _ _ _ _ hsp;have KX:=e0.mod.kin.keeps λb o e=>(e0.bs b o e).1
 have lim:=e0.mod.nolimit.keeps λb o e=>(e0.bs b o e).1
 have hkind:∀y∈ps.zip us,scope.names.lookup y.1=aa .local\/(scope.names.lookup y.1=aa .cell/\((dE (s.heap.objs.size+1) scope.names []).lookup y.1).isSome=aj):=by
  rintro ⟨n,v⟩ hy;rcases S.par n (fX hy).1 with q|q
  .exact .inl q
  .exact .inr #[q,iB _ _ _<|.inl q]
 refine mV hr.depth (KX _ _ lk) rfl S.co S.gen rfl (oo KX hcd)<|hb _ _ _ _ ?_;refine kS S.kind hkind λenv he s1 x=>?_
 subst he;refine#[lim.keeps x.toInCall.keep,codeAny_func ?_];obtain⟨t,ht,hq⟩:=hbody A outer s H vs Q E (hr.deeper _) hsp;have I:Inv (XX CX P w K mg base N qual scope f cdv A outer s H E) [] (start N vs) H s1:=JF S hr.hd e0 hl r x;refine cW (ht [] s1 (start N vs) H _ I hq) (λfl s' hs=>?_) λe s' hs=>hs
 have fin:∀{σ':St}{H':Hp}{v:V}{u:au},Inv (XX CX P w K mg base N qual scope f cdv A outer s H E) [] σ' H' s'->Zy v u->Q v H'->CE outer P w H s Q u s':=
  λ{σ' H' v u} J rv q=>#[v,H',J.os,J.bare,J.base,J.hok,rv,q]
 cases fl with
 |ret u=>
  obtain⟨v,σ',H',J,rv,q⟩:=hs;exact fin J rv q
 |next=>
  obtain⟨σ',H',J,q⟩:=hs;exact fin (v:=V.non) J rfl q
 |brk=>
  obtain⟨_,_,_,q⟩:=hs;exact False.elim q
 |cont=>
  obtain⟨_,_,_,q⟩:=hs;exact False.elim q
section
variable{X:Cx}{x:bq}{p pos:gj}{e:Expr}{es:List Expr}{t:TA}{id T:String}{r:List V->Hp->VK->Prop}
def tCB(r:List V->Hp->VK->Prop)(t:TA):TE:=λZ H Q=>t Z H λvs H1=>r vs H1 Q
def Xv(hc:ZB X (.builtin id) r)(hg:Gl X x)(hm:X.mg x=ae)(hv:dJ x=aa (.builtin id))(ha:PA X (e::es) t)(hn:x≠"__name__":=by decide)(hdb:(x == #[9])=ak:=by decide)
  (he:aB (e::es) X.env=#[20]::aB es X.env:=by rfl)(hpl:(dG pos<|aB es X.env).any (·.1)=ak:=by rfl):PE X #[17] (tCB r t):=by
 intro pq s Z H Q I h;refine fO<|Y1 I hg hm hv ?_ hn hdb;exact PyProof.Rows.callWith_builtin1 (thn (ha pos pq s Z H _ I h)<|by rintro us s1 ⟨vs,H1,I1,r1,q1⟩;exact hc pq s1 Z H1 vs us Q I1 r1 q1) he hpl
def Q8(hc:ZB X (.type T) r)(hg:Gl X x)(hm:X.mg x=ae)(hv:dJ x=aa (.type T))(ha:PA X (e::es) t)(hn:x≠"__name__":=by decide)(hdb:(x == #[9])=ak:=by decide)
  (he:aB (e::es) X.env=#[20]::aB es X.env:=by rfl)(hpl:(dG pos<|aB es X.env).any (·.1)=ak:=by rfl):PE X #[17] (tCB r t):=by
 intro pq s Z H Q I h;refine fO<|Y1 I hg hm hv ?_ hn hdb;exact bU (thn (ha pos pq s Z H _ I h)<|by rintro us s1 ⟨vs,H1,I1,r1,q1⟩;exact hc pq s1 Z H1 vs us Q I1 r1 q1) he hpl
end
end L2
namespace HT
open PySem PyProof.Rows
def Zc2{Q:au->aA->Prop}(ht:oE s.heap t vs.toArray)(hb:oE s.heap b ws.toArray)(hv:vs≠[])
  (h1:ws=[]->Q (.ref t) s)(h2:ws≠[]->Q #[30] {s with heap:=s.heap.push {cls:=.type "tuple",data:=.seq (vs++ws).toArray}})
  (hsz:vs.length+ws.length<=bj):bf #[8] A (fA .Add (.ref t)<|.ref b) Q E s:=by
 obtain⟨⟨cls,dd,data,sl⟩,ho,hc,n,hd⟩:=id ht;obtain⟨⟨cls2,dd2,data2,sl2⟩,ho2,hc2,n2,hd2⟩:=id hb;simp only at hc hd hc2 hd2;subst hc hd hc2 hd2;have e:vs.toArray++ws.toArray=(vs++ws).toArray:=by simp
 by_cases hw:ws=[]
 .exact oK #[_,ho,rfl] #[_,ho2,rfl] l6 nO iC im (gW _ _)
   (tuple_addW1 t b vs.toArray ws.toArray n n2 dd dd2 sl sl2 (by simpa using hv)<|by simp[hw]) #[ho,ho2,h1 hw]
 .refine oK #[_,ho,rfl] #[_,ho2,rfl] l6 nO iC im (gW _ _)
   (tuple_addW2 t b vs.toArray ws.toArray n n2 dd dd2 sl sl2 (by simpa using hv) (by simpa using hw)<|by rw[az,az];exact hsz) #[ho,ho2,?_]
  rw[e];exact h2 hw
noncomputable def sIx(n d:Nat):Option Int->Nat
 |none=>d
 |some v=>if v<0 then(v+(n:Int)).toNat else sD v.toNat n
def Zgb(n d:Nat)(hd:d<=n)(o:Option Int):sIx n d o<=n:=by
 cases o with
 |none=>exact hd
 |some v=>
  show(if v<0 then(v+(n:Int)).toNat else sD v.toNat n)<=n
  by_cases hv:v<0
  .rw[T9 hv];lia
  .rw[T8 hv];exact pf _ _
def vV(v:Int)(n d:Nat):(if v<0 then max (v+(n:Int)) 0 else sD v (n:Int))=((sIx n d (aa v):Nat):Int):=by
 show(if v<0 then max (v+(n:Int)) 0 else sD v (n:Int))=(((if v<0 then(v+(n:Int)).toNat else sD v.toNat n):Nat):Int)
 by_cases hv:v<0
 .simp only[T9 hv];lia
 .simp only[T8 hv];lia
def xm(lo hi:Option Int)(n:Nat):gQ lo hi 1 (n:Int)=(((sIx n 0 lo:Nat):Int),((sIx n n hi:Nat):Int)):=by
 have h1:¬((1:Int)<0):=by lia
 unfold gQ;simp only[h1,if_false];refine Prod.ext ?_ ?_
 .cases lo with|none=>rfl|some v=>exact vV v n 0
 .cases hi with|none=>rfl|some v=>exact vV v n n
def x4(i j:Nat):c6 (i:Int) (j:Int) 1=j-i:=by
 unfold c6;have h1:(1:Int)>0:=by lia
 simp only[h1,if_true,Int.ediv_one];split<;>lia
def WU{Q:Option Int->aA->Prop}(p:kT v o)(h:Q o s):bf #[8] A (eV.Slice.slicePartIndex v) Q E s:=by
 cases p with|none=>exact kU h|int i t=>exact slicePart_int h
def Xw{sl:aE}{vl vu:au}{lo hi:Option Int}{n:Nat}{Q:Int×Int×Nat->aA->Prop}(hs:s.heap.IsSliceOf sl vl vu .none)(pl:kT vl lo)(pu:kT vu hi)
  (h:Q (((sIx n 0 lo:Nat):Int),1,sIx n n hi-sIx n 0 lo) s):bf #[8] A (kW (.ref sl)<|cF (n:Int)) Q E s:=by
 obtain⟨os,hos,hcs,hds⟩:=id hs;refine ag<|ag<|cC hos hds rfl<|ag<|cC hos hds rfl<|ag<|cC hos hds rfl<|aD ?_;refine ag<|kU ?_;show bf _ _ (if((1:Int) == 0)=aj then _ else _) _ _ s
 rw[T8 #[1]]
 refine ag<|WU pl<|ag<|WU pu<|ag<|aD ?_;show bf _ _ (match gQ lo hi 1 (n:Int)with|(lo,hi)=>cF (lo,(1:Int),c6 lo hi 1)) _ _ s
 rw[xm lo hi n];show bf _ _ (cF (((sIx n 0 lo:Nat):Int),(1:Int),c6 ((sIx n 0 lo:Nat):Int) ((sIx n n hi:Nat):Int) 1)) _ _ s;rw[x4];exact aD h
def jH(xs:Array au)(i k:Nat):((aM k).filterMap λ(m:Nat)=>xs[((i:Int)+(m:Int)*1).toNat]?).toArray=((xs.toList.drop i).take k).toArray:=by
 have e:(λ(m:Nat)=>xs[((i:Int)+(m:Int)*1).toNat]?)=λm=>xs[i+m]?:=by
  funext m
  have:((i:Int)+(m:Int)*1).toNat=i+m:=by lia
  rw[this]
 rw[e];have:=pick_run xs i k;rw[oq]at this;have e2:((λx=>xs[x]?)∘λx=>i+x)=λm=>xs[i+m]?:=rfl
 rw[e2]at this;rw[this]
def Vd{t sl:aE}{items:Array au}{vl vu:au}{lo hi:Option Int}{Q:au->aA->Prop}(ht:oE s.heap t items)(hs:s.heap.IsSliceOf sl vl vu .none)(pl:kT vl lo)(pu:kT vu hi)
  (hw:¬(sIx items.size 0 lo=0/\sIx items.size items.size hi=items.size))
  (h:Q #[30] {s with heap:=s.heap.push {cls:=.type "tuple",data:=.seq ((items.toList.drop<|sIx items.size 0 lo).take<|sIx items.size items.size hi-sIx items.size 0 lo).toArray}})
  (hsz:items.size<=bj):bf #[8] A (lG (.ref t)<|.ref sl) Q E s:=by
 have htake:sizeOk (.seq ((items.toList.drop<|sIx items.size 0 lo).take<|sIx items.size items.size hi-sIx items.size 0 lo).toArray):=by
  show((items.toList.drop<|sIx items.size 0 lo).take<|sIx items.size items.size hi-sIx items.size 0 lo).toArray.size<=bj;rw[az,bQ,bF,aP];lia
 have hj:sIx items.size items.size hi<=items.size:=Zgb _ _ (aI _) hi;obtain⟨os,hos,hcs,hds⟩:=id hs;have hTs:s.TypeIs (.ref sl) "slice":=#[os,hos,hcs];unfold lG
 try with_reducible refine cK ?_
 first|refine ag<|aD ?_|skip
 refine ag<|lH ht.typeIs #[1] ?_
 refine ag (dm ht.typeIs cR
  (dO cR ht.typeIs kC ?_<|kX _ _))
 show bf _ _ (gE (.ref t) >>= _) _ _ s;refine ag<|nP ht ?_;refine ag<|fP hTs ?_;rw[T9 #[1]]
 refine ag<|Xw hs pl pu ?_;have hno:¬((((sIx items.size 0 lo:Nat):Int) == 0&&(1:Int) == 1&&(sIx items.size items.size hi-sIx items.size 0 lo) == items.size)=aj):=by
  intro q;rw[aC,aC]at q;have q1:=fJ q.1.1;have q2:=fJ q.2;exact hw #[by lia,by lia]
 show bf _ _ (if(((sIx items.size 0 lo:Nat):Int) == 0&&(1:Int) == 1&&(sIx items.size items.size hi-sIx items.size 0 lo) == items.size)=aj then _ else _) _ _ s
 rw[T8 hno,jH]
 first
  |exact ag<|bT (aD #[_,rfl,aD h]) htake
  |exact ag<|bT (ag<|aD<|aD #[_,rfl,aD h]) htake
  |exact ag<|ag<|bT (aD<|aD #[_,rfl,aD h]) htake
  |exact ag<|ag<|bT (aD #[_,rfl,aD h]) htake
end HT
namespace L2
open PySem PySem.Spec PyProof.Rows
abbrev TO:=St->Hp->(Option Int->Hp->Prop)->Prop
def PO(X:Cx)(e:Option Expr)(t:TO):Prop:=
 ∀pq s Z H Q,Inv X pq Z H s->t Z H Q->
  bf #[10] X.A (evalPart e X.env) (λu s'=>∃o H',Inv X pq Z H' s'/\kT u o/\Q o H') X.xe s
def ZdO:TO:=λ_ H Q=>Q ae H
def Zg3(t:TE):TO:=λZ H Q=>t Z H λx H1=>∃i,x=.int i/\Q (aa i) H1
section
variable{X:Cx}{e:Expr}{te:TE}{lo hi:Option Expr}{tl th:TO}{pos p2:gj}
def ZbY:PO X ae ZdO:=by
 intro pq s Z H Q I h;rw[nQ];exact aD #[ae,H,I,.none,h]
def Z2(h:PE X e te):PO X (aa e) (Zg3 te):=by
 intro pq s Z H Q I hw;rw[evalPart_some];refine thn (h pq s Z H _ I hw) λu s1 #[x,H1,I1,r1,q1]=>?_
 obtain⟨i,rfl,q⟩:=q1;obtain⟨t,rfl⟩:=r1;exact#[aa i,H1,I1,.int i t,q]
def SlR(X:Cx)(r:V->Option Int->Option Int->Hp->VK->Prop):Prop:=
 ∀pq s Z H x v vl vu lo hi sl Q,Inv X pq Z H s->Zy x v->s.heap.IsSliceOf sl vl vu .none->kT vl lo->kT vu hi->r x lo hi H Q->
  ∃T id,kY (.type T) "__getitem__" = cF (aa<|.builtin id)/\s.TypeIs v T/\bf #[10] X.A (lG v<|.ref sl) (EP X pq Z Q) X.xe s
def SlR.or{r r':V->Option Int->Option Int->Hp->VK->Prop}(h:SlR X r)(h':SlR X r'):SlR X (λx lo hi H Q=>r x lo hi H Q\/r' x lo hi H Q):=by
 intro pq s Z H x v vl vu lo hi sl Q I rx hs pl pu q;rcases q with q|q
 .exact h pq s Z H x v vl vu lo hi sl Q I rx hs pl pu q
 .exact h' pq s Z H x v vl vu lo hi sl Q I rx hs pl pu q
def tSl(r:V->Option Int->Option Int->Hp->VK->Prop)(te:TE)(tl th:TO):TE:=λZ H Q=>te Z H λx H1=>tl Z H1 λl H2=>th Z H2 λu H3=>r x l u H3 Q
def jO{r:V->Option Int->Option Int->Hp->VK->Prop}(hr:SlR X r)(he:PE X e te)(hl:PO X lo tl)(hu:PO X hi th):PE X (.Subscript e (.Slice lo hi ae p2) pos) (tSl r te tl th):=by
 intro pq s Z H Q I h;refine rP<|thn (he pq s Z H _ I h) λv s1 #[x,H1,I1,r1,q1]=>?_
 refine wpAny_Slice<|thn (hl pq s1 Z H1 _ I1 q1) λvl s2 #[l,H2,I2,pl,q2]=>thn (hu pq s2 Z H2 _ I2 q2) λvu s3 #[u,H3,I3,pu,q3]=>?_
 rw[nQ];refine aD ?_;have I4:Inv X pq Z H3 {s3 with heap:=s3.heap.push {cls:=.type "slice",data:=.fields [vl,vu,.none].toArray}}:=I3.kept (t':=s3.toks) λb ob q=>aw _ q
 obtain⟨T,id,hT,ht,hg⟩:=hr pq {s3 with heap:=s3.heap.push {cls:=.type "slice",data:=.fields [vl,vu,.none].toArray}} Z H3 x v vl vu l u s3.heap.objs.size Q I4 r1 (ot ..) pl pu q3
 exact tail_any ht hT hg (by with_unfolding_all rfl)
def YF(xs:List V)(lo hi:Option Int):List V:=(xs.drop<|HT.sIx xs.length 0 lo).take<|HT.sIx xs.length xs.length hi-HT.sIx xs.length 0 lo
theorem V8(xs:List V)(lo hi:Option Int):(YF xs lo hi).length<=xs.length:=by
 unfold YF;rw[bQ,bF];lia
def ZhL(K:am):V->Option Int->Option Int->Hp->VK->Prop:=λx lo hi H Q=>∃a xs,x=.ref a/\SqT K H a xs/\
 ¬(HT.sIx xs.length 0 lo=0/\HT.sIx xs.length xs.length hi=xs.length)/\∀p,H p=ae->Q (.ref p) (upd H p<|.tup<|YF xs lo hi)
def Zf1:SlR X (ZhL X.K):=by
 intro pq s Z H x v vl vu lo hi sl Q I rx hs pl pu h;obtain⟨a,xs,rfl,hx,hw,q⟩:=h;cases rx;obtain⟨its,r,ht,hz⟩:=I.tuple hx;have hlen:its.toArray.size=xs.length:=by rw[az];exact r.length.symm
 refine#["tuple",_,cR.lookup,ht.typeIs,?_];refine HT.Vd ht hs pl pu (by rw[hlen];exact hw) ?_ (by rw[hlen];exact hz)
 rw[hlen];refine#[.ref s.heap.objs.size,_,I.laid (t':=s.toks) (λb ob q=>aw _ q) (aI _) ?_,rfl,q _<|I.hok.fresh<|aI _]
 exact#[bW (V8 xs lo hi) hz,_,(r.drop<|HT.sIx xs.length 0 lo).take<|HT.sIx xs.length xs.length hi-HT.sIx xs.length 0 lo,iW _ _]
def Zeh(K:am):R2:=λx y H Q=>∃a b xs ys,x=.ref a/\y=.ref b/\SqT K H a xs/\SqT K H b ys/\xs≠[]/\xs.length+ys.length<=bj/\
 (ys=[]->Q (.ref a) H)/\(ys≠[]->∀p,H p=ae->Q (.ref p) (upd H p<|.tup<|xs++ys))
def Vals.nil_iff(r:Vals xs us):us=[]↔xs=[]:=by
 cases r with|nil=>simp|cons _ _=>simp
def Zcq:OpR X (fA .Add) (Zeh X.K):=by
 intro pq s Z H x y v u Q I rx ry h;obtain⟨a,b,xs,ys,rfl,rfl,ha,hb,hx,hz,q1,q2⟩:=h;cases rx;cases ry;obtain⟨its,r1,p1,_⟩:=I.tuple ha;obtain⟨its2,r2,p2,_⟩:=I.tuple hb;refine HT.Zc2 p1 p2 (λz=>hx<|r1.nil_iff.mp z) (λz=>#[.ref a,H,I,rfl,q1<|r2.nil_iff.mp z]) (λz=>?_) (by rw[<-r1.length,<-r2.length];exact hz)
 refine#[.ref s.heap.objs.size,_,I.laid (t':=s.toks) (λb ob q=>aw _ q) (aI _) ?_,rfl,q2 (λw=>z<|r2.nil_iff.mpr w) _<|I.hok.fresh<|aI _]
 exact#[by rw[aN];exact hz,_,r1.append r2,iW _ _]
end
noncomputable def ixN(n:Nat)(i:Int):Option Nat:=if 0<=i then(if i<n then aa i.toNat else ae)else if -(n:Int)<=i then aa (i+n).toNat else ae
def atI{B:Type}(xs:List B)(i:Int):Option B:=(ixN xs.length i).bind λj=>xs[j]?
def wV(h:ixN n i=aa j):seqIndex? i n=aa j/\j<n/\-(n:Int)<=i/\i<n:=by
 unfold ixN at h;by_cases h0:0<=i
 .rw[T9 h0]at h
  by_cases h1:i<n
  .rw[T9 h1]at h
   have e:=aq h;exact#[by rw[pW h0 h1,e],by lia,by lia,h1]
  .rw[T8 h1]at h;cases h
 .rw[T8 h0]at h
  by_cases h1:-(n:Int)<=i
  .rw[T9 h1]at h
   have e:=aq h;exact#[by rw[oM #[0] h1,e],by lia,h1,by lia]
  .rw[T8 h1]at h;cases h
def vh{B:Type}{xs:List B}{i:Int}{v:B}(h:atI xs i=aa v):∃j,seqIndex? i xs.length=aa j/\xs[j]?=aa v/\j<xs.length/\-(xs.length:Int)<=i/\i<xs.length:=by
 unfold atI at h;cases e:ixN xs.length i with
 |none=>rw[e]at h;cases h
 |some j=>
  rw[e]at h;obtain⟨h1,h2,h3,h4⟩:=wV e;exact#[j,h1,h,h2,h3,h4]
def wx(b:Expr):Prop:=∀o i,subscripted b ak o i=operate [o,i] (lG o i)
def IxR(X:Cx)(r:R2):Prop:=
 ∀(value slice:Expr)(pq:List (aE×fW))(s:aA)(Z:St)(H:Hp)(x y:V)(v u:au)(Q:VK),Inv X pq Z H s->Zy x v->Zy y u->r x y H Q->
  subscripted slice ak v u=operate [v,u] (lG v u)->bf #[10] X.A (subscriptTail value slice v u) (EP X pq Z Q) X.xe s
def MtR(X:Cx)(id:String)(r:V->List V->Hp->VK->Prop):Prop:=
 ∀pq s Z H x xs v us Q,Inv X pq Z H s->Zy x v->Vals xs us->r x xs H Q->
  bf #[10] X.A (call (.builtin id) (v::us)) (EP X pq Z Q) X.xe s
section
variable{X:Cx}{a b:Expr}{ta tb:TE}{pos:gj}
def IxR.or(h:IxR X r)(h':IxR X r'):IxR X (λx y H Q=>r x y H Q\/r' x y H Q):=by
 intro value slice pq s Z H x y v u Q I rx ry q hs;rcases q with q|q
 .exact h value slice pq s Z H x y v u Q I rx ry q hs
 .exact h' value slice pq s Z H x y v u Q I rx ry q hs
def vP(hr:IxR X r)(ha:PE X a ta)(hb:PE X b tb)(hs:wx b):PE X (.Subscript a b pos) (tOp r ta tb):=by
 intro pq s Z H Q I h;exact rP<|ZfA ha hb I h λv u s2 x y H2 I2 rx ry q=>hr a b pq s2 Z H2 x y v u Q I2 rx ry q<|hs _ _
def Zhj(K:am):R2:=λx y H Q=>∃p xs i v,x=.ref p/\y=.int i/\SqL K H p xs/\atI xs i=aa v/\Q v H
def ZhX(K:am):R2:=λx y H Q=>∃p xs i v,x=.ref p/\y=.int i/\SqT K H p xs/\atI xs i=aa v/\Q v H
theorem Uv:IxR X (Zhj X.K):=by
 intro value slice pq s Z H x y v u Q I rx ry h hs;obtain⟨p,xs,i,z,rfl,rfl,hq,he,q⟩:=h;cases rx;obtain⟨t,rfl⟩:=ry;obtain⟨its,r,pl,hz⟩:=I.list hq;obtain⟨j,h1,h2,h3,h4,h5⟩:=vh he;obtain⟨w,ew,rw'⟩:=r.get h2;have hl:=r.length;have hn:=U7;have fin:EP X pq Z Q w s:=#[z,H,I,rw',q];by_cases h0:0<=i
 .have hj:i.toNat=j:=by
   rw[pW h0 h5]at h1;exact aq h1
  exact item_listR pl.isList h0 #[0] (by rw[hj];simpa using ew) fin hs
 .have hj:(i+(its.toArray.size:Int)).toNat=j:=by
   rw[oM #[0] h4]at h1
   rw[az,<-hl];exact aq h1
  exact mD pl.isList.typeIs slot_list_getitem.lookup
   (wpAny_getItem_list_neg pl.isList #[0] (by rw[az]<;>lia) #[0] (by rw[hj];simpa using ew) #[rfl,fin]) hs
theorem Zfs:IxR X (ZhX X.K):=by
 intro value slice pq s Z H x y v u Q I rx ry h hs;obtain⟨p,xs,i,z,rfl,rfl,hq,he,q⟩:=h;cases rx;obtain⟨t,rfl⟩:=ry;obtain⟨its,r,pl,hz⟩:=I.tuple hq;obtain⟨j,h1,h2,h3,h4,h5⟩:=vh he;obtain⟨w,ew,rw'⟩:=r.get h2;have hl:=r.length;have hn:=U7;have fin:EP X pq Z Q w s:=#[z,H,I,rw',q];exact mD pl.typeIs slot_tuple_getitem.lookup
  (getItem_tuple pl #[0] #[0] (by rw[az,<-hl];exact h1) (by simpa using ew) #[rfl,fin]) hs
def wf(its:List au)(n j:Nat)(u:au):fE (·.setIfInBounds j u) {cls:=.type "list",data:=.seq its.toArray n}={cls:=.type "list",data:=.seq (its.set j u).toArray n}:=by
 simp[fE]
theorem Inv.lst{pq:List (aE×fW)}{Z:St}{H:Hp}{s:aA}{p:aE}{xs:List V}(I:Inv X pq Z H s)(h:H p=aa #[35]) :
  ∃(its:List au)(n:Nat),Vals xs its/\s.heap.get? p=aa {cls:=.type "list",data:=.seq its.toArray n}/\xs.length<=bj:=by
 obtain⟨z,its,n,r,e⟩:=I.hok p _ h;exact#[its,n,r,e,z]
def Inv.lstUpd{pq:List (aE×fW)}{Z:St}{H:Hp}{s:aA}{p:aE}{xs ys:List V}{its its':List au}{n n':Nat}{f:fW->fW}(I:Inv X pq Z H s)(h:H p=aa #[35])
  (ho:s.heap.get? p=aa {cls:=.type "list",data:=.seq its.toArray n})(hf:f {cls:=.type "list",data:=.seq its.toArray n}={cls:=.type "list",data:=.seq its'.toArray n' })(r:Vals ys its')(hz:ys.length<=bj)(t:Nat) :
  Inv X pq Z (upd H p<|.lst ys) {s with heap:=s.heap.update p f,toks:=t}:=by
 have e:(s.heap.update p f).get? p=aa {cls:=.type "list",data:=.seq its'.toArray n' }:=by
  rw[iT f ho (by rw[hf]<;>rfl),hf]
 refine I.write (by rw[h];trivial) (.inl rfl) (λb u hb q=>(mE _ _<|Ne.symm hb).trans q) #[_,e] ?_
 exact#[hz,its',n',r,e]
def Zg2:V->V->V->Hp->(Hp->Prop)->Prop:=λo i v H Q=>∃p xs k j,o=.ref p/\i=.int k/\H p=aa #[35]/\ixN xs.length k=aa j/\Q (upd H p<|.lst<|xs.set j v)
theorem jU:PSet X Zg2:=by
 intro pq s Z H o i v ov iv u Q I ro ri rv h;obtain⟨p,xs,k,j,rfl,rfl,hp,hj,q⟩:=h;cases ro;obtain⟨t,rfl⟩:=ri;obtain⟨its,n,r,ho,hz⟩:=I.lst hp;obtain⟨h1,h2,h3,h4⟩:=wV hj;have hl:=r.length;have hn:=U7;have I':=
  I.lstUpd hp ho (wf its n j u) (r.set rv j) (by rw[bC];exact hz) s.toks
 by_cases h0:0<=k
 .have hk:k.toNat=j:=by
   rw[pW h0 h4]at h1;exact aq h1
  exact PySem.W.ki_setAt ho h0 #[0] (by rw[az,<-hl];exact h4) (by rw[hk];exact#[_,I',q])
 .have hk:(k+(its.toArray.size:Int)).toNat=j:=by
   rw[oM #[0] h3]at h1
   rw[az,<-hl];exact aq h1
  exact PySem.W.ki_setBack ho #[0] (by rw[az,<-hl];exact h3) #[0] (by rw[hk];exact#[_,I',q])
theorem Gp(lo hi:Option Int)(n:Nat):(io lo hi ae n).1=((HT.sIx n 0 lo:Nat):Int)/\(io lo hi ae n).2.1=((HT.sIx n n hi:Nat):Int)/\(io lo hi ae n).2.2=1:=by
 refine#[?_,?_,rfl]
 .cases lo with
  |none=>simp[io,HT.sIx]
  |some i=>
   simp only[io,HT.sIx,pi,show(1:Int)>0 by decide,if_true]
   by_cases h:i<0
   .simp only[h,if_true]<;>lia
   .simp only[h,if_false]<;>lia
 .cases hi with
  |none=>simp[io,HT.sIx]
  |some i=>
   simp only[io,HT.sIx,pi,show(1:Int)>0 by decide,if_true]
   by_cases h:i<0
   .simp only[h,if_true]<;>lia
   .simp only[h,if_false]<;>lia
def QU(its:List au)(lo hi:Option Int):slicePick its.toArray lo hi ae=((its.drop<|HT.sIx its.length 0 lo).take<|HT.sIx its.length its.length hi-HT.sIx its.length 0 lo).toArray:=by
 obtain⟨h1,h2,h3⟩:=Gp lo hi its.toArray.size;unfold slicePick;rw[h1,h2,h3];simp only[sliceRange_one,pick_run,az]<;>rfl
def Zh4(K:am):V->Option Int->Option Int->Hp->VK->Prop:=λx lo hi H Q=>∃a xs,x=.ref a/\SqL K H a xs/\∀p,H p=ae->Q (.ref p) (upd H p<|.lst<|YF xs lo hi)
theorem ZcB:SlR X (Zh4 X.K):=by
 intro pq s Z H x v vl vu lo hi sl Q I rx hs pl pu h;obtain⟨a,xs,rfl,hx,q⟩:=h;cases rx;obtain⟨its,r,ht,hz⟩:=I.list hx;have hlen:=r.length;refine#["list",_,slot_list_getitem.lookup,ht.isList.typeIs,?_];refine wpAny_getItem_list_slice ht.isList hs pl pu .none #[2] ?_ (by rw[az]<;>lia)
 rw[QU,<-hlen];refine#[.ref s.heap.objs.size,_,I.laid (t':=s.toks) (λb ob q=>aw _ q) (aI _) ?_,rfl,q _<|I.hok.fresh<|aI _]
 exact#[bW (V8 xs lo hi) hz,_,0,(r.drop<|HT.sIx xs.length 0 lo).take<|HT.sIx xs.length xs.length hi-HT.sIx xs.length 0 lo,aR _ rfl]
noncomputable def wE:V->Bool
 |.non=>aj
 |.bl _=>aj
 |.int _=>aj
 |.str _=>aj
 |_=>ak
noncomputable def eqV:V->V->Bool
 |.non,.non=>aj
 |.bl a,.bl b=>a == b
 |.bl a,.int b=>(if a then 1 else 0) == b
 |.int a,.bl b=>a == (if b then 1 else 0)
 |.int a,.int b=>a == b
 |.str a,.str b=>a == b
 |_,_=>ak
def Zfo{A:cz}{s:aA}{y x:V}{u v:au}(ry:Zy y u)(rx:Zy x v)(fy:wE y=aj)(fx:wE x=aj):iX A s u v (eqV y x):=by
 cases y with
 |non=>
  cases ry;cases x with|non=>cases rx;exact ko _|bl b=>cases rx;exact iX.none_bool b|int b=>obtain⟨t,rfl⟩:=rx;exact iX.none_int b t|str b=>obtain⟨t,rfl⟩:=rx;exact iX.none_str b t|_=>exact T7 (fx) aS
 |bl a=>
  cases ry;cases x with|non=>cases rx;exact iX.bool_none a|bl b=>cases rx;exact iX.bool_bool a b|int b=>obtain⟨t,rfl⟩:=rx;exact iX.bool_int a b t|str b=>obtain⟨t,rfl⟩:=rx;exact iX.bool_str a b t|_=>exact T7 (fx) aS
 |int a=>
  obtain⟨t',rfl⟩:=ry;cases x with|non=>cases rx;exact iX.int_none a t'|bl b=>cases rx;exact iX.int_bool a t' b|int b=>obtain⟨t,rfl⟩:=rx;exact ou a t' b t|str b=>obtain⟨t,rfl⟩:=rx;exact n3 a t' b t|_=>exact T7 (fx) aS
 |str a=>
  obtain⟨t',rfl⟩:=ry;cases x with|non=>cases rx;exact iX.str_none a t'|bl b=>cases rx;exact iX.str_bool a t' b|int b=>obtain⟨t,rfl⟩:=rx;exact n4 a t' b t|str b=>obtain⟨t,rfl⟩:=rx;exact iX.str_str a t' b t|_=>exact T7 (fx) aS
 |_=>exact T7 (fy) aS
theorem GQ:ZB X (.builtin "len") (λxs H Q=>∃p ys,xs=[.ref p]/\(SqL X.K H p ys\/SqT X.K H p ys)/\Q (.int ys.length) H):=by
 intro pq s Z H xs us Q I r h;obtain⟨p,ys,rfl,hq,q⟩:=h;obtain⟨u,rfl,rx⟩:=Wb r;cases rx;have hn:=U7;rcases hq with hq|hq
 .obtain⟨its,r',pl,hz⟩:=I.list hq
  have hlen:=r'.length;exact Calls.call_len_list pl.isList (by simp only[az]<;>lia) #[.int ys.length,H,I.tok _,#[s.toks+1,by rw[az,hlen]],q]
 .obtain⟨its,r',pl,hz⟩:=I.tuple hq
  have hlen:=r'.length;exact len_tuple pl (by simp only[az]<;>lia) #[.int ys.length,H,I.tok _,#[s.toks+1,by rw[az,hlen]],q]
theorem Gz:ZB X (.type "list") (λxs H Q=>∃p ys,xs=[.ref p]/\(SqL X.K H p ys\/SqT X.K H p ys)/\∀l,H l=ae->Q (.ref l) (upd H l<|.lst ys)):=by
 intro pq s Z H xs us Q I r h;obtain⟨p,ys,rfl,hq,q⟩:=h;obtain⟨u,rfl,rx⟩:=Wb r;cases rx;have fin:∀(its:List au),Vals ys its->ys.length<=bj->∀(h':cy)(c':Nat),(∀b o',s.heap.get? b=aa o'->h'.get? b=aa o')->
   h'.get? s.heap.objs.size=aa {cls:=.type "list",dict:=ae,data:=.seq its.toArray c',slots:=#[]}->EP X pq Z Q #[30] {s with heap:=h' }:=λits r' hz h' c' kp e=>
  #[.ref s.heap.objs.size,_,I.laid (t':=s.toks) kp (aI _) (show Z7 X.prog X.w _ h' _ (.lst ys)from#[hz,its,c',r',e]),rfl,q _<|I.hok.fresh<|aI _]
 rcases hq with hq|hq
 .obtain⟨its,r',pl,hz⟩:=I.list hq
  have hlen:=r'.length;obtain⟨o,ho,hc,n,hd⟩:=pl.isList;exact call_list_seq p (.inl rfl) ho hc hd (λh' c' kp e=>fin its r' hz h' c' kp e) (by simp only[az]<;>lia)
 .obtain⟨its,r',pl,hz⟩:=I.tuple hq
  have hlen:=r'.length;obtain⟨o,ho,hc,n,hd⟩:=pl;exact call_list_seq p (.inr rfl) ho hc hd (λh' c' kp e=>fin its r' hz h' c' kp e) (by simp only[az]<;>lia)
theorem QP:ZB X (.type "tuple") (λxs H Q=>∃p ys,xs=[.ref p]/\((SqL X.K H p ys/\∀l,H l=ae->Q (.ref l) (upd H l<|.tup ys))\/(SqT X.K H p ys/\Q (.ref p) H))):=by
 intro pq s Z H xs us Q I r h;obtain⟨p,ys,rfl,h⟩:=h;obtain⟨u,rfl,rx⟩:=Wb r;cases rx;rcases h with⟨hq,q⟩|⟨hq,q⟩
 .obtain⟨its,r',pl,hz⟩:=I.list hq
  have hlen:=r'.length;refine call_tuple_list pl.isList (λh' kp=>?_) (by simp only[az]<;>lia)
  have I1:=I.kept (t':=s.toks) kp
  have I2:=
   I1.laid (t':=s.toks) (λb o e=>aw _ e) (aI _) (show Z7 X.prog X.w _ _ _ (.tup ys)from#[hz,its,r',iW _ _])
  exact#[.ref h'.objs.size,_,I2,rfl,q _<|I1.hok.fresh<|aI _]
 .obtain⟨its,r',pl,hz⟩:=I.tuple hq
  exact call_tuple_same pl #[.ref p,H,I,rfl,q]
def tyV(K:am)(T:String)(x:V)(H:Hp):Prop:=match x with
 |.str _=>T = "str"
 |.int _=>T = "int"
 |.ref p=>(T = "list"/\∃xs,SqL K H p xs)\/(T = "tuple"/\∃o,K.lookup p=aa o/\o.cls=.type "tuple"/\o.dict=ae)\/
   (T = "dict"/\((∃kvs,H p=aa (.dK kvs))\/∃kvs,H p=aa (.dT kvs)))
 |_=>False
def Zfa(I:Inv X pq Z H s)(r:Zy x v)(ty:tyV X.K T x H) :
  s.TypeIs v T/\∀a,v=.ref a->∃ob,s.heap.get? a=aa ob/\ob.dict=ae:=by
 cases x with
 |str z=>
  obtain⟨t,rfl⟩:=r;cases(ty)
  exact#[typeIs_str s z t,λ_ e=>nomatch e]
 |int i=>
  obtain⟨t,rfl⟩:=r;cases(ty)
  exact#[mF s i t,λ_ e=>nomatch e]
 |ref p=>
  cases r;rcases ty with⟨rfl,xs,hq⟩|⟨rfl,o,hk,hc,hd⟩|⟨rfl,hk⟩
  .obtain⟨its,_,pl,_⟩:=I.list hq
   refine#[pl.isList.typeIs,λa e=>?_]
   cases e;obtain⟨o,n,e,c,hd,_⟩:=pl;exact#[o,e,hd]
  .refine#[#[o,I.kIn p o hk,hc],λa e=>?_]
   cases e;exact#[o,I.kIn _ o hk,hd]
  .have z:∃o,s.heap.get? p=aa o/\o.ExactDict:=by
    rcases hk with⟨kvs,hk⟩|⟨kvs,hk⟩
    .obtain⟨_,_,_,_,o,_,_,e,ex,_⟩:=I.hok p _ hk
     exact#[o,e,ex]
    .obtain⟨_,_,_,_,o,_,_,e,ex,_⟩:=I.hok p _ hk
     exact#[o,e,ex]
   obtain⟨o,e,ex⟩:=z;refine#[#[o,e,ex.1],λa e2=>?_]
   cases e2;exact#[o,e,ex.2.1]
 |_=>exact False.elim ty
def tBM(K:am)(T:String)(r:V->List V->Hp->VK->Prop)(to:TE)(t:TA):TE:=λZ H Q=>to Z H λx H1=>tyV K T x H1/\t Z H1 λxs H2=>r x xs H2 Q
variable{o e:Expr}{es:List Expr}{to:TE}{t:TA}{name:bq}{apos cpos:gj}{T id:String}{r:V->List V->Hp->VK->Prop}
def yk(pa:PlainAttrs T)(slot:Slot T name id)(hty:typeOf (.builtin id)=cF (.type "method_descriptor"))(hm:MtR X id r)(ho:PE X o to)(ha:PA X (e::es) t)
  (hbase:nS o name X.env (cu o X.env)=cu o X.env:=by rfl)
  (hfew:((dG cpos<|aB (e::es) X.env).all (λx=>!x.1)&&(backToKw cpos<|pX [] X.env).all (λx=>x.1.isSome)
   && af ((e::es).length+([]:List oN).length+(if([]:List oN).isEmpty then 0 else 1)<30))=aj:=by rfl)
  (hline:(apos.endLine == cpos.line)=aj:=by rfl)(hs:aB (e::es) X.env=#[20]::aB es X.env:=by rfl)(hplain:(dG cpos<|aB es X.env).any (·.1)=ak:=by rfl) :
  PE X (.Call (.Attribute o name apos) (e::es) [] cpos) (tBM X.K T r to t):=by
 intro pq s Z H Q I h;refine wpAny_Call_method_late hbase hfew hline rfl<|thn (ho pq s Z H _ I h) λv s1 #[x,H1,I1,r1,ty,q1]=>?_
 obtain⟨h1,h2⟩:=Zfa I1 r1 ty;refine#[T,id,pa,slot,hty,h1,h2,?_];have hA:=ha cpos pq s1 Z H1 _ I1 q1;rw[hs]at hA ⊢;refine Calls.callWith_builtin (by show(ak||(dG cpos<|aB es X.env).any (·.1))=ak;rw[hplain]<;>rfl)<|Calls.evalArgs_plain ?_
 exact thn hA<|by rintro us s2 ⟨vs,H2,I2,r2,q2⟩;exact hm pq s2 Z H2 x vs v us Q I2 r1 r2 q2
end
def MtM(X:Cx)(id:String)(r:V->List V->Hp->VK->Prop):Prop:=
 ∀pq s Z H x xs v us Q,Inv X pq Z H s->Zy x v->Vals xs us->r x xs H Q->
  bf #[10] X.A (call (.builtin id) (v::us)) (EP X pq Z Q) X.xe s
def Vals.one:∀{x:V}{us:List au},Vals [x] us->∃u,us=[u]/\Zy x u
 |_,_,.cons r .nil=>#[_,rfl,r]
theorem Vals.reverse(h:Vals xs us):Vals xs.reverse us.reverse:=by
 induction h with|nil=>exact .nil|cons r t ih=>rw[fB,fB];exact Vals.append ih<|.cons r .nil
theorem Vals.rep(h:Vals xs us):∀k:Nat,Vals (aJ k xs).flatten (aJ k us).flatten
 |0=>.nil
 |k+1=>by
  rw[cp,cp,de,de];exact Vals.append h<|Vals.rep h k
theorem VT(its:List au):∀(k:Nat)(acc:List au),
  List.foldl (λx1 x2=>x1++x2) acc.toArray (aJ k its.toArray)=(acc++(aJ k its).flatten).toArray
 |0,acc=>by simp
 |k+1,acc=>by
  have e:acc.toArray++its.toArray=(acc++its).toArray:=by simp
  have e2:(acc++its)++(aJ k its).flatten=acc++(aJ (k+1) its).flatten:=by
   rw[cp,de,bu]
  rw[<-e2,<-VT its k (acc++its),<-e,cp,dM]
def Inv.lset{its its':List au}{n:Nat}{f:Array au->Array au}{t':Nat}(I:Inv X pq Z H s)(hH:H l=aa #[35])
  (e:s.heap.get? l=aa {cls:=.type "list",data:=.seq its.toArray n})(hf:f its.toArray=its'.toArray)(hv:Vals ys its')(hz:ys.length<=bj) :
  Inv X pq Z (upd H l<|.lst ys) {s with heap:=s.heap.update l<|fE f,toks:=t' }:=by
 have q:=PySem.IsL.update e f;rw[hf]at q;refine I.write (by rw[hH];exact trivial) (.inl rfl) (λb' u hb hu=>(mE s.heap (fE f)<|Ne.symm hb).trans hu) #[_,q] ?_
 exact#[hz,its',_,hv,q]
def Inv.lnew(I:Inv X pq Z H s)(hv:Vals ys its)(hz:ys.length<=bj) :
  Inv X pq Z (upd H s.heap.objs.size<|.lst ys) {s with heap:=s.heap.push {cls:=.type "list",data:=.seq its.toArray},toks:=t' }:=
 I.laid (λ_ _ q=>aw _ q) (aI _) #[hz,its,0,hv,aR _ rfl]
theorem Inv.fresh(I:Inv X pq Z H s):H s.heap.objs.size=ae:=I.hok.fresh<|aI _
def Inv.lstM(I:Inv X pq Z H s)(hH:H l=aa #[35]):xs.length<=bj/\∃(its:List au)(n:Nat),Vals xs its/\xs.length=its.length/\s.heap.get? l=aa {cls:=.type "list",data:=.seq its.toArray n}:=by
 obtain⟨z,its,n,r,e⟩:=I.hok l _ hH;exact#[z,its,n,r,r.length,e]
def jn(h:n<=bj):gX n=ak:=by
 exact T4 #[0]
def wH:V->List V->Hp->VK->Prop:=λx vs H Q=>∃l xs y,x=.ref l/\vs=[y]/\H l=aa #[35]/\xs.length<bj/\Q .non (upd H l<|.lst<|xs++[y])
def VM:MtM X "list.append" wH:=by
 intro pq s Z H x vs v us Q I rx rv h;obtain⟨l,xs,y,rfl,rfl,hH,hz,q⟩:=h;cases rx;obtain⟨u,rfl,ru⟩:=rv.one;obtain⟨z,its,n,r,hl,e⟩:=I.lstM hH;refine gF F.slot_list_append #[_,e,rfl] F.entry_list_append (F.args_list_append_2 _ _) (PySem.list_append l its.toArray n u<|by rw[az];lia) #[e,?_]
 refine#[.non,_,I.lset (its':=its++[u]) hH e #[2] (r.append<|.cons ru .nil) ?_,rfl,q]
 rw[aN,cT];lia
def Zcd:V->List V->Hp->VK->Prop:=λx vs H Q=>∃l b xs zs,x=.ref l/\vs=[.ref b]/\H l=aa #[35]/\H b=aa (.lst zs)/\xs.length+zs.length<=bj/\Q .non (upd H l<|.lst<|xs++zs)
def qv:MtM X "list.extend" Zcd:=by
 intro pq s Z H x vs v us Q I rx rv h;obtain⟨l,b,xs,zs,rfl,rfl,hH,hB,hz,q⟩:=h;cases rx;obtain⟨u,rfl,ru⟩:=rv.one;cases ru;obtain⟨z,its,n,r,hl,e⟩:=I.lstM hH;obtain⟨z2,its2,n2,r2,hl2,e2⟩:=I.lstM hB;have hsz:its.toArray.size+its2.toArray.size<=bj:=by rw[az,az];lia
 have hlong:¬(!its.toArray.isEmpty&&gX (its.toArray.size+its2.toArray.size))=aj:=by
  rw[jn hsz,rQ];exact aS
 refine gF F.slot_list_extend #[_,e,rfl] F.entry_list_extend (F.args_list_extend_2 _ _)
  (AutoSeq1.list_extend_list_list_0 l its.toArray n b its2.toArray n2 hlong (by rw[az];lia)<|by lia) #[e,e2,?_]
 refine#[.non,_,I.lset (its':=its++its2) hH e #[2] (r.append r2) ?_,rfl,q]
 rw[aN];lia
def Zdx:R2:=λx y H Q=>∃l b xs zs,x=.ref l/\y=.ref b/\H l=aa #[35]/\H b=aa (.lst zs)/\xs.length+zs.length<=bj/\∀p,H p=ae->Q (.ref p) (upd H p<|.lst<|xs++zs)
def wc:OpR X (fA .Add) Zdx:=by
 intro pq s Z H x y v u Q I rx ry h;obtain⟨l,b,xs,zs,rfl,rfl,hH,hB,hz,q⟩:=h;cases rx;cases ry;obtain⟨z,its,n,r,hl,e⟩:=I.lstM hH;obtain⟨z2,its2,n2,r2,hl2,e2⟩:=I.lstM hB;refine PySem.P.add_list e e2 ?_ (by rw[az,az];lia)
 have ea:its.toArray++its2.toArray=(its++its2).toArray:=by simp
 rw[ea];exact#[.ref _,_,I.lnew (t':=s.toks) (r.append r2) (by rw[aN];lia),rfl,q _ I.fresh]
def JR{B:Type}(xs:List B)(k:Nat):(aJ k xs).flatten.length=k*xs.length:=by
 induction k with|zero=>simp|succ k ih=>rw[cp,de,aN,ih,gM,iD]
end L2
namespace Att
open PySem PySem.W PySem.Calls PyProof.Rows
def Um :∀(ns:List Int)(vs:List au),WellAll P h vs (ns.map WData.int)->rF vs ns:=by
 intro ns
 induction ns with
 |nil=>
  intro vs w;rw[mG]at w;cases w;exact .nil
 |cons n ns ih=>
  intro vs w;rw[aX]at w;cases w with
  |cons a b=>
   cases a;exact .cons _ _<|ih _ b
def u8{l:OpenLaw}{n:Nat}(hn:l.most=aa n){P:Params}{h:cy}{args:List WData}{vals:List au}
  (hpre:l.row.toRowW.claim.pre args=aj)(hwl:WellAll P h vals args) :
  ∃a vs ns,vals=[dZ a]/\args=[WData.list<|ns.map WData.int]/\h.get? a=aa {cls:=.type "list",data:=.seq vs.toArray}/\rF vs ns/\ns.length<=n:=by
 have hsh:=(pre_splitW hpre).1;have hc:=(pre_splitW hpre).2;obtain⟨d,r,rfl,h1,h2⟩:=hasAllW_cons hsh;obtain rfl:=hasAllW_nil h2;obtain⟨xs,rfl,h3⟩:=hasW_list h1;obtain⟨ns,rfl⟩:=items_int h3;have hlen:ns.length<=n:=by
  have h4:(WTm.not<|.lt (.lit<|.int (n:Int))<|.len<|.arg 0).holds [] {args:=[.list<|ns.map .int]}=aj:=by
   have h4:=(holds_andW hc).1;rw[hn]at h4;exact h4
  have h5:=condW_of h4<|w_not<|w_lt w_lit<|w_len_list<|w_arg rfl;rw[ax]at h5;refine fb λq=>?_
  have q':(n:Int)<((ns.length:Nat):Int):=by lia
  first
   |(rw[T5 q']at h5;exact T7 h5 #[1])
   |(simp at h5;lia)
 cases hwl with
 |cons w1 w2=>
  cases w2;cases w1 with|list ho hall=>exact#[_,_,ns,rfl,rfl,ho,Um ns _ hall,hlen]
def qy(l:OpenLaw)(args:List WData):l.row.toRowW.claim.post args (.bool aj) args=aj:=
 postW_of
  (by first|rfl|decide|simp[WShape.has,WShape.arms,WShape.armsAll])
  (w_eq_bool (w_res rfl) w_lit) rfl
def zr{l:OpenLaw}{n:Nat}{q:bE}{loose:List bq}{XP:(bq->Option au)->cy->Prop}{YP:bZ->cy->Prop}{d:sT}
  (hn:l.most=aa n)(hdf:d.params.defaults=[])
  (call:∀(w:bZ)(s₀ s₁:aA)(mg mb:bq->Option au)(fa:aE)(o:fW)(pm cd doc:au)(a:aE)(vs:List au)(ns:List Int),
   Ground q loose [] XP w s₀ mg mb s₁.heap->YP w s₁.heap->
   s₁.heap.get? fa=aa o->o.data=.func (docDef d.name d.params d.body d.scope pm cd doc)->s₁.heap.CodeRec cd d.name->mg d.name=aa (.ref fa)->
   s₁.heap.get? a=aa {cls:=.type "list",data:=.seq vs.toArray}->rF vs ns->ns.length<=n->s₁.gens = #[]->
   eT (aV l.prog w) nD (.call (.ref fa) #[[.ref a],[]]) (λr s'=>r=.ok (.ret<|.bool aj)/\OldK s₁.heap s'.heap/\s'.os=s₁.os/\i7 s'.gens) s₁) :
  WalkO q loose XP YP l.row.toRowW d [] (λf vs=>rR f vs):=by
 intro w s₀ s₁ mg mb G Y fa o pm cd doc dV kV ho hd hcd hD hmg hg args vals as hpre hlay hrd hwl hlo;obtain rfl:dV=.none:=Dflts.none hD hdf;obtain rfl:kV=.none:=Dflts.noKw hD;obtain⟨a,vs,ns,rfl,rfl,hobj,hints,hlen⟩:=u8 hn hpre hwl;refine enter_call<|kK (call w s₀ s₁ mg mb fa o pm cd doc a vs ns G Y ho (fd_plain hd) hcd hmg hobj hints hlen hg) λr s' hq=>?_
 obtain⟨rfl,h2,h3,h4⟩:=hq;exact#[.inl #[.bool aj,.bool aj,[],rfl,λ_=>rfl,.bool aj,qy l _,λ_=>#[iE,λ_ hm=>(nomatch hm)]],h2,h3,h4]
end Att
namespace L2
open PySem PySem.Spec PyProof.Rows
theorem JI:∀{vs:List au}{ns:List Int},rF vs ns->Vals (ns.map V.int) vs
 |_,_,.nil=>.nil
 |_,_,.cons n t h=>.cons #[t,rfl]<|JI h
noncomputable def Xc(s:fg):pe:=match s with
 |.FunctionDef _ a _ _ _ _ _ _ _ _=>a
 |_=>{posonlyargs:=[],args:=[],vararg:=ae,kwonlyargs:=[],kw_defaults:=[],kwarg:=ae,defaults:=[]}
noncomputable def ZA(s:fg):List fg:=match s with
 |.FunctionDef _ _ b _ _ _ _ _ _ _=>b
 |_=>[]
noncomputable def Zh(s:fg):dS:=match s with
 |.FunctionDef _ _ _ _ _ _ sc _ _ _=>sc
 |_=>{kind:=.function,names:=[],isGenerator:=ak,isCoroutine:=ak}
noncomputable abbrev E0:XK:=λ_ _ _=>False
structure Fun(K:am)(x qual:bq)(st:fg)(f:aE)(fd:cQ):Prop where
 ex:∃(oc:au)(od:Option aE)(kV doc pm:au)(an:Option aE)(cdv ct:au)(osl:Array (Option au)),
  fd=eU x qual (Xc st) (ZA st) (Zh st) .none kV doc pm an cdv ct/\K.lookup f=aa #[oc,od,.func fd,osl]/\kR K cdv qual=aj
 kp:fI K (.ref f)=aj
section
variable{P:bE}{w:bZ}{K:am}{mg:bq->Option au}{base:cy}
def Fun.binds{x qual:bq}{st:fg}{f:aE}{fd:cQ}{ps:List bq}(F:Fun K x qual st f fd)
  (h:∀(kV doc pm:au)(an:Option aE)(cdv ct:au)(us:List au),us.length=ps.length->m9 (eU x qual (Xc st) (ZA st) (Zh st) .none kV doc pm an cdv ct) #[us,[]]=cF (ps.zip us)):Vl K fd ps []:=by
 obtain⟨oc,od,kV,doc,pm,an,cdv,ct,osl,rfl,lk,hcd⟩:=F.ex;exact .all<|h kV doc pm an cdv ct
def Zgu{x qual:bq}{st:fg}{f:aE}{oc:au}{od an:Option aE}{osl:Array (Option au)}{kV doc pm cdv ct:au}(l:K.lookup f=aa #[oc,od,.func<|eU x qual (Xc st) (ZA st) (Zh st) .none kV doc pm an cdv ct,osl])
  (c:kR K cdv qual=aj)(k:fI K (.ref f)=aj):Fun K x qual st f (eU x qual (Xc st) (ZA st) (Zh st) .none kV doc pm an cdv ct):=#[#[oc,od,kV,doc,pm,an,cdv,ct,osl,rfl,l,c],k]
end
section
variable{κ:Type}[DecidableEq κ]
noncomputable def Qb(kvs:List (κ×V))(k:κ):Option V:=(kvs.find? λkv=>af<|kv.1=k).map (·.2)
noncomputable def zB(kvs:List (κ×V))(k:κ)(v:V):List (κ×V):=
 if(kvs.any λkv=>af<|kv.1=k)=aj then kvs.map (λkv=>if kv.1=k then(kv.1,v)else kv)else kvs++[(k,v)]
def QN{p:κ×V}{r:List (κ×V)}{k:κ}(e:p.1=k):Qb (p::r) k=aa p.2:=by simp[Qb,fw,e]
def Qy{p:κ×V}{r:List (κ×V)}{k:κ}(e:¬p.1=k):Qb (p::r) k=Qb r k:=by simp[Qb,fw,e]
theorem zY(k:κ):∀kvs:List (κ×V),(kvs.any λkv=>af<|kv.1=k)=(Qb kvs k).isSome
 |[]=>rfl
 |p::r=>by
  rw[gh];by_cases e:p.1=k
  .simp only[QN e,T5 e,Bool.true_or,ow]
  .rw[Qy e,T4 e,lO];exact zY k r
theorem yM(kvs:List (κ×V))(k:κ)(v:V):(zB kvs k v).length<=kvs.length+1:=by
 unfold zB;split
 .rw[ax];lia
 .rw[aN,aG,eM];lia
def Zc5.isSome_eq(r:Zc5 o u):o.isSome=u.isSome:=by
 cases o with
 |none=>cases u with|none=>rfl|some _=>exact(r).elim
 |some _=>cases u with|none=>exact(r).elim|some _=>rfl
def KV.val{kvs:List (κ×V)}{vs:List (κ×au)}(r:KV kvs vs)(k:κ):Zc5 (Qb kvs k) (oO vs k):=by
 unfold KV at r
 induction r with
 |nil=>exact dU
 |@cons p q ps qs h t ih=>
  obtain⟨h1,h2⟩:=h;by_cases e:p.1=k
  .have e':=h1.symm.trans e
   have b:oO (q::qs) k=aa q.2:=by simp[oO,fw,e']
   rw[QN e,b];exact h2
  .have e':¬q.1=k:=λz=>e (h1.trans z)
   have b:oO (q::qs) k=oO qs k:=by simp[oO,fw,e']
   rw[Qy e,b];exact ih
theorem KV.any(r:KV kvs vs)(k:κ):(kvs.any λkv=>af<|kv.1=k)=vs.any λkv=>af (kv.1=k):=by
 unfold KV at r
 induction r with|nil=>rfl|cons h t ih=>rw[gh,gh,ih,h.1]
def KV.repl(r:KV kvs vs)(k:κ)(ry:Zy y u) :
  KV (kvs.map λkv=>if kv.1=k then(kv.1,y)else kv) (vs.map λkv=>if kv.1=k then(kv.1,u)else kv):=by
 unfold KV at r ⊢
 induction r with
 |nil=>exact .nil
 |@cons p q ps qs h t ih=>
  rw[aX,aX];refine .cons ?_ ih;obtain⟨h1,h2⟩:=h;by_cases e:p.1=k
  .rw[T9 e,T9<|h1.symm.trans e];exact#[h1,ry]
  .rw[T8 e,T8 λz=>e<|h1.trans z];exact#[h1,h2]
def KV.put(r:KV kvs vs)(k:κ)(ry:Zy y u):KV (zB kvs k y) (stored vs k u):=by
 unfold zB stored;rw[r.any k];by_cases e:(vs.any λkv=>af<|kv.1=k)=aj
 .rw[T9 e,T9 e];exact r.repl k ry
 .rw[T8 e,T8 e];exact Paired.snoc r #[rfl,ry]
end
def vf(r:Zy (kV k) u):(ZK P w).is k u=aj:=by
 cases k with|inl i=>obtain⟨t,e⟩:=(r);subst e;exact yC P w i t|inr x=>obtain⟨t,e⟩:=(r);subst e;exact GY P w x t
theorem Jh :∀{ks:List Key}{us:List au},Vals (ks.map kV) us->ItemsAre (ZK P w) ks us
 |[],_,r=>by rw[mG]at r;cases r;exact .nil
 |k::ks,_,r=>by
  rw[aX]at r;cases r with|cons h t=>exact .cons (vf h)<|Jh t
abbrev KT(H:Hp):List (List Key×V)->List (List Key×aE×au)->Prop:=Paired λp q=>p.1=q.1/\H q.2.1=aa (.tup<|p.1.map kV)/\Zy p.2 q.2.2
def KT.val{H:Hp}{kvs:List (List Key×V)}{xs:List (List Key×aE×au)}(r:KT H kvs xs)(k:List Key):Zc5 (Qb kvs k) ((rS xs k).map (·.2)):=by
 induction r with
 |nil=>exact dU
 |@cons p q ps qs h t ih=>
  obtain⟨h1,_,h2⟩:=h;by_cases e:p.1=k
  .have e':=h1.symm.trans e
   have b:rS (q::qs) k=aa q.2:=by simp[rS,fw,e']
   rw[QN e,b];exact h2
  .have e':¬q.1=k:=λz=>e (h1.trans z)
   have b:rS (q::qs) k=rS qs k:=by simp[rS,fw,e']
   rw[Qy e,b];exact ih
def Zej(ok:HOk P w H h)(e:Rd H a u):Z7 P w H h a u:=e.ok ok
def ZaM(ok:HOk P w H h)(e:Rd H a (.dK kvs)):kvs.length<=bj/\(a == fe)=ak/\∃vs,KV kvs vs/\h.DictOf (ZK P w) a vs:=
 Zej ok e
def ZhA(ok:HOk P w H h)(e:H a=aa (.dK kvs)):kvs.length<=bj/\(a == fe)=ak/\∃vs,KV kvs vs/\h.DictOf (ZK P w) a vs:=ZaM ok<|.inl e
def Gw(ok:HOk P w H h)(e:H a=aa (.tup<|ks.map kV)):(eI<|ZK P w).is h ks a:=by
 obtain⟨_,its,r,o,h1,h2,n,h3⟩:=(ok a _ e)
 exact#[o,its.toArray,n,h1,h2,h3,by simpa using Jh r]
def Zeb(ok:HOk P w H h)(e:Rd H a (.dT kvs)):kvs.length<=bj/\(a == fe)=ak/\
  ∃xs,KT H kvs xs/\h.DictOfH (eI<|ZK P w) a xs:=by
 obtain⟨z,y,xs,r,o,es,ep,h1,h2,h3,h4,h5⟩:=(Zej ok e)
 refine#[z,y,xs,r,o,es,ep,h1,h2,h3,h4,λx hx=>?_,h5]
 have all:∀{l:List (List Key×V)}{m:List (List Key×aE×au)},KT H l m->∀x∈m,(eI<|ZK P w).is h x.1 x.2.1:=by
  intro l m q
  induction q with
  |nil=>intro x hx;exact nomatch hx
  |@cons p q ps qs hq t ih=>
   intro x hx;rcases ay.mp hx with e|hx
   .subst e
    exact Gw ok (by rw[<-hq.1];exact hq.2.1)
   .exact ih x hx
 exact all r x hx
def DGet(H:Hp)(a:aE)(y:V)(r:Option V):Prop:=
 (∃kvs k,Rd H a (.dK kvs)/\y=kV k/\r=Qb kvs k)\/∃kvs k b,Rd H a (.dT kvs)/\y=.ref b/\H b=aa (.tup<|k.map kV)/\r=Qb kvs k
def Inv.big(I:Inv X pq Z H s):fe<s.heap.objs.size:=by
 have h:=(I.mod.glob.keeps I.bk).lt;exact dA #[1] h
def Zh6{Q:au->aA->Prop}(hu:A.units+1<dN)(I:Inv X pq Z H s)(g:DGet H a y o)(ry:Zy y u)(h:∀s',Inv X pq Z H s'->Q (.bool o.isSome) s') :
  bf #[10] A (cO .In u<|.ref a) Q E s:=by
 rcases g with⟨kvs,k,e,ey,l⟩|⟨kvs,k,b,e,ey,eb,l⟩
 .subst ey
  obtain⟨z,hd,vs,rel,dd⟩:=ZaM I.hok e;refine wpAny_in_of (vf ry) hd dd.mapOf ?_;rw[<-(rel.val k).isSome_eq,<-l];exact h _<|I.tok _
 .subst ey
  cases(ry)
  obtain⟨z,hd,xs,rel,dd⟩:=Zeb I.hok e;refine wpAny_in_heap (kZ hu) (Gw I.hok eb) hd dd ?_;have q:=(rel.val k).isSome_eq;rw[oP]at q;rw[<-q,<-l];exact h _<|I.tok _
def Zda{Q:au->aA->Prop}(hu:A.units+1<dN)(I:Inv X pq Z H s)(g:DGet H a y o)(ry:Zy y u)(h:∀s',Inv X pq Z H s'->Q (.bool<|!o.isSome) s') :
  bf #[10] A (cO .NotIn u<|.ref a) Q E s:=by
 rcases g with⟨kvs,k,e,ey,l⟩|⟨kvs,k,b,e,ey,eb,l⟩
 .subst ey
  obtain⟨z,hd,vs,rel,dd⟩:=ZaM I.hok e;refine wpAny_notIn_of (vf ry) hd dd.mapOf ?_;rw[<-(rel.val k).isSome_eq,<-l];exact h _<|I.tok _
 .subst ey
  cases(ry)
  obtain⟨z,hd,xs,rel,dd⟩:=Zeb I.hok e;refine wpAny_notIn_heap (kZ hu) (Gw I.hok eb) hd dd ?_;have q:=(rel.val k).isSome_eq;rw[oP]at q;rw[<-q,<-l];exact h _<|I.tok _
def ZcD(I:Inv X pq Z H s)(mu:Mut (H a))(hs:gJ a s.heap h')(he:∃q,h'.get? a=aa q)(new:Z7 X.prog X.w (upd H a ob) h' a ob) :
  Inv X pq Z (upd H a ob) {s with heap:=h',toks:=t' }:=
 I.write mu (.inl rfl) (λb q hb z=>(hs.2 b hb).trans z) he new
def Zf2(z:kvs.length<=bj)(hd:(a == fe)=ak)(rel:KV kvs vs)(dd:h'.DictOf (ZK P w) a vs) :
  Z7 P w H' h' a (.dK kvs):=#[z,hd,vs,rel,dd]
def yg(h:cy)(hb:fe<h.objs.size):Z7 P w H (h.push {cls:=.type "dict",data:=.dict #[]}) h.objs.size (.dK []):=
 #[eE _,beq_eq_false_iff_ne.mpr<|Ne.symm<|bv hb,[],.nil,cy.DictOf.new h]
def ZeJ:TE:=λ_ H Q=>∀p,H p=ae->Q (.ref p) (upd H p<|.dK [])
def jv:PE X (.Dict [] [] pos) ZeJ:=λpq s Z H Q I h=>
 wpAny_Dict_empty #[.ref s.heap.objs.size,_,I.laid (t':=s.toks) (λ_ _ q=>aw _ q) (aI _)<|yg s.heap I.big,rfl,h _<|I.hok.fresh<|aI _]
def xF:List (TE×TE)->St->Hp->(List (V×V)->Hp->Prop)->Prop
 |[],_,H,Q=>Q [] H
 |(tk,tv)::r,Z,H,Q=>tk Z H λx H1=>tv Z H1 λy H2=>xF r Z H2 λps H3=>Q ((x,y)::ps) H3
abbrev VV:List (V×V)->List (au×au)->Prop:=Paired λp q=>Zy p.1 q.1/\Zy p.2 q.2
def PPs(X:Cx)(pos:gj)(keys:List (Option Expr))(values:List Expr)(trs:List (TE×TE)):Prop:=
 ∀pq s Z H Q,Inv X pq Z H s->xF trs Z H Q->
  bf #[10] X.A (evalPairs<|pairTrees keys values X.env pos) (λvs s'=>∃ps H',Inv X pq Z H' s'/\VV ps vs/\Q ps H') X.xe s
def ZcU :PPs X pos [] [] []:=λpq s Z H Q I h=>pairTrees_nil_walk #[[],H,I,.nil,h]
def qT(hk:PE X k tk)(hv:PE X v tv)(hr:PPs X pos ks vs trs) :
  PPs X pos (aa k::ks) (v::vs) ((tk,tv)::trs):=λpq s Z H Q I h=>
 pairTrees_cons_walk (thn (hk pq s Z H _ I h) λu s1 #[x,H1,I1,rx,q1]=>thn (hv pq s1 Z H1 _ I1 q1) λw2 s2 #[y,H2,I2,ry,q2]=>
  thn (hr pq s2 Z H2 _ I2 q2)<|by rintro ws s3 ⟨ps,H3,I3,rel,q3⟩;exact #[(x,y)::ps,H3,I3,.cons #[rx,ry] rel,q3])
def UY(kvs more:List (Key×V)):List (Key×V):=more.foldl (λacc kv=>zB acc kv.1 kv.2) kvs
def KV.merge:∀{more:List (Key×V)}{rs:List (Key×au)}{kvs:List (Key×V)}{vs:List (Key×au)},KV more rs->KV kvs vs->KV (UY kvs more) (merged vs rs):=by
 intro more rs kvs vs r;unfold KV at r
 induction r generalizing kvs vs with
 |nil=>intro q;exact q
 |@cons p q ps qs h t ih=>
  intro r0;have e:KV (zB kvs p.1 p.2) (stored vs q.1 q.2):=by
   have:=r0.put p.1 h.2;rw[<-h.1];exact this
  exact ih e
theorem WC:∀(more kvs:List (Key×V)),(UY kvs more).length<=kvs.length+more.length
 |[],kvs=>by show kvs.length<=kvs.length+0;lia
 |p::r,kvs=>by
  have h1:=WC r<|zB kvs p.1 p.2;have h2:=yM kvs p.1 p.2;show(UY (zB kvs p.1 p.2) r).length<=_;rw[aG];lia
theorem Qx :∀{kvs:List (Key×V)}{ws:List (au×au)},VV (kvs.map λkv=>(kV kv.1,kv.2)) ws->∃rs,Carries (ZK P w) ws rs/\KV kvs rs
 |[],_,r=>by rw[mG]at r;cases r;exact#[[],dU,.nil]
 |p::kvs,_,r=>by
  rw[aX]at r;cases r with
  |@cons a b as bs h t=>
   obtain⟨rs,c,q⟩:=Qx t;obtain⟨b1,b2⟩:=b;exact#[(p.1,b2)::rs,#[vf h.1,rfl,c],.cons #[rfl,h.2] q]
def Zhy(trs:List (TE×TE)):TE:=λZ H Q=>∀p,H p=ae->xF trs Z (upd H p<|.dK []) λps H2=>H2 p=aa (.dK [])/\∃kvs:List (Key×V),ps=kvs.map (λkv=>(kV kv.1,kv.2))/\kvs.length<=15/\Q (.ref p) (upd H2 p<|.dK<|UY [] kvs)
def ZcZ(h:PPs X pos keys values trs)(hall:keys.all (·.isSome)=aj)(hl:keys.length=values.length)(h0:keys≠[])
  (h15:keys.length<=15):PE X (.Dict keys values pos) (Zhy trs):=by
 intro pq s Z H Q I q;have hn:=I.hok.fresh<|aI s.heap.objs.size;have I1:=I.laid (h':=s.heap.push {cls:=.type "dict",data:=.dict #[]}) (t':=s.toks) (λ_ _ q=>aw _ q) (aI _)<|yg s.heap I.big
 refine wpAny_Dict_walk (knd:=ZK X.prog X.w) hall hl h0 h15<|thn (h pq _ Z _ _ I1<|q _ hn) λws s2 #[ps,H2,I2,rel,e,kvs,ep,lk,q2]=>?_
 subst ep;obtain⟨rs,c,rk⟩:=Qx rel;obtain⟨z,hd,vs0,r0,dd⟩:=ZhA I2.hok e;cases r0;refine#[rs,c,dd,λh' dd' hs=>#[.ref s.heap.objs.size,_,?_,rfl,q2]]
 have hz:(UY [] kvs).length<=bj:=by
  have h1:=WC kvs [];rw[eM]at h1;rw[du];lia
 have he:∃q,h'.get? s.heap.objs.size=aa q:=let #[q,_,_,hq,_]:=dd';#[q,hq];exact ZcD I2 (by rw[e];exact dU) hs he<|Zf2 hz hd (rk.merge .nil) dd'
end L2
namespace Pv
open PySem (Str)
inductive V where
 |non|bl (b:Bool)|int (i:Int)|str (x:bq)|tup (xs:List V)|lst (xs:List V)|drw|dct (ks:Sum (List<|Int×Int) (List<|List Int))|scr (ns:List Int)
 deriving Inhabited
end Pv
namespace Ev
open PySem (Str)
def nos{B:Type}{P:Prop}{b:B}(h:ae=aa b):P:=by cases h
noncomputable def lim:Nat:=16777216
inductive Bop where|add|sub|mul|fdiv|mod|pow
 deriving DecidableEq
inductive Cop where|eq|ne|lt|le|gt|ge|is|inn|nin
 deriving DecidableEq
inductive Ty where|int|bool|str|tuple|list|dict|cls (c:Nat)
 deriving DecidableEq
inductive Bf where|len|max2|min2|toInt|tuple|list|all|any|sum|sorted|dictP|index|rangeL
 deriving DecidableEq
inductive So where|join|split|find|ix
 deriving DecidableEq
inductive Mf where|append|extend|index
 deriving DecidableEq
mutual
inductive E where
 |c (d:Pv.V)|v (i:Nat)
 |tup (es:List E)|lst (es:List E)|dnew
 |bin (op:Bop) (a b:E)|neg (a:E)|not (a:E)|and (a b:E)|or (a b:E)|ite (t a b:E)
 |cmp (op:Cop) (a b:E)|chain (o p:Cop) (a b d:E)
 |ix (a i:E)|sl (a:E) (lo hi:Option E)|rev (a:E)
 |call (f:Nat) (as:List E)|blt (f:Bf) (as:List E)|mt (m:Mf) (o:E) (as:List E)
 |isi (a:E) (ts:List Ty)
 |dput1 (k v:E)
 |comp1 (cap:List Nat) (nl:Nat) (t:List Nat) (it:W) (ifs:List E) (elt:E)
 |comp2 (cap:List Nat) (nl:Nat) (t:List Nat) (it:W) (ifs:List E) (u:List Nat) (jt:W) (jfs:List E) (elt:E)
 |fi (e:E)
 |refu (w:Bool) (e:E)
 |dix (a:E) (k:Bool)
 |callF (f:Nat) (as:List E)
inductive W where
 |of (e:E)|rng1 (a:E)|rng2 (a b:E)|zip (a b:E)|enum (a:E)|rrng (a b:E)
end
abbrev E.n(i:Int):E:=.c<|.int i
inductive Sm where
 |asg (t:List Nat) (e:E)|par (t:List Nat) (es:List E)
 |ret (e:E)|ex (e:E)|ite (t:E) (a b:List Sm)|forr (t:List Nat) (it:W) (b:List Sm)
 |raise (c:Nat) (as:List E)|cnt
 |mov (i j:Nat)
 |dset (i:Nat) (e:E)|cel (i f:Nat) (as:List E) (b:List Sm)
 |retO (i:Nat)
noncomputable def b2i(b:Bool):Int:=if b then 1 else 0
noncomputable def Zt:Nat:=6
noncomputable def ixN(n:Nat)(i:Int):Option Nat:=if 0<=i then(if i<n then aa i.toNat else ae)else if -(n:Int)<=i then aa (i+n).toNat else ae
def at'{B:Type}(xs:List B)(i:Int):Option B:=(ixN xs.length i).bind λj=>xs[j]?
noncomputable def sIx(n d:Nat):Option Int->Nat
 |none=>d
 |some i=>if i<0 then(i+n).toNat else sD i.toNat n
noncomputable def fits(i:Int):Bool:=af<|i.natAbs<2^8000
noncomputable def big:Int:=2^8000
def qG(h:b<1073741824):b<big:=Int.lt_trans h (by decide +kernel)
noncomputable def ltI:List Int->List Int->Bool
 |[],[]=>ak
 |[],_::_=>aj
 |_::_,[]=>ak
 |a::x,b::y=>if a=b then ltI x y else af (a<b)
def XI(x:List Int):List #[14]->List #[14]
 |[]=>[x]
 |y::r=>if ltI x y then x::y::r else y::XI x r
def Yb:List #[14]->List #[14]
 |[]=>[]
 |x::r=>XI x<|Yb r
noncomputable def WX{B:Type}(lt:B->B->Bool)(x:B):List B->List B
 |[]=>[x]
 |y::r=>if lt x y then x::y::r else y::WX lt x r
def Yl{B:Type}(lt:B->B->Bool):List B->List B
 |[]=>[]
 |x::r=>WX lt x<|Yl lt r
def ltP:List #[14]->List #[14]->Bool
 |[],[]=>ak
 |[],_::_=>aj
 |_::_,[]=>ak
 |a::x,b::y=>if a=b then ltP x y else ltI a b
noncomputable def Zbw(is:List Int):Bool:=af (is.length<=1000)&&is.all λi=>af<|-1099511627776<=i/\i<=1099511627776
noncomputable def YU(rs:List #[14]):Bool:=af (rs.length<=100000)&&decide rs.Nodup&&rs.all λr=>!r.isEmpty
noncomputable def Z3(ps:List (List<|List Int)):Bool:=af (ps.length<=100000)&&decide ps.Nodup&&(af (ps.length<=1)||ps.all λP=>!P.isEmpty)
def UN(ks:List #[14]):Bool:=af (ks.length<=lim)&&decide ks.Nodup
noncomputable def Yt(i:Int):Bool:=af<|-(2^62)<=i/\i<2^62
noncomputable def few(i:Int):Bool:=af<|0<=i/\i<=1000
noncomputable def Wd:List bq:=["row","part","number","heads","not beside","not in","turn","lot","many","note"]
noncomputable def spcs:List (Nat×Nat):=[(2,1),(2,2),(2,3),(2,4),(3,1),(3,2),(3,3),(5,1),(5,2),(2,5),(2,6),(3,4),(5,3)]
def Zhs(rs:List #[14]):Bool:=YU rs&&(af (rs.length<=300)&&spcs.any λq=>rs.all λr=>af (r.length=q.2)&&r.all λa=>af<|0<=a/\a<(q.1:Int))
noncomputable def Zhk(P:List #[14]):Int:=pj<|iR<|P.map λr=>pj<|iR<|r.map PySem.hashInt
def ZeO(ps:List (List<|List Int)):Bool:=Z3 ps&&(af (ps.length<=1399)&&af (ps.map Zhk).Nodup)
structure Fn where
 ps:Nat
 ns:Nat
 body:List Sm
end Ev
namespace Pv
open Ev
open PySem (Str)
noncomputable abbrev DS:=Int×Bool
inductive PR(B:Type) where
 |ok (a:B) (s:DS)|ex (c:Nat) (s:DS)|no
noncomputable def PR.bind{B β:Type}(r:PR B)(f:B->DS->PR β):PR β:=match r with
 |.ok a s=>f a s
 |.ex c s=>.ex c s
 |.no=>.no
noncomputable def PR.nox{B:Type}(r:PR B):PR B:=match r with
 |.ex _ _=>.no
 |r=>r
noncomputable def po{B:Type}(o:Option B)(s:DS):PR B:=match o with
 |some a=>.ok a s
 |none=>.no
abbrev Env:=List<|Option V
mutual
noncomputable def V.flat:V->Bool
 |.tup xs=>ZP xs
 |.lst _=>ak
 |.drw=>ak
 |.dct _=>ak
 |_=>aj
noncomputable def ZP:List V->Bool
 |[]=>aj
 |x::xs=>x.flat&&ZP xs
end
mutual
noncomputable def ofD:V->Option V
 |.non=>aa .non
 |.bl b=>aa<|.bl b
 |.int i=>aa<|.int i
 |.str x=>aa<|.str x
 |.tup xs=>(ZgG xs).map .tup
 |_=>ae
noncomputable def ZgG:List V->Option (List V)
 |[]=>aa []
 |x::xs=>match ofD x,ZgG xs with
  |some a,aa b=>aa (a::b)
  |_,_=>ae
end
noncomputable def Zs:V->Option Bool
 |.non=>aa ak
 |.bl b=>aa b
 |.int i=>aa<|af<|i≠0
 |.tup xs=>aa<|!xs.isEmpty
 |.lst xs=>aa<|!xs.isEmpty
 |_=>ae
noncomputable def Yz(f:V->V->Option Bool):List V->List V->Option Bool
 |[],[]=>aa aj
 |x::xs,y::ys=>match f x y,Yz f xs ys with
  |some a,aa b=>aa<|a&&b
  |_,_=>ae
 |_,_=>aa ak
def eqV:Nat->V->V->Option Bool
 |0,_,_=>ae
 |k+1,x,y=>match x with
  |.non=>match y with
   |.non=>aa aj
   |.bl _|.int _|.str _=>aa ak
   |_=>ae
  |.bl a=>match y with
   |.bl b=>aa<|af<|a=b
   |.int b=>aa<|af<|b2i a=b
   |.non|.str _=>aa ak
   |_=>ae
  |.int a=>match y with
   |.int b=>aa<|af<|a=b
   |.bl b=>aa<|af<|a=b2i b
   |.non|.str _=>aa ak
   |_=>ae
  |.str a=>match y with
   |.str b=>aa<|af<|a=b
   |.non|.bl _|.int _=>aa ak
   |_=>ae
  |.tup xs=>match y with
   |.tup ys=>Yz (eqV k) xs ys
   |_=>ae
  |.lst xs=>match y with
   |.lst ys=>if xs.length=ys.length then Yz (eqV k) xs ys else aa ak
   |_=>ae
  |_=>ae
def XG(x:V):List V->Option Bool
 |[]=>aa ak
 |y::ys=>match eqV Zt y x,XG x ys with
  |some a,aa b=>aa (a||b)
  |_,_=>ae
def ZhP(x:V)(xs:List V):Option Nat:=if XG x xs=aa aj then xs.findIdx? λy=>eqV Zt y x == aa aj else ae
noncomputable def Yy:V->Ty->Option Bool
 |.non,_=>aa ak
 |.bl _,t=>aa<|af<|t=.bool\/t=.int
 |.int _,t=>aa<|af<|t=.int
 |.str _,t=>aa<|af<|t=.str
 |.tup _,t=>aa<|af<|t=.tuple
 |.lst _,t=>aa<|af<|t=.list
 |.dct (.inl _),t=>aa<|af<|t=.dict
 |_,_=>ae
def Z4(x:V):List Ty->Option Bool
 |[]=>aa ak
 |t::ts=>match Yy x t with
  |some aj=>aa aj
  |some ak=>Z4 x ts
  |none=>ae
def YF(xs:List V)(lo hi:Option Int):List V:=(xs.drop<|sIx xs.length 0 lo).take<|sIx xs.length xs.length hi-sIx xs.length 0 lo
def QW(op:Bop)(a b:Int)(s:DS):PR V:=match op with
 |.add=>.ok (.int<|a+b) s
 |.sub=>.ok (.int<|a-b) s
 |.mul=>if(fits a&&fits b)=aj then .ok (.int<|a*b) s else .no
 |.fdiv=>if 0<b/\b<Ev.big then .ok (.int<|a / b) s else .no
 |.mod=>if 0<b then .ok (.int<|a%b) s else .no
 |.pow=>if 0<=b/\b<=1000/\a.natAbs<2^64 then .ok (.int<|a^b.toNat) s else .no
def Wu(op:Bop)(x y:V)(s:DS):PR V:=match x with
 |.int a=>match y with
  |.int b=>QW op a b s
  |_=>.no
 |.tup a=>match y with
  |.tup b=>match op with
   |.add=>if a.length+b.length<=lim then .ok (.tup<|a++b) s else .no
   |_=>.no
  |.int b=>match op with
   |.mul=>if 0<=b/\b<1000/\a.length<=1000 then .ok (.tup (aJ b.toNat a).flatten) s else .no
   |_=>.no
  |_=>.no
 |.lst a=>match y with
  |.lst b=>match op with
   |.add=>if a.length+b.length<=lim then .ok (.lst<|a++b) s else .no
   |_=>.no
  |.int b=>match op with
   |.mul=>if 0<=b/\b<1000/\a.length<=1000 then .ok (.lst (aJ b.toNat a).flatten) s else .no
   |_=>.no
  |_=>.no
 |_=>.no
noncomputable def intsV:List V->Option #[14]
 |[]=>aa []
 |.int i::r=>(intsV r).map (i :: ·)
 |_::_=>ae
def Ue(x y:V):Option Bool:=match y with
 |.tup ys=>XG x ys
 |.lst ys=>XG x ys
 |.dct (.inr ks)=>match x with
  |.tup k=>(intsV k).map λk=>ks.contains k
  |_=>ae
 |_=>ae
noncomputable def QC:V->Bool
 |.non=>aj
 |_=>ak
noncomputable def Zd(r:List Int):V:=.tup<|r.map .int
def Ye:List V->Option (List<|List Int)
 |[]=>aa []
 |.tup x::r=>match intsV x,Ye r with
  |some a,aa b=>aa (a::b)
  |_,_=>ae
 |_::_=>ae
noncomputable def int2(x y:V):Option (Int×Int):=match x with
 |.int a=>match y with
  |.int b=>aa (a,b)
  |_=>ae
 |_=>ae
def isV(x y:V):Option Bool:=match y with
 |.non=>aa<|QC x
 |.bl b=>match x with
  |.bl a=>aa<|af<|a=b
  |_=>ae
 |_=>ae
def YH(op:Cop)(x y:V):Option V:=match op with
 |.eq=>(eqV Zt x y).map .bl
 |.ne=>(eqV Zt x y).map λb=>.bl !b
 |.lt=>match x with
  |.tup a=>match y with
   |.tup b=>(Ye a).bind λP=>(Ye b).map λQ=>.bl<|ltP P Q
   |_=>ae
  |x=>(int2 x y).map λz=>.bl<|af<|z.1<z.2
 |.gt=>(int2 x y).map λz=>.bl<|af<|z.2<z.1
 |.le=>(int2 x y).map λz=>.bl<|af<|z.1<=z.2
 |.ge=>(int2 x y).map λz=>.bl<|af<|z.2<=z.1
 |.is=>(isV x y).map .bl
 |.inn=>(Ue x y).map .bl
 |.nin=>(Ue x y).map λb=>.bl !b
def ixV(x y:V):Option V:=match x,y with
 |.tup xs,.int i=>at' xs i
 |.lst xs,.int i=>at' xs i
 |.scr xs,.int i=>(at' xs i).map .int
 |_,_=>ae
def slV(x:V)(lo hi:Option Int):Option V:=match x with
 |.tup xs=>aa<|.tup<|YF xs lo hi
 |.lst xs=>aa<|.lst<|YF xs lo hi
 |_=>ae
noncomputable def Zg0:V->Option V
 |.tup xs=>aa<|.tup xs.reverse
 |_=>ae
noncomputable def UJ:V->Option Bool
 |.non=>aa ak
 |.bl b=>aa b
 |.int i=>aa<|af<|i≠0
 |_=>ae
def ZY:List V->Option (List Bool)
 |[]=>aa []
 |x::xs=>match UJ x,ZY xs with
  |some b,aa bs=>aa (b::bs)
  |_,_=>ae
def Zc(P:List #[14]):V:=.tup<|P.map Zd
def yX:V->Option (List<|List Int)
 |.tup ks=>Ye ks
 |_=>ae
def YI:List V->Option (List<|List<|List Int)
 |[]=>aa []
 |x::r=>match yX x,YI r with
  |some a,aa b=>aa (a::b)
  |_,_=>ae
noncomputable def Zc3:List V->Bool
 |.tup (.int _::_)::_=>aj
 |_=>ak
noncomputable def YG:V->Option (List V)
 |.tup xs=>aa xs
 |.lst xs=>aa xs
 |.scr ns=>aa<|ns.map .int
 |_=>ae
noncomputable def ZV(lo:Int)(n:Nat):List V:=(aM n).map λ(k:Nat)=>.int<|lo+(k:Int)
def Zep:V->Option #[14]
 |.tup [.tup k,.bl b]=>if b=aj then intsV k else ae
 |_=>ae
def WL:List V->Option (List<|List Int)
 |[]=>aa []
 |v::r=>(Zep v).bind λa=>(WL r).map (a :: ·)
mutual
noncomputable def pdV:V->Option PySem.PyData
 |.non=>aa .none
 |.bl b=>aa<|.bool b
 |.int i=>aa<|.int i
 |.str x=>aa<|.str x
 |.tup xs=>(ZeB xs).map .tuple
 |.lst xs=>(ZeB xs).map .list
 |.dct (.inl kvs)=>aa<|.dict<|kvs.map λp=>(.int p.1,.int p.2)
 |_=>ae
noncomputable def ZeB:List V->Option (List PySem.PyData)
 |[]=>aa []
 |x::xs=>(pdV x).bind λa=>(ZeB xs).map (a :: ·)
end
mutual
noncomputable def noL:V->Bool
 |.lst _=>ak
 |.tup xs=>ZgV xs
 |_=>aj
noncomputable def ZgV:List V->Bool
 |[]=>aj
 |x::xs=>noL x&&ZgV xs
end
def blt1(f:Bf)(x:V):Option V:=match f with
 |.len=>(YG x).map λxs=>.int xs.length
 |.toInt=>match x with
  |.int a=>aa<|.int a
  |.bl b=>aa<|.int<|b2i b
  |_=>ae
 |.tuple=>(YG x).map .tup
 |.list=>(YG x).map .lst
 |.all=>match x with
  |.lst xs=>(ZY xs).map λbs=>.bl<|bs.all id
  |_=>ae
 |.any=>(YG x).bind λxs=>(ZY xs).map λbs=>.bl<|bs.any id
 |.sum=>match x with
  |.lst xs=>(intsV xs).bind λis=>if Zbw is=aj then aa (.int is.sum)else ae
  |_=>ae
 |.sorted=>match x with
  |.lst xs=>if Zc3 xs=aj then(Ye xs).bind λrs=>if YU rs=aj then aa (.lst<|(Yb rs).map Zd)else ae else(YI xs).bind λps=>if Z3 ps=aj then aa (.lst<|(Yl ltP ps).map Zc)else ae
  |_=>ae
 |.rangeL=>match x with
  |.int i=>if few i then aa (.lst<|ZV 0 i.toNat)else ae
  |_=>ae
 |.dictP=>match x with
  |.lst xs=>(WL xs).bind λks=>if UN ks=aj then aa (.dct<|.inr ks)else ae
  |_=>ae
 |_=>ae
noncomputable def ur:V->Option Int
 |.int a=>aa a
 |_=>ae
noncomputable def ZhK:V->Option (List V)
 |.lst a=>aa a
 |_=>ae
def blt2(f:Bf)(x y:V):Option V:=match f with
 |.index=>(ZhK x).bind λxs=>(ZhP y xs).map λj:Nat=>.int j
 |.max2=>(ur x).bind λa=>(ur y).bind λb=>aa<|.int (if b>a then b else a)
 |.min2=>(ur x).bind λa=>(ur y).bind λb=>aa<|.int (if b<a then b else a)
 |_=>ae
def QI{x:V}:blt1 .len x=(YG x).map λxs=>.int xs.length:=rfl
def Xh{op:Bop}{a b:Int}{s:DS}:Wu op (.int a) (.int b) s=QW op a b s:=rfl
def xG{k:Nat}{a b:Int}:eqV (k+1) (.int a) (.int b)=aa (af<|a=b):=rfl
def xQ{k:Nat}{a b:Bool}:eqV (k+1) (.bl a) (.bl b)=aa (af<|a=b):=rfl
def Zbu{k:Nat}:eqV (k+1) .non .non=aa aj:=rfl
def Zar{k:Nat}{a:Int}:eqV (k+1) (.int a) .non=aa ak:=rfl
def vQ{x:V}{a:Int}(h:ur x=aa a):x=.int a:=by cases x<;>first|exact Ev.nos h|(cases h;rfl)
def XW(f:Bf)(as:List V):Option V:=match as with
 |[x]=>blt1 f x
 |[x,y]=>blt2 f x y
 |_=>ae
noncomputable def Y6:List Nat->List V->Env->Option Env
 |[],[],U=>aa U
 |i::t,x::xs,U=>Y6 t xs<|U.set i<|aa x
 |_,_,_=>ae
noncomputable def ZaJ:V->Option (List V)
 |.tup xs=>aa xs
 |.lst xs=>aa xs
 |_=>ae
def Zo(t:List Nat)(x:V)(U:Env):Option Env:=match t with
 |[i]=>aa<|U.set i<|aa x
 |t=>match ZaJ x with
  |some xs=>Y6 t xs U
  |none=>ae
abbrev Zq:=Nat->List V->DS->PR V
noncomputable def Z8(cap:List Nat)(nl:Nat)(U:Env):Env:=aJ nl ae++cap.map λi=>(U[i]?).join
def mapP(f:V->DS->PR (List V)):List V->DS->PR (List V)
 |[],s=>.ok [] s
 |x::xs,s=>match f x s with
  |.ok ys s=>match mapP f xs s with
   |.ok zs s=>.ok (ys++zs) s
   |_=>.no
  |_=>.no
def qa(w:Bool)(c:Nat):V:=if w then .str (Wd.getD c "")else .int c
def Zhm(w:Bool):PR V->PR V
 |.ok _ s=>.ok .non s
 |.ex c s=>if 1<=c/\c<=10 then .ok (qa w<|c-1) s else .no
 |.no=>.no
noncomputable def own(nl:Nat)(t:List Nat):Bool:=t.all λi=>af<|i<nl
def own2(nl:Nat)(t u:List Nat):Bool:=own nl t&&u.all λi=>af (i<nl) && !t.contains i
mutual
noncomputable def pv(C:Zq)(e:E)(U:Env)(s:DS):PR V:=match e with
 |.c d=>po (ofD d) s
 |.v i=>po (U[i]?).join s
 |.tup es=>(pvs C es U s).bind λxs s=>if xs.length<=lim then .ok (.tup xs) s else .no
 |.lst es=>(pvs C es U s).bind λxs s=>if xs.length<=lim then .ok #[35] s else .no
 |.dnew=>.ok (.dct<|.inl []) s
 |.dput1 k v=>(pv C k U s).bind λx s=>(pv C v U s).bind λy s=>match x,y with
  |.int a,.int b=>.ok (.dct<|.inl [(a,b)]) s
  |_,_=>.no
 |.bin op a b=>(pv C a U s).bind λx s=>(pv C b U s).bind λy s=>Wu op x y s
 |.neg a=>(pv C a U s).bind λx s=>match x with
  |.int i=>.ok (.int<|-i) s
  |_=>.no
 |.not a=>(pv C a U s).bind λx s=>(po (Zs x) s).bind λb s=>.ok (.bl !b) s
 |.and a b=>(pv C a U s).bind λx s=>match x with
  |.bl c=>if c then pv C b U s else .ok (.bl ak) s
  |_=>.no
 |.or a b=>(pv C a U s).bind λx s=>match x with
  |.bl c=>if c then .ok (.bl aj) s else pv C b U s
  |_=>.no
 |.ite t a b=>(pv C t U s).bind λx s=>(po (Zs x) s).bind λc s=>if c then pv C a U s else pv C b U s
 |.cmp op a b=>(pv C a U s).bind λx s=>(pv C b U s).bind λy s=>po (YH op x y) s
 |.chain o p a b d=>(pv C a U s).bind λx s=>(pv C b U s).bind λy s=>(po (YH o x y) s).bind λz s=>match z with
  |.bl c=>if c then(pv C d U s).bind λw s=>po (YH p y w) s else .ok (.bl ak) s
  |_=>.no
 |.ix a i=>(pv C a U s).bind λx s=>(pv C i U s).bind λy s=>po (ixV x y) s
 |.sl a lo hi=>(pv C a U s).bind λx s=>(pvo C lo U s).bind λl s=>(pvo C hi U s).bind λh s=>po (slV x l h) s
 |.rev a=>(pv C a U s).bind λx s=>po (Zg0 x) s
 |.call f as=>(pvs C as U s).bind λxs s=>C f xs s
 |.blt f as=>(pvs C as U s).bind λxs s=>po (XW f xs) s
 |.mt _ _ _=>.no
 |.isi a ts=>(pv C a U s).bind λx s=>(po (Z4 x ts) s).bind λb s=>.ok (.bl b) s
 |.comp1 cap nl t it ifs elt=>if own nl t=aj then(pvw C it U s).bind λw s=>
   ((mapP (λx s=>(po (Zo t x<|Z8 cap nl U) s).bind λZ s=>(pvt C ifs Z s).bind λb s=>if b then(pv C elt Z s).bind λy s=>.ok [y] s else .ok [] s) w s).bind
    λys s=>if ys.length<=lim then .ok (.lst ys) s else .no).nox
  else .no
 |.comp2 cap nl t it ifs u jt jfs elt=>if own2 nl t u=aj then(pvw C it U s).bind λw s=>
   ((mapP (λx s=>(po (Zo t x<|Z8 cap nl U) s).bind λZ s=>(pvt C ifs Z s).bind λb s=>if b then
    (pvw C jt Z s).bind λw2 s=>mapP (λx s=>(po (Zo u x Z) s).bind λZ s=>(pvt C jfs Z s).bind λb s=>if b then(pv C elt Z s).bind λy s=>.ok [y] s else .ok [] s) w2 s
    else .ok [] s) w s).bind
    λys s=>if ys.length<=lim then .ok (.lst ys) s else .no).nox
  else .no
 |.fi a=>(pv C a U s).bind λx s=>match x with
  |.int i=>if Yt i=aj then .ok (.int i) s else .no
  |_=>.no
 |.refu w e=>Zhm w<|pv C e U s
 |.dix a k=>(pv C a U s).bind λx s=>match x with
  |.drw=>.ok (if k then .bl s.2 else .int s.1) s
  |_=>.no
 |.callF f as=>(pvs C as U s).bind λxs s=>C f xs s
noncomputable def pvs(C:Zq)(es:List E)(U:Env)(s:DS):PR (List V):=match es with
 |[]=>.ok [] s
 |e::es=>(pv C e U s).bind λx s=>(pvs C es U s).bind λxs s=>.ok (x::xs) s
noncomputable def pvo(C:Zq)(o:Option E)(U:Env)(s:DS):PR (Option Int):=match o with
 |none=>.ok ae s
 |some e=>(pv C e U s).bind λx s=>match x with
  |.int i=>.ok (aa i) s
  |_=>.no
noncomputable def pvt(C:Zq)(es:List E)(U:Env)(s:DS):PR Bool:=match es with
 |[]=>.ok aj s
 |e::es=>(pv C e U s).bind λx s=>(po (Zs x) s).bind λb s=>if b then pvt C es U s else .ok ak s
noncomputable def pvw(C:Zq)(w:W)(U:Env)(s:DS):PR (List V):=match w with
 |.rng1 a=>(pv C a U s).bind λx s=>match x with
  |.int i=>if Yt i then .ok (ZV 0 i.toNat) s else .no
  |_=>.no
 |.rng2 a b=>(pv C a U s).bind λx s=>(pv C b U s).bind λy s=>match x,y with
  |.int i,.int j=>if(Yt i&&Yt j)=aj then .ok (ZV i (j-i).toNat) s else .no
  |_,_=>.no
 |.rrng a b=>(pv C a U s).bind λx s=>(pv C b U s).bind λy s=>match x,y with
  |.int i,.int j=>if(Yt i&&Yt j)=aj then .ok (ZV i (j-i).toNat).reverse s else .no
  |_,_=>.no
 |.zip a b=>(pv C a U s).bind λx s=>(pv C b U s).bind λy s=>match YG x,YG y with
  |some v,aa w=>.ok ((v.zip w).map λp=>.tup [p.1,p.2]) s
  |_,_=>.no
 |.enum a=>(pv C a U s).bind λx s=>match YG x with
  |some w=>.ok (((ZV 0 w.length).zip w).map λp=>.tup [p.1,p.2]) s
  |none=>.no
 |.of e=>(pv C e U s).bind λx s=>po (YG x) s
end
section
variable(C:Zq)(U:Env)(s:DS)
def pE1(d):=@id (pv C (.c d) U s=po _ _) rfl
def pE2(i):=@id (pv C (.v i) U s=po _ _) rfl
def pE3(es):=@id (pv C (.tup es) U s=.bind _ _) rfl
def pE4(es):=@id (pv C (.lst es) U s=.bind _ _) rfl
def pE5:=@id (pv C .dnew U s=.ok _ _) rfl
def pE6(k v):=@id (pv C (.dput1 k v) U s=.bind _ _) rfl
def pE7(op a b):=@id (pv C (.bin op a b) U s=.bind _ _) rfl
def pE8(a):=@id (pv C (.neg a) U s=.bind _ _) rfl
def pE9(a):=@id (pv C (.not a) U s=.bind _ _) rfl
def jG(a b):=@id (pv C (.and a b) U s=.bind _ _) rfl
def Zdc(a b):=@id (pv C (.or a b) U s=.bind _ _) rfl
def Zho(t a b):=@id (pv C (.ite t a b) U s=.bind _ _) rfl
def Y9(op a b):=@id (pv C (.cmp op a b) U s=.bind _ _) rfl
def ZgY(o p a b d):=@id (pv C (.chain o p a b d) U s=.bind _ _) rfl
def Vf(a i):=@id (pv C (.ix a i) U s=.bind _ _) rfl
def Zgr(a lo hi):=@id (pv C (.sl a lo hi) U s=.bind _ _) rfl
def Zha(a):=@id (pv C (.rev a) U s=.bind _ _) rfl
def Zaw(f as):=@id (pv C (.call f as) U s=.bind _ _) rfl
def YM(f as):=@id (pv C (.blt f as) U s=.bind _ _) rfl
def Zib(a ts):=@id (pv C (.isi a ts) U s=.bind _ _) rfl
def jV(cap nl t it ifs elt):=@id (pv C (.comp1 cap nl t it ifs elt) U s=ite (own nl t=aj) _ _) rfl
def Zg5(cap nl t it ifs u jt jfs elt):=@id (pv C (.comp2 cap nl t it ifs u jt jfs elt) U s=ite (own2 nl t u=aj) _ _) rfl
def ZhS(a):=@id (pv C (.fi a) U s=.bind _ _) rfl
def Zfj(w e):=@id (pv C (.refu w e) U s=Zhm _ _) rfl
def ZdW(a k):=@id (pv C (.dix a k) U s=.bind _ _) rfl
def Zin(f as):=@id (pv C (.callF f as) U s=.bind _ _) rfl
def wE1(a):=@id (pvw C (.rng1 a) U s=.bind _ _) rfl
def wE2(a b):=@id (pvw C (.rng2 a b) U s=.bind _ _) rfl
def wE3(a b):=@id (pvw C (.rrng a b) U s=.bind _ _) rfl
def wE5(a b):=@id (pvw C (.zip a b) U s=.bind _ _) rfl
def wE6(a):=@id (pvw C (.enum a) U s=.bind _ _) rfl
def wE7(e):=@id (pvw C (.of e) U s=.bind _ _) rfl
end
inductive FlV where|nx (U:Env) (os:List Nat)|ret (v:V)|cnt (U:Env) (os:List Nat)
noncomputable def hide(os:List Nat)(U:Env):Env:=U.mapIdx λi o=>if os.contains i then ae else o
noncomputable def fresh:E->Bool
 |.lst _=>aj
 |.comp1 .. => aj
 |.comp2 .. => aj
 |.bin .mul (.lst _) _=>aj
 |.blt .list _=>aj
 |.blt .sorted _=>aj
 |.blt .rangeL _=>aj
 |.callF _ _=>aj
 |_=>ak
def Za2:V->Bool
 |.lst xs=>ZP xs
 |_=>ak
def pvA(C:Zq)(e:E)(U:Env)(os:List Nat)(s:DS):PR V:=match os with
 |[]=>pv C e U s
 |os=>match pv C e (hide os U) s with
  |.ok v s=>.ok v s
  |.ex c s=>.ex c s
  |.no=>(pv C e U s).bind λv s=>if(v.flat||fresh e&&Za2 v)=aj then .ok v s else .no
def Zgj(C:Zq)(es:List E)(U:Env)(os:List Nat)(s:DS):PR (List V):=match os with
 |[]=>pvs C es U s
 |os=>match pvs C es (hide os U) s with
  |.ok v s=>.ok v s
  |.ex c s=>.ex c s
  |.no=>(pvs C es U s).bind λv s=>if ZP v then .ok v s else .no
def Y2(C:Zq)(e:E)(U:Env)(s:DS):PR Bool:=(pv C e U s).bind λx s=>po (Zs x) s
def Y5(body:V->Env->List Nat->DS->PR FlV):List V->Env->List Nat->DS->PR FlV
 |[],U,os,s=>.ok (.nx U os) s
 |x::xs,U,os,s=>(body x U os s).bind λf s=>match f with
  |.nx U os=>Y5 body xs U os s
  |.cnt U os=>Y5 body xs U os s
  |.ret v=>.ok (.ret v) s
noncomputable def okS(x:Int)(b:Bool):Bool:=af (0<=x)&&(b||decide (x<2147483647))
def Qj:V->Option DS
 |.lst [.int a,.bl b]=>if okS a b=aj then aa (a,b)else ae
 |_=>ae
def QK(o:Option V):Option V:=o.filter V.flat
def Vo(i:Nat)(U:Env):Env:=(U.take i).map QK++aJ (U.length-i) ae
noncomputable def zI:Option (Option V)->Option (List V)
 |some (aa<|.lst xs)=>aa xs
 |_=>ae
mutual
noncomputable def rv(C:Zq)(ms:List Nat)(m:Sm)(U:Env)(os:List Nat)(s:DS):PR FlV:=match m with
 |.asg [i] e=>(pvA C e U os s).bind λv s=>if(ms.contains i&&fresh e)=aj then match v with
   |.lst xs=>if ZP xs=aj/\i<U.length then .ok (.nx (U.set i<|aa v) (i::os.filter (· != i))) s else .no
   |_=>.no
  else .ok (.nx (U.set i<|aa v) (os.filter (· != i))) s
 |.asg t e=>(pvA C e U os s).bind λv s=>if(t.any os.contains)=aj then .no else(po (Zo t v U) s).bind λU s=>.ok (.nx U os) s
 |.par t es=>(Zgj C es U os s).bind λvs s=>if(t.any os.contains)=aj then .no else(po (Y6 t vs U) s).bind λU s=>.ok (.nx U os) s
 |.ret e=>(pv C e U s).bind λv s=>.ok (.ret v) s
 |.ex (.mt .append (.v i) [e])=>if os.contains i then(po (zI U[i]?) s).bind λxs s=>(pv C e U s).bind λv s=>if v.flat=aj/\xs.length<lim then .ok (.nx (U.set i<|aa<|.lst<|xs++[v]) os) s else .no else .no
 |.ex (.mt .extend (.v i) [e])=>if os.contains i then(po (zI U[i]?) s).bind λxs s=>(pv C e (hide os U) s).bind λv s=>match v with
   |.lst ys=>if ZP ys=aj/\xs.length+ys.length<=lim then .ok (.nx (U.set i<|aa<|.lst<|xs++ys) os) s else .no
   |_=>.no
  else .no
 |.ex e=>(pv C e U s).bind λ_ s=>.ok (.nx U os) s
 |.ite t a b=>(Y2 C t U s).bind λc s=>if c then rvs C ms a U os s else rvs C ms b U os s
 |.forr t it b=>(pvw C it (hide os U) s).bind λw s=>Y5 (λx U os s=>if(t.any os.contains)=aj then .no else(po (Zo t x U) s).bind λU s=>rvs C ms b U os s) w U os s
 |.raise c as=>(pvs C as U s).bind λ_ s=>.ex c s
 |.cnt=>.ok (.cnt U os) s
 |.mov i j=>if(os.contains j&&(!os.contains i&&af (i≠j)))=aj then(po (zI U[j]?) s).bind λxs s=>.ok (.nx ((U.set i<|aa<|.lst xs).set j ae) (os.filter (· != j))) s else .no
 |.dset i e=>(pv C e U s).bind λv s=>match v with
  |.int x=>if okS x s.2=aj then match(U[i]?).join with
   |some .drw=>.ok (.nx U os) (x,s.2)
   |_=>.no
   else .no
  |_=>.no
 |.cel i f as b=>if os.isEmpty=aj then(pvs C as U s).bind λxs s=>(C f xs s).bind λv s=>(po (Qj v) s).bind λd s=>match rvs C ms b ((Vo i U).set i<|aa .drw) [] d with
  |.ok (.nx U _) _=>.ok (.nx (U.map QK) []) s
  |.ok (.cnt U _) _=>.ok (.cnt (U.map QK) []) s
  |.ok (.ret v) _=>if v.flat=aj then .ok (.ret v) s else .no
  |_=>.no
  else .no
 |.retO i=>if os.contains i then(po (zI U[i]?) s).bind λxs s=>.ok (.ret<|.lst xs) s else .no
noncomputable def rvs(C:Zq)(ms:List Nat)(m:List Sm)(U:Env)(os:List Nat)(s:DS):PR FlV:=match m with
 |[]=>.ok (.nx U os) s
 |m::ss=>(rv C ms m U os s).bind λf s=>match f with
  |.nx U os=>rvs C ms ss U os s
  |f=>.ok f s
end
section
variable(C:Zq)(U:Env)(s:DS)(ms os:List Nat)
def rE1(i e):=@id (rv C ms (.asg [i] e) U os s=.bind _ _) rfl
def rE3(t es):=@id (rv C ms (.par t es) U os s=.bind _ _) rfl
def rE9(e):=@id (rv C ms (.ret e) U os s=.bind _ _) rfl
def Zf9(i e):=@id (rv C ms (.ex<|.mt .append (.v i) [e]) U os s=ite (os.contains i) _ _) rfl
def wm(i e):=@id (rv C ms (.ex<|.mt .extend (.v i) [e]) U os s=ite (os.contains i) _ _) rfl
def ZdQ(f as):=@id (rv C ms (.ex<|.call f as) U os s=.bind _ _) rfl
def Gg(t a b):=@id (rv C ms (.ite t a b) U os s=.bind _ _) rfl
def QX(t it b):=@id (rv C ms (.forr t it b) U os s=.bind _ _) rfl
def ZhH(c as):=@id (rv C ms (.raise c as) U os s=.bind _ _) rfl
def Zih:=@id (rv C ms .cnt U os s=.ok _ _) rfl
def ZdK(i j):=@id (rv C ms (.mov i j) U os s=ite ((os.contains j&&(!os.contains i&&af (i≠j)))=aj) _ _) rfl
def ZgA(i e):=@id (rv C ms (.dset i e) U os s=.bind _ _) rfl
def Zhq(i f as b):=@id (rv C ms (.cel i f as b) U os s=ite (os.isEmpty=aj) _ _) rfl
def ZgU(i):=@id (rv C ms (.retO i) U os s=ite (os.contains i) _ _) rfl
def rE2(t e)(h:∀i,t=[i]->False):rv C ms (.asg t e) U os s=(pvA C e U os s).bind λv s=>if(t.any os.contains)=aj then .no else(po (Zo t v U) s).bind λU s=>.ok (.nx U os) s:=by
 match t,h with
 |[],_=>rfl
 |[i],h=>exact(h i rfl).elim
 |_::_::_,_=>rfl
end
mutual
noncomputable def GZ:Sm->List Nat
 |.ex (.mt .append (.v i) _)=>[i]
 |.ex (.mt .extend (.v i) _)=>[i]
 |.ite _ a b=>muts a++muts b
 |.forr _ _ b=>muts b
 |.cel _ _ _ b=>muts b
 |.retO i=>[i]
 |_=>[]
noncomputable def muts:List Sm->List Nat
 |[]=>[]
 |m::ss=>GZ m++muts ss
end
def yO:muts []=[]:=rfl
def JL{m:Sm}{ss:List Sm}:muts (m::ss)=GZ m++muts ss:=rfl
def Zav{t:List Nat}{e:E}:GZ (.asg t e)=[]:=rfl
def jB{e:E}:GZ (.ret e)=[]:=rfl
def Zaj{e:E}{a b:List Sm}:GZ (.ite e a b)=muts a++muts b:=rfl
noncomputable def ZL(n:Nat)(xs:List V):Env:=xs.map aa++aJ (n-xs.length) ae
noncomputable def X9(s:DS)(m:Int):Int×DS:=
 if s.2 then(s.1%m,(s.1 / m,aj))else
  let x:=(s.1*48271+29)%2147483647
  let y:=(x*x+39373*x+7)%2147483629
  let z:=(y*y+16807*y)%2147483587
  (z / 8%m,(x,ak))
def Zd6(vs:List V)(s:DS):PR V:=match vs with
 |[.drw,.int m]=>if 0<m/\m<1073741824 then .ok (.int (X9 s m).1) (X9 s m).2 else .no
 |_=>.no
def Zl(F:List Fn)(tk:Nat):Nat->Zq
 |0,_,_,_=>.no
 |d+1,f,xs,s=>if f=tk then Zd6 xs s else match F[f]? with
  |some fn=>if xs.length=fn.ps then(rvs (Zl F tk d) (muts fn.body) fn.body (ZL fn.ns xs) [] s).bind λf s=>match f with
    |.ret v=>.ok v s
    |.nx _ _=>.ok .non s
    |_=>.no
   else .no
  |none=>.no
end Pv
namespace Sd
open PySem PySem.Spec PyProof.Rows L2
section
open Ev (E Sm Fn Bop Cop Ty Bf Mf)
noncomputable abbrev D:=Pv.V
abbrev Zv:=Pv.DS
noncomputable abbrev Lc:=Pv.Env
noncomputable abbrev R:=Pv.PR
noncomputable abbrev Calls:=Pv.Zq
structure Mx where
 K:am
 n0:Option aE
 X:aE->Prop
 xz:∀a,n0=aa a->X a
def Scr(K:am)(H:Hp)(a:aE)(ns:List Int):Prop:=
 (∃o,H a=aa (.frz o<|.lst<|ns.map V.int))\/
  ∃(o:fW)(its:Array au)(n:Nat),K.lookup a=aa o/\o.cls=.type "list"/\o.dict=ae/\o.data=.seq its n/\its.size<=bj/\Vals (ns.map V.int) its.toList
def Scr.sq{K:am}{H:Hp}{a:aE}{ns:List Int}(h:Scr K H a ns):SqL K H a (ns.map V.int):=by
 rcases h with⟨o,h⟩|h
 .exact .inl<|.inr #[o,h]
 .exact .inr h
def Dct(H:Hp)(a:aE):Sum (List<|Int×Int) (List<|List Int)->Prop
 |.inl kvs=>H a=aa (.dK<|kvs.map λp=>(ej p.1,V.int p.2))
 |.inr ks=>∃o vs,H a=aa (.frz o<|.dT vs)/\vs.map (·.1)=ks.map (·.map ej)
mutual
def Rep(U:Mx)(H:Hp):D->V->Prop
 |.non,v=>v=.non
 |.bl b,v=>v=.bl b
 |.int i,v=>v=.int i
 |.str x,v=>v=.str x
 |.tup ds,v=>∃a xs,v=.ref a/\H a=aa (.tup xs)/\Rq U H ds xs
 |.lst ds,v=>∃a xs,v=.ref a/\H a=aa #[35]/\¬U.X a/\Rq U H ds xs
 |.drw,v=>∃a,v=.ref a/\U.n0=aa a
 |.dct o,v=>∃a,v=.ref a/\Dct H a o
 |.scr ns,v=>∃a,v=.ref a/\Scr U.K H a ns
def Rq(U:Mx)(H:Hp):List D->List V->Prop
 |[],xs=>xs=[]
 |d::ds,xs=>∃v vs,xs=v::vs/\Rep U H d v/\Rq U H ds vs
end
structure Fut(U:Mx)(H:Hp)(ρ':Mx)(H':Hp):Prop where
 eq:ρ'=U
 keep:∀a o,H a=aa o->H' a=aa o\/(U.n0=aa a/\∃xs,o=.lst xs)\/((∃ps,o=.tbl ps)/\∃ps,H' a=aa (.tbl ps))
def Fut.refl(U:Mx)(H:Hp):Fut U H U H:=#[rfl,λ_ _ h=>.inl h]
def Fut.trans{U ρ1 ρ2:Mx}{H H1 H2:Hp}(a:Fut U H ρ1 H1)(b:Fut ρ1 H1 ρ2 H2):Fut U H ρ2 H2:=by
 obtain⟨rfl,f⟩:=a;obtain⟨rfl,g⟩:=b;refine#[rfl,λa o h=>(f a o h).elim (λh=>g a o h) λz=>z.elim (λz=>.inr<|.inl z) λ#[e,ps,h]=>?_]
 rcases g a _ h with q|⟨_,xs,q⟩|⟨_,q⟩
 .exact .inr<|.inr #[e,ps,q]
 .cases q
 .exact .inr<|.inr #[e,q]
def Fut.there(f:Fut U H ρ' H')(n:U.n0≠.some a)(h:H a≠ae):H' a≠ae:=by
 obtain⟨o,e⟩:=k7.mp h;rcases f.keep a o e with q|q|⟨_,_,q⟩
 .rw[q];intro z;cases z
 .exact T7 q.1 n
 .rw[q];intro z;cases z
def Fut.new(f:Fut U H ρ' H')(h:H' a=ae)(xd:∀a,U.X a->H' a≠ae):H a=ae:=by
 cases q:H a with
 |none=>rfl
 |some o=>
  rcases f.keep a o q with e|e|⟨_,_,e⟩
  .rw[h]at e;cases e
  .exact T7 h<|xd a<|U.xz a e.1
  .rw[h]at e;cases e
structure Lat(U:Mx)(H:Hp)(ρ':Mx)(H':Hp):Prop where
 K:ρ'.K=U.K
 n0:ρ'.n0=U.n0
 keep':∀a o,H a=aa o->(∀xs,o=.lst xs->¬U.X a)->(∀ps,o≠.tbl ps)->(∀vs,o=.dT vs->¬U.X a)->H' a=aa o
 X:∀a,H a≠ae->ρ'.X a->U.X a
def Lat.keep(f:Lat U H ρ' H')(a:aE)(o:HO)(h:H a=aa o)(x:∀xs,o=.lst xs->¬U.X a)(n:∀ps,o≠.tbl ps:=by intro _ z;cases z)(m:∀vs,o=.dT vs->¬U.X a:=by intro _ z;cases z):H' a=aa o:=f.keep' a o h x n m
mutual
theorem Rep.lat{U ρ':Mx}{H H':Hp}(f:Lat U H ρ' H'):∀{d:D}{v:V},Rep U H d v->Rep ρ' H' d v
 |.non,_,h|.bl _,_,h|.int _,_,h|.str _,_,h=>by unfold Rep at h ⊢;exact h
 |.tup ds,v,h=>by
  unfold Rep at h ⊢;obtain⟨a,xs,e,t,r⟩:=h;exact#[a,xs,e,f.keep a _ t (λ_ z=>by cases z),r.lat f]
 |.lst ds,v,h=>by
  unfold Rep at h ⊢;obtain⟨a,xs,e,t,x,r⟩:=h;exact#[a,xs,e,f.keep a _ t λ_ _=>x,λz=>x (f.X a (by rw[t];intro z;cases z) z),r.lat f]
 |.drw,v,h=>by unfold Rep at h ⊢;rw[f.n0];exact h
 |.dct o,v,h=>by
  unfold Rep at h ⊢;obtain⟨a,e,t⟩:=h;refine#[a,e,?_];cases o with|inl kvs=>exact f.keep a _ t λ_ z=>by cases z|inr ks=>obtain⟨o,vs,t,q⟩:=t;exact#[o,vs,f.keep a _ t (λ_ z=>by cases z),q]
 |.scr ns,v,h=>by
  unfold Rep at h ⊢;obtain⟨a,e,t⟩:=h;rw[f.K];refine#[a,e,?_];rcases t with⟨o,t⟩|t
  .exact .inl #[o,f.keep a _ t λ_ z=>by cases z]
  .exact .inr t
theorem Rq.lat(f:Lat U H ρ' H'):∀{ds:List D}{xs:List V},Rq U H ds xs->Rq ρ' H' ds xs
 |[],_,h=>by exact h
 |d::ds,xs,h=>by
  obtain⟨v,vs,e,r,rs⟩:=h;exact#[v,vs,e,r.lat f,rs.lat f]
end
noncomputable def YO:bq:="law.<locals>.<lambda>"
def Tb(H:Hp):Prop:=∀(P:aE)(ps:Array au),H P=aa (.tbl ps)->pz ps.toList/\∀(pos:gj)(cv:au),kO pos ps.toList=aa cv->
 ∃(c:aE)(oc:fW)(vs:Array au)(t:rJ),cv=.ref c/\H c=aa (.frz oc<|.own c)/\oc.data=.fields vs/\vs[1]?=aa (.str YO t)
theorem Tb.upd(h:Tb H)(hp:∀ob u,H p≠aa (.frz ob u))(ho:∀ps,o≠.tbl ps):Tb (upd H p o):=λP ps e=>by
 by_cases z:P=p
 .subst z;rw[Zn]at e;cases e;exact T7 rfl<|ho ps
 .rw[Zj z]at e
  obtain⟨a,b⟩:=h P ps e;refine#[a,λpos cv q=>?_]
  obtain⟨c,oc,vs,t,e1,e2,e3⟩:=b pos cv q;exact#[c,oc,vs,t,e1,by rw[Zj λz=>hp oc (.own c) (by rw[<-z];exact e2)];exact e2,e3]
structure St3(K:am)(U:Mx)(S:Zv)(H:Hp):Prop where
 hk:U.K=K
 xd:∀a,U.X a->H a≠ae
 dw:∀a,U.n0=aa a->H a=aa (.lst [.int S.1,.bl S.2])/\Pv.okS S.1 S.2=aj
 tb:Tb H
def Fut.lat(f:Fut U H ρ' H'):Lat U H ρ' H':=by
 obtain⟨rfl,f⟩:=f;exact#[rfl,rfl,λa o h x n _=>(f a o h).elim id λz=>z.elim (λz=>T7 (ρ'.xz a z.1) (let #[xs,e]:=z.2;x xs e))<|by rintro ⟨⟨ps,e⟩,_⟩;exact T7 e<|n ps,λ_ _ h=>h]
def Rep.mono(f:Fut U H ρ' H')(h:Rep U H d v):Rep ρ' H' d v:=h.lat f.lat
def Rq.mono(f:Fut U H ρ' H')(h:Rq U H d v):Rq ρ' H' d v:=h.lat f.lat
section
variable{U:Mx}{H:Hp}{v:V}
def Rq.nil:Rq U H [] []:=by rfl
def Rq.cons{d:D}{v:V}{ds:List D}{vs:List V}(r:Rep U H d v)(rs:Rq U H ds vs):Rq U H (d::ds) (v::vs):=by
 exact#[v,vs,rfl,r,rs]
theorem Rq.length:∀{ds:List D}{xs:List V},Rq U H ds xs->xs.length=ds.length
 |[],_,h=>by rw[h];rfl
 |d::ds,xs,h=>by
  obtain⟨v,vs,rfl,_,rs⟩:=h;rw[aG,aG,Rq.length rs]
theorem Rq.append:∀{ds es:List D}{xs ys:List V},Rq U H ds xs->Rq U H es ys->Rq U H (ds++es) (xs++ys)
 |[],_,_,_,h,r=>by rw[h];exact r
 |d::ds,_,_,_,h,r=>by
  obtain⟨v,vs,rfl,a,rs⟩:=h;exact Rq.cons a<|Rq.append rs r
theorem Rq.take:∀{ds:List D}{xs:List V}(k:Nat),Rq U H ds xs->Rq U H (ds.take k) (xs.take k)
 |_,_,0,_=>Rq.nil
 |[],_,k+1,h=>by rw[h];exact Rq.nil
 |d::ds,_,k+1,h=>by
  obtain⟨v,vs,rfl,a,rs⟩:=h;exact Rq.cons a<|Rq.take k rs
theorem Rq.drop:∀{ds:List D}{xs:List V}(k:Nat),Rq U H ds xs->Rq U H (ds.drop k) (xs.drop k)
 |_,_,0,h=>h
 |[],_,k+1,h=>by rw[h];exact Rq.nil
 |d::ds,_,k+1,h=>by
  obtain⟨v,vs,rfl,a,rs⟩:=h;exact Rq.drop k rs
theorem Rq.get:∀{ds:List D}{xs:List V}{i:Nat}{d:D},Rq U H ds xs->ds[i]?=aa d->∃v,xs[i]?=aa v/\Rep U H d v
 |[],_,_,_,_,e=>by simp at e
 |d::ds,_,0,_,h,e=>by
  obtain⟨v,vs,rfl,a,rs⟩:=h;simp at e;subst e;exact#[v,rfl,a]
 |d::ds,_,i+1,_,h,e=>by
  obtain⟨v,vs,rfl,a,rs⟩:=h;obtain⟨u,q,r⟩:=Rq.get rs (by simpa using e)
  exact#[u,by simpa using q,r]
theorem Rq.reverse:∀{ds:List D}{xs:List V},Rq U H ds xs->Rq U H ds.reverse xs.reverse
 |[],_,h=>by rw[h];exact Rq.nil
 |d::ds,_,h=>by
  obtain⟨v,vs,rfl,a,rs⟩:=h;rw[fB,fB];exact Rq.append (Rq.reverse rs)<|Rq.cons a Rq.nil
theorem Rq.rep(h:Rq U H ds xs):∀k:Nat,Rq U H (aJ k ds).flatten (aJ k xs).flatten
 |0=>Rq.nil
 |k+1=>by
  rw[cp,cp,de,de];exact Rq.append h<|Rq.rep h k
theorem Rq.ints:∀ns:List Int,Rq U H (ns.map Pv.V.int) (ns.map V.int)
 |[]=>Rq.nil
 |n::ns=>Rq.cons #[7]<|Rq.ints ns
def Rep.int'{i:Int}(h:Rep U H (.int i) v):v=.int i:=by exact h
def Rep.bl'{b:Bool}(h:Rep U H (.bl b) v):v=.bl b:=by exact h
def Rep.non'(h:Rep U H .non v):v=.non:=by exact h
def Rep.str'{x:bq}(h:Rep U H (.str x) v):v=.str x:=by exact h
def Rep.tup'{ds:List D}(h:Rep U H (.tup ds) v):∃a xs,v=.ref a/\H a=aa (.tup xs)/\Rq U H ds xs:=by exact h
def Rep.lst'{ds:List D}(h:Rep U H (.lst ds) v):∃a xs,v=.ref a/\H a=aa #[35]/\¬U.X a/\Rq U H ds xs:=by exact h
def Rep.drw'(h:Rep U H .drw v):∃a,v=.ref a/\U.n0=aa a:=by exact h
def Rep.dct'{o:Sum (List<|Int×Int) (List<|List Int)}(h:Rep U H (.dct o) v):∃a,v=.ref a/\Dct H a o:=by unfold Rep at h;exact h
def Rep.scr'(h:Rep U H (.scr ns) v):∃a,v=.ref a/\Scr U.K H a ns:=by exact h
def ZR(i:Int):Rep U H (.int i) (.int i):=by rfl
def Yg(b:Bool):Rep U H (.bl b) (.bl b):=by rfl
def UI:Rep U H .non .non:=by rfl
def wA(x:bq):Rep U H (.str x) (.str x):=by rfl
def XE(h:H a=aa (.tup xs))(r:Rq U H ds xs):Rep U H (.tup ds) (.ref a):=by exact#[a,xs,rfl,h,r]
def Xb(h:H a=aa #[35])(x:¬U.X a)(r:Rq U H ds xs):Rep U H (.lst ds) (.ref a):=by exact#[a,xs,rfl,h,x,r]
def Rep.seq(h:Rep U H x v)(e:Pv.YG x=aa ds):∃p xs,v=.ref p/\(SqL U.K H p xs\/SqT U.K H p xs)/\Rq U H ds xs:=by
 cases x with|tup es=>cases e;obtain⟨p,xs,rfl,h,r⟩:=h.tup';exact#[p,xs,rfl,.inr<|SqT.of h,r]|lst es=>cases e;obtain⟨p,xs,rfl,h,_,r⟩:=h.lst';exact#[p,xs,rfl,.inl<|SqL.of h,r]|scr ns=>cases e;obtain⟨p,e,q⟩:=h.scr';exact#[p,_,e,.inl q.sq,Rq.ints ns]|_=>cases e
end
structure LocR(U:Mx)(H:Hp)(l:Lc)(Z:L2.St):Prop where
 len:l.length=Z.length
 val:∀(i:Nat)(d:D),l[i]?=aa (aa d)->∃v,Z[i]?=aa (aa v)/\Rep U H d v
theorem LocR.mono(f:Fut U H ρ' H')(r:LocR U H l Z):LocR ρ' H' l Z:=
 #[r.len,λi d e=>let #[v,q,h]:=r.val i d e;#[v,q,h.mono f]]
theorem LocR.set(r:LocR U H l Z)(i:Nat)(h:Rep U H d v):LocR U H (l.set i<|aa d) (Z.set i<|aa v):=
 #[by rw[bC,bC];exact r.len,λj e q=>by
  rw[oQ]at q ⊢;split at q
  .rename_i hij
   subst hij;split at q
   .rename_i hl
    cases q;rw[T9 rfl,T9 (by rw[<-r.len];exact hl)]
    exact#[v,rfl,h]
   .cases q
  .rename_i hij
   rw[T8 hij];exact r.val j e q]
def End{B β:Type}(K:am)(xw:Nat->Hp->Prop)(rep:Mx->Hp->B->β->Prop)(U:Mx)(H:Hp)(Q:β->Hp->Prop):R B->Prop
 |.ok d S=>∀ρ' H' v,Fut U H ρ' H'->St3 K ρ' S H'->rep ρ' H' d v->Q v H'
 |.ex c S=>∀ρ' H',Fut U H ρ' H'->St3 K ρ' S H'->xw c H'
 |.no=>False
section
variable{K:am}{xw:Nat->Hp->Prop}{U ρ':Mx}{H H':Hp}{B β α' β':Type}{rep:Mx->Hp->B->β->Prop}{rep':Mx->Hp->α'->β'->Prop}
def End.mono{Q:β->Hp->Prop}(f:Fut U H ρ' H')(h:End K xw rep U H Q r):End K xw rep ρ' H' Q r:=by
 cases r with|ok d S=>exact λρ2 H2 v g st r=>h ρ2 H2 v (f.trans g) st r|ex c S=>exact λρ2 H2 g st=>h ρ2 H2 (f.trans g) st|no=>exact h
theorem End.bind{Q:β'->Hp->Prop}{Q1:β->Hp->Prop}(h:End K xw rep' U H Q (r.bind f))
  (k:∀d S ρ1 H1 v,Fut U H ρ1 H1->St3 K ρ1 S H1->rep ρ1 H1 d v->End K xw rep' ρ1 H1 Q (f d S)->Q1 v H1):End K xw rep U H Q1 r:=by
 cases r with|ok d S=>exact λρ1 H1 v g st r=>k d S ρ1 H1 v g st r<|End.mono g h|ex c S=>exact h|no=>exact h
theorem End.ok{Q:β->Hp->Prop}(h:End K xw rep U H Q (.ok a S))(st:St3 K U S H)(r:rep U H a v):Q v H:=h U H v (Fut.refl U H) st r
def End.ob{Q:β'->Hp->Prop}(h:End K xw rep' U H Q ((Pv.po o S).bind f)):∃a,o=aa a/\End K xw rep' U H Q (f a S):=by
 cases o with|none=>exact h.elim|some a=>exact#[a,rfl,h]
theorem End.po{Q:β->Hp->Prop}(h:End K xw rep U H Q (Pv.po o S)):∃a,o=aa a/\End K xw rep U H Q (.ok a S):=by
 cases o with|none=>exact h.elim|some a=>exact#[a,rfl,h]
theorem End.map{Q:β->Hp->Prop}(h:End K xw rep U H Q (Pv.po (o.map f) S)):∃a,o=aa a/\End K xw rep U H Q (.ok (f a) S):=by
 cases o with|none=>exact h.elim|some a=>exact#[a,rfl,h]
def End.ite{c:Prop}[Decidable c]{Q:β->Hp->Prop}(h:End K xw rep U H Q (if c then a else b)):(c/\End K xw rep U H Q a)\/(¬c/\End K xw rep U H Q b):=by
 split at h
 .exact .inl #[‹_›,h]
 .exact .inr #[‹_›,h]
def End.guard{c:Prop}[Decidable c]{Q:β->Hp->Prop}(h:End K xw rep U H Q (if c then a else .no)):c/\End K xw rep U H Q a:=by
 rcases h.ite with h|⟨_,h⟩
 .exact h
 .exact h.elim
end
abbrev nx:Nat->Hp->Prop:=λ_ _=>False
theorem End.nox{B β:Type}{K:am}{xw:Nat->Hp->Prop}{U:Mx}{H:Hp}{rep:Mx->Hp->B->β->Prop}{Q:β->Hp->Prop}{r:R B}(h:End K xw rep U H Q r.nox):End K nx rep U H Q r:=by
 cases r with|ok d S=>exact h|ex c S=>exact h.elim|no=>exact h
def VS(_:Mx)(_:Hp)(a b:Bool):Prop:=a=b
def ZhT(_:Mx)(_:Hp)(a b:Option Int):Prop:=a=b
section
variable(X:Cx)(xw:Nat->Hp->Prop)
def tE(f:Lc->Zv->R D):TE:=λZ H Q=>∃U l S,St3 X.K U S H/\LocR U H l Z/\End X.K xw Rep U H Q (f l S)
def tA(f:Lc->Zv->R (List D)):TA:=λZ H Q=>∃U l S,St3 X.K U S H/\LocR U H l Z/\End X.K xw Rq U H Q (f l S)
def tB3(f:Lc->Zv->R Bool):TT:=λZ H Q=>∃U l S,St3 X.K U S H/\LocR U H l Z/\End X.K xw VS U H Q (f l S)
def tO(f:Lc->Zv->R (Option Int)):TO:=λZ H Q=>∃U l S,St3 X.K U S H/\LocR U H l Z/\End X.K xw ZhT U H Q (f l S)
variable(C:Calls)
structure CE(e:Expr)(i:E):Prop where
 h:PE X e (tE X xw<|Pv.pv C i)
structure CT(e:Expr)(i:E):Prop where
 h:PT X e (tB3 X xw<|Pv.Y2 C i)
structure CA(es:List Expr)(is:List E):Prop where
 h:PA X es (tA X xw<|Pv.pvs C is)
structure CO(e:Option Expr)(i:Option E):Prop where
 h:PO X e (tO X xw<|Pv.pvo C i)
end
def PE.imp(h:PE X e t)(k:∀Z H Q,t' Z H Q->t Z H Q):PE X e t':=λpq s Z H Q I q=>h pq s Z H Q I<|k Z H Q q
def PT.imp(h:PT X e t)(k:∀Z H Q,t' Z H Q->t Z H Q):PT X e t':=λpq s Z H Q I q=>h pq s Z H Q I<|k Z H Q q
def PA.imp(h:PA X e t)(k:∀Z H Q,t' Z H Q->t Z H Q):PA X e t':=λpos pq s Z H Q I q=>h pos pq s Z H Q I<|k Z H Q q
def PO.imp(h:PO X e t)(k:∀Z H Q,t' Z H Q->t Z H Q):PO X e t':=λpq s Z H Q I q=>h pq s Z H Q I<|k Z H Q q
section
variable{K:am}{U ρ':Mx}{S:Zv}{H H':Hp}{a p:aE}
def Zu(hp:H p=ae):Fut U H U (upd H p o):=#[rfl,λb u h=>.inl (by rw[Zj<|ZO h hp];exact h)]
def St3.fresh(st:St3 K U S H)(hp:H p=ae)(ho:∀ps,o≠.tbl ps:=by intro _ z;cases z):St3 K U S (upd H p o):=
 have n:∀b,H b≠ae->b≠p:=λb h z=>h (by rw[z];exact hp)
 #[st.hk,λb h=>by rw[Zj<|n b<|st.xd b h];exact st.xd b h,λb h=>by
  have:=st.dw b h;rw[Zj<|n b (by rw[this.1];intro z;cases z)];exact this,st.tb.upd (λob u z=>by rw[hp]at z;cases z) ho]
def St3.nx(st:St3 K U S H)(hp:H p=ae):¬U.X p:=λz=>st.xd p z hp
end
def X8:Ev.lim=bj:=by rw[du];rfl
section
variable{K:am}{xw:Nat->Hp->Prop}{U:Mx}{H:Hp}{S:Zv}{Q:VK}
def End.newT(h:End K xw Rep U H Q (.ok (.tup ds) S))(st:St3 K U S H)(r:Rq U H ds xs):∀p,H p=ae->Q (.ref p) (upd H p<|.tup xs):=λp hp=>
 h U _ _ (Zu hp) (st.fresh hp) (XE Zn<|r.mono<|Zu hp)
def End.newL(h:End K xw Rep U H Q (.ok (.lst ds) S))(st:St3 K U S H)(r:Rq U H ds xs):∀p,H p=ae->Q (.ref p) (upd H p<|.lst xs):=λp hp=>
 h U _ _ (Zu hp) (st.fresh hp) (Xb Zn (st.nx hp)<|r.mono<|Zu hp)
end
section
variable{X:Cx}{xw:Nat->Hp->Prop}{C:Calls}{e a b c:Expr}{i j k:E}{pos:gj}
def Zgt{n:Int}{q}:CE X xw C (.Constant (.int n) q pos) (.c<|.int n):=.mk <| PE.imp WW<|by left;exact End.ok h st<|ZR n
def ZgX{n:Bool}{q}:CE X xw C (.Constant (.bool n) q pos) (.c<|.bl n):=.mk <| PE.imp jA<|by left;exact End.ok h st<|Yg n
def ZeE{q}:CE X xw C (.Constant .none q pos) (.c .non):=.mk <| PE.imp xy<|by left;exact End.ok h st UI
def ZfC{x:bq}{q}:CE X xw C (.Constant (.str x) q pos) (.c<|.str x):=.mk <| PE.imp GC<|by left;exact End.ok h st<|wA x
def ZhU(n:Nat){x:bq}(hN:X.N[n]?=aa x)(hv:Vis X.env.scope x)(hd:(x == #[9])=ak)
  (hcd:(x == #[15])=ak):CE X xw C (.Name x pos) (.v n):=.mk <| PE.imp (Yn hN hv hd hcd)<|by
 left;rw[Pv.pE2]at h;cases q:l[n]? with
 |none=>rw[q]at h;exact h.elim
 |some o=>
  cases o with
  |none=>rw[q]at h;exact h.elim
  |some d=>
   rw[q]at h;obtain⟨v,q2,r⟩:=lr.val n d q;exact#[v,q2,End.ok h st r]
def Zgq:CA X xw C [] []:=.mk <| PA.imp Ym<|by
 left;rw[Pv.pvs]at h;exact End.ok h st Rq.nil
def ZcK{es:List Expr}{is:List E}(ha:CE X xw C e i)(hr:CA X xw C es is)(hs:aB (e::es) X.env=#[20]::aB es X.env):CA X xw C (e::es) (i::is):=.mk <|
 PA.imp (Zz ha.h hr.h hs)<|by
  left;rw[Pv.pvs]at h;exact#[U,l,S,st,lr,h.bind λx S1 ρ1 H1 v f1 st1 r1 h1=>#[ρ1,l,S1,st1,lr.mono f1,h1.bind λxs S2 ρ2 H2 vs f2 st2 r2 h2=>h2.ok st2<|Rq.cons (r1.mono f2) r2]]
def ZfZ{es:List Expr}{is:List E}{q}(h:CA X xw C es is):CE X xw C (.Tuple es q pos) (.tup is):=.mk <| PE.imp (Za3 h.h)<|by
 left;rw[Pv.pE3]at h;refine#[U,l,S,st,lr,h.bind λxs S1 ρ1 H1 vs f1 st1 r1 h1=>?_]
 obtain⟨hl,h1⟩:=h1.guard;exact#[by rw[r1.length,<-X8];exact hl,h1.newT st1 r1]
def X5{r:R2}{g:D->D->Zv->R D}(hg:∀{U H S x y v u Q},St3 X.K U S H->Rep U H x v->Rep U H y u->End X.K xw Rep U H Q (g x y S)->r v u H Q) :
  ∀Z H Q,tE X xw (λl S=>(Pv.pv C i l S).bind λx S=>(Pv.pv C j l S).bind λy S=>g x y S) Z H Q->tOp r (tE X xw<|Pv.pv C i) (tE X xw<|Pv.pv C j) Z H Q:=λZ H Q #[U,l,S,st,lr,h]=>
 #[U,l,S,st,lr,h.bind λx S1 ρ1 H1 v f1 st1 r1 h1=>#[ρ1,l,S1,st1,lr.mono f1,h1.bind λy S2 ρ2 H2 u f2 st2 r2 h2=>hg st2 (r1.mono f2) r2 h2]]
end
def Zam(K:am):R2:=λx y H Q=>∃a b ys,x=.ref a/\y=.ref b/\SqT K H a []/\SqT K H b ys/\Q (.ref b) H
def ZaK:OpR X (fA .Add) (Zam X.K):=by
 intro pq s Z H x y v u Q I rx ry h;obtain⟨a,b,ys,rfl,rfl,ha,hb,q⟩:=h;cases rx;cases ry;obtain⟨its,r1,p1,_⟩:=I.tuple ha;obtain⟨its2,r2,p2,_⟩:=I.tuple hb;have e0:=r1.nil_iff.mpr rfl;obtain⟨⟨cls,dd,data,sl⟩,ho,hc,n,hd⟩:=id p1;obtain⟨⟨cls2,dd2,data2,sl2⟩,ho2,hc2,n2,hd2⟩:=id p2;simp only at hc hd hc2 hd2;subst hc hd hc2 hd2;exact oK #[_,ho,rfl] #[_,ho2,rfl] l6 nO iC im (gW _ _)
   (tuple_addW0 a b its.toArray its2.toArray n n2 dd dd2 sl sl2<|by rw[e0];rfl) #[ho,ho2,#[.ref b,H,I,rfl,q]]
def Zij(K:am):V->Option Int->Option Int->Hp->VK->Prop:=λx lo hi H Q=>∃a xs,x=.ref a/\SqT K H a xs/\
 (HT.sIx xs.length 0 lo=0/\HT.sIx xs.length xs.length hi=xs.length)/\Q (.ref a) H
def Wx{prog:bE}{w:bZ}{A:cz}{E:au->aA->Prop}{s:aA}{t sl:aE}{items:Array au}{vl vu:au}{lo hi:Option Int}{Q:au->aA->Prop}(ht:oE s.heap t items)(hs:s.heap.IsSliceOf sl vl vu .none)(pl:kT vl lo)(pu:kT vu hi)
  (hw:HT.sIx items.size 0 lo=0/\HT.sIx items.size items.size hi=items.size)(h:Q (.ref t) s):bf #[8] A (lG (.ref t)<|.ref sl) Q E s:=by
 obtain⟨os,hos,hcs,hds⟩:=id hs;have hTs:s.TypeIs (.ref sl) "slice":=#[os,hos,hcs];unfold lG
 try with_reducible refine cK ?_
 first|refine ag<|aD ?_|skip
 refine ag<|lH ht.typeIs #[1] ?_
 refine ag (dm ht.typeIs cR
  (dO cR ht.typeIs kC ?_<|kX _ _))
 show bf _ _ (gE (.ref t) >>= _) _ _ s;refine ag<|nP ht ?_;refine ag<|fP hTs ?_;rw[T9 #[1]]
 refine ag<|HT.Xw hs pl pu ?_;have hyes:((((HT.sIx items.size 0 lo:Nat):Int) == 0&&(1:Int) == 1&&(HT.sIx items.size items.size hi-HT.sIx items.size 0 lo) == items.size)=aj):=by
  rw[hw.1,hw.2];simp
 show bf _ _ (if(((HT.sIx items.size 0 lo:Nat):Int) == 0&&(1:Int) == 1&&(HT.sIx items.size items.size hi-HT.sIx items.size 0 lo) == items.size)=aj then _ else _) _ _ s
 rw[T9 hyes];refine ag<|ag<|fP ht.typeIs<|aD ?_;rw[T9 #[1]]
 exact ag<|d6<|aD #[_,rfl,aD h]
def jj:SlR X (Zij X.K):=by
 intro pq s Z H x v vl vu lo hi sl Q I rx hs pl pu h;obtain⟨a,xs,rfl,hx,hw,q⟩:=h;cases rx;obtain⟨its,r,ht,hz⟩:=I.tuple hx;have hlen:its.toArray.size=xs.length:=by rw[az];exact r.length.symm
 refine#["tuple",_,cR.lookup,ht.typeIs,?_];exact Wx ht hs pl pu (by rw[hlen];exact hw) #[.ref a,H,I,rfl,q]
def vJ(h:Ev.fits i=aj):nH i<=2^20:=by
 have h1:=T6 h;unfold nH;split
 .exact eE _
 .rename_i hz
  have hne:i.natAbs≠0:=by intro z;exact hz (by simp[Int.natAbs_eq_zero.mp z])
  have:=(pY hne).mpr h1;have e:(2:Nat)^20=1048576:=by decide
  omega
def qN:OpR X (fA .FloorDiv) (rI (λ_ j=>0<j/\j<Ev.big) λi j=>.int<|i / j):=opI λi j _ _ _ _ _ hc q=>by
 have h1:=hc.1;have h2:=hc.2;have hne:j.natAbs≠0:=by omega
 have h3:j.natAbs<2^8000:=by
  have e:(j.natAbs:Int)=j:=Int.natAbs_of_nonneg #[3]
  have h4:(j.natAbs:Int)<((2^8000:Nat):Int):=by rw[e,Int.natCast_pow];exact h2
  exact Int.ofNat_lt.mp h4
 have h5:=(pY hne).mpr h3;exact floordiv_int #[3] (by rw[Int.fdiv_eq_ediv_of_nonneg i #[3]];exact q)<|.inl<|PyProof.noPylong_of_log2 #[3]
def Zdw:OpR X (fA .Mult) (rI (λi j=>Ev.fits i=aj/\Ev.fits j=aj) λi j=>.int<|i*j):=opI λ_ _ _ _ _ _ _ hc q=>mul_int q<|IntMulOk.of_bits (vJ hc.1)<|vJ hc.2
def ZeG:OpR X (cO .Is) (λx y H Q=>∃a b,x=.bl a/\y=.bl b/\Q (.bl<|af<|a=b) H):=by
 intro pq s Z H x y v u Q I rx ry h;obtain⟨a,b,rfl,rfl,q⟩:=h;cases rx;cases ry;cases a<;>cases b<;>exact aD #[.bl _,H,I,rfl,q]
def QT:fillsNumberSlot (.type "tuple") "mul" = cF ak:=
 PySem.fillsNumberSlot_seq l8.lookup (by decide +kernel) F.slot_tuple_rmul.lookup (by decide +kernel)
def GO:seqRepeat? (.type "tuple")=cF (aa<|.builtin "tuple.__mul__"):=by
 unfold seqRepeat?
 rw[pA (name:="__mul__") l8.lookup (by decide +kernel),pA (name:="__rmul__") F.slot_tuple_rmul.lookup (by decide +kernel)]
 rfl
def UZ(a:Int)(t:rJ)(l:aE)(items:Array au)(n:Nat)(dd:Option aE)(sl:Array (Option au)) :
  rT (eV.«int.__rmul__» #[[.int a t,.ref l],[]]) (λ_ R s=>s.heap.get? l=aa {cls:=.type "tuple",dict:=dd,data:=.seq items n,slots:=sl}/\R (.ok<|.ret au.notImplemented) s):=
 .of_wp λprog w A R s h=>by obtain⟨hp,g,d,tk,os⟩:=s;obtain⟨hl,h⟩:=h;wp_walk;exact#[_,rfl,h]
def Gk(l:aE)(items:Array au)(n:Nat)(dd:Option aE)(sl:Array (Option au))(x:Int)(u:rJ)(h0:¬(x < -(2^63)||x>=2^63)=aj)(hc:(items.isEmpty||x == 1)=aj) :
  rT (eV.«tuple.__mul__» #[[.ref l,.int x u],[]]) (λ_ R s=>s.heap.get? l=aa {cls:=.type "tuple",dict:=dd,data:=.seq items n,slots:=sl}/\R (.ok<|.ret<|dZ l) {s with heap:=s.heap,toks:=s.toks}):=
 .of_wp λprog w A R s h=>by obtain⟨hp,g,d,tk,os⟩:=s;obtain⟨hl,h⟩:=h;have f1:=l7;have f2:=eC;wp_walk;rw[T8 h0];wp_walk using eg hl;exact#[_,rfl,h]
def Gm(l:aE)(items:Array au)(n:Nat)(dd:Option aE)(sl:Array (Option au))(x:Int)(u:rJ)(h0:¬(x < -(2^63)||x>=2^63)=aj)(hc:¬(items.isEmpty||x == 1)=aj)(h1:(x<=0||items.isEmpty)=aj) :
  rT (eV.«tuple.__mul__» #[[.ref l,.int x u],[]]) (λ_ R s=>s.heap.get? l=aa {cls:=.type "tuple",dict:=dd,data:=.seq items n,slots:=sl}/\R (.ok<|.ret<|dZ s.heap.objs.size) {s with heap:=s.heap.push {cls:=.type "tuple",data:=.seq #[]},toks:=s.toks}):=
 .of_wp λprog w A R s h=>by obtain⟨hp,g,d,tk,os⟩:=s;obtain⟨hl,h⟩:=h;have f1:=l7;have f2:=eC;wp_walk;rw[T8 h0];wp_walk using eg hl;exact#[_,rfl,h]
def zh(l:aE)(items:Array au)(n:Nat)(dd:Option aE)(sl:Array (Option au))(x:Int)(u:rJ)(h0:¬(x < -(2^63)||x>=2^63)=aj)(hc:¬(items.isEmpty||x == 1)=aj)(h1:¬(x<=0||items.isEmpty)=aj)
  (h2:¬(items.size*x>(2^63-1) / 8))(h3:¬k8 (items.size*x)=aj)(hsz:((aJ x.toNat items).foldl (·++·) #[]).size<=bj) :
  rT (eV.«tuple.__mul__» #[[.ref l,.int x u],[]]) (λ_ R s=>s.heap.get? l=aa {cls:=.type "tuple",dict:=dd,data:=.seq items n,slots:=sl}/\R (.ok<|.ret<|dZ s.heap.objs.size) {s with heap:=s.heap.push {cls:=.type "tuple",data:=.seq ((aJ x.toNat items).foldl (·++·) #[])},toks:=s.toks}):=
 .of_wp λprog w A R s h=>by obtain⟨hp,g,d,tk,os⟩:=s;obtain⟨hl,h⟩:=h;have f1:=l7;have f2:=eC;wp_walk;rw[T8 h0];wp_walk using eg hl;rw[T8 h2];wp_walk using eg hl;exact#[_,rfl,h]
def Zeo(K:am):R2:=λx y H Q=>∃a k xs,x=.ref a/\y=.int k/\SqT K H a xs/\(0<=k/\k<1000/\xs.length<=1000)/\
 ((xs=[]\/k=1)->Q (.ref a) H)/\(¬(xs=[]\/k=1)->∀p,H p=ae->Q (.ref p) (upd H p<|.tup (aJ k.toNat xs).flatten))
def ZdP :OpR X (fA .Mult) (Zeo X.K):=by
 intro pq s Z H x y v u Q I rx ry h;obtain⟨a,k,xs,rfl,rfl,hx,⟨k0,k1,hz⟩,q1,q2⟩:=h;cases rx;obtain⟨t,rfl⟩:=ry;obtain⟨its,r,pt,_⟩:=I.tuple hx;have hl:=r.length;obtain⟨⟨cls,dd,data,sl⟩,ho,hc,n,hd⟩:=id pt;simp only at hc hd;subst hc hd;have h0:¬(af (k < -(2^63))||decide (k>=2^63))=aj:=by
  rw[T4 #[0],T4 #[0]];exact aS
 refine lz #[1] #[_,ho,rfl] (λs'=>mF s' k t) QT rj kq GO F.slot_int_index.lookup
  (gF kq (mF s k t) pB (oR _ _) (UZ k t a its.toArray n dd sl) #[ho,rfl,#[_,ho,rfl],?_])
 have hnil:=r.nil_iff;by_cases c:xs=[]\/k=1
 .have c':(its.toArray.isEmpty||k == 1)=aj:=by
   rcases c with c|c
   .rw[hnil.mpr c];rfl
   .rw[c];simp
  exact gF l8 #[_,ho,rfl] lI (k9 _ _) (Gk a its.toArray n dd sl k t h0 c') #[ho,#[.ref a,H,I,rfl,q1 c]]
 .have ne:=λz=>c (.inl<|hnil.mp z)
  have k1:k≠1:=λz=>c<|.inr z
  have c':¬(its.toArray.isEmpty||k == 1)=aj:=by
   rw[beq_eq_false_iff_ne.mpr k1,Bool.or_false,kf];cases its with|nil=>exact T7 rfl ne|cons _ _=>exact aS
  have fin:∀arr:List au,arr=(aJ k.toNat its).flatten->EP X pq Z Q (dZ s.heap.objs.size) {s with heap:=s.heap.push {cls:=.type "tuple",data:=.seq arr.toArray}}:=λarr e=>by
   subst e;refine#[.ref s.heap.objs.size,_,I.laid (t':=s.toks) (λb ob q=>aw _ q) (aI _) ?_,rfl,q2 c _<|I.hok.fresh<|aI _]
   refine#[?_,_,r.rep k.toNat,iW _ _];rw[JR,du];have:k.toNat*xs.length<=1000*1000:=iF #[0] hz
   lia
  by_cases z:k=0
  .have h1:(af (k<=0)||its.toArray.isEmpty)=aj:=by rw[z];rfl
   refine gF l8 #[_,ho,rfl] lI (k9 _ _) (Gm a its.toArray n dd sl k t h0 c' h1) #[ho,?_];exact fin [] (by rw[z];rfl)
  .have h1:¬(af (k<=0)||its.toArray.isEmpty)=aj:=by
    rw[T4 #[0],lO,kf]
    cases its with|nil=>exact T7 rfl ne|cons _ _=>exact aS
   have hm:(its.toArray.size:Int)*k<=1000*1000:=by
    rw[az,<-hl];exact Int.mul_le_mul #[0] #[0] k0 #[0]
   have joined:(aJ k.toNat its.toArray).foldl (·++·) #[]=(aJ k.toNat its).flatten.toArray:=by
    have:=VT its k.toNat [];rw[eN]at this;exact this
   have hsz:((aJ k.toNat its.toArray).foldl (·++·) #[]).size<=bj:=by
    rw[joined,az,JR,du,<-hl];have:k.toNat*xs.length<=1000*1000:=iF #[0] hz
    lia
   refine gF l8 #[_,ho,rfl] lI (k9 _ _) (zh a its.toArray n dd sl k t h0 c' h1 #[0] (by
    unfold k8;rw[T4 (by rw[du];lia)]
    exact aS) hsz) #[ho,?_]
   rw[joined];exact fin _ rfl
def Zd4:R2:=λx y H Q=>∃a k xs,x=.ref a/\y=.int k/\H a=aa #[35]/\(0<=k/\k<1000/\xs.length<=1000)/\∀p,H p=ae->Q (.ref p) (upd H p<|.lst (aJ k.toNat xs).flatten)
def Zcy :OpR X (fA .Mult) Zd4:=by
 intro pq s Z H x y v u Q I rx ry h;obtain⟨a,k,xs,rfl,rfl,hx,⟨k0,k1,hz⟩,q2⟩:=h;cases rx;obtain⟨t,rfl⟩:=ry;obtain⟨its,r,pl,_⟩:=I.list<|SqL.of hx;have hl:=r.length;obtain⟨⟨cls,dd,data,sl⟩,n,ho,hc,hd2,hd⟩:=id pl;simp only at hc hd hd2;subst hc hd;have hm:k.toNat*its.length<=1000*1000:=iF #[0] #[0]
 have hm2:its.length*k.toNat<=1000*1000:=by rw[kL];exact hm
 refine lz #[1] #[_,ho,rfl] (λs'=>mF s' k t) noFill_list_mul rj kq repeat_list F.slot_int_index.lookup
  (gF kq (mF s k t) pB (oR _ _) (lm_int_rmul_list_any k t a its.toArray n dd sl) #[ho,rfl,#[_,ho,rfl],
   gF F.slot_list_mul #[_,ho,rfl] F.entry_list_mul (F.args_list_mul_2 _ _) (lm_list_mul_any a its.toArray n dd sl k t (by simp[eV.List.listFitsIndex];lia) (by rw[az];lia)<|by rw[az];simp[gX,bj];lia) #[ho,?_]])
 have joined:(aJ (if its.toArray.isEmpty=aj then 0 else k.toNat) its.toArray).foldl (λx1 x2=>x1++x2) #[]=(aJ k.toNat its).flatten.toArray:=by
  have h0:=VT its k.toNat [];rw[eN]at h0;by_cases z:its=[]
  .subst z
   have e:∀m:Nat,(aJ m ([]:List au)).flatten=[]:=λm=>by induction m with|zero=>rfl|succ m ih=>rw[cp,de,ih];rfl
   rw[e];rfl
  .rw[T8 (by rw[kf];cases its with|nil=>exact T7 rfl z|cons _ _=>exact aS)]
   exact h0
 rw[joined];refine#[.ref s.heap.objs.size,_,I.laid (t':=s.toks) (λb ob q=>aw _ q) (aI _) ?_,rfl,q2 _<|I.hok.fresh<|aI _]
 refine#[?_,_,0,r.rep k.toNat,aR _ rfl];rw[JR,du];rw[hl];lia
section
variable{X:Cx}{xw:Nat->Hp->Prop}{C:Calls}{e a b c:Expr}{i j k:E}{pos:gj}
variable{U:Mx}{H:Hp}{S:Zv}{x y:D}{v u:V}{Q:VK}{K:am}
def Zev(K:am):R2:=λx y H Q=>rI0 (λi j=>.int<|i+j) x y H Q\/(Zeh K x y H Q\/(Zam K x y H Q\/Zdx x y H Q))
def ZdN:OpR X (fA .Add) (Zev X.K):=Zgg.or<|Zcq.or<|ZaK.or wc
def ZeV(st:St3 K U S H)(rx:Rep U H x v)(ry:Rep U H y u)(h:End K xw Rep U H Q (Pv.Wu .add x y S)):Zev K v u H Q:=by
 cases x with
 |int i=>cases y with|int j=>exact .inl #[i,j,rx.int',ry.int',End.ok h st<|ZR _]|_=>exact False.elim h
 |tup ds=>cases y with
  |tup es=>
   obtain⟨hl,h⟩:=End.guard h;obtain⟨p,xs,rfl,hp,r1⟩:=rx.tup';obtain⟨q,ys,rfl,hq,r2⟩:=ry.tup';have l1:=r1.length;have l2:=r2.length;by_cases z:xs=[]
   .subst z
    have e1:=ip.mp l1.symm;subst e1;exact .inr<|.inr<|.inl #[p,q,ys,rfl,rfl,SqT.of hp,SqT.of hq,End.ok h st<|XE hq r2]
   .refine .inr (.inl #[p,q,xs,ys,rfl,rfl,SqT.of hp,SqT.of hq,z,by rw[l1,l2,<-X8];exact hl,λz2=>?_,λ_=>h.newT st<|r1.append r2])
    subst z2;have e2:=ip.mp l2.symm;subst e2;refine End.ok h st ?_;rw[bO];exact XE hp r1
  |_=>exact False.elim h
 |lst ds=>cases y with
  |lst es=>
   obtain⟨hl,h⟩:=End.guard h;obtain⟨p,xs,rfl,hp,_,r1⟩:=rx.lst';obtain⟨q,ys,rfl,hq,_,r2⟩:=ry.lst';exact .inr<|.inr<|.inr #[p,q,xs,ys,rfl,rfl,hp,hq,by rw[r1.length,r2.length,<-X8];exact hl,h.newL st<|r1.append r2]
  |_=>exact False.elim h
 |_=>cases y<;>exact False.elim h
def Zge(st:St3 K U S H)(rx:Rep U H x v)(ry:Rep U H y u)(h:End K xw Rep U H Q (Pv.Wu .sub x y S)):rI0 (λi j=>.int<|i-j) v u H Q:=by
 cases x with
 |int i=>cases y with|int j=>exact#[i,j,rx.int',ry.int',End.ok h st<|ZR _]|_=>exact False.elim h
 |_=>cases y<;>exact False.elim h
def Zeg(K:am):R2:=λx y H Q=>rI (λi j=>Ev.fits i=aj/\Ev.fits j=aj) (λi j=>.int<|i*j) x y H Q\/(Zeo K x y H Q\/Zd4 x y H Q)
def ZdT:OpR X (fA .Mult) (Zeg X.K):=Zdw.or<|ZdP.or Zcy
def Zgs(st:St3 K U S H)(rx:Rep U H x v)(ry:Rep U H y u)(h:End K xw Rep U H Q (Pv.Wu .mul x y S)):Zeg K v u H Q:=by
 cases x with
 |int i=>cases y with
  |int j=>
   obtain⟨hc,h⟩:=End.guard h;exact .inl #[i,j,rx.int',ry.int',(aC _ _).mp hc,End.ok h st<|ZR _]
  |_=>exact False.elim h
 |tup ds=>cases y with
  |int k=>
   obtain⟨⟨h0,h1,h2⟩,h⟩:=End.guard h;obtain⟨p,xs,rfl,hp,r1⟩:=rx.tup';have l1:=r1.length;refine .inr <| .inl #[p,k,xs,rfl,ry.int',SqT.of hp,#[h0,h1,by rw[l1];exact h2],λz=>?_,λ_=>h.newT st<|r1.rep k.toNat]
   refine End.ok h st<|XE hp ?_;rcases z with z|z
   .subst z
    have e1:=ip.mp l1.symm;subst e1;have:∀m:Nat,(aJ m ([]:List D)).flatten=[]:=λm=>by induction m with|zero=>rfl|succ m ih=>rw[cp,de,ih];rfl
    rw[this];exact Rq.nil
   .subst z
    show Rq U H (aJ 1 ds).flatten xs;rw[cp,List.replicate_zero,de,List.flatten_nil,bO];exact r1
  |_=>exact False.elim h
 |lst ds=>cases y with
  |int k=>
   obtain⟨⟨h0,h1,h2⟩,h⟩:=End.guard h;obtain⟨p,xs,rfl,hp,_,r1⟩:=rx.lst';exact .inr<|.inr #[p,k,xs,rfl,ry.int',hp,#[h0,h1,by rw[r1.length];exact h2],h.newL st<|r1.rep k.toNat]
  |_=>exact False.elim h
 |_=>cases y<;>exact False.elim h
def ZbZ(st:St3 K U S H)(rx:Rep U H x v)(ry:Rep U H y u)(h:End K xw Rep U H Q (Pv.Wu .fdiv x y S)):rI (λ_ j=>0<j/\j<Ev.big) (λi j=>.int<|i / j) v u H Q:=by
 cases x with
 |int i=>cases y with
  |int j=>
   obtain⟨hc,h⟩:=End.guard h;exact#[i,j,rx.int',ry.int',hc,End.ok h st<|ZR _]
  |_=>exact False.elim h
 |_=>cases y<;>exact False.elim h
def ZeA(st:St3 K U S H)(rx:Rep U H x v)(ry:Rep U H y u)(h:End K xw Rep U H Q (Pv.Wu .mod x y S)):rI (λ_ j=>0<j) (λi j=>.int<|i%j) v u H Q:=by
 cases x with
 |int i=>cases y with
  |int j=>
   obtain⟨hc,h⟩:=End.guard h;exact#[i,j,rx.int',ry.int',hc,End.ok h st<|ZR _]
  |_=>exact False.elim h
 |_=>cases y<;>exact False.elim h
theorem Ze4(st:St3 K U S H)(rx:Rep U H x v)(ry:Rep U H y u)(h:End K xw Rep U H Q (Pv.Wu .pow x y S)):rI CPow (λi j=>.int<|i^j.toNat) v u H Q:=by
 cases x with
 |int i=>cases y with
  |int j=>
   obtain⟨hc,h⟩:=End.guard h;exact#[i,j,rx.int',ry.int',#[hc.1,by lia,hc.2.2],End.ok h st<|ZR _]
  |_=>exact False.elim h
 |_=>cases y<;>exact False.elim h
def ZeN(ha:CE X xw C a i)(hb:CE X xw C b j):CE X xw C (.BinOp a .Add b pos) (.bin .add i j):=.mk <| PE.imp (Uj ZdN ha.h hb.h) (X5 λst rx ry h=>ZeV st rx ry h)
def ZfE(ha:CE X xw C a i)(hb:CE X xw C b j):CE X xw C (.BinOp a .Sub b pos) (.bin .sub i j):=.mk <| PE.imp (Uj Zfg ha.h hb.h) (X5 λst rx ry h=>Zge st rx ry h)
def Zgx(ha:CE X xw C a i)(hb:CE X xw C b j):CE X xw C (.BinOp a .Mult b pos) (.bin .mul i j):=.mk <| PE.imp (Uj ZdT ha.h hb.h) (X5 λst rx ry h=>Zgs st rx ry h)
def Zdu(ha:CE X xw C a i)(hb:CE X xw C b j):CE X xw C (.BinOp a .FloorDiv b pos) (.bin .fdiv i j):=.mk <| PE.imp (Uj qN ha.h hb.h) (X5 λst rx ry h=>ZbZ st rx ry h)
def ZfR(ha:CE X xw C a i)(hb:CE X xw C b j):CE X xw C (.BinOp a .Mod b pos) (.bin .mod i j):=.mk <| PE.imp (Uj Zgh ha.h hb.h) (X5 λst rx ry h=>ZeA st rx ry h)
def ZfX(ha:CE X xw C a i)(hb:CE X xw C b j):CE X xw C (.BinOp a .Pow b pos) (.bin .pow i j):=.mk <| PE.imp (Uj ZeC ha.h hb.h) (X5 λst rx ry h=>Ze4 st rx ry h)
def ZeD(ha:CE X xw C a i):CE X xw C (.UnaryOp .USub a pos) (.neg i):=.mk <| PE.imp (Zel Zbp ha.h)<|by
 left;refine#[U,l,S,st,lr,End.bind (h) λx S1 ρ1 H1 v f1 st1 r1 h1=>?_]
 cases x with|int n=>exact#[n,r1.int',End.ok h1 st1<|ZR _]|_=>exact False.elim h1
def ze(st:St3 K U S H)(rx:Rep U H x v)(h:Pv.Zs x=aa n):Zcc K v H n:=by
 cases x with
 |non=>rw[rx.non'];exact(aq h).symm
 |bl b=>rw[rx.bl'];exact(aq h).symm
 |int i=>
  rw[rx.int'];have h':=aq h;rw[<-h'];by_cases z:i=0
  .subst z;rfl
  .rw[T5 z];exact(bne_iff_ne.mpr z).symm
 |tup ds=>
  obtain⟨p,xs,rfl,hp,r⟩:=rx.tup';have h':=aq h;refine .inr<|.inl #[xs,SqT.of hp,?_];rw[<-h'];have:=r.length;cases ds<;>cases xs<;>first|rfl|(simp at this)
 |lst ds=>
  obtain⟨p,xs,rfl,hp,_,r⟩:=rx.lst';refine .inl #[xs,SqL.of hp,?_];rw[<-aq h];have:=r.length;cases ds<;>cases xs<;>first|rfl|(simp at this)
 |_=>cases h
def ZeS(ha:CE X xw C a i)(he:∀whole,isTrue a X.env whole=(do let v <-whole;lD a.pos;i8 [v] (sS v))):CT X xw C a i:=.mk <|
 PT.imp (Zbx ha.h he)<|by
  left;refine#[U,l,S,st,lr,End.bind (h) λx S1 ρ1 H1 v f1 st1 r1 h1=>?_]
  cases q:Pv.Zs x with|none=>rw[q]at h1;exact False.elim h1|some n=>rw[q]at h1;exact#[n,ze st1 r1 q,End.ok h1 st1 rfl]
def Zgl(ha:CT X xw C a i):CT X xw C (.UnaryOp .Not a pos) (.not i):=.mk <| PT.imp (Za5 ha.h)<|by
 left;refine#[U,l,S,st,lr,?_];have h':End X.K xw VS U H Q (((Pv.pv C i l S).bind λx S=>(Pv.po (Pv.Zs x) S).bind λb S=>.ok (.bl !b) S).bind λx S=>Pv.po (Pv.Zs x) S):=h
 show End X.K xw VS U H (λc H1=>Q (!c) H1) ((Pv.pv C i l S).bind λx S=>Pv.po (Pv.Zs x) S)
 cases q:Pv.pv C i l S with
 |no=>rw[q]at h';exact h'
 |ex c S1=>rw[q]at h';exact h'
 |ok x S1=>
  rw[q]at h';show End X.K xw VS U H _ (Pv.po (Pv.Zs x) S1);have h2:End X.K xw VS U H Q (((Pv.po (Pv.Zs x) S1).bind λb S=>.ok (.bl !b) S).bind λx S=>Pv.po (Pv.Zs x) S):=h'
  cases t:Pv.Zs x with
  |none=>rw[t]at h2;exact h2
  |some n=>
   rw[t]at h2;intro ρ1 H1 w f1 st1 e;exact h2 ρ1 H1 (!w) f1 st1 (by rw[<-(e)];rfl)
def Zfh(ha:CE X xw C a i):CE X xw C (.UnaryOp .Not a pos) (.not i):=.mk <| by
 intro pq s Z H Q I hq;obtain⟨U,l,S,st,lr,h⟩:=hq;have h':=h
 refine UnaryOp_<|thn (ha.h pq s Z H (λv H1=>∃k,Zcc X.K v H1 k/\Q (.bl !k) H1) I #[U,l,S,st,lr,End.bind h' λx S1 ρ1 H1 v f1 st1 r1 h1=>?_]) λv s1 #[x,H1,I1,r1,q1]=>?_
 .cases q:Pv.Zs x with|none=>rw[q]at h1;exact False.elim h1|some n=>rw[q]at h1;exact#[n,ze st1 r1 q,End.ok h1 st1<|Yg _]
 .obtain⟨k,tk,q2⟩:=q1
  refine not_of<|thn (ZbI pq s1 Z H1 x v (λk' H'=>Q (.bl !k') H') I1 r1 #[k,tk,q2]) λk' s2 #[H2,I2,q3]=>?_
  exact#[.bl<|!k',H2,I2,rfl,q3]
def ZeM{rest:List Expr}(ha:CE X xw C a i)(hb:CE X xw C (.BoolOp .And (b::rest) pos) j):CE X xw C (.BoolOp .And (a::b::rest) pos) (.and i j):=.mk <| PE.imp (ZeH ha.h hb.h)<|by
 left;refine#[U,l,S,st,lr,End.bind (h) λx S1 ρ1 H1 v f1 st1 r1 h1=>?_]
 cases x with
 |bl c=>
  refine#[c,r1.bl',?_];cases c with|true=>exact#[ρ1,l,S1,st1,lr.mono f1,h1]|false=>exact End.ok h1 st1<|Yg _
 |_=>exact False.elim h1
def ZeP{op}(ha:CE X xw C a i):CE X xw C (.BoolOp op [a] pos) i:=.mk <| Zfq ha.h
def Zgf(hc:CT X xw C c k)(ha:CE X xw C a i)(hb:CE X xw C b j):CE X xw C (.IfExp c a b pos) (.ite k i j):=.mk <| PE.imp (Zae hc.h ha.h hb.h)<|by
 left;have h':End X.K xw Rep U H Q ((Pv.pv C k l S).bind λx S=>(Pv.po (Pv.Zs x) S).bind λc S=>if c then Pv.pv C i l S else Pv.pv C j l S):=h
 refine#[U,l,S,st,lr,?_];show End X.K xw VS U H _ ((Pv.pv C k l S).bind λx S=>Pv.po (Pv.Zs x) S)
 cases q:Pv.pv C k l S with
 |no=>rw[q]at h';exact h'
 |ex c S1=>rw[q]at h';exact h'
 |ok x S1=>
  rw[q]at h';have h2:End X.K xw Rep U H Q ((Pv.po (Pv.Zs x) S1).bind λc S=>if c then Pv.pv C i l S else Pv.pv C j l S):=h'
  show End X.K xw VS U H _ (Pv.po (Pv.Zs x) S1);cases t:Pv.Zs x with
  |none=>rw[t]at h2;exact h2
  |some n=>
   rw[t]at h2;have h3:=h2
   intro ρ1 H1 w f1 st1 e;have e':n=w:=e;subst e';cases n with|true=>exact#[ρ1,l,S1,st1,lr.mono f1,h3.mono f1]|false=>exact#[ρ1,l,S1,st1,lr.mono f1,h3.mono f1]
structure CWh(X:Cx)(xw:Nat->Hp->Prop)(C:Calls)(e:Expr)(i:E):Prop where
 h:PW X e (tB3 X xw<|Pv.Y2 C i)
def CWh.ct(h:CWh X xw C e i):CT X xw C e i:=.mk <| PW.pt h.h
def PW.imp(h:PW X e t)(k:∀Z H Q,t' Z H Q->t Z H Q):PW X e t':=λwh pq s Z H Q I q=>h wh pq s Z H Q I<|k Z H Q q
def Zcm(ha:CT X xw C a i):CWh X xw C (.BoolOp .And [a] pos) i:=.mk <| Zdq ha.h
def Zgd(ha:CT X xw C a i):CWh X xw C (.BoolOp .Or [a] pos) i:=.mk <| jD ha.h
def ZaC{rest:List Expr}(ha:CT X xw C a i)(hb:CWh X xw C (.BoolOp .And (b::rest) pos) j):CWh X xw C (.BoolOp .And (a::b::rest) pos) (.and i j):=.mk <| PW.imp (ZeX ha.h hb.h)<|by
 left;have h':End X.K xw VS U H Q (((Pv.pv C i l S).bind λx S=>match x with|.bl c=>if c then Pv.pv C j l S else .ok (.bl ak) S|_=>.no).bind λx S=>Pv.po (Pv.Zs x) S):=h
 refine#[U,l,S,st,lr,?_];show End X.K xw VS U H _ ((Pv.pv C i l S).bind λx S=>Pv.po (Pv.Zs x) S)
 cases q:Pv.pv C i l S with
 |no=>rw[q]at h';exact h'
 |ex c S1=>rw[q]at h';exact h'
 |ok x S1=>
  rw[q]at h';cases x with
  |bl n=>
   intro ρ1 H1 w f1 st1 e;have e':n=w:=e;subst e';cases n with|true=>exact#[ρ1,l,S1,st1,lr.mono f1,End.mono f1 (h')]|false=>exact(h') ρ1 H1 ak f1 st1 rfl
  |_=>exact False.elim h'
def Zer{rest:List Expr}(ha:CT X xw C a i)(hb:CWh X xw C (.BoolOp .Or (b::rest) pos) j):CWh X xw C (.BoolOp .Or (a::b::rest) pos) (.or i j):=.mk <| PW.imp (Zee ha.h hb.h)<|by
 left;have h':End X.K xw VS U H Q (((Pv.pv C i l S).bind λx S=>match x with|.bl c=>if c then .ok (.bl aj) S else Pv.pv C j l S|_=>.no).bind λx S=>Pv.po (Pv.Zs x) S):=h
 refine#[U,l,S,st,lr,?_];show End X.K xw VS U H _ ((Pv.pv C i l S).bind λx S=>Pv.po (Pv.Zs x) S)
 cases q:Pv.pv C i l S with
 |no=>rw[q]at h';exact h'
 |ex c S1=>rw[q]at h';exact h'
 |ok x S1=>
  rw[q]at h';cases x with
  |bl n=>
   intro ρ1 H1 w f1 st1 e;have e':n=w:=e;subst e';cases n with|false=>exact#[ρ1,l,S1,st1,lr.mono f1,End.mono f1 (h')]|true=>exact(h') ρ1 H1 aj f1 st1 rfl
  |_=>exact False.elim h'
end
theorem QH{f:D->D->Option Bool}(hf:∀x y v b,Rep U H x v->Rep U H y v->f x y=aa b->b=aj):∀{ds es:List D}{xs:List V}{b:Bool},Rq U H ds xs->Rq U H es xs->Pv.Yz f ds es=aa b->b=aj
 |[],[],_,b,_,_,h=>(aq h).symm
 |d::ds,e::es,_,b,r1,r2,h=>by
  obtain⟨v,vs,rfl,a1,b1⟩:=r1;obtain⟨v',vs',e',a2,b2⟩:=r2;cases e';unfold Pv.Yz at h;cases q1:f d e with
  |none=>rw[q1]at h;cases h
  |some p=>
   cases q2:Pv.Yz f ds es with
   |none=>rw[q1,q2]at h;cases h
   |some q=>
    rw[q1,q2]at h;have h':=aq h;rw[<-h',hf d e v p a1 a2 q1,QH hf b1 b2 q2];rfl
 |[],_::_,_,b,r1,r2,h=>by
  have l1:=r1.length;have l2:=r2.length;rw[l1]at l2;simp at l2
 |_::_,[],_,b,r1,r2,h=>by
  have l1:=r1.length;have l2:=r2.length;rw[l1]at l2;simp at l2
def Rep.sc{x y:D}{v:V}(r1:Rep U H x v)(r2:Rep U H y v)(h:∀a,v≠.ref a):x=y:=by
 cases x<;>cases y<;>unfold Rep at r1 r2<;>subst_vars<;>first
  |rfl
  |(cases r2;rfl)
  |(cases r1;rfl)
  |(obtain⟨a,z,_⟩:=r1;exact T7 z<|h a)
  |(obtain⟨a,z,_⟩:=r2;exact T7 z<|h a)
  |(obtain⟨a,_,z,_⟩:=r1;exact T7 z<|h a)
  |(obtain⟨a,_,z,_⟩:=r2;exact T7 z<|h a)
  |cases r1
  |cases r2
def je{k:Nat}{x:D}{v:V}{b:Bool}(r:Rep U H x v)(hv:∀a,v≠.ref a)(h:Pv.eqV (k+1) x x=aa b):b=aj:=by
 cases x<;>first
  |exact(aq h).symm
  |(rw[<-aq h];exact T5 rfl)
  |exact Ev.nos h
  |(obtain⟨a,_,z,_⟩:=r.tup';exact T7 z<|hv a)
  |(obtain⟨a,_,z,_⟩:=r.lst';exact T7 z<|hv a)
theorem Rep.ref{x:D}{p:aE}(r:Rep U H x (.ref p)){y:D}{k:Nat}{b:Bool}(h:Pv.eqV (k+1) x y=aa b\/Pv.eqV (k+1) y x=aa b):(∃ds es,x=.tup ds/\y=.tup es)\/∃ds es,x=.lst ds/\y=.lst es:=by
 cases x with
 |tup ds=>cases y<;>first|exact .inl #[_,_,rfl,rfl]|(rcases h with h|h<;>exact Ev.nos h)
 |lst ds=>cases y<;>first|exact .inr #[_,_,rfl,rfl]|(rcases h with h|h<;>exact Ev.nos h)
 |non=>cases r.non'
 |bl _=>cases r.bl'
 |int _=>cases r.int'
 |str _=>cases r.str'
 |_=>cases y<;>rcases h with h|h<;>exact Ev.nos h
theorem Vn:∀(k:Nat)(x y:D)(v:V)(b:Bool),Rep U H x v->Rep U H y v->Pv.eqV k x y=aa b->b=aj
 |0,_,_,_,_,_,_,h=>by cases h
 |k+1,x,y,v,b,r1,r2,h=>by
  by_cases hv:∃a,v=.ref a
  .obtain⟨p,rfl⟩:=hv
   rcases r1.ref (.inl h)with⟨ds,es,rfl,rfl⟩|⟨ds,es,rfl,rfl⟩
   .obtain⟨_,_,z,e1,q1⟩:=r1.tup'
    cases z;obtain⟨_,_,z,e2,q2⟩:=r2.tup';cases z;rw[e1]at e2;cases e2;exact QH (λx y v b=>Vn k x y v b) q1 q2 h
   .obtain⟨_,_,z,e1,_,q1⟩:=r1.lst'
    cases z;obtain⟨_,_,z,e2,_,q2⟩:=r2.lst';cases z;rw[e1]at e2;cases e2;have h:(if ds.length=es.length then Pv.Yz (Pv.eqV k) ds es else aa ak)=aa b:=h
    rw[T9<|by rw[<-q1.length,q2.length]]at h
    exact QH (λx y v b=>Vn k x y v b) q1 q2 h
  .have hv:=λa z=>hv #[a,z]
   cases r1.sc r2 hv;exact je r1 hv h
noncomputable def eAt(f:D->D->Option Bool)(ds es:List D)(j:Nat):Bool:=match ds[j]?,es[j]? with
 |some x,aa y=>(f x y).getD ak
 |_,_=>ak
theorem Xi{f:D->D->Option Bool}:∀{ds es:List D}{b:Bool},Pv.Yz f ds es=aa b->
  ((aM<|sD ds.length es.length).all (eAt f ds es)&&ds.length == es.length)=b/\∀j x y,ds[j]?=aa x->es[j]?=aa y->f x y=aa (eAt f ds es j)
 |[],[],b,h=>#[aq h,λj x y e=>by simp at e]
 |[],_::es,b,h=>#[by rw[<-aq h];simp,λj x y e=>by simp at e]
 |_::ds,[],b,h=>#[by rw[<-aq h];simp,λj x y _ e=>by simp at e]
 |d::ds,e::es,b,h=>by
  unfold Pv.Yz at h;cases q1:f d e with
  |none=>rw[q1]at h;cases h
  |some p=>
   cases q2:Pv.Yz f ds es with
   |none=>rw[q1,q2]at h;cases h
   |some q=>
    rw[q1,q2]at h;obtain⟨ih,ih2⟩:=Xi q2;have h':=aq h;have e0:eAt f (d::ds) (e::es) 0=p:=by simp[eAt,q1]
    have es':∀j,eAt f (d::ds) (e::es) (j+1)=eAt f ds es j:=λj=>by simp[eAt]
    refine#[?_,λj x y hx hy=>?_]
    .rw[<-h',<-ih,aG,aG,Nat.succ_min_succ,iG,i9,e0,fQ]
     have:((aM<|sD ds.length es.length).all<|eAt f (d::ds) (e::es)∘Nat.succ)=(aM<|sD ds.length es.length).all (eAt f ds es):=by
      exact congrArg (λg=>(aM<|sD ds.length es.length).all g)<|funext λj=>es' j
     rw[this,Bool.and_assoc]
     congr 2
     simp
    .cases j with
     |zero=>
      simp at hx hy;subst hx hy;rw[e0];exact q1
     |succ j=>
      rw[es' j];exact ih2 j x y (by simpa using hx) (by simpa using hy)
def YQ{A:cz}{k:Nat}(h:A.units+(k+1)<dN):A.in1.units+k<dN:=by
 have e:A.in1.units<=A.units+1:=by
  first|exact aI _|(simp[cz.in1,cz.units]<;>lia)
 lia
theorem xA(I:Inv X pq Z H s):∀(k:Nat)(A:cz)(x y:D)(v u:V)(vv uu:au)(b:Bool),A.units+k<dN->Rep U H x v->Rep U H y u->Zy v vv->Zy u uu->Pv.eqV k x y=aa b->iX A s vv uu b
 |0,_,_,_,_,_,_,_,_,_,_,_,_,_,h=>by cases h
 |k+1,A,x,y,v,u,vv,uu,b,hu,r1,r2,e1,e2,h=>by
  have flat:wE v=aj->wE u=aj->eqV v u=b->iX A s vv uu b:=λf1 f2 e=>by rw[<-e];exact Zfo e1 e2 f1 f2
  have bb:∀{a c:Bool},(a == c)=af (a=c):=λ{a c}=>by cases a<;>cases c<;>rfl
  have ii:∀{a c:Int},(a == c)=af (a=c):=λ{a c}=>by rw[cA];simp
  have ss:∀{a c:bq},(a == c)=af (a=c):=λ{a c}=>by rw[cA];simp
  have item:∀{ds es:List D}{xs ys:List V}(j:Nat)(its its2:List au)(j1:j<its.toArray.size)(j2:j<its2.toArray.size),its.toArray.size=ds.length->its2.toArray.size=es.length->Vals xs its->Vals ys its2->Rq U H ds xs->Rq U H es ys->(∀j x y,ds[j]?=aa x->es[j]?=aa y->Pv.eqV k x y=aa (eAt (Pv.eqV k) ds es j))->iX A.in1 s its.toArray[j] its2.toArray[j] (eAt (Pv.eqV k) ds es j):=λ{ds es xs ys} j its its2 j1 j2 n1 n2 v1 v2 q1 q2 ea=>by
   have d1:ds[j]?=aa ds[j]:=ai #[0]
   have d2:es[j]?=aa es[j]:=ai #[0]
   obtain⟨w1,g1,z1⟩:=q1.get d1;obtain⟨w2,g2,z2⟩:=q2.get d2;obtain⟨m1,k1,y1⟩:=v1.get g1;obtain⟨m2,k2,y2⟩:=v2.get g2;have o1:its.toArray[j]=m1:=by simpa using(aH.mp k1).2
   have o2:its2.toArray[j]=m2:=by simpa using(aH.mp k2).2
   rw[o1,o2];exact xA I k A.in1 ds[j] es[j] w1 w2 m1 m2 _ (YQ hu) z1 z2 y1 y2<|ea j _ _ d1 d2
  cases x with
  |non=>
   cases r1.non';cases y with|non=>cases r2.non';exact flat rfl rfl<|aq h|bl _=>cases r2.bl';exact flat rfl rfl<|aq h|int _=>cases r2.int';exact flat rfl rfl<|aq h|str _=>cases r2.str';exact flat rfl rfl<|aq h|_=>exact Ev.nos h
  |bl i=>
   cases r1.bl';cases y with|non=>cases r2.non';exact flat rfl rfl<|aq h|bl _=>cases r2.bl';exact flat rfl rfl<|bb.trans<|aq h|int _=>cases r2.int';exact flat rfl rfl<|ii.trans<|aq h|str _=>cases r2.str';exact flat rfl rfl<|aq h|_=>exact Ev.nos h
  |int i=>
   cases r1.int';cases y with|non=>cases r2.non';exact flat rfl rfl<|aq h|bl _=>cases r2.bl';exact flat rfl rfl<|ii.trans<|aq h|int _=>cases r2.int';exact flat rfl rfl<|ii.trans<|aq h|str _=>cases r2.str';exact flat rfl rfl<|aq h|_=>exact Ev.nos h
  |str i=>
   cases r1.str';cases y with|non=>cases r2.non';exact flat rfl rfl<|aq h|bl _=>cases r2.bl';exact flat rfl rfl<|aq h|int _=>cases r2.int';exact flat rfl rfl<|aq h|str _=>cases r2.str';exact flat rfl rfl<|ss.trans<|aq h|_=>exact Ev.nos h
  |tup ds=>
   obtain⟨p,xs,rfl,hp,q1⟩:=r1.tup';cases e1;cases y with
   |tup es=>
    obtain⟨p',ys,rfl,hp',q2⟩:=r2.tup';cases e2;by_cases hpp:p=p'
    .subst hpp
     rw[Vn (k+1) (.tup ds) (.tup es) (.ref p) b r1 r2 h];exact ko _
    .obtain⟨its,v1,t1,_⟩:=I.tuple (SqT.of hp)
     obtain⟨its2,v2,t2,_⟩:=I.tuple<|SqT.of hp';have h':=h;obtain⟨ev,ea⟩:=Xi h';have n1:its.toArray.size=ds.length:=by rw[az,<-v1.length,q1.length]
     have n2:its2.toArray.size=es.length:=by rw[az,<-v2.length,q2.length]
     refine lc hpp ?_;rw[<-ev,<-n1,<-n2];exact lJ t1 t2 #[0] λj j1 j2=>item j its its2 j1 j2 n1 n2 v1 v2 q1 q2 ea
   |_=>exact Ev.nos h
  |lst ds=>
   obtain⟨p,xs,rfl,u1,_,q1⟩:=r1.lst';cases e1;cases y with
   |lst es=>
    obtain⟨p',ys,rfl,u2,_,q2⟩:=r2.lst';cases e2;by_cases hpp:p=p'
    .subst hpp
     rw[Vn (k+1) (.lst ds) (.lst es) (.ref p) b r1 r2 h];exact ko _
    .obtain⟨its,v1,p1,_⟩:=I.list (SqL.of u1)
     obtain⟨its2,v2,p2,_⟩:=I.list<|SqL.of u2;have n1:its.toArray.size=ds.length:=by rw[az,<-v1.length,q1.length]
     have n2:its2.toArray.size=es.length:=by rw[az,<-v2.length,q2.length]
     refine lc hpp ?_;have h2:(if ds.length=es.length then Pv.Yz (Pv.eqV k) ds es else aa ak)=aa b:=h
     by_cases hl:ds.length=es.length
     .rw[T9 hl]at h2
      obtain⟨ev,ea⟩:=Xi h2;have ev':(aM ds.length).all (eAt (Pv.eqV k) ds es)=b:=by
       rw[<-ev,<-hl,oS];simp
      rw[<-ev',<-n1];exact pC p1.isList p2.isList #[0] #[0] λj j1 j2=>item j its its2 j1 j2 n1 n2 v1 v2 q1 q2 ea
     .rw[T8 hl]at h2
      rw[<-aq h2];exact lP p1.isList p2.isList (bne_iff_ne.mpr<|by lia) #[0]
   |_=>exact Ev.nos h
  |_=>exact Ev.nos h
def Vs(I:Inv X pq Z H s){k:Nat}{A:cz}{ds es:List D}{xs ys:List V}{its its2:List au}{b:Bool}(hu:A.units+(k+1)<dN)
  (q1:Rq U H ds xs)(q2:Rq U H es ys)(v1:Vals xs its)(v2:Vals ys its2)(h:Pv.Yz (Pv.eqV k) ds es=aa b) :
  ∀j (h1:j<its.toArray.size) (h2:j<its2.toArray.size),iX A.in1 s its.toArray[j] its2.toArray[j] (eAt (Pv.eqV k) ds es j):=λj j1 j2=>by
 obtain⟨_,ea⟩:=Xi h;have n1:its.toArray.size=ds.length:=by rw[az,<-v1.length,q1.length]
 have n2:its2.toArray.size=es.length:=by rw[az,<-v2.length,q2.length]
 have d1:ds[j]?=aa ds[j]:=ai #[0]
 have d2:es[j]?=aa es[j]:=ai #[0]
 obtain⟨w1,g1,z1⟩:=q1.get d1;obtain⟨w2,g2,z2⟩:=q2.get d2;obtain⟨m1,k1,y1⟩:=v1.get g1;obtain⟨m2,k2,y2⟩:=v2.get g2;have o1:its.toArray[j]=m1:=by
  have:=aH.mp k1
  simpa using this.2
 have o2:its2.toArray[j]=m2:=by
  have:=aH.mp k2
  simpa using this.2
 rw[o1,o2];exact xA I k A.in1 ds[j] es[j] w1 w2 m1 m2 _ (YQ hu) z1 z2 y1 y2<|ea j _ _ d1 d2
def ZcL(K:am)(xw:Nat->Hp->Prop)(op:Cop):R2:=λv u H Q=>∃U S x y,St3 K U S H/\Rep U H x v/\Rep U H y u/\End K xw Rep U H Q (Pv.po (Pv.YH op x y) S)
def Zgo :∀Z H Q,tE X xw (Pv.pv C<|.cmp op i j) Z H Q->tOp (ZcL X.K xw op) (tE X xw<|Pv.pv C i) (tE X xw<|Pv.pv C j) Z H Q:=λZ H Q h=>
 X5 (λ{U H S x y v u Q} st rx ry h=>#[U,S,x,y,st,rx,ry,h]) Z H Q h
def dI{a c:Int}:(a == c)=af (a=c):=by rw[cA];simp
def vG{H:Hp}{U:Mx}{k:Nat}{x y:D}{v u:V}{b:Bool}(rx:Rep U H x v)(ry:Rep U H y u)(hb:Pv.eqV (k+1) x y=aa b):(scal v u=aj/\af (v=u)=b)\/(∃i j,v=.bl i/\u=.int j/\af (Ev.b2i i=j)=b)\/(∃i j,v=.int i/\u=.bl j/\af (i=Ev.b2i j)=b)\/(∃ds es,x=.tup ds/\y=.tup es/\Pv.Yz (Pv.eqV k) ds es=aa b)\/∃ds es,x=.lst ds/\y=.lst es/\(if ds.length=es.length then Pv.Yz (Pv.eqV k) ds es else aa ak)=aa b:=by
 cases x with
 |non=>cases rx.non';cases y with|non=>cases ry.non';exact .inl #[rfl,aq hb▸by simp]|bl _=>cases ry.bl';exact .inl #[rfl,aq hb]|int _=>cases ry.int';exact .inl #[rfl,aq hb]|str _=>cases ry.str';exact .inl #[rfl,aq hb]|_=>exact Ev.nos hb
 |bl i=>cases rx.bl';cases y with|non=>cases ry.non';exact .inl #[rfl,aq hb]|bl j=>cases ry.bl';exact .inl #[rfl,aq hb▸by simp]|int j=>cases ry.int';exact .inr<|.inl #[i,j,rfl,rfl,aq hb]|str _=>cases ry.str';exact .inl #[rfl,aq hb]|_=>exact Ev.nos hb
 |int i=>cases rx.int';cases y with|non=>cases ry.non';exact .inl #[rfl,aq hb]|bl j=>cases ry.bl';exact .inr<|.inr<|.inl #[i,j,rfl,rfl,aq hb]|int _=>cases ry.int';exact .inl #[rfl,aq hb▸by simp]|str _=>cases ry.str';exact .inl #[rfl,aq hb]|_=>exact Ev.nos hb
 |str i=>cases rx.str';cases y with|non=>cases ry.non';exact .inl #[rfl,aq hb]|bl _=>cases ry.bl';exact .inl #[rfl,aq hb]|int _=>cases ry.int';exact .inl #[rfl,aq hb]|str _=>cases ry.str';exact .inl #[rfl,aq hb▸by simp]|_=>exact Ev.nos hb
 |tup ds=>cases y with|tup es=>exact .inr<|.inr<|.inr<|.inl #[ds,es,rfl,rfl,hb]|_=>exact Ev.nos hb
 |lst ds=>cases y with|lst es=>exact .inr<|.inr<|.inr<|.inr #[ds,es,rfl,rfl,hb]|_=>exact Ev.nos hb
 |_=>exact Ev.nos hb
def Zfw(hu:X.A.units+6<dN):OpR X (cO .Eq) (ZcL X.K xw .eq):=by
 intro pq s Z H v u vv uu Q I e1 e2 h;obtain⟨U,S,x,y,st,rx,ry,h⟩:=h;obtain⟨b,hb,h1⟩:=End.map h;have q:=End.ok h1 st<|Yg b;rcases vG rx ry hb with⟨hs,e⟩|⟨i,j,rfl,rfl,e⟩|⟨i,j,rfl,rfl,e⟩|⟨ds,es,rfl,rfl,hb'⟩|⟨ds,es,rfl,rfl,h2⟩
 .exact ZhE pq s Z H v u vv uu Q I e1 e2 #[hs,by rw[e];exact q]
 .cases e1
  obtain⟨t,rfl⟩:=e2;refine EqBoolInt.eq_bool_int #[.bl b,H,I,?_,q];show bH ((if i then 1 else 0) == j)=bH b
  rw[dI];exact congrArg bH e
 .cases e2
  obtain⟨t,rfl⟩:=e1;refine EqBoolInt.eq_int_bool #[.bl b,H,I,?_,q];show bH (i == (if j then 1 else 0))=bH b
  rw[dI];exact congrArg bH e
 ·
  obtain⟨p,xs,rfl,hp,q1⟩:=rx.tup';cases e1;obtain⟨p',ys,rfl,hp',q2⟩:=ry.tup';cases e2;obtain⟨its,v1,t1,_⟩:=I.tuple<|SqT.of hp;obtain⟨its2,v2,t2,_⟩:=I.tuple<|SqT.of hp';obtain⟨ev,_⟩:=Xi hb';have n1:its.toArray.size=ds.length:=by rw[az,<-v1.length,q1.length]
  have n2:its2.toArray.size=es.length:=by rw[az,<-v2.length,q2.length]
  refine lJ t1 t2 #[0] (Vs I hu q1 q2 v1 v2 hb') X.prog X.w X.xe _ ?_
  rw[n1,n2,ev];exact#[.bl b,H,I,rfl,q]
 ·
  obtain⟨p,xs,rfl,u1,_,q1⟩:=rx.lst';cases e1;obtain⟨p',ys,rfl,u2,_,q2⟩:=ry.lst';cases e2;obtain⟨its,v1,p1,_⟩:=I.list<|SqL.of u1;obtain⟨its2,v2,p2,_⟩:=I.list<|SqL.of u2;have n1:its.toArray.size=ds.length:=by rw[az,<-v1.length,q1.length]
  have n2:its2.toArray.size=es.length:=by rw[az,<-v2.length,q2.length]
  by_cases hl:ds.length=es.length
  .rw[T9 hl]at h2
   obtain⟨ev,_⟩:=Xi h2;have ev':(aM ds.length).all (eAt (Pv.eqV 5) ds es)=b:=by
    rw[<-ev,<-hl,oS];simp
   refine pC p1.isList p2.isList #[0] #[0] (Vs I hu q1 q2 v1 v2 h2) X.prog X.w X.xe _ ?_
   rw[n1,ev'];exact#[.bl b,H,I,rfl,q]
  .rw[T8 hl]at h2
   refine lP p1.isList p2.isList (bne_iff_ne.mpr<|by lia) #[0] X.prog X.w X.xe _ ?_
   exact#[.bl b,H,I,congrArg bH<|aq h2,q]
def ZfO(hu:X.A.units+6<dN):OpR X (cO .NotEq) (ZcL X.K xw .ne):=by
 intro pq s Z H v u vv uu Q I e1 e2 h;obtain⟨U,S,x,y,st,rx,ry,h⟩:=h;obtain⟨b,hb,h1⟩:=End.map h;have q:=End.ok h1 st<|Yg _;rcases vG rx ry hb with⟨hs,e⟩|⟨i,j,rfl,rfl,e⟩|⟨i,j,rfl,rfl,e⟩|⟨ds,es,rfl,rfl,hb'⟩|⟨ds,es,rfl,rfl,h2⟩
 .exact ZgI pq s Z H v u vv uu Q I e1 e2 #[hs,by rw[e];exact q]
 .cases e1
  obtain⟨t,rfl⟩:=e2;refine EqBoolInt.ne_bool_int #[.bl !b,H,I,?_,q];show bH (!((if i then 1 else 0) == j))=bH !b
  rw[dI];exact congrArg (λz=>bH !z) e
 .cases e2
  obtain⟨t,rfl⟩:=e1;refine EqBoolInt.ne_int_bool #[.bl !b,H,I,?_,q];show bH (!(i == (if j then 1 else 0)))=bH !b
  rw[dI];exact congrArg (λz=>bH !z) e
 ·
  obtain⟨p,xs,rfl,hp,q1⟩:=rx.tup';cases e1;obtain⟨p',ys,rfl,hp',q2⟩:=ry.tup';cases e2;obtain⟨its,v1,t1,_⟩:=I.tuple<|SqT.of hp;obtain⟨its2,v2,t2,_⟩:=I.tuple<|SqT.of hp';obtain⟨ev,_⟩:=Xi hb';have n1:its.toArray.size=ds.length:=by rw[az,<-v1.length,q1.length]
  have n2:its2.toArray.size=es.length:=by rw[az,<-v2.length,q2.length]
  refine SeqAt.RcNeAt.tuples t1 t2 #[0] (Vs I hu q1 q2 v1 v2 hb') X.prog X.w X.xe _ ?_
  rw[n1,n2,ev];exact#[.bl !b,H,I,rfl,q]
 ·
  obtain⟨p,xs,rfl,u1,_,q1⟩:=rx.lst';cases e1;obtain⟨p',ys,rfl,u2,_,q2⟩:=ry.lst';cases e2;obtain⟨its,v1,p1,_⟩:=I.list<|SqL.of u1;obtain⟨its2,v2,p2,_⟩:=I.list<|SqL.of u2;have n1:its.toArray.size=ds.length:=by rw[az,<-v1.length,q1.length]
  have n2:its2.toArray.size=es.length:=by rw[az,<-v2.length,q2.length]
  by_cases hl:ds.length=es.length
  .rw[T9 hl]at h2
   obtain⟨ev,_⟩:=Xi h2;have ev':(aM ds.length).all (eAt (Pv.eqV 5) ds es)=b:=by
    rw[<-ev,<-hl,oS];simp
   refine SeqAt.RcNeAt.lists p1.isList p2.isList #[0] #[0] (Vs I hu q1 q2 v1 v2 h2) X.prog X.w X.xe _ ?_
   rw[n1,ev'];exact#[.bl !b,H,I,rfl,q]
  .rw[T8 hl]at h2
   refine SeqAt.RcNeAt.lists_lengths p1.isList p2.isList (bne_iff_ne.mpr<|by lia) #[0] X.prog X.w X.xe _ ?_
   exact#[.bl !b,H,I,congrArg (λz=>bH !z)<|aq h2,q]
theorem J4(hf:∀x x' y v b b',Rep U H x v->Rep U H x' v->f x y=aa b->f x' y=aa b'->b=b') :
  ∀{ds ds' es:List D}{xs:List V}{b b':Bool},Rq U H ds xs->Rq U H ds' xs->Pv.Yz f ds es=aa b->Pv.Yz f ds' es=aa b'->b=b'
 |[],[],[],_,b,b',_,_,h,h'=>(aq h).symm.trans<|aq h'
 |[],[],_::_,_,b,b',_,_,h,h'=>(aq h).symm.trans<|aq h'
 |_::_,_::_,[],_,b,b',_,_,h,h'=>(aq h).symm.trans<|aq h'
 |d::ds,d'::ds',e::es,_,b,b',r1,r2,h,h'=>by
  obtain⟨v,vs,rfl,a1,b1⟩:=r1;obtain⟨v',vs',e',a2,b2⟩:=r2;cases e';unfold Pv.Yz at h h';cases q1:f d e with
  |none=>rw[q1]at h;cases h
  |some p=>
   cases q2:Pv.Yz f ds es with
   |none=>rw[q1,q2]at h;cases h
   |some q=>
    cases q3:f d' e with
    |none=>rw[q3]at h';cases h'
    |some p'=>
     cases q4:Pv.Yz f ds' es with
     |none=>rw[q3,q4]at h';cases h'
     |some q'=>
      rw[q1,q2]at h;rw[q3,q4]at h';have z1:=aq h;have z2:=aq h';rw[<-z1,<-z2,hf d d' e v p p' a1 a2 q1 q3,J4 hf b1 b2 q2 q4]
 |[],_::_,_,_,b,b',r1,r2,_,_=>by
  have l1:=r1.length;have l2:=r2.length;rw[l1]at l2;simp at l2
 |_::_,[],_,_,b,b',r1,r2,_,_=>by
  have l1:=r1.length;have l2:=r2.length;rw[l1]at l2;simp at l2
theorem Go:∀(k:Nat)(x x' y:D)(v:V)(b b':Bool),Rep U H x v->Rep U H x' v->Pv.eqV k x y=aa b->Pv.eqV k x' y=aa b'->b=b'
 |0,_,_,_,_,_,_,_,_,h,_=>by cases h
 |k+1,x,x',y,v,b,b',r1,r2,h,h'=>by
  by_cases hv:∃a,v=.ref a
  .obtain⟨p,rfl⟩:=hv
   rcases r1.ref (.inl h)with⟨ds,es,rfl,rfl⟩|⟨ds,es,rfl,rfl⟩<;>rcases r2.ref (.inl h')with⟨ds',es',rfl,z⟩|⟨ds',es',rfl,z⟩<;>cases z
   .obtain⟨_,_,z,e1,q1⟩:=r1.tup'
    cases z;obtain⟨_,_,z,e2,q2⟩:=r2.tup';cases z;rw[e1]at e2;cases e2;exact J4 (λx x' y v b b'=>Go k x x' y v b b') q1 q2 h h'
   .obtain⟨_,_,z,e1,_,q1⟩:=r1.lst'
    cases z;obtain⟨_,_,z,e2,_,q2⟩:=r2.lst';cases z;rw[e1]at e2;cases e2;have l:ds'.length=ds.length:=by rw[<-q1.length,q2.length]
    have h:(if ds.length=es.length then Pv.Yz (Pv.eqV k) ds es else aa ak)=aa b:=h
    have h':(if ds'.length=es.length then Pv.Yz (Pv.eqV k) ds' es else aa ak)=aa b':=h'
    rw[l]at h';by_cases c:ds.length=es.length
    .rw[T9 c]at h h'
     exact J4 (λx x' y v b b'=>Go k x x' y v b b') q1 q2 h h'
    .rw[T8 c]at h h'
     exact aq<|h.symm.trans h'
  .cases r1.sc r2 λa z=>hv #[a,z]
   exact aq<|h.symm.trans h'
theorem GL :∀{ds:List D}{b:Bool},Pv.XG x ds=aa b->∀d∈ds,∃c,Pv.eqV Ev.Zt d x=aa c
 |[],_,_,d,hd=>by cases hd
 |y::ys,b,h,d,hd=>by
  unfold Pv.XG at h;cases q1:Pv.eqV Ev.Zt y x with
  |none=>rw[q1]at h;cases h
  |some p=>
   cases q2:Pv.XG x ys with
   |none=>rw[q1,q2]at h;cases h
   |some q=>
    rcases ay.mp hd with rfl|hd
    .exact#[p,q1]
    .exact GL q2 d hd
theorem vp :∀{ds:List D}{b:Bool},Pv.XG x ds=aa b->(ds.any λd=>(Pv.eqV Ev.Zt d x).getD ak)=b
 |[],_,h=>aq h
 |y::ys,b,h=>by
  unfold Pv.XG at h;cases q1:Pv.eqV Ev.Zt y x with
  |none=>rw[q1]at h;cases h
  |some p=>
   cases q2:Pv.XG x ys with
   |none=>rw[q1,q2]at h;cases h
   |some q=>
    rw[q1,q2]at h;rw[gh,vp q2,q1,<-aq h];rfl
open Classical in
def W5(I:Inv X pq Z H s)(hu:A.units+6<dN)(rx:Rep U H x v)(ex:Zy v vv)
  (q:Rq U H ds xs)(vs:Vals xs its)(h:Pv.XG x ds=aa b):∃e:au->Bool,(∀u,u∈its.toArray->iX A s u vv (e u))/\its.toArray.any e=b:=by
 refine#[λu=>af (∃d∈ds,∃w,Rep U H d w/\Zy w u/\Pv.eqV Ev.Zt d x=aa aj),λu hu'=>?_,?_]
 .have hu2:u∈its:=by simpa using hu'
  obtain⟨j,hj,e⟩:=cE hu2;have hl:j<ds.length:=by rw[<-q.length,vs.length];exact hj
  obtain⟨w,g,r⟩:=q.get<|ai hl;obtain⟨u',g',r'⟩:=vs.get g;have eu:u'=u:=by
   rw[ai hj]at g';exact(aq g').symm.trans e
  subst eu;obtain⟨c,hc⟩:=GL h ds[j]<|ba hl;have ec:af (∃d∈ds,∃w,Rep U H d w/\Zy w u'/\Pv.eqV Ev.Zt d x=aa aj)=c:=by
   cases c with
   |true=>exact T5 #[ds[j],ba hl,w,r,r',hc]
   |false=>
    refine T4 ?_
    rintro ⟨d,hd,w',a1,a2,a3⟩
    cases a2.inj r';exact T7 (Go 6 d ds[j] x w aj ak a1 r a3 hc) #[1]
  dsimp only
  rw[ec];exact xA I 6 A ds[j] x w v u' vv c hu r rx r' ex hc
 .rw[<-vp h,List.any_toArray,cA,fK,fK]
  constructor
  .rintro ⟨u,hu1,h1⟩
   obtain⟨d,hd,w,a1,a2,a3⟩:=T6 h1;exact#[d,hd,by rw[a3];rfl]
  .rintro ⟨d,hd,h1⟩
   obtain⟨j,hj,e⟩:=cE hd;subst e;obtain⟨w,g,r⟩:=q.get<|ai hj;obtain⟨u,g',r'⟩:=vs.get g;refine#[u,cY g',T5 #[ds[j],hd,w,r,r',?_]];obtain⟨c,hc⟩:=GL h ds[j] hd;rw[hc]at h1 ⊢;exact congrArg aa h1
section
variable{X:Cx}{xw:Nat->Hp->Prop}{C:Calls}{e a b c:Expr}{i j k:E}{pos p p':gj}
def Ze7(hu:X.A.units+7<dN):OpR X (cO .In) (λv u H Q=>∃U S x ds b,St3 X.K U S H/\Rep U H x v/\(Rep U H (.tup ds) u\/Rep U H (.lst ds) u)/\Pv.XG x ds=aa b/\Q (.bl b) H):=by
 intro pq s Z H v u vv uu Q I e1 e2 h;obtain⟨U,S,x,ds,b,st,rx,ry,hb,q⟩:=h;rcases ry with ry|ry
 .obtain⟨p,xs,rfl,hp,q1⟩:=ry.tup'
  cases e2;obtain⟨its,v1,t1,_⟩:=I.tuple<|SqT.of hp;obtain⟨f,h1,h2⟩:=W5 I (YQ hu) rx e1 q1 v1 hb;exact SeqAt.in_tupleAt f t1 h1 (by rw[h2];exact#[.bl b,H,I,rfl,q])
 .obtain⟨p,xs,rfl,hx,_,q1⟩:=ry.lst'
  cases e2;obtain⟨its,v1,t1,_⟩:=I.list<|SqL.of hx;obtain⟨f,h1,h2⟩:=W5 I (YQ hu) rx e1 q1 v1 hb;exact SeqAt.in_listAt f t1.isList h1 (by rw[h2];exact#[.bl b,H,I,rfl,q])
def Zcw(hu:X.A.units+7<dN):OpR X (cO .NotIn) (λv u H Q=>∃U S x ds b,St3 X.K U S H/\Rep U H x v/\(Rep U H (.tup ds) u\/Rep U H (.lst ds) u)/\Pv.XG x ds=aa b/\Q (.bl !b) H):=by
 intro pq s Z H v u vv uu Q I e1 e2 h;obtain⟨U,S,x,ds,b,st,rx,ry,hb,q⟩:=h;rcases ry with ry|ry
 .obtain⟨p,xs,rfl,hp,q1⟩:=ry.tup'
  cases e2;obtain⟨its,v1,t1,_⟩:=I.tuple<|SqT.of hp;obtain⟨f,h1,h2⟩:=W5 I (YQ hu) rx e1 q1 v1 hb;exact SeqAt.notIn_tupleAt f t1 h1 (by rw[h2];exact#[.bl !b,H,I,rfl,q])
 .obtain⟨p,xs,rfl,hx,_,q1⟩:=ry.lst'
  cases e2;obtain⟨its,v1,t1,_⟩:=I.list<|SqL.of hx;obtain⟨f,h1,h2⟩:=W5 I (YQ hu) rx e1 q1 v1 hb;exact SeqAt.notIn_listAt f t1.isList h1 (by rw[h2];exact#[.bl !b,H,I,rfl,q])
variable{U:Mx}{H:Hp}{S:Zv}{x y:D}{v u:V}{Q:VK}{K:am}
def Zct(h:Pv.int2 x y=aa z):x=.int z.1/\y=.int z.2:=by
 cases x<;>first|exact Ev.nos h|(cases y<;>first|exact Ev.nos h|(cases h;exact#[rfl,rfl]))
def J9{f:Int×Int->Bool}(st:St3 K U S H)(rx:Rep U H x v)(ry:Rep U H y u)(h:End K xw Rep U H Q (Pv.po ((Pv.int2 x y).map λz=>.bl<|f z) S)):rI0 (λi j=>.bl<|f (i,j)) v u H Q:=by
 obtain⟨z,hz,h⟩:=End.map h;obtain⟨rfl,rfl⟩:=Zct hz;exact#[_,_,rx.int',ry.int',End.ok h st<|Yg _]
def ZgQ(st:St3 K U S H)(rx:Rep U H x v)(ry:Rep U H y u)(h:End K xw Rep U H Q (Pv.po (Pv.YH .lt x y) S)):rI0 (λi j=>.bl<|af<|i<j) v u H Q\/∃a b A B,x=.tup a/\y=.tup b/\Pv.Ye a=aa A/\Pv.Ye b=aa B/\Q (.bl<|Ev.ltP A B) H:=by
 cases x with
 |tup a=>cases y with
  |tup b=>
   obtain⟨z,hz,h⟩:=End.po h;obtain⟨A,hA,hz⟩:=bM.mp hz;obtain⟨B,hB,rfl⟩:=cw.mp hz;exact .inr #[a,b,A,B,rfl,rfl,hA,hB,End.ok h st<|Yg _]
  |_=>exact False.elim h
 |_=>exact .inl<|J9 (f:=λz=>af<|z.1<z.2) st rx ry h
end
section
variable{X:Cx}{xw:Nat->Hp->Prop}{C:Calls}{e a b c:Expr}{i j k:E}{pos p p':gj}
def X6{B β γ:Type}(r:R B)(f:B->Zv->R β)(g:β->Zv->R γ):(r.bind f).bind g=r.bind λa S=>(f a S).bind g:=by cases r<;>rfl
def xP{B:Type}{o:Option B}{f:B->Bool}{z:D}(h:o.map (λa=>Pv.V.bl<|f a)=aa z):∃b,z=.bl b:=by
 obtain⟨a,_,rfl⟩:=cw.mp h;exact#[_,rfl]
def ZaU{o:Cop}{x y:D}{S S':Zv}{z:D}(h:Pv.po (Pv.YH o x y) S=.ok z S'):∃b,z=.bl b:=by
 have h:Pv.YH o x y=aa z:=by
  cases q:Pv.YH o x y<;>rw[q]at h<;>cases h;rfl
 cases o with
 |lt=>
  cases x with
  |tup a=>
   cases y with|tup b=>obtain⟨A,_,h⟩:=bM.mp h;exact xP h|_=>exact Ev.nos h
  |int i=>exact xP h
  |_=>exact Ev.nos h
 |_=>exact xP h
def Xt(X:Cx)(xw:Nat->Hp->Prop)(op:sU)(o:Cop):Prop:=OpR X (cO op)<|ZcL X.K xw o
def OpR.imp(h:OpR X f r)(k:∀v u H Q,r' v u H Q->r v u H Q):OpR X f r':=λpq s Z H x y v u Q I e1 e2 q=>h pq s Z H x y v u Q I e1 e2<|k x y H Q q
theorem Zbe(hu:X.A.units+7<dN):Xt X xw .Eq .eq:=Zfw #[0]
theorem qF(hu:X.A.units+7<dN):Xt X xw .NotEq .ne:=ZfO #[0]
def Jb(hu:X.A.units+7<dN):Xt X xw .LtE .le:=OpR.imp Zhu<|by rintro v u H Q ⟨U,S,x,y,st,rx,ry,h⟩;exact J9 st rx ry h
def jf(hu:X.A.units+7<dN):Xt X xw .Gt .gt:=OpR.imp ZgK<|by rintro v u H Q ⟨U,S,x,y,st,rx,ry,h⟩;exact J9 st rx ry h
def ZaS(hu:X.A.units+7<dN):Xt X xw .GtE .ge:=OpR.imp Zhg<|by rintro v u H Q ⟨U,S,x,y,st,rx,ry,h⟩;exact J9 st rx ry h
def Zga{U:Mx}{H:Hp}{x y:D}{v u:V}{b:Bool}(rx:Rep U H x v)(ry:Rep U H y u)(h:Pv.isV x y=aa b):(u=.non/\af (v=.non)=b)\/∃i j,v=.bl i/\u=.bl j/\af (i=j)=b:=by
 cases y with
 |non=>
  refine .inl #[ry.non',?_];rw[<-aq h];cases x<;>unfold Rep at rx<;>first
   |(subst rx;rfl)
   |(obtain⟨_,z,_⟩:=rx;subst z;rfl)
   |(obtain⟨_,_,z,_⟩:=rx;subst z;rfl)
 |bl j=>cases x with|bl i=>exact .inr #[i,j,rx.bl',ry.bl',aq h]|_=>exact Ev.nos h
 |_=>exact Ev.nos h
def j8(hu:X.A.units+7<dN):Xt X xw .Is .is:=OpR.imp (Zfc.or ZeG)<|by
 rintro v u H Q ⟨U,S,x,y,st,rx,ry,h⟩;obtain⟨b,hb,h⟩:=End.map h;have q:=End.ok h st<|Yg b;rcases Zga rx ry hb with⟨e,z⟩|⟨i,j,e,e2,z⟩
 .exact .inl #[e,by rw[z];exact q]
 .exact .inr #[i,j,e,e2,by rw[z];exact q]
def yr{U:Mx}{H:Hp}{x y:D}{u:V}{b:Bool}(ry:Rep U H y u)(h:Pv.Ue x y=aa b) :
  (∃ds,(Rep U H (.tup ds) u\/Rep U H (.lst ds) u)/\Pv.XG x ds=aa b)\/
  (∃(l:List #[14])(k:List D)(ks:List Int),(∃(p:aE)(vs:List (List Key×V)),u=.ref p/\Rd H p (.dT vs)/\vs.map (·.1)=l.map (·.map ej))/\x=.tup k/\Pv.intsV k=aa ks/\l.contains ks=b):=by
 cases y with
 |tup ys=>exact .inl #[ys,.inl ry,h]
 |lst ys=>exact .inl #[ys,.inr ry,h]
 |dct o=>
  cases o with
  |inl _=>exact Ev.nos h
  |inr l=>
   cases x with
   |tup k=>
    obtain⟨ks,e,z⟩:=cw.mp h;obtain⟨p,e1,o,vs,e2,e3⟩:=ry.dct';exact .inr #[l,k,ks,#[p,vs,e1,.inr #[o,e2],e3],rfl,e,z]
   |_=>exact Ev.nos h
 |_=>exact Ev.nos h
def XJ{op:sU}{o:Cop}(hc:Xt X xw op o)(ha:CE X xw C a i)(hb:CE X xw C b j)(hm:eX op b=ak):CE X xw C (.Compare a [op] [b] pos) (.cmp o i j):=.mk <|
 PE.imp (Zd2 hc ha.h hb.h hm) (Zgo)
def XA{op:sU}{o:Cop}(hc:Xt X xw op o)(ha:CE X xw C a i)(hb:CE X xw C b j)(hm:eX op b=ak):CT X xw C (.Compare a [op] [b] pos) (.cmp o i j):=.mk <|
 PT.imp (Zdt hc ha.h hb.h hm)<|by
  left;have h':End X.K xw VS U H Q (((Pv.pv C i l S).bind λx S=>(Pv.pv C j l S).bind λy S=>Pv.po (Pv.YH o x y) S).bind λx S=>Pv.po (Pv.Zs x) S):=h
  simp only[X6]at h';refine#[U,l,S,st,lr,h'.bind λx S1 ρ1 H1 v f1 st1 r1 h1=>#[ρ1,l,S1,st1,lr.mono f1,h1.bind λy S2 ρ2 H2 u f2 st2 r2 h2=>#[ρ2,S2,x,y,st2,r1.mono f2,r2,?_]]]
  have h3:∀{r:R D},(∀z S',r=.ok z S'->∃b,z=.bl b)->End X.K xw VS ρ2 H2 Q (r.bind λx S=>Pv.po (Pv.Zs x) S)->End X.K xw Rep ρ2 H2 (λx H'=>∃k,x=V.bl k/\Q k H') r:=λ{r} hr h=>by
   cases r with
   |no=>exact h
   |ex _ _=>exact h
   |ok z S3=>
    obtain⟨b,rfl⟩:=hr z S3 rfl;exact λρ3 H3 w f3 st3 r3=>#[b,r3.bl',h ρ3 H3 b f3 st3 rfl]
  exact h3 (λz S' e=>ZaU e) h2
def zb{op op':sU}{o o':Cop}{d:Expr}{k:E}(hc:Xt X xw op o)(hc':Xt X xw op' o')(ha:CE X xw C a i)(hb:CE X xw C b j)(hd:CE X xw C d k)
  (hm:lastMarks [op,op'] [b,d]=ak):CE X xw C (.Compare a [op,op'] [b,d] pos) (.chain o o' i j k):=.mk <|
 PE.imp (jq hc hc' ha.h hb.h hd.h hm)<|by
  left;refine#[U,l,S,st,lr,End.bind (h) λx S1 ρ1 H1 v f1 st1 r1 h1=>#[ρ1,l,S1,st1,lr.mono f1,h1.bind λy S2 ρ2 H2 u f2 st2 r2 h2=>#[ρ2,S2,x,y,st2,r1.mono f2,r2,h2.bind λz S3 ρ3 H3 w f3 st3 r3 h3=>?_]]]
  cases z with
  |bl n=>
   refine#[n,r3.bl',?_];cases n with|true=>exact#[ρ3,l,S3,st3,((lr.mono f1).mono f2).mono f3,End.bind (h3) λt S4 ρ4 H4 t' f4 st4 r4 h4=>#[ρ4,S4,y,t,st4,(r2.mono f3).mono f4,r4,h4]]|false=>exact End.ok h3 st3<|Yg _
  |_=>exact False.elim h3
end
section
variable{X:Cx}{xw:Nat->Hp->Prop}{C:Calls}{e a b c:Expr}{i j k:E}{pos p p' p2:gj}
variable{U:Mx}{H:Hp}{S:Zv}{x y:D}{v u:V}{Q:VK}{K:am}
def VH{d:D}{ks:List D}{k:List Int}(h:Pv.intsV (d::ks)=aa k):∃n r,d=.int n/\Pv.intsV ks=aa r/\k=n::r:=by
 cases d<;>first|exact Ev.nos h|(obtain⟨r,e,z⟩:=cw.mp h;exact#[_,r,rfl,e,z.symm])
theorem Wi:∀{ks:List D}{k:List Int}{xs:List V},Pv.intsV ks=aa k->Rq U H ks xs->xs=(k.map (ej:Int->Key)).map kV
 |[],k,xs,h,r=>by cases h;rw[r];rfl
 |d::ks,k,xs,h,r=>by
  obtain⟨v,vs,rfl,a1,b1⟩:=r;obtain⟨n,r,rfl,e,rfl⟩:=VH h;rw[a1.int',Wi e b1];rfl
theorem JT:∀{k k':List Int},k.map (ej:Int->Key)=k'.map ej->k=k'
 |[],[],_=>rfl
 |[],_::_,h=>by simp at h
 |_::_,[],h=>by simp at h
 |a::k,b::k',h=>by
  rw[aX,aX]at h;injection h with h1 h2
  rw[ej.inj h1,JT h2]
def Jm{k:List Int}{l:List #[14]}{vs:List (List Key×V)}(h:vs.map (·.1)=l.map (·.map (ej:Int->Key))):(Qb vs<|k.map ej).isSome=l.contains k:=by
 rw[<-zY,show(vs.any λkv=>af<|kv.1=k.map ej)=(vs.map (·.1)).any λy=>af (y=k.map ej) by rw[List.any_map];rfl,h,List.any_map,List.contains_eq_any_beq]
 congr 1
 funext y
 show af (y.map ej=k.map ej)=(k == y);by_cases z:y=k
 .subst z;simp
 .rw[T4 λw=>z<|JT w,beq_eq_false_iff_ne.mpr<|Ne.symm z]
theorem ZfV(hu:X.A.units+7<dN):OpR X (cO .In) (λv u H Q=>∃a y o,u=.ref a/\v=y/\DGet H a y o/\Q (.bl o.isSome) H):=by
 intro pq s Z H v u vv uu Q I e1 e2 h;obtain⟨a,y,o,rfl,rfl,g,q⟩:=h;cases e2;exact Zh6 #[0] I g e1 λs' I'=>#[.bl o.isSome,H,I',rfl,q]
theorem Zc4(hu:X.A.units+7<dN):OpR X (cO .NotIn) (λv u H Q=>∃a y o,u=.ref a/\v=y/\DGet H a y o/\Q (.bl !o.isSome) H):=by
 intro pq s Z H v u vv uu Q I e1 e2 h;obtain⟨a,y,o,rfl,rfl,g,q⟩:=h;cases e2;exact Zda #[0] I g e1 λs' I'=>#[.bl !o.isSome,H,I',rfl,q]
def Zad(hu:X.A.units+7<dN):Xt X xw .In .inn:=OpR.imp ((Ze7 hu).or<|ZfV hu)<|by
 rintro v u H Q ⟨U,S,x,y,st,rx,ry,h⟩;obtain⟨b,hb,h⟩:=End.map h;have q:=End.ok h st<|Yg _;rcases yr ry hb with⟨ds,hy,hb⟩|⟨l,k,ks,hy,rfl,hk,e⟩
 .exact .inl #[U,S,x,ds,b,st,rx,hy,hb,q]
 .obtain⟨p,vs,rfl,hx,r⟩:=hy
  obtain⟨a,xs,rfl,ha,r2⟩:=rx.tup';refine .inr #[p,.ref a,_,rfl,rfl,.inr #[vs,_,a,hx,rfl,by rw[ha,Wi hk r2],rfl],?_]
  rw[Jm r,e];exact q
def xx(hu:X.A.units+7<dN):Xt X xw .NotIn .nin:=OpR.imp ((Zcw hu).or<|Zc4 hu)<|by
 rintro v u H Q ⟨U,S,x,y,st,rx,ry,h⟩;obtain⟨b,hb,h⟩:=End.map h;have q:=End.ok h st<|Yg _;rcases yr ry hb with⟨ds,hy,hb⟩|⟨l,k,ks,hy,rfl,hk,e⟩
 .exact .inl #[U,S,x,ds,b,st,rx,hy,hb,q]
 .obtain⟨p,vs,rfl,hx,r⟩:=hy
  obtain⟨a,xs,rfl,ha,r2⟩:=rx.tup';refine .inr #[p,.ref a,_,rfl,rfl,.inr #[vs,_,a,hx,rfl,by rw[ha,Wi hk r2],rfl],?_]
  rw[Jm r,e];exact q
def ZgB(r:Rq U H ds xs)(q:Ev.at' ds n=aa d):∃w,atI xs n=aa w/\Rep U H d w:=by
 obtain⟨m,q2,q⟩:=bM.mp q;obtain⟨w,g,rw'⟩:=r.get q;refine#[w,?_,rw'];unfold atI;rw[r.length,show ixN ds.length n=aa m from q2]
 exact g
def Zht(ha:CE X xw C a i)(hb:CE X xw C b j)(hs:wx b):CE X xw C (.Subscript a b pos) (.ix i j):=.mk <| PE.imp (vP (Uv.or Zfs) ha.h hb.h hs) (X5 λ{U H S x y v u Q} st rx ry h=>by
 obtain⟨d,hd,g0⟩:=End.po h;have k:∃ds n,Pv.YG x=aa ds/\y=.int n/\Ev.at' ds n=aa d:=by
  cases y with
  |int n=>
   cases x with
   |tup ds=>exact#[ds,n,rfl,rfl,hd]
   |lst ds=>exact#[ds,n,rfl,rfl,hd]
   |scr ns=>
    obtain⟨z,e,rfl⟩:=cw.mp hd;obtain⟨m,q2,q⟩:=bM.mp e;refine#[_,n,rfl,rfl,?_];unfold Ev.at';rw[ax,q2];show(ns.map Pv.V.int)[m]?=_;rw[aU,q];rfl
   |_=>exact Ev.nos hd
  |_=>cases x<;>exact Ev.nos hd
 obtain⟨ds,n,e,rfl,hn⟩:=k;obtain⟨p,xs,rfl,hp,r⟩:=rx.seq e;obtain⟨w,g,rw'⟩:=ZgB r hn;rw[st.hk]at hp;have q:=End.ok g0 st rw';rcases hp with hp|hp
 .exact .inl #[p,xs,n,w,rfl,ry.int',hp,g,q]
 .exact .inr #[p,xs,n,w,rfl,ry.int',hp,g,q])
def ZdU:CO X xw C ae ae:=.mk <| PO.imp ZbY<|by left;exact End.ok h st rfl
def Zdk(h:CE X xw C e i):CO X xw C (aa e) (aa i):=.mk <| PO.imp (Z2 h.h)<|by
 left;refine#[U,l,S,st,lr,End.bind (h) λx S1 ρ1 H1 v f1 st1 r1 h1=>?_]
 cases x with|int n=>exact#[n,r1.int',End.ok h1 st1 rfl]|_=>exact False.elim h1
def GU(n d:Nat)(o:Option Int):Ev.sIx n d o=HT.sIx n d o:=by
 cases o with
 |none=>rfl
 |some i=>first|rfl|(rfl)
def vI(r:Rq U H ds xs)(lo hi:Option Int):Rq U H (Pv.YF ds lo hi) (YF xs lo hi):=by
 unfold Pv.YF YF;rw[GU,GU,r.length];exact(r.drop _).take _
def ZgP{lo hi:Option Expr}{il ih:Option E}(ha:CE X xw C a i)(hl:CO X xw C lo il)(hh:CO X xw C hi ih):CE X xw C (.Subscript a (.Slice lo hi ae p2) pos) (.sl i il ih):=.mk <|
 PE.imp (jO (Zf1.or<|jj.or ZcB) ha.h hl.h hh.h)<|by
  left;refine#[U,l,S,st,lr,End.bind (h) λx S1 ρ1 H1 v f1 st1 r1 h1=>#[ρ1,l,S1,st1,lr.mono f1,h1.bind λy S2 ρ2 H2 u f2 st2 r2 h2=>#[ρ2,l,S2,st2,(lr.mono f1).mono f2,h2.bind λz S3 ρ3 H3 w f3 st3 r3 h3=>?_]]]
  have e1:y=u:=r2;have e2:z=w:=r3;subst e1 e2;have r0:=(r1.mono f2).mono f3;cases x with
  |tup ds=>
   obtain⟨p,xs,rfl,hp,r⟩:=r0.tup';have h':=h3;by_cases hw:HT.sIx xs.length 0 y=0/\HT.sIx xs.length xs.length z=xs.length
   .refine .inr (.inl #[p,xs,rfl,SqT.of hp,hw,End.ok h' st3 ?_])
    have ew:Pv.YF ds y z=ds:=by
     unfold Pv.YF;rw[GU,GU,<-r.length,hw.1,hw.2,lg,Nat.sub_zero,r.length,gN]
    rw[ew];exact XE hp r
   .exact .inl #[p,xs,rfl,SqT.of hp,hw,h'.newT st3<|vI r y z]
  |lst ds=>
   obtain⟨p,xs,rfl,hp,_,r⟩:=r0.lst';exact .inr<|.inr #[p,xs,rfl,SqL.of hp,End.newL (h3) st3<|vI r y z]
  |_=>exact False.elim h3
def Ul(K:am)(xw:Nat->Hp->Prop)(f:Bf):List V->Hp->VK->Prop:=λvs H Q=>∃U S ds,St3 K U S H/\Rq U H ds vs/\End K xw Rep U H Q (Pv.po (Pv.XW f ds) S)
def ZB.imp{r r':List V->Hp->VK->Prop}(h:ZB X f r)(k:∀vs H Q,r' vs H Q->r vs H Q):ZB X f r':=λpq s Z H xs us Q I e q=>h pq s Z H xs us Q I e<|k xs H Q q
def qM :∀Z H Q,tE X xw (Pv.pv C<|.blt f is) Z H Q->tCB (Ul X.K xw f) (tA X xw<|Pv.pvs C is) Z H Q:=λZ H Q #[U,l,S,st,lr,h]=>
 #[U,l,S,st,lr,End.bind (h) λxs S1 ρ1 H1 vs f1 st1 r1 h1=>#[ρ1,S1,xs,st1,r1,h1]]
def ZaB(r:Rq U H [d] vs):∃v,vs=[v]/\Rep U H d v:=by
 obtain⟨v,ws,rfl,a1,b1⟩:=r;exact#[v,by rw[b1],a1]
def zw{d e:D}{vs:List V}(r:Rq U H [d,e] vs):∃v w,vs=[v,w]/\Rep U H d v/\Rep U H e w:=by
 obtain⟨v,ws,rfl,a1,b1⟩:=r;obtain⟨w,rfl,b2⟩:=ZaB b1;exact#[v,w,rfl,a1,b2]
def WB{rep:Mx->Hp->D->V->Prop}{f:Bf}{ds:List D}{vs:List V}(h:End K xw rep U H Q (Pv.po (Pv.XW f ds) S))(r:Rq U H ds vs)(h1:f≠.max2:=by decide)(h2:f≠.min2:=by decide)(h3:f≠.index:=by decide):∃d v z,vs=[v]/\Rep U H d v/\Pv.blt1 f d=aa z/\End K xw rep U H Q (.ok z S):=by
 obtain⟨z,hz,g⟩:=End.po h
 match ds,hz with
 |[d],hz=>obtain⟨v,rfl,rv⟩:=ZaB r;exact#[d,v,z,rfl,rv,hz,g]
 |[x,y],hz=>
  have hz:Pv.blt2 f x y=aa z:=hz;cases f<;>first|exact Ev.nos hz|contradiction
def Zea{f:Bf}{ds:List D}{vs:List V}(h:End K xw Rep U H Q (Pv.po (Pv.XW f ds) S))(r:Rq U H ds vs)(h1:∀d,Pv.blt1 f d=ae)(h3:f≠.index:=by decide):∃m n z,vs=[.int m,.int n]/\Pv.blt2 f (.int m) (.int n)=aa z/\End K xw Rep U H Q (.ok z S):=by
 obtain⟨z,hz,g⟩:=End.po h
 match ds,hz with
 |[d],hz=>exact Ev.nos<|(h1 d).symm.trans hz
 |[x,y],hz=>
  have hz:Pv.blt2 f x y=aa z:=hz;have:∃a b,x=.int a/\y=.int b:=by
   cases f<;>first|exact Ev.nos hz|contradiction|(obtain⟨a,ha,q⟩:=bM.mp hz;obtain⟨b,hb,_⟩:=bM.mp q;exact#[a,b,Pv.vQ ha,Pv.vQ hb])
  obtain⟨a,b,rfl,rfl⟩:=this;obtain⟨v,w,rfl,r1,r2⟩:=zw r;exact#[_,_,z,by rw[r1.int',r2.int'],hz,g]
def vw:ZB X (.builtin "len") (Ul X.K xw .len):=ZB.imp GQ<|by
 rintro vs H Q ⟨U,S,ds,st,r,h⟩;obtain⟨d,v,z,rfl,rv,hz,h⟩:=WB h r;obtain⟨xs,hx,rfl⟩:=cw.mp hz;obtain⟨p,ys,rfl,hq,r2⟩:=rv.seq hx;refine#[p,ys,rfl,by rw[<-st.hk];exact hq,?_]
 rw[r2.length];exact End.ok h st<|ZR _
def wI(hc:X.calm=aj):ZB X (.builtin "max") (Ul X.K xw .max2):=ZB.imp (uM hc)<|by
 rintro vs H Q ⟨U,S,ds,st,r,h⟩;obtain⟨m,n,z,rfl,hz,h⟩:=Zea h r λ_=>rfl
 cases hz;exact#[m,n,rfl,End.ok h st<|ZR _]
def vo(hc:X.calm=aj):ZB X (.builtin "min") (Ul X.K xw .min2):=ZB.imp (ub hc)<|by
 rintro vs H Q ⟨U,S,ds,st,r,h⟩;obtain⟨m,n,z,rfl,hz,h⟩:=Zea h r λ_=>rfl
 cases hz;exact#[m,n,rfl,End.ok h st<|ZR _]
def vx:ZB X (.type "int") (Ul X.K xw .toInt):=ZB.imp uJ<|by
 rintro vs H Q ⟨U,S,ds,st,r,h⟩;obtain⟨d,v,z,rfl,r1,hz,h⟩:=WB h r;cases d with|int m=>cases hz;exact .inl #[m,by rw[r1.int'],End.ok h st<|ZR _]|bl m=>cases hz;exact .inr #[m,by rw[r1.bl'],End.ok h st<|ZR _]|_=>exact Ev.nos hz
def JH:ZB X (.type "tuple") (Ul X.K xw .tuple):=ZB.imp QP<|by
 rintro vs H Q ⟨U,S,ds,st,r,h⟩;obtain⟨d,v,z,rfl,r1,hz,h⟩:=WB h r;cases d with|tup ds=>cases hz;obtain⟨p,xs,rfl,hp,r2⟩:=r1.tup';exact#[p,xs,rfl,.inr #[SqT.of hp,End.ok h st r1]]|lst ds=>cases hz;obtain⟨p,xs,rfl,hp,_,r2⟩:=r1.lst';exact#[p,xs,rfl,.inl #[SqL.of hp,h.newT st r2]]|scr ns=>cases hz;obtain⟨p,rfl,hp⟩:=r1.scr';rw[st.hk]at hp;exact#[p,_,rfl,.inl #[hp.sq,h.newT st<|Rq.ints ns]]|_=>exact Ev.nos hz
def Wg{f:Bf}{id:String}{x:bq}{es:List Expr}{is:List E}(hc:ZB X (.builtin id) (Ul X.K xw f))(hm:X.mg x=ae)(ha:CA X xw C (e::es) is)(hg:Gl X x)(hv:dJ x=aa (.builtin id))(hn:x≠"__name__")(hdb:(x == #[9])=ak)
  (he:aB (e::es) X.env=#[20]::aB es X.env)(hpl:(dG pos<|aB es X.env).any (·.1)=ak):CE X xw C #[17] (.blt f is):=.mk <|
 PE.imp (Xv hc hg hm hv ha.h hn hdb he hpl) qM
def Gx{f:Bf}{id:String}{x:bq}{es:List Expr}{is:List E}(hc:ZB X (.type id) (Ul X.K xw f))(hm:X.mg x=ae)(ha:CA X xw C (e::es) is)(hg:Gl X x)(hv:dJ x=aa (.type id))(hn:x≠"__name__")(hdb:(x == #[9])=ak)
  (he:aB (e::es) X.env=#[20]::aB es X.env)(hpl:(dG pos<|aB es X.env).any (·.1)=ak):CE X xw C #[17] (.blt f is):=.mk <|
 PE.imp (Q8 hc hg hm hv ha.h hn hdb he hpl) qM
end
section
variable{X:Cx}{xw:Nat->Hp->Prop}{C:Calls}{e a b c:Expr}{i j k:E}{pos p p' p2:gj}
theorem WO:∀{ds:List D}{bs:List Bool},Pv.ZY ds=aa bs->bs.length=ds.length/\∀j d,ds[j]?=aa d->Pv.UJ d=aa (bs.getD j ak)
 |[],bs,h=>by cases h;exact#[rfl,λj d e=>by simp at e]
 |d::ds,bs,h=>by
  unfold Pv.ZY at h;cases q1:Pv.UJ d with
  |none=>rw[q1]at h;cases h
  |some b=>
   cases q2:Pv.ZY ds with
   |none=>rw[q1,q2]at h;cases h
   |some cs=>
    rw[q1,q2]at h;cases h;obtain⟨l,ih⟩:=WO q2;refine#[by rw[aG,aG,l],λj d' e=>?_]
    cases j with|zero=>simp at e;subst e;simpa using q1|succ j=>simpa using ih j d' (by simpa using e)
def qm(bs:List Bool):(aM bs.length).all (λj=>bs.getD j ak)=bs.all id:=by
 rw[cA,aY,aY]
 constructor
 .intro h b hb
  obtain⟨j,hj,e⟩:=cE hb;have:=h j<|bc.mpr hj
  simpa[ai hj,e]using this
 .intro h j hj
  have hj':=bc.mp hj
  simpa[ai hj']using h bs[j]<|ba hj'
def uG(bs:List Bool):(aM bs.length).any (λj=>bs.getD j ak)=bs.any id:=by
 rw[cA,fK,fK]
 constructor
 .rintro ⟨j,hj,h⟩
  have hj':=bc.mp hj;exact#[bs[j],ba hj',by simpa[ai hj']using h]
 .rintro ⟨b,hb,h⟩
  obtain⟨j,hj,e⟩:=cE hb;exact#[j,bc.mpr hj,by simpa[ai hj,e]using h]
def Vx(r:Rep U H d v)(e:Zy v u)(h:Pv.UJ d=aa n)(s:aA)(Q:Bool->aA->Prop)(E:au->aA->Prop)(q:Q n s) :
  bf #[8] A (sS u) Q E s:=by
 cases d with
 |non=>cases r.non';cases e;cases h;exact truthy_none q
 |bl b=>cases r.bl';cases e;cases h;exact eJ q
 |int m=>
  cases r.int';obtain⟨t,rfl⟩:=e;have h':=aq h;refine oj ?_;have:(m != 0)=n:=by
   rw[<-h'];by_cases z:m=0
   .subst z;rfl
   .rw[T5 z];exact bne_iff_ne.mpr z
  rw[this];exact q
 |_=>cases h
def vZ(hc:X.calm=aj):ZB X (.builtin "all") (λvs H Q=>∃U ds v bs,vs=[v]/\Rep U H (.lst ds) v/\Pv.ZY ds=aa bs/\Q (.bl<|bs.all id) H):=by
 intro pq s Z H vs us Q I r h;obtain⟨U,ds,v,bs,rfl,rs,hb,q⟩:=h;obtain⟨p,xs,rfl,hx,_,rx⟩:=rs.lst';obtain⟨u,rfl,ru⟩:=Wb r;cases ru;obtain⟨its,rv,pl,hz⟩:=I.list<|SqL.of hx;obtain⟨lb,tb⟩:=WO hb;have hlt:p<s.heap.objs.size:=by obtain⟨_,e,_⟩:=pl.isList;exact aQ e
 have hlen:its.toArray.size=bs.length:=by rw[az,<-rv.length,rx.length,lb]
 refine call_all_walk<|gu pl.isList #[s.heap.objs.size,[s.heap.objs.size,p],[s.heap.objs.size],its.toArray.size,(λi v=>its.toArray[i]?=aa v),(λi h=>h.IsListIter s.heap.objs.size p i/\h.IsList p its.toArray),λj=>bs.getD j ak,rfl,Walks.list (A:=X.A.in1) #[43] s.heap.objs.size p (bv hlt) its.toArray,#[#[_,aR _ rfl,rfl,rfl],pl.isList.push _],?_,?_]
 .intro j v s' Q' E' hv hQ'
  have hj:its[j]?=aa v:=by simpa using hv
  have jl:j<ds.length:=by
   have:=(aH.mp hj).1;rw[<-rv.length,rx.length]at this;exact this
  obtain⟨w',g,r'⟩:=rx.get<|ai jl;obtain⟨u',g',ru'⟩:=rv.get g;rw[hj]at g';cases g';exact Vx r' ru' (tb j _<|ai jl) s' Q' E' hQ'
 .intro h' tk hk
  rw[hlen,qm];have kp:=λb o e=>hk b o (λhm=>by
   have:b=s.heap.objs.size:=by simpa using hm
   exact T7 (this▸aQ e)<|bz _)<|aw _ e
  exact#[.bl<|bs.all id,H,I.kept (t':=tk) kp,rfl,q]
def vq(hc:X.calm=aj):ZB X (.builtin "all") (Ul X.K xw .all):=ZB.imp (vZ hc)<|by
 rintro vs H Q ⟨U,S,ds,st,r,h⟩;obtain⟨d,v,z,rfl,r1,hz,h⟩:=WB h r;cases d with|lst ds=>obtain⟨bs,hb,rfl⟩:=cw.mp hz;exact#[U,ds,v,bs,rfl,r1,hb,End.ok h st<|Yg _]|_=>exact Ev.nos hz
noncomputable def ZS:Ty->String
 |.int=>"int" | .bool=>"bool" | .str=>"str" | .tuple=>"tuple" | .list=>"list" | .dict=>"dict" | .cls _=>""
def wn{K:am}{U:Mx}{H:Hp}{x:D}{v:V}{t:Ty}{n:Bool}(rx:Rep U H x v)(ht:∀m,t≠.cls m)(h:Pv.Yy x t=aa n) :
  ∃tv,TyOf K H v tv/\gD K tv (.type<|ZS t)=aa n:=by
 cases x with
 |non=>rw[rx.non'];refine#[_,.non,?_];cases h;cases t<;>first|rfl|exact T7 rfl<|ht _
 |bl b=>rw[rx.bl'];refine#[_,.bl b,?_];cases h;cases t<;>first|rfl|exact T7 rfl<|ht _
 |int b=>rw[rx.int'];refine#[_,.int b,?_];cases h;cases t<;>first|rfl|exact T7 rfl<|ht _
 |str b=>rw[rx.str'];refine#[_,.str b,?_];cases h;cases t<;>first|rfl|exact T7 rfl<|ht _
 |tup ds=>
  obtain⟨p,xs,rfl,hp,_⟩:=rx.tup';refine#[_,.tup hp,?_];cases h;cases t<;>first|rfl|exact T7 rfl<|ht _
 |lst ds=>
  obtain⟨p,xs,rfl,hp,_⟩:=rx.lst';refine#[_,.lst hp,?_];cases h;cases t<;>first|rfl|exact T7 rfl<|ht _
 |dct o=>
  cases o with
  |inr _=>exact Ev.nos h
  |inl _=>
   obtain⟨p,rfl,e⟩:=rx.dct';refine#[_,.dK e,?_];cases h;cases t<;>first|rfl|exact T7 rfl<|ht _
 |_=>exact Ev.nos h
def jL(T:String):ZB X (.builtin "isinstance") (λvs H Q=>∃v tv n,vs=[v,.ty T]/\TyOf X.K H v tv/\gD X.K tv (.type T)=aa n/\Q (.bl n) H):=by
 intro pq s Z H vs us Q I r h;obtain⟨v,tv,n,rfl,ty,e,q⟩:=h;obtain⟨u,w',rfl,r1,r2⟩:=yn r;cases r2;exact qz I r1 ty e λtk=>#[.bl n,H,I.tok tk,rfl,q]
def Qw{T:bq}{t:Ty}(ht:∀m,t≠.cls m)(hm:X.mg "isinstance" = ae)(hmT:X.mg T=ae)(ha:CE X xw C a i)(hg:Gl X "isinstance")(hgT:Gl X T)(hvT:dJ T=aa (.type<|ZS t))(hnT:T≠"__name__")(hdT:(T == #[9])=ak)
  (hs1:aB [a,.Name T p2] X.env=#[37]::aB [.Name T p2] X.env)(hs2:aB [.Name T p2] X.env=(ak,cu (.Name T p2) X.env)::aB [] X.env)(hpl:(dG pos<|aB [.Name T p2] X.env).any (·.1)=ak) :
  CE X xw C (.Call (.Name "isinstance" p) [a,.Name T p2] [] pos) (.isi i [t]):=.mk <|
 PE.imp (Xv (jL<|ZS t) hg hm #[7] (Zz ha.h (Zz (UC (v:=.ty<|ZS t) hgT hmT hvT rfl hnT hdT) Ym hs2) hs1) #[1] #[1] hs1 hpl)<|by
  left;refine#[U,l,S,st,lr,End.bind (h) λx S1 ρ1 H1 v f1 st1 r1 h1=>?_]
  obtain⟨n,hn,h2⟩:=End.ob h1;have hn':Pv.Yy x t=aa n:=by
   unfold Pv.Z4 at hn;cases q:Pv.Yy x t with|none=>rw[q]at hn;cases hn|some m=>rw[q]at hn;cases m<;>exact hn
  obtain⟨tv,ty,e⟩:=wn r1 ht hn';exact#[v,tv,n,rfl,ty,e,End.ok h2 st1<|Yg _]
def Zg7(P:bE)(w:bZ)(K:am)(a:aE)(tab:List (Int×Int)):Prop:=(a == fe)=ak/\∃f:Int->Option au,(∀h:cy,K.In h->h.MapOf (lK P w) a f)/\∀k,(tab.lookup k=ae->f k=ae)/\∀j,tab.lookup k=aa j->∃t,f k=aa (.int j t)
def Zdn:CE X xw C (.Dict [] [] pos) .dnew:=.mk <| PE.imp jv λZ H Q #[U,l,S,st,lr,h]=>λp hp=>
 (show End X.K xw Rep U H Q (.ok (.dct<|.inl []) S)from h) U _ _ (Zu hp) (st.fresh hp) (by unfold Rep;exact#[p,rfl,Zn])
def Xx(fr:Bool)(H0:Hp)(U:Mx)(H:Hp)(d:D)(v:V):Prop:=Rep U H d v/\(fr=aj->∀ds,d=.lst ds->∃a,v=.ref a/\H0 a=ae)
theorem End.fr{K:am}{xw:Nat->Hp->Prop}{U:Mx}{H H0:Hp}{Q:VK}{r:R D}{fr:Bool}(h:End K xw Rep U H Q r):End K xw (Xx fr H0) U H Q r:=by
 cases r with|ok d S=>exact λρ' H' v f st r=>h ρ' H' v f st r.1|_=>exact h
end
abbrev Own:=Nat->Option aE
noncomputable def Mx.ex(U:Mx)(W:Own):Mx:=#[U.K,U.n0,λa=>U.X a\/∃i,W i=aa a,λa h=>.inl<|U.xz a h]
mutual
theorem Rep.flat(hk:ρ'.K=U.K)(k:∀a o,H a=aa o->(∀xs,o≠.lst xs)->(∀vs,o≠.dT vs)->H' a=aa o):∀{d:D}{v:V},d.flat=aj->Rep U H d v->Rep ρ' H' d v
 |.non,_,_,h|.bl _,_,_,h|.int _,_,_,h|.str _,_,_,h=>by exact h
 |.tup ds,v,f,h=>by
  obtain⟨a,xs,e,t,r⟩:=h;exact#[a,xs,e,k a _ t (λ_ z=>by cases z) (λ_ z=>by cases z),r.flat hk k (by exact f)]
 |.scr ns,v,_,h=>by
  unfold Rep at h ⊢;obtain⟨a,e,t⟩:=h;rw[hk];refine#[a,e,?_];rcases t with⟨o,t⟩|t
  .exact .inl #[o,k a _ t (λ_ z=>by cases z) λ_ z=>by cases z]
  .exact .inr t
 |.lst _,_,f,_|.drw,_,f,_|.dct _,_,f,_=>by cases f
theorem Rq.flat(hk:ρ'.K=U.K)(k:∀a o,H a=aa o->(∀xs,o≠.lst xs)->(∀vs,o≠.dT vs)->H' a=aa o):∀{ds:List D}{xs:List V},Pv.ZP ds=aj->Rq U H ds xs->Rq ρ' H' ds xs
 |[],_,_,h=>by exact h
 |d::ds,xs,f,h=>by
  obtain⟨v,vs,e,r,rs⟩:=h;have f:=(aC _ _).mp f;exact#[v,vs,e,r.flat hk k f.1,rs.flat hk k f.2]
end
def XV(U:Mx)(H:Hp)(a:aE):D->Prop
 |.lst xs=>∃us,H a=aa (.lst us)/\Rq U H xs us
 |_=>False
def XV.ob{U:Mx}{H:Hp}{a:aE}{d:D}(h:XV U H a d):(∃us,H a=aa (.lst us))\/∃vs,H a=aa (.dT vs):=by
 cases d with|lst xs=>obtain⟨us,e,_⟩:=h;exact .inl #[us,e]|_=>exact h.elim
def XV.ne{U:Mx}{H:Hp}{a:aE}{d:D}(h:XV U H a d):H a≠ae:=by
 rcases h.ob with⟨_,z⟩|⟨_,z⟩<;>(rw[z];intro q;cases q)
def XV.rep{U:Mx}{H:Hp}{a:aE}{d:D}(h:XV U H a d)(x:¬U.X a):Rep U H d (.ref a):=by
 cases d with|lst xs=>obtain⟨us,e,r⟩:=h;exact Xb e x r|_=>exact h.elim
theorem XV.lat{U ρ':Mx}{H H':Hp}{a:aE}{d:D}(h:XV U H a d)(f:Lat U H ρ' H')(e:H' a=H a):XV ρ' H' a d:=by
 cases d with|lst xs=>obtain⟨us,q,r⟩:=h;exact#[us,e.trans q,r.lat f]|_=>exact h
def Lat.own{U:Mx}{H:Hp}{b:aE}{o':HO}(x:U.X b)(hb:(∃us,H b=aa (.lst us))\/∃vs,H b=aa (.dT vs)):Lat U H U (upd H b o'):=#[rfl,rfl,λc u z nx _ nd=>by
 rw[Zj (λq=>by
  rw[q]at z;rcases hb with⟨_,e⟩|⟨_,e⟩<;>(rw[e]at z;cases z)
  .exact nx _ rfl<|q▸x
  .exact nd _ rfl<|q▸x)]
 exact z,λ_ _ z=>z]
structure Eu(U:Mx)(H0:Hp)(W:Own)(l:Lc)(os:List Nat)(Z:L2.St)(H:Hp):Prop where
 fut:Fut U H0 U H
 xd:∀a,U.X a->H0 a≠ae
 len:l.length=Z.length
 osW:∀i,os.contains i=(W i).isSome
 inj:∀i j a,W i=aa a->W j=aa a->i=j
 new:∀i a,W i=aa a->H0 a=ae
 own:∀i a,W i=aa a->∃d,l[i]?=aa (aa d)/\Z[i]?=aa (aa<|.ref a)/\XV (U.ex W) H a d
 val:∀(i:Nat)(d:D),l[i]?=aa (aa d)->W i=ae->∃v,Z[i]?=aa (aa v)/\Rep (U.ex W) H d v
section
variable{K:am}{U:Mx}{H0 H H':Hp}{W W':Own}{l:Lc}{os:List Nat}{Z:L2.St}{S:Zv}
def Lat.unex:Lat (U.ex W) H U H:=#[rfl,rfl,λ_ _ h _ _ _=>h,λ_ _ x=>.inl x]
theorem Fut.ex(f:Fut U H U H'):Fut (U.ex W) H (U.ex W) H':=#[rfl,f.keep]
def St3.unex(st:St3 K (U.ex W) S H):St3 K U S H:=#[st.hk,λa x=>st.xd a<|.inl x,st.dw,st.tb]
def Eu.nx(h:Eu U H0 W l os Z H)(e:W i=aa a):¬U.X a:=λz=>h.xd a z<|h.new i a e
theorem Eu.st(h:Eu U H0 W l os Z H)(st:St3 K U S H):St3 K (U.ex W) S H:=
 #[st.hk,λa x=>x.elim (st.xd a) λ#[i,e]=>(let #[_,_,_,z]:=h.own i a e;z.ne),st.dw,st.tb]
def Za0(f:Fut U H U H')(x:¬U.X a)(h:H a=aa o)(n:∀ps,o≠.tbl ps:=by intro _ z;cases z):H' a=aa o:=(f.keep a o h).elim id λz=>z.elim (λz=>T7 (U.xz a z.1) x)<|by rintro ⟨⟨ps,e⟩,_⟩;exact T7 e<|n ps
def Eu.all(h:Eu U H0 W l os Z H):LocR U H l Z:=#[h.len,λi v e=>by
 cases q:W i with
 |none=>obtain⟨d,a,b⟩:=h.val i v e q;exact#[d,a,b.lat Lat.unex]
 |some n=>
  obtain⟨d,a,c,r⟩:=h.own i n q;rw[a]at e;cases e;exact#[_,c,(r.lat Lat.unex rfl).rep<|h.nx q]]
def qK(e:(Pv.hide os l)[i]?=aa (aa v)):l[i]?=aa (aa v)/\os.contains i=ak:=by
 unfold Pv.hide at e;rw[gG]at e;cases q:l[i]? with
 |none=>rw[q]at e;cases e
 |some o=>
  rw[q]at e;have e':(if os.contains i=aj then ae else o)=aa v:=aq e
  by_cases c:os.contains i=aj
  .rw[T9 c]at e';cases e'
  .rw[T8 c]at e';exact#[by rw[e'],by simpa using c]
def hide_nil:Pv.hide [] l=l:=by
 unfold Pv.hide;refine dg λi=>?_
 rw[gG];cases l[i]?<;>rfl
def Eu.nW(h:Eu U H0 W l os Z H){i:Nat}(b:os.contains i=ak):W i=ae:=by
 rw[h.osW]at b;cases q:W i with|none=>rfl|some _=>rw[q]at b;cases b
def Eu.hid(h:Eu U H0 W l os Z H):LocR (U.ex W) H (Pv.hide os l) Z:=#[by unfold Pv.hide;rw[List.length_mapIdx];exact h.len,λi v e=>by
 obtain⟨a,b⟩:=qK e;exact h.val i v a<|h.nW b]
theorem Eu.mono(h:Eu U H0 W l os Z H)(f:Fut U H U H'):Eu U H0 W l os Z H':=
 #[h.fut.trans f,h.xd,h.len,h.osW,h.inj,h.new,λi a q=>by
  obtain⟨d,p,c,r⟩:=h.own i a q;exact#[d,p,c,r.lat f.ex.lat (by rcases r.ob with⟨_,e⟩|⟨_,e⟩<;>rw[Za0 f (h.nx q) e,e])],λi v a b=>by
  obtain⟨d,c,r⟩:=h.val i v a b;exact#[d,c,r.mono f.ex]]
def GE{B:Type}{l:List (Option B)}{i j:Nat}{o:Option B}{v:B}(e:(l.set i o)[j]?=aa (aa v)):(i=j/\o=aa v/\i<l.length)\/(i≠j/\l[j]?=aa (aa v)):=by
 rw[oQ]at e;by_cases c:i=j
 .rw[T9 c]at e
  by_cases z:i<l.length
  .rw[T9 z]at e;exact .inl #[c,aq e,z]
  .rw[T8 z]at e;cases e
 .rw[T8 c]at e;exact .inr #[c,e]
theorem Eu.set{i:Nat}{o:Option D}{v:V}(h:Eu U H0 W l os Z H)(hi:os.contains i=ak)(r:∀d,o=aa d->Rep (U.ex W) H d v):Eu U H0 W (l.set i o) os (Z.set i<|aa v) H:=by
 have hw:=h.nW hi;refine#[h.fut,h.xd,by rw[bC,bC];exact h.len,h.osW,h.inj,h.new,λj n q=>?_,λj w e q=>?_]
 .obtain⟨d,a,c,e⟩:=h.own j n q
  have ij:i≠j:=λz=>by rw[z,q]at hw;cases hw
  exact#[d,by rw[bg ij];exact a,by rw[bg ij];exact c,e]
 .rcases GE e with⟨rfl,z,hl⟩|⟨c,z⟩
  .exact#[v,bn (by rw[<-h.len];exact hl),r w z]
  .rw[bg c];exact h.val j w z q
noncomputable def QJ:List Nat->List V->L2.St->L2.St
 |i::t,x::xs,Z=>QJ t xs<|Z.set i<|aa x
 |_,_,Z=>Z
theorem Eu.fill:∀{t:List Nat}{vs:List D}{us:List V}{l l':Lc}{Z:L2.St},Eu U H0 W l os Z H->(t.any os.contains)=ak->Rq (U.ex W) H vs us->Pv.Y6 t vs l=aa l'->us.length=t.length/\Eu U H0 W l' os (QJ t us Z) H
 |[],[],_,l,l',Z,h,_,r,e=>by rw[r];cases e;exact#[rfl,h]
 |[],_::_,_,_,_,_,_,_,_,e=>by cases e
 |_::_,[],_,_,_,_,_,_,_,e=>by cases e
 |i::t,v::vs,_,l,l',Z,h,ht,r,e=>by
  obtain⟨d,ds,rfl,a,b⟩:=r;rw[gh,Bool.or_eq_false_iff]at ht;obtain⟨z,q⟩:=Eu.fill (h.set ht.1 λ_ z=>by cases z;exact a) ht.2 b e
  exact#[by rw[aG,aG,z],q]
def tGU(K:am)(t:List Nat):TG:=λv Z H Q=>match t with
 |[i]=>Q (Z.set i<|aa v) H
 |t=>∃a xs,v=.ref a/\(SqT K H a xs\/H a=aa #[35])/\xs.length=t.length/\Q (QJ t xs Z) H
def Eu.assign{Q:L2.St->Hp->Prop}(h:Eu U H0 W l os Z H)(ht:(t.any os.contains)=ak)(r:Rep (U.ex W) H d v)(e:Pv.Zo t d l=aa l')(q:∀σ',Eu U H0 W l' os σ' H->Q σ' H):tGU K t v Z H Q:=by
 have gen:∀t:List Nat,(t.any os.contains)=ak->(match Pv.ZaJ d with
   |some xs=>Pv.Y6 t xs l
   |none=>ae)=aa l'->∃a xs,v=.ref a/\(SqT K H a xs\/H a=aa #[35])/\xs.length=t.length/\Q (QJ t xs Z) H:=by
  intro t ht e;cases d with|tup vs=>obtain⟨p,ds,rfl,hp,rs⟩:=r.tup';obtain⟨z,y⟩:=h.fill ht rs e;exact#[p,ds,rfl,.inl<|SqT.of hp,z,q _ y]|lst vs=>obtain⟨p,ds,rfl,hp,_,rs⟩:=r.lst';obtain⟨z,y⟩:=h.fill ht rs e;exact#[p,ds,rfl,.inr hp,z,q _ y]|_=>cases e
 match t,ht,e with
 |[i],ht,e=>cases e;exact q _<|h.set (by simpa using ht) λ_ z=>by cases z;exact r
 |[],ht,e=>exact gen [] ht e
 |i::j::t,ht,e=>exact gen (i::j::t) ht e
noncomputable def noW(W:Own)(i:Nat):Own:=λj=>if j=i then ae else W j
def XF{i j:Nat}{a:aE}(z:noW W i j=aa a):j≠i/\W j=aa a:=by
 unfold noW at z;by_cases c:j=i
 .rw[T9 c]at z;cases z
 .rw[T8 c]at z;exact#[c,z]
theorem Lat.noW{i:Nat}:Lat (U.ex W) H (U.ex<|noW W i) H:=#[rfl,rfl,λ_ _ h _ _ _=>h,λ_ _ x=>x.elim .inl λ#[j,e]=>.inr #[j,(XF e).2]]
def WQ{i:Nat}(h:∀i,os.contains i=(W i).isSome)(j:Nat):(os.filter (· != i)).contains j=(noW W i j).isSome:=by
 unfold noW;by_cases c:j=i
 .simp[c]
 .simp only[c,if_false]
  rw[<-h j,cA,gn,gn,dy];simp[c]
def Eu.drop{i:Nat}{o:Option D}{v:V}(h:Eu U H0 W l os Z H)(r:∀d,o=aa d->Rep (U.ex<|noW W i) H d v):Eu U H0 (noW W i) (l.set i o) (os.filter (· != i)) (Z.set i<|aa v) H:=by
 refine#[h.fut,h.xd,by rw[bC,bC];exact h.len,WQ h.osW,λa b n x y=>h.inj a b n (XF x).2 (XF y).2,λj n z=>h.new j n (XF z).2,λj n z=>?_,λj w e z=>?_]
 .obtain⟨d,a,c,e⟩:=h.own j n (XF z).2
  have ij:i≠j:=Ne.symm (XF z).1;exact#[d,by rw[bg ij];exact a,by rw[bg ij];exact c,e.lat Lat.noW rfl]
 .rcases GE e with⟨rfl,e,hl⟩|⟨c,e⟩
  .exact#[v,bn (by rw[<-h.len];exact hl),r w e]
  .rw[bg c]
   unfold Sd.noW at z;rw[T8<|Ne.symm c]at z;obtain⟨d',a,b⟩:=h.val j w e z;exact#[d',a,b.lat Lat.noW]
noncomputable def JY(W:Own)(i:Nat)(a:aE):Own:=λj=>if j=i then aa a else W j
def Eu.takeO{i:Nat}{a:aE}{d:D}(h:Eu U H0 W l os Z H)(hd:∀a,U.X a->H a≠ae)(f:Fut U H U H')(hn:H a=ae)(hx:¬(U.ex W).X a)(r:XV (U.ex<|JY W i a) H' a d)(hi:i<l.length) :
  Eu U H0 (JY W i a) (l.set i<|aa d) (i::os.filter (· != i)) (Z.set i<|aa<|.ref a) H':=by
 have h1:=h.mono f;have get:∀{j m},JY W i a j=aa m->(j=i/\a=m)\/(j≠i/\W j=aa m):=λ{j m} z=>by
  unfold JY at z;by_cases c:j=i
  .rw[T9 c]at z;exact .inl #[c,aq z]
  .rw[T8 c]at z;exact .inr #[c,z]
 have na:=h.fut.new hn hd;have lt:Lat (U.ex W) H (U.ex<|JY W i a) H':=#[rfl,rfl,f.ex.lat.keep',λb hb x=>by
  rcases x with x|⟨j,x⟩
  .exact .inl x
  .rcases get x with⟨_,z⟩|⟨_,z⟩
   .exact T7 hn<|z▸hb
   .exact .inr #[j,z]]
 refine#[h1.fut,h.xd,by rw[bC,bC];exact h.len,λj=>?_,λp q m x y=>?_,λj m z=>?_,λj m z=>?_,λj w q z=>?_]
 .have:=WQ (i:=i) h.osW j
  unfold JY;by_cases c:j=i
  .simp[c]
  .unfold noW at this
   rw[T8 c]at this ⊢;rw[List.contains_cons,this,beq_eq_false_iff_ne.mpr c,lO]
 .rcases get x with⟨x1,x2⟩|⟨x1,x2⟩<;>rcases get y with⟨y1,y2⟩|⟨y1,y2⟩
  .rw[x1,y1]
  .exact T7 (.inr #[q,x2▸y2]) hx
  .exact T7 (.inr #[p,y2▸x2]) hx
  .exact h.inj p q m x2 y2
 .rcases get z with⟨_,z⟩|⟨_,z⟩
  .exact z▸na
  .exact h.new j m z
 .rcases get z with⟨z1,z2⟩|⟨z1,z2⟩
  .subst z1 z2
   exact#[d,bn hi,bn (by rw[<-h.len];exact hi),r]
  .obtain⟨d',p,c,q⟩:=h.own j m z2
   exact#[d',by rw[bg<|Ne.symm z1];exact p,by rw[bg<|Ne.symm z1];exact c,q.lat lt (by rcases q.ob with⟨_,e⟩|⟨_,e⟩<;>rw[Za0 f (h.nx z2) e,e])]
 .unfold JY at z
  by_cases c:j=i
  .rw[T9 c]at z;cases z
  .rw[T8 c]at z
   rw[bg<|Ne.symm c]at q ⊢;obtain⟨d,p,b⟩:=h.val j w q z;exact#[d,p,b.lat lt]
def Eu.take(h:Eu U H0 W l os Z H)(hd:∀a,U.X a->H a≠ae)(f:Fut U H U H')(hn:H a=ae)(hf:Pv.ZP xs=aj)(r:Rep (U.ex W) H' #[35] (.ref a))(hi:i<l.length) :
  Eu U H0 (JY W i a) (l.set i<|aa<|.lst xs) (i::os.filter (· != i)) (Z.set i<|aa<|.ref a) H':=by
 obtain⟨_,us,en,hs,hx,rs⟩:=r.lst';cases en;exact h.takeO hd f hn hx #[us,hs,rs.flat (U:=U.ex W) (ρ':=U.ex<|JY W i a) rfl (λ_ _ z _ _=>z) hf] hi
def Eu.mutO{i:Nat}{a:aE}{d':D}{o':HO}(h:Eu U H0 W l os Z H)(hw:W i=aa a)(r:XV (U.ex W) (upd H a o') a d'):Eu U H0 W (l.set i<|aa d') os Z (upd H a o'):=by
 obtain⟨d,p,c,e⟩:=h.own i a hw;have hi:=(aH.mp p).1;have lt:Lat (U.ex W) H (U.ex W) (upd H a o'):=Lat.own (pD #[i,hw]) e.ob
 refine#[#[rfl,λb o z=>?_],h.xd,by rw[bC];exact h.len,h.osW,h.inj,h.new,λj m z=>?_,λj w q z=>?_]
 .rw[Zj λq=>by rw[q,h.new i a hw]at z;cases z]
  exact h.fut.keep b o z
 .by_cases k:i=j
  .subst k
   rw[hw]at z;cases z;exact#[d',bn hi,c,r]
  .obtain⟨d2,a',c',e'⟩:=h.own j m z
   exact#[d2,by rw[bg k];exact a',c',e'.lat lt<|Zj λq:m=a=>k<|h.inj i j a hw<|q▸z]
 .have k:i≠j:=λk=>by rw[<-k,hw]at z;cases z
  rw[bg k]at q;obtain⟨d,a',b'⟩:=h.val j w q z;exact#[d,a',b'.lat lt]
def Eu.mut(h:Eu U H0 W l os Z H)(hw:W i=aa a)(r:Rq (U.ex W) H ys us):Eu U H0 W (l.set i<|aa<|.lst ys) os Z (upd H a<|.lst us):=by
 obtain⟨d,p,c,e⟩:=h.own i a hw;exact h.mutO hw (d':=.lst ys) #[us,Zn,r.lat<|Lat.own (pD #[i,hw]) e.ob]
def St3.mut{K:am}{i:Nat}{a:aE}{o':HO}(st:St3 K U S H)(h:Eu U H0 W l os Z H)(hw:W i=aa a)(ht:∀ps,o'≠.tbl ps:=by intro _ z;cases z):St3 K U S (upd H a o'):=by
 obtain⟨d,p,c,e⟩:=h.own i a hw;have ne:∀b,U.X b->b≠a:=λb x z=>h.nx hw<|z▸x
 exact#[st.hk,λb x=>by rw[Zj<|ne b x];exact st.xd b x,λb x=>by rw[Zj<|ne b<|U.xz b x];exact st.dw b x,st.tb.upd (λo u z=>by rcases e.ob with⟨_,e⟩|⟨_,e⟩<;>(rw[e]at z;cases z)) ht]
structure Base(U:Mx)(H0 H1:Hp):Prop where
 fut:Fut U H0 U H1
 dom:∀a,H1 a=ae->H0 a=ae
def Eu.rebase(b:Base U H0 H1)(x:∀a,U.X a->H0 a≠ae)(h:Eu U H1 W l os Z H):Eu U H0 W l os Z H:=#[b.fut.trans h.fut,x,h.len,h.osW,h.inj,λi a e=>b.dom a<|h.new i a e,h.own,h.val]
open Classical in
noncomputable def QO(H:Hp)(W:Own):Hp:=λa=>if ∃i,W i=aa a then ae else H a
def Eu.off(h:Eu U H0 W l os Z H)(hd:∀a,U.X a->H a≠ae):Base U H0 (QO H W)/\Eu U (QO H W) W l os Z H:=by
 have nw:∀a,H0 a≠ae->QO H W a=H a:=λa z=>T8 λ#[i,e]=>z<|h.new i a e
 refine#[#[#[rfl,λa o e=>?_],λa e=>?_],#[rfl,λa o e=>.inl ?_],λa x=>?_,h.len,h.osW,h.inj,λi a e=>T9 #[i,e],h.own,h.val]
 .rw[nw a (by rw[e];intro z;cases z)];exact h.fut.keep a o e
 .cases q:H0 a with
  |none=>rfl
  |some o=>
   rw[nw a<|by rw[q];intro z;cases z]at e
   rw[h.fut.new e hd]at q;cases q
 .unfold QO at e
  split at e
  .cases e
  .exact e
 .rw[nw a<|h.xd a x];exact hd a x
def Eu.walk(h:Eu U H0 W l os Z H)(h':Eu U (QO H W) W' l' os' σ' H'):Lat (U.ex W) H (U.ex W') H':=by
 refine#[rfl,rfl,λa o e x n nd=>?_,λa e x=>?_]
 .have nw:¬∃i,W i=aa a:=by
   rintro ⟨i,w⟩;obtain⟨_,_,_,z⟩:=h.own i a w;rcases z.ob with⟨us,z⟩|⟨us,z⟩<;>rw[e]at z
   .exact x us (aq z)<|.inr #[i,w]
   .exact nd us (aq z)<|.inr #[i,w]
  rcases h'.fut.keep a o (by unfold QO;rw[T8 nw];exact e)with z|⟨z,xs,q⟩|⟨⟨ps,q⟩,_⟩
  .exact z
  .exact T7 (.inl<|U.xz a z)<|x xs q
  .exact T7 q<|n ps
 .rcases x with x|⟨i,x⟩
  .exact .inl x
  .have:=h'.new i a x
   unfold QO at this;split at this
   .exact .inr ‹_›
   .exact T7 this e
end
section
variable(X:Cx)(xw:Nat->Hp->Prop)(C:Calls)
def tF(f:Lc->Zv->R D):TE:=λZ H Q=>∃U l S,St3 X.K U S H/\LocR U H l Z/\End X.K xw (Xx aj H) U H Q (f l S)
structure CF(e:Expr)(i:E):Prop where
 h:PE X e (tF X xw<|Pv.pv C i)
end
def CF.ce{X:Cx}{xw:Nat->Hp->Prop}{C:Calls}{e:Expr}{i:E}(h:CF X xw C e i):CE X xw C e i:=.mk <| PE.imp h.h<|by left;exact #[U,l,S,st,lr,h.fr]
def End.newF{K:am}{xw:Nat->Hp->Prop}{U:Mx}{H0 H:Hp}{Q:VK}{S S0:Zv}{ds:List D}{xs:List V}(h:End K xw (Xx aj H0) U H Q (.ok (.lst ds) S))(f:Fut U H0 U H)(s0:St3 K U S0 H0)(st:St3 K U S H)(r:Rq U H ds xs):∀p,H p=ae->Q (.ref p) (upd H p<|.lst xs):=λp hp=>
 h U _ _ (Zu hp) (st.fresh hp) #[Xb Zn (st.nx hp)<|r.mono<|Zu hp,λ_ _ _=>#[p,rfl,f.new hp st.xd]]
def zo(K:am)(xw:Nat->Hp->Prop)(f:Bf):List V->Hp->VK->Prop:=λvs H Q=>∃U S ds,St3 K U S H/\Rq U H ds vs/\∃H0 S0,Fut U H0 U H/\St3 K U S0 H0/\End K xw (Xx aj H0) U H Q (Pv.po (Pv.XW f ds) S)
def vy{xw:Nat->Hp->Prop}:∀Z H Q,tF X xw (Pv.pv C<|.blt f is) Z H Q->tCB (zo X.K xw f) (tA X xw<|Pv.pvs C is) Z H Q:=λZ H Q #[U,l,S,st,lr,h]=>
 #[U,l,S,st,lr,End.bind (h) λxs S1 ρ1 H1 vs f1 st1 r1 h1=>by cases f1.eq;exact#[U,S1,xs,st1,r1,H,S,f1,st,h1]]
def Zcx{X:Cx}{xw:Nat->Hp->Prop}{C:Calls}{e:Expr}{pos p:gj}{f:Bf}{id:String}{x:bq}{es:List Expr}{is:List E}(hc:ZB X (.builtin id) (zo X.K xw f))(hm:X.mg x=ae)(ha:CA X xw C (e::es) is)(hg:Gl X x)(hv:dJ x=aa (.builtin id))(hn:x≠"__name__")(hdb:(x == #[9])=ak)
  (he:aB (e::es) X.env=#[20]::aB es X.env)(hpl:(dG pos<|aB es X.env).any (·.1)=ak):CF X xw C #[17] (.blt f is):=.mk <|
 PE.imp (Xv hc hg hm hv ha.h hn hdb he hpl) vy
def Zb5{X:Cx}{xw:Nat->Hp->Prop}{C:Calls}{e:Expr}{pos p:gj}{f:Bf}{id:String}{x:bq}{es:List Expr}{is:List E}(hc:ZB X (.type id) (zo X.K xw f))(hm:X.mg x=ae)(ha:CA X xw C (e::es) is)(hg:Gl X x)(hv:dJ x=aa (.type id))(hn:x≠"__name__")(hdb:(x == #[9])=ak)
  (he:aB (e::es) X.env=#[20]::aB es X.env)(hpl:(dG pos<|aB es X.env).any (·.1)=ak):CF X xw C #[17] (.blt f is):=.mk <|
 PE.imp (Q8 hc hg hm hv ha.h hn hdb he hpl) vy
def zT{X:Cx}{xw:Nat->Hp->Prop}:ZB X (.type "list") (zo X.K xw .list):=ZB.imp Gz<|by
 rintro vs H Q ⟨U,S,ds,st,r,H0,S0,f0,s0,h⟩;obtain⟨d,v,z,rfl,r1,hz,h⟩:=WB h r;obtain⟨xs,hx,rfl⟩:=cw.mp hz;obtain⟨p,ys,rfl,hq,r2⟩:=r1.seq hx;exact#[p,ys,rfl,by rw[<-st.hk];exact hq,h.newF f0 s0 st r2]
def ZC(fr:Bool)(K:am)(xw:Nat->Hp->Prop)(U:Mx)(H0:Hp)(D:Ends):R Pv.FlV->Prop
 |.ok (.nx l os) S=>∀H' σ' W',St3 K U S H'->Eu U H0 W' l os σ' H'->D.nx σ' H'
 |.ok (.cnt l os) S=>∀H' σ' W',St3 K U S H'->Eu U H0 W' l os σ' H'->D.ct σ' H'
 |.ok (.ret d) S=>∀H' v,Fut U H0 U H'->St3 K U S H'->Xx fr H0 U H' d v->D.rt v H'
 |.ex c S=>∀H',Fut U H0 U H'->St3 K U S H'->xw c H'
 |.no=>False
section
variable{fr:Bool}{K:am}{xw:Nat->Hp->Prop}{U:Mx}{H0 H:Hp}{B β:Type}{rep:Mx->Hp->B->β->Prop}{D:Ends}{W:Own}{l:Lc}{os:List Nat}{Z:L2.St}{S:Zv}
theorem ZC.bind{Q1:β->Hp->Prop}(he:Eu U H0 W l os Z H)(h:ZC fr K xw U H0 D (r.bind f))
  (k:∀d S H1 v,Fut U H U H1->St3 K U S H1->rep U H1 d v->ZC fr K xw U H0 D (f d S)->Q1 v H1):End K xw rep U H Q1 r:=by
 cases r with|ok d S=>exact λρ1 H1 v g st r=>by cases g.eq;exact k d S H1 v g st r h|ex c S=>exact λρ1 H1 g st=>by cases g.eq;exact h H1 (he.fut.trans g) st|no=>exact h
def ZC.bindW{Q1:β->Hp->Prop}(he:Eu U H0 W l os Z H)(h:ZC fr K xw U H0 D (r.bind f))
  (k:∀d S H1 v,Fut U H U H1->St3 K U S H1->rep (U.ex W) H1 d v->ZC fr K xw U H0 D (f d S)->Q1 v H1):End K xw rep (U.ex W) H Q1 r:=by
 cases r with|ok d S=>exact λρ1 H1 v g st r=>by cases g.eq;exact k d S H1 v #[rfl,g.keep] st.unex r h|ex c S=>exact λρ1 H1 g st=>by cases g.eq;exact h H1 (he.fut.trans #[rfl,g.keep]) st.unex|no=>exact h
def ZC.ob(h:ZC fr K xw U H0 D ((Pv.po o S).bind f)):∃a,o=aa a/\ZC fr K xw U H0 D (f a S):=by
 cases o with|none=>exact h.elim|some a=>exact#[a,rfl,h]
def ZC.guard{c:Prop}[Decidable c](h:ZC fr K xw U H0 D (if c then a else .no)):c/\ZC fr K xw U H0 D a:=by
 split at h
 .exact#[‹_›,h]
 .exact h.elim
def ZC.guardN{c:Prop}[Decidable c](h:ZC fr K xw U H0 D (if c then .no else a)):¬c/\ZC fr K xw U H0 D a:=by
 split at h
 .exact h.elim
 .exact#[‹_›,h]
theorem ZC.rebase(b:Base U H0 H1)(x:∀a,U.X a->H0 a≠ae)(h:ZC fr K xw U H0 D r):ZC fr K xw U H1 D r:=by
 cases r with
 |ok f S=>
  cases f with|nx l os=>exact λH' σ' W' st e=>h H' σ' W' st<|e.rebase b x|cnt l os=>exact λH' σ' W' st e=>h H' σ' W' st<|e.rebase b x|ret d=>exact λH' v f st r=>h H' v (b.fut.trans f) st #[r.1,λz ds y=>let #[a,e,q]:=r.2 z ds y;#[a,e,b.dom a q]]
 |ex c S=>exact λH' f st=>h H' (b.fut.trans f) st
 |no=>exact h
end
section
variable(X:Cx)(xw:Nat->Hp->Prop)(fr:Bool)
def tS3(f:Lc->List Nat->Zv->R Pv.FlV):TS:=λD Z H=>∃U H0 W l os S,St3 X.K U S H/\Eu U H0 W l os Z H/\ZC fr X.K xw U H0 D (f l os S)
variable(C:Calls)(ms:List Nat)
structure CS(st:fg)(s:Sm):Prop where
 h:PS X st (tS3 X xw fr<|Pv.rv C ms s)
structure CSs(st:List fg)(s:List Sm):Prop where
 h:PSs X st (tS3 X xw fr<|Pv.rvs C ms s)
structure CG(tg:Expr)(t:List Nat):Prop where
 h:PG X tg (tGU X.K t)
def Zh2(t:List Nat):TGs:=λvs Z H Q=>vs.length=t.length/\Q (QJ t vs Z) H
structure CGs(tgs:List Expr)(t:List Nat):Prop where
 h:PGs X tgs (Zh2 t)
end
def PS.imp(h:PS X e t)(k:∀D Z H,t' D Z H->t D Z H):PS X e t':=λpq s Z H D I q=>h pq s Z H D I<|k D Z H q
def PSs.imp(h:PSs X e t)(k:∀D Z H,t' D Z H->t D Z H):PSs X e t':=λpq s Z H D I q=>h pq s Z H D I<|k D Z H q
def PG.imp(h:PG X e t)(k:∀v Z H Q,t' v Z H Q->t v Z H Q):PG X e t':=λpq s Z H v u Q I r q=>h pq s Z H v u Q I r<|k v Z H Q q
def PGs.imp(h:PGs X e t)(k:∀v Z H Q,t' v Z H Q->t v Z H Q):PGs X e t':=λpq s Z H v u Q I r q=>h pq s Z H v u Q I r<|k v Z H Q q
section
variable{X:Cx}{xw:Nat->Hp->Prop}{fr:Bool}{C:Calls}{ns:List Nat}{e a b c:Expr}{i j k:E}{pos p p' p2:gj}{s0:fg}{ss:List fg}{m0:Sm}{ms ms':List Sm}
def Zfv{es:List Expr}{is:List E}(h:CA X xw C es is):CF X xw C (.List es pos) (.lst is):=.mk <| PE.imp (U4 h.h)<|by
 left;rw[Pv.pE4]at h;refine#[U,l,S,st,lr,h.bind λxs S1 ρ1 H1 vs f1 st1 r1 h1=>?_]
 obtain⟨hl,h1⟩:=h1.guard;cases f1.eq;exact#[by rw[r1.length,<-X8];exact hl,h1.newF f1 st st1 r1]
def ZfY:CSs X xw fr C ns [] []:=.mk <| PSs.imp Gh<|by rintro D Z H ⟨U,H0,W,l,os,S,st,he,h⟩;exact h H Z W st he
def ZcM(h1:CS X xw fr C ns s0 m0)(h2:CSs X xw fr C ns ss ms):CSs X xw fr C ns (s0::ss) (m0::ms):=.mk <| PSs.imp (Yw h1.h h2.h)<|by
 rintro D Z H ⟨U,H0,W,l,os,S,st,he,h⟩;refine#[U,H0,W,l,os,S,st,he,?_];rw[Pv.rvs]at h;cases q:Pv.rv C ns m0 l os S with
 |no=>rw[q]at h;exact h
 |ex c S1=>rw[q]at h;exact h
 |ok fl S1=>
  rw[q]at h;cases fl with|nx l1 os1=>exact λH1 σ1 W1 st1 he1=>#[U,H0,W1,l1,os1,S1,st1,he1,h]|_=>exact h
def ZfM(he:CE X xw C e i):CS X xw ak C ns (.Return (aa e) pos) (.ret i):=.mk <| PS.imp (WS he.h)<|by
 right;rw[Pv.rE9]at h;exact#[U,l,S,st,en.all,ZC.bind en h λx S1 H1 v f1 st1 r1 h1=>h1 H1 v (en.fut.trans f1) st1 #[r1,λz=>by cases z]]
def yG{K:am}{U:Mx}{H0 H:Hp}{W:Own}{l:Lc}{os:List Nat}{Z:L2.St}{S:Zv}{a:aE}(en:Eu U H0 W l os Z H)(st:St3 K U S H)(h:H a=ae):H0 a=ae:=en.fut.new h st.xd
def ZcH(he:CF X xw C e i):CS X xw fr C ns (.Return (aa e) pos) (.ret i):=.mk <| PS.imp (WS he.h)<|by
 right;rw[Pv.rE9]at h;exact#[U,l,S,st,en.all,ZC.bind en h λx S1 H1 v f1 st1 r1 h1=>h1 H1 v (en.fut.trans f1) st1 #[r1.1,λ_ ds y=>let #[a,e,q]:=r1.2 rfl ds y;#[a,e,yG en st q]]]
def Zc1{n:Nat}{is:List E}(he:CE X xw C e (.call n is))(hs:eZ e ae pos.line X.env=cF ak):CS X xw fr C ns (.Expr e pos) (.ex<|.call n is):=.mk <| PS.imp (UL he.h hs) λD Z H #[U,H0,W,l,os,S,st,en,h]=>
 #[U,l,S,st,en.all,ZC.bind en (h) λx S1 H1 v f1 st1 r1 h1=>h1 H1 Z W st1<|en.mono f1]
def ZgH{sa sb:List fg}(hc:CT X xw C c k)(ha:CSs X xw fr C ns sa ms)(hb:CSs X xw fr C ns sb ms'):CS X xw fr C ns (.If c sa sb pos) (.ite k ms ms'):=.mk <| PS.imp (ZbL hc.h ha.h hb.h)<|by
 right;rw[Pv.Gg]at h;refine#[U,l,S,st,en.all,ZC.bind en h λx S1 H1 v f1 st1 r1 h1=>?_]
 have e1:x=v:=r1;subst e1;cases x with|true=>exact#[U,H0,W,l,os,S1,st1,en.mono f1,h1]|false=>exact#[U,H0,W,l,os,S1,st1,en.mono f1,h1]
def Ze1:CS X xw fr C ns (.Continue pos) .cnt:=.mk <| PS.imp ya<|by right;exact h H Z W st en
def Zdi{n:Nat}{x:bq}(hN:X.N.Nodup)(hi:X.N[n]?=aa x)(hx:L2.Loc X.env.scope x)(hf:X.fn x=aj\/X.env.scope.names.lookup x=aa .local):CG X (.Name x pos) [n]:=.mk <|
 PG.imp (UB hN hi hx hf) λv Z H Q q=>q
def ZcY:CGs X [] []:=.mk <| PGs.imp ZcE<|by
 rintro vs Z H Q ⟨h,q⟩;cases vs with|nil=>exact#[rfl,q]|cons _ _=>cases h
def ZaQ{tgs:List Expr}{n:Nat}{t:List Nat}{x:bq}(hN:X.N.Nodup)(h2:CGs X tgs t)(hi:X.N[n]?=aa x)(hx:L2.Loc X.env.scope x)(hf:X.fn x=aj\/X.env.scope.names.lookup x=aa .local)
  (hs:(cJ (.Name x pos::tgs) X.env).map (·.2)=eW (.Name x pos) X.env::(cJ tgs X.env).map (·.2)):CGs X (.Name x pos::tgs) (n::t):=.mk <|
 PGs.imp (ZbQ (UB hN hi hx hf) h2.h hs)<|by
  rintro vs Z H Q ⟨h,q⟩;cases vs with|nil=>cases h|cons v vs=>exact#[v,vs,rfl,Nat.succ.inj h,q]
theorem Jg{E:au->aA->Prop}(hne:t≠it):∀(n i:Nat)(s:aA)(Q:List au->aA->Prop),s.heap.IsListIter it t i->s.heap.IsList t items->i+n<=items.size->
  (∀h',cy.IsListIter h' it t (i+n)->gJ it s.heap h'->Q ((items.toList.drop i).take n) {s with heap:=h' })->bf #[8] A (draw (.ref it) n) Q E s
 |0,i,s,Q,hit,_,_,hQ=>by
  exact aD (by simpa using hQ s.heap hit<|gJ.refl ..)
 |n+1,i,s,Q,hit,ht,hle,hQ=>by
  have hlt:i<items.size:=by lia
  refine ag<|mB hit ht (x:=items[i]) (by simp[hlt]) λh₁ hit₁ hs₁=>?_
  refine ag<|cK<|Jg hne n (i+1) _ _ hit₁ (ht.extBut hs₁.extBut hne) #[0] λh₂ hit₂ hs₂=>aD ?_
  have hd:items.toList.drop i=items[i]::items.toList.drop (i+1):=by simp[ck,hlt]
  have:=hQ h₂ (by rw[show i+(n+1)=i+1+n by lia];exact hit₂)<|hs₁.trans hs₂
  rw[hd,List.take_succ_cons]at this;exact this
theorem yE{E:au->aA->Prop}{x1}{Q:Unit->aA->Prop}(hh:A.handled=ae)(ht:s.heap.IsList t items)
  (hn:(cJ elts env).length=items.size)(hstar:(cJ elts env).findIdx? (·.1)=ae)
  (h:∀h',iq s.heap.objs.size s.heap h'->bf #[8] A (nM ((cJ elts env).map (·.2)) items.toList) Q E {s with heap:=h' }) :
  bf #[8] A (eW (.Tuple elts x1 pos) env<|.ref t) Q E s:=by
 rw[assign_Tuple];refine ag<|eY ?_;have hlt:t≠s.heap.objs.size:=by obtain⟨o,ho,_⟩:=ht;exact bv<|aQ ho
 unfold unpack;rw[hn,hstar];refine ag<|cK ?_;refine ag ?_;refine ag<|wpAny_specialOf ht.typeIs slot_list_iter.lookup ?_;refine aD ?_;simp only[cL,if_false];refine ag<|cK<|gu ht ?_;refine ag<|cK<|Jg hlt items.size 0 _ _ #[_,aR _ rfl,rfl,rfl] (ht.push _) #[0] λh₁ hit₁ hs₁=>?_
 have hall:nE items.size (sR 0 items.toList)=items.toList:=by
  rw[lg];exact cG #[2]
 rw[hall];rw[T8 #[2]]
 have ht₁:=(ht.push _).extBut hs₁.extBut hlt;refine ag<|cK<|mU hh hit₁ ht₁ #[2] λh₂ he₂=>?_
 simp only[Option.isSome_none,cL,if_false];exact aD<|h h₂ λb o hb e=>he₂ b o hb<|hs₁.extBut b o hb<|aw _ e
def gTL(K:am)(n:Nat)(t:TGs):TG:=λv Z H Q=>∃a xs,v=.ref a/\(SqT K H a xs\/H a=aa #[35])/\xs.length=n/\t xs Z H Q
def ZgT{X:Cx}{pos:gj}{es:List Expr}{k:Nat}{t:TGs}{n:Nat}(hc:X.calm=aj)(h:PGs X es t)
  (hn:(cJ es X.env).length=n:=by rfl)(hst:(cJ es X.env).findIdx? (·.1)=ae:=by rfl):PG X (.Tuple es k pos) (gTL X.K n t):=by
 intro pq s Z H v u Q I r hw;obtain⟨a,xs,e1,hq|hq,hl,hw⟩:=hw
 .exact Zf5 hc h hn hst pq s Z H v u Q I r #[a,xs,e1,hq,hl,hw]
 .subst e1
  cases r;obtain⟨its,rv,pl,hz⟩:=I.list<|SqL.of hq;refine yE #[43] pl.isList (by simp[hn,<-hl,rv.length]) hst λh' hx=>?_
  have I1:=I.kept (t':=s.toks) λb o e=>hx b o (bv<|aQ e) e
  exact h pq _ Z H xs _ Q I1 (by simpa using rv) hw
def Zgp{tgs:List Expr}{q2:Nat}{n m:Nat}{r:List Nat}(hc:X.calm=aj)(h:CGs X tgs (n::m::r))(hn:(cJ tgs X.env).length=(n::m::r).length)(hst:(cJ tgs X.env).findIdx? (·.1)=ae):CG X (.Tuple tgs q2 pos) (n::m::r):=.mk <|
 PG.imp (ZgT hc h.h hn hst)<|by rintro v Z H Q ⟨a,xs,e,hp,hl,q⟩;exact #[a,xs,e,hp,hl,hl,q]
def ZC.evA{D:Ends}{K:am}{U:Mx}{H0 H:Hp}{W:Own}{l:Lc}{os:List Nat}{Z:L2.St}{S:Zv}{f:Pv.V->Zv->R Pv.FlV}{Q1:VK}(z:Bool)(hz:Pv.fresh i=aj->z=aj)(st:St3 K U S H)(en:Eu U H0 W l os Z H)(h:ZC fr K xw U H0 D ((Pv.pvA C i l os S).bind f))
  (k:∀d S1 H1 v,Fut U H U H1->St3 K U S1 H1->Xx z H (U.ex W) H1 d v->ZC fr K xw U H0 D (f d S1)->Q1 v H1):∃ρ' l' S,St3 K ρ' S H/\LocR ρ' H l' Z/\End K xw (Xx z H) ρ' H Q1 (Pv.pv C i l' S):=by
 have hid:ZC fr K xw U H0 D ((Pv.pv C i (Pv.hide os l) S).bind f)->∃ρ' l' S,St3 K ρ' S H/\LocR ρ' H l' Z/\End K xw (Xx z H) ρ' H Q1 (Pv.pv C i l' S):=λh=>#[U.ex W,Pv.hide os l,S,en.st st,en.hid,ZC.bindW en h k]
 cases os with
 |nil=>exact hid (by rw[hide_nil];exact h)
 |cons o os=>
  have h:ZC fr K xw U H0 D (Pv.PR.bind (match Pv.pv C i (Pv.hide (o::os) l) S with
   |.ok v s=>.ok v s
   |.ex c s=>.ex c s
   |.no=>(Pv.pv C i l S).bind λv s=>if(v.flat||Pv.fresh i&&Pv.Za2 v)=aj then .ok v s else .no) f):=h
  cases q:Pv.pv C i (Pv.hide (o::os) l) S with
  |ok v s=>rw[q]at h;exact hid (by rw[q];exact h)
  |ex c s=>rw[q]at h;exact hid (by rw[q];exact h)
  |no=>
   rw[q]at h;have h:=h
   rw[X6]at h;refine#[U,l,S,st,en.all,ZC.bind en h λd S1 H1 v f1 st1 r1 h1=>?_]
   by_cases c:(d.flat||Pv.fresh i&&Pv.Za2 d)=aj
   case neg=>rw[T8 c]at h1;exact h1.elim
   rw[T9 c]at h1;refine k d S1 H1 v f1 st1 #[?_,r1.2] h1;rcases(fY _ _).mp c with c|c
   .exact Rep.flat (U:=U) (ρ':=U.ex W) rfl (λ_ _ z _ _=>z) c r1.1
   .obtain⟨c1,c2⟩:=(aC _ _).mp c
    cases d with
    |lst xs=>
     obtain⟨a,rfl,ha⟩:=r1.2 (hz c1) xs rfl;obtain⟨_,us,e,hs,hx,rs⟩:=r1.1.lst';cases e;exact Xb hs (λx=>x.elim hx λ#[i,w]=>let #[_,_,_,z]:=en.own i a w;T7 ha z.ne)<|rs.flat (U:=U) (ρ':=U.ex W) rfl (λ_ _ z _ _=>z) c2
    |_=>cases c2
def End.unfr{K:am}{U:Mx}{H H0:Hp}{Q:VK}{r:R D}(h:End K xw (Xx ak H0) U H Q r):End K xw Rep U H Q r:=by
 cases r with|ok d S=>exact λρ' H' v f st r=>h ρ' H' v f st #[r,λz=>by cases z]|_=>exact h
def ZdC{n:Nat}{tg:Expr}(he:CE X xw C e i)(hg:CG X tg [n])(hf:Pv.fresh i=ak)(hs:eA [tg] e pos.line X.env=cF ak)(hw:eB [tg] e X.env=cF ae)
  (h1:(cJ [tg] X.env).map (·.2)=[eW tg X.env]):CS X xw fr C ns (.Assign [tg] e pos) (.asg [n] i):=.mk <| PS.imp (VW he.h hg.h hs hw h1)<|by
 right;rw[Pv.rE1]at h;obtain⟨ρ',l',S',a,b,c⟩:=ZC.evA (Q1:=λx H1=>tGU X.K [n] x Z H1 D.nx) ak (λz=>by rw[hf]at z;cases z) st en h λd S1 H1 v f1 st1 r1 h1=>by
  rw[hf,rQ,T8 aS]at h1;exact h1 H1 _ _ st1<|(en.mono f1).drop (o:=aa d) λ_ z=>by cases z;exact r1.1.lat Lat.noW
 exact#[ρ',l',S',a,b,c.unfr]
def ZeL{D:Ends}{U:Mx}{H0 H:Hp}{W:Own}{l:Lc}{os:List Nat}{Z:L2.St}{S:Zv}{n:Nat}(st:St3 X.K U S H)(en:Eu U H0 W l os Z H)(h:ZC fr X.K xw U H0 D (Pv.rv C ns (.asg [n] i) l os S)):tF X xw (Pv.pv C i) Z H λx H1=>D.nx (Z.set n<|aa x) H1:=by
 rw[Pv.rE1]at h;refine ZC.evA aj (λ_=>rfl) st en h λd S1 H1 v f1 st1 r1 h1=>?_
 by_cases c:(ns.contains n&&Pv.fresh i)=aj
 .rw[T9 c]at h1
  cases d with
  |lst xs=>
   obtain⟨⟨hf,hl⟩,h1⟩:=ZC.guard h1;obtain⟨a,rfl,ha⟩:=r1.2 rfl xs rfl;exact h1 H1 _ _ st1<|en.take st.xd f1 ha hf r1.1 hl
  |_=>exact h1.elim
 .rw[T8 c]at h1
  exact h1 H1 _ _ st1<|(en.mono f1).drop (o:=aa d) λ_ z=>by cases z;exact r1.1.lat Lat.noW
def Zdr{n:Nat}{tg:Expr}(he:CF X xw C e i)(hg:CG X tg [n])(hs:eA [tg] e pos.line X.env=cF ak)(hw:eB [tg] e X.env=cF ae)
  (h1:(cJ [tg] X.env).map (·.2)=[eW tg X.env]):CS X xw fr C ns (.Assign [tg] e pos) (.asg [n] i):=.mk <| PS.imp (VW he.h hg.h hs hw h1)<|by right;exact ZeL st en h
def ZeU{n m:Nat}{t:List Nat}{tg:Expr}(he:CE X xw C e i)(hg:CG X tg (n::m::t))(hf:Pv.fresh i=ak)(hs:eA [tg] e pos.line X.env=cF ak)(hw:eB [tg] e X.env=cF ae)
  (h1:(cJ [tg] X.env).map (·.2)=[eW tg X.env]):CS X xw fr C ns (.Assign [tg] e pos) (.asg (n::m::t) i):=.mk <| PS.imp (VW he.h hg.h hs hw h1)<|by
 right;rw[Pv.rE2]at h
 .obtain⟨ρ',l',S',a,b,c⟩:=ZC.evA (Q1:=λx H1=>tGU X.K (n::m::t) x Z H1 D.nx) ak (λz=>by rw[hf]at z;cases z) st en h λd S1 H1 v f1 st1 r1 h1=>by
   obtain⟨ht,h1⟩:=h1.guardN;obtain⟨l',hl,h1⟩:=ZC.ob h1;exact(en.mono f1).assign (by simpa using ht) r1.1 hl λσ' e'=>h1 H1 σ' W st1 e'
  exact#[ρ',l',S',a,b,c.unfr]
 .intro _ z;cases z
end
theorem Eu.at{U:Mx}{H0 H:Hp}{W:Own}{l:Lc}{os:List Nat}{Z:L2.St}{i:Nat}{xs:List D}(h:Eu U H0 W l os Z H)(hi:os.contains i=aj)(hx:Pv.zI l[i]?=aa xs):∃a,W i=aa a/\Z[i]?=aa (aa<|.ref a)/\∃us,H a=aa (.lst us)/\Rq (U.ex W) H xs us:=by
 rw[h.osW]at hi;obtain⟨a,w⟩:=c7.mp hi;obtain⟨d,p,c,r⟩:=h.own i a w;rw[p]at hx;cases d with|lst ys=>cases hx;exact#[a,w,c,r]|_=>cases hx
section
variable{X:Cx}{xw:Nat->Hp->Prop}{fr:Bool}{C:Calls}{ns:List Nat}{e a b c:Expr}{i j k:E}{pos p p' p2:gj}{s0:fg}{ms ms':List Sm}{n:Nat}{x:bq}
def qD{apos cpos:gj}(he:CE X xw C e i)(hN:X.N[n]?=aa x)(hv:Vis X.env.scope x)(hd:(x == #[9])=ak)
  (hcd:(x == #[15])=ak)
  (hbase:nS (.Name x p) "append" X.env (cu (.Name x p) X.env)=cu (.Name x p) X.env)
  (hfew:((dG cpos<|aB [e] X.env).all (λx=>!x.1)&&(backToKw cpos<|pX [] X.env).all (λx=>x.1.isSome)
   && af (([e]:List Expr).length+([]:List oN).length+(if([]:List oN).isEmpty then 0 else 1)<30))=aj)
  (hline:(apos.endLine == cpos.line)=aj)(hs:aB [e] X.env=#[20]::aB [] X.env)(hplain:(dG cpos<|aB [] X.env).any (·.1)=ak)
  (hw:eZ (.Call (.Attribute (.Name x p) "append" apos) [e] [] cpos) ae pos.line X.env=cF ak) :
  CS X xw fr C ns (.Expr (.Call (.Attribute (.Name x p) "append" apos) [e] [] cpos) pos) (.ex<|.mt .append (.v n) [i]):=.mk <|
 PS.imp (UL (yk eK lQ lR VM (Yn hN hv hd hcd) (Zz he.h Ym hs) hbase hfew hline hs hplain) hw)<|by
 right;rw[Pv.Zf9]at h;obtain⟨c,h⟩:=h.guard;obtain⟨xs,hx,h⟩:=ZC.ob h;obtain⟨a,ha,q,us,e1,_⟩:=en.at c hx;refine#[.ref a,q,.inl #[rfl,us,SqL.of e1],U,l,S,st,en.all,ZC.bind en h λy S1 H1 v f1 st1 r1 h1=>?_]
 obtain⟨⟨hf,hl⟩,h1⟩:=h1.guard;have en1:=en.mono f1;obtain⟨a',ha',_,us,e2,r'⟩:=en1.at c hx;rw[ha]at ha';cases ha';exact#[a,us,v,rfl,rfl,e2,by rw[r'.length,<-X8];exact hl,h1 _ _ W (st1.mut en1 ha)<|en1.mut ha<|r'.append<|Rq.cons (Rep.flat (U:=U) (ρ':=U.ex W) rfl (λ_ _ z _ _=>z) hf r1) Rq.nil]
def uO{apos cpos:gj}(he:CE X xw C e i)(hN:X.N[n]?=aa x)(hv:Vis X.env.scope x)(hd:(x == #[9])=ak)
  (hcd:(x == #[15])=ak)
  (hbase:nS (.Name x p) "extend" X.env (cu (.Name x p) X.env)=cu (.Name x p) X.env)
  (hfew:((dG cpos<|aB [e] X.env).all (λx=>!x.1)&&(backToKw cpos<|pX [] X.env).all (λx=>x.1.isSome)
   && af (([e]:List Expr).length+([]:List oN).length+(if([]:List oN).isEmpty then 0 else 1)<30))=aj)
  (hline:(apos.endLine == cpos.line)=aj)(hs:aB [e] X.env=#[20]::aB [] X.env)(hplain:(dG cpos<|aB [] X.env).any (·.1)=ak)
  (hw:eZ (.Call (.Attribute (.Name x p) "extend" apos) [e] [] cpos) ae pos.line X.env=cF ak) :
  CS X xw fr C ns (.Expr (.Call (.Attribute (.Name x p) "extend" apos) [e] [] cpos) pos) (.ex<|.mt .extend (.v n) [i]):=.mk <|
 PS.imp (UL (yk eK PySem.F.slot_list_extend PySem.F.type_list_extend qv (Yn hN hv hd hcd) (Zz he.h Ym hs) hbase hfew hline hs hplain) hw)<|by
 right;rw[Pv.wm]at h;obtain⟨c,h⟩:=h.guard;obtain⟨xs,hx,h⟩:=ZC.ob h;obtain⟨a,ha,q,us,e1,_⟩:=en.at c hx;refine#[.ref a,q,.inl #[rfl,us,SqL.of e1],U.ex W,Pv.hide os l,S,en.st st,en.hid,ZC.bindW en h λy S1 H1 v f1 st1 r1 h1=>?_]
 cases y with
 |lst ys=>
  obtain⟨⟨hf,hl⟩,h1⟩:=ZC.guard h1;have en1:=en.mono f1;obtain⟨a',ha',_,us,e2,r'⟩:=en1.at c hx;rw[ha]at ha';cases ha';obtain⟨b,ws,rfl,e3,_,r3⟩:=r1.lst';exact#[a,b,us,ws,rfl,rfl,e2,e3,by rw[r'.length,r3.length,<-X8];exact hl,h1 _ _ W (st1.mut en1 ha)<|en1.mut ha<|r'.append r3]
 |_=>exact h1.elim
def Zfe{m:Nat}{y:bq}{px py pt:gj}{kt k2 pt2}(hc:X.calm=aj)(hN:X.N.Nodup)(ha:CA X xw C [a,b] [i,j])(hnm:n≠m)(hi:X.N[n]?=aa x)(hj:X.N[m]?=aa y)
  (hx:X.env.scope.names.lookup x=aa .local)(hy:X.env.scope.names.lookup y=aa .local)
  (hw:eB [.Tuple [.Name x px,.Name y py] kt pt] (.Tuple [a,b] k2 pt2) X.env=cF (aa [x,y]))
  (hs:eA [.Tuple [.Name x px,.Name y py] kt pt] (.Tuple [a,b] k2 pt2) pos.line X.env=cF ak) :
  CS X xw fr C ns (.Assign [.Tuple [.Name x px,.Name y py] kt pt] (.Tuple [a,b] k2 pt2) pos) (.par [n,m] [i,j]):=.mk <|
 PS.imp (ZeI hc hN hi hj hnm hx hy ha.h hw hs)<|by
 right;rw[Pv.rE3]at h;have fin:∀{vs:List Pv.V}{us:List V}{S1:Zv}{H1:Hp},Fut U H U H1->St3 X.K U S1 H1->Rq (U.ex W) H1 vs us->ZC fr X.K xw U H0 D (if([n,m].any os.contains)=aj then .no else(Pv.po (Pv.Y6 [n,m] vs l) S1).bind λU s=>.ok (.nx U os) s)->∃v w,us=[v,w]/\D.nx ((Z.set n<|aa v).set m<|aa w) H1:=λ{vs us S1 H1} f1 st1 r1 h1=>by
  obtain⟨ht,h1⟩:=h1.guardN;obtain⟨l',hl,h1⟩:=ZC.ob h1;obtain⟨hz,e'⟩:=(en.mono f1).fill (by simpa using ht) r1 hl
  match us,hz,e' with
  |[v,w],_,e'=>exact#[v,w,rfl,h1 H1 _ W st1 e']
 cases os with
 |nil=>exact#[U.ex W,Pv.hide [] l,S,en.st st,en.hid,ZC.bindW en (by rw[hide_nil];exact h) λvs S1 H1 us f1 st1 r1 h1=>fin f1 st1 r1 h1]
 |cons o os=>
  have h:ZC fr X.K xw U H0 D (Pv.PR.bind (match Pv.pvs C [i,j] (Pv.hide (o::os) l) S with
   |.ok v s=>.ok v s
   |.ex c s=>.ex c s
   |.no=>(Pv.pvs C [i,j] l S).bind λv s=>if Pv.ZP v then .ok v s else .no) _):=h
  cases q:Pv.pvs C [i,j] (Pv.hide (o::os) l) S with
  |ok v s=>rw[q]at h;exact#[U.ex W,_,S,en.st st,en.hid,ZC.bindW en (by rw[q];exact h) λvs S1 H1 us f1 st1 r1 h1=>fin f1 st1 r1 h1]
  |ex c s=>rw[q]at h;exact#[U.ex W,_,S,en.st st,en.hid,ZC.bindW en (by rw[q];exact h) λvs S1 H1 us f1 st1 r1 h1=>fin f1 st1 r1 h1]
  |no=>
   rw[q]at h;have h:ZC fr X.K xw U H0 D (((Pv.pvs C [i,j] l S).bind λv s=>if Pv.ZP v=aj then Pv.PR.ok v s else .no).bind _):=h
   rw[X6]at h;refine#[U,l,S,st,en.all,ZC.bind en h λvs S1 H1 us f1 st1 r1 h1=>?_]
   by_cases c:Pv.ZP vs=aj
   case neg=>rw[T8 c]at h1;exact h1.elim
   rw[T9 c]at h1;exact fin f1 st1 (Rq.flat (U:=U) (ρ':=U.ex W) rfl (λ_ _ z _ _=>z) c r1) h1
def ZcV{m:Nat}{y:bq}{py:gj}(hj:X.N[m]?=aa y)(hv:Vis X.env.scope y)(hd:(y == #[9])=ak)(hcd:(y == #[15])=ak) :
  CS X xw fr C ns (.Return (aa<|.Name y py) pos) (.retO m):=.mk <| PS.imp (WS<|Yn hj hv hd hcd)<|by
 right;rw[Pv.ZgU]at h;obtain⟨c1,h⟩:=h.guard;obtain⟨xs,hx,h⟩:=ZC.ob h;obtain⟨a,ha,q,us,e1,r⟩:=en.at c1 hx;exact#[.ref a,q,h H (.ref a) en.fut st #[Xb e1 (en.nx ha)<|r.lat Lat.unex,λ_ ds z=>#[a,rfl,en.new _ a ha]]]
def ZfF{m:Nat}{y:bq}{px py:gj}(hN:X.N.Nodup)(hj:X.N[m]?=aa y)(hv:Vis X.env.scope y)(hd:(y == #[9])=ak)
  (hcd:(y == #[15])=ak)(hi:X.N[n]?=aa x)(hx:L2.Loc X.env.scope x)(hf:X.fn x=aj\/X.env.scope.names.lookup x=aa .local)
  (hs:eA [.Name x px] (.Name y py) pos.line X.env=cF ak)(hw:eB [.Name x px] (.Name y py) X.env=cF ae)
  (h1:(cJ [.Name x px] X.env).map (·.2)=[eW (.Name x px) X.env]):CS X xw fr C ns (.Assign [.Name x px] (.Name y py) pos) (.mov n m):=.mk <|
 PS.imp (VW (Yn hj hv hd hcd) (UB hN hi hx hf) hs hw h1)<|by
 right;rw[Pv.ZdK]at h;obtain⟨c,h⟩:=h.guard;obtain⟨c1,c⟩:=(aC _ _).mp c;obtain⟨c2,c3⟩:=(aC _ _).mp c;have c3:n≠m:=T6 c3;have c2:os.contains n=ak:=by simpa using c2
 obtain⟨xs,hx,h⟩:=ZC.ob h;obtain⟨a,ha,q,us,e1,r⟩:=en.at c1 hx;have nx:=en.nx ha;refine#[.ref a,q,h H _ (noW W m) st ?_];have e:=en.drop (i:=m) (o:=ae) (v:=.ref a) λ_ z=>by cases z
 have hl:m<Z.length:=(aH.mp q).1;rw[show Z.set m (aa<|.ref a)=Z by
  have:=(aH.mp q).2;rw[<-this];exact List.set_getElem_self hl]at e
 have e:=e.set (i:=n) (o:=aa<|.lst xs) (v:=.ref a) (by
  rw[WQ en.osW];unfold noW;rw[T8 c3,en.nW c2];rfl) λ_ z=>by
   cases z;refine Xb e1 (λx=>x.elim nx λ#[k,w]=>?_)<|r.lat Lat.noW
   obtain⟨w1,w2⟩:=XF w;exact w1<|en.inj k m a w2 ha
 rw[sF _ _<|Ne.symm c3]at e;exact e
end
structure WRel(K:am)(U:Mx)(H:Hp)(w:List D)(J:It):Prop where
 go:∀(i:Nat) ρ' S' H',Lat U H ρ' H'->St3 K ρ' S' H'->i<w.length->J.go i H'/\∀x H'',J.yld i H' x H''->Fut ρ' H' ρ' H''/\St3 K ρ' S' H''/\∀d,w[i]?=aa d->Rep ρ' H'' d x
 stop:∀ρ' S' H',Lat U H ρ' H'->St3 K ρ' S' H'->J.stop w.length H'
section
variable(X:Cx)(xw:Nat->Hp->Prop)
def tW3(f:Lc->Zv->R (List D)):TI:=λZ H Q=>∃U l S,St3 X.K U S H/\LocR U H l Z/\End X.K xw (WRel X.K) U H Q (f l S)
structure CW(C:Calls)(tg it:Expr)(w:Ev.W):Prop where
 h:PI X tg it (tW3 X xw<|Pv.pvw C w)
end
def PI.imp(h:PI X tg it t)(k:∀Z H Q,t' Z H Q->t Z H Q):PI X tg it t':=λpq s Z H R I q=>h pq s Z H R I<|k Z H R q
section
variable{X:Cx}{xw:Nat->Hp->Prop}{C:Calls}{e a b c tg it:Expr}{i j k:E}{pos p p' p2:gj}
def ZhQ(K:am)(tl:TE):TI:=λZ H R=>tl Z H λx H1=>∃a,x=.ref a/\(((∃xs,SqL K H1 a xs)/\R (Itl K a) H1)\/((∃xs,SqT K H1 a xs)/\R (Itt K a) H1))
def ZeY(hl:PE X l tl):PI X tg l (ZhQ X.K tl):=by
 intro pq s Z H R I h;refine thn (hl pq s Z H _ I h) λv s1 #[x,H1,I1,r1,a,e,q]=>?_
 subst e;cases r1;rcases q with⟨⟨xs,hq⟩,q⟩|⟨⟨xs,hq⟩,q⟩
 .obtain⟨its,rv,p,hz⟩:=I1.list hq
  refine gu p.isList ?_;refine#[s1.heap.objs.size,[s1.heap.objs.size],_,_,H1,rfl,I1.kept (t':=s1.toks) λb o e=>aw _ e,qg a _,#[_,aR _ rfl,rfl,rfl],λb hb=>?_,q]
  have e:b=s1.heap.objs.size:=by simpa using hb
  subst e;exact I1.fpOk (aI _)<|I1.hok.fresh<|aI _
 .obtain⟨its,rv,p,hz⟩:=I1.tuple hq
  refine h8 (p) ?_
  refine#[s1.heap.objs.size,[s1.heap.objs.size],_,_,H1,rfl,I1.kept (t':=s1.toks) λb o e=>aw _ e,xk a _,#[_,aR _ rfl,rfl,rfl],λb hb=>?_,q]
  have e:b=s1.heap.objs.size:=by simpa using hb
  subst e;exact I1.fpOk (aI _)<|I1.hok.fresh<|aI _
def VD{K:am}{U:Mx}{H:Hp}{ds:List D}{xs:List V}{J:It}(r:Rq U H ds xs)(hg:∀ρ' H',Lat U H ρ' H'->(∀i x,xs[i]?=aa x->J.go i H'/\∀y H'',J.yld i H' y H''->H''=H'/\y=x)/\∀n,n=xs.length->J.stop n H'):WRel K U H ds J where
 go:=λi ρ' S' H' f st hi=>by
  obtain⟨v,g,r'⟩:=(r.lat f).get<|ai hi;obtain⟨a,b⟩:=(hg ρ' H' f).1 i v g;refine#[a,λx H'' y=>?_]
  obtain⟨rfl,rfl⟩:=b x H'' y;exact#[Fut.refl _ _,st,λd hd=>by rw[ai hi]at hd;cases hd;exact r']
 stop:=λρ' S' H' f st=>(hg ρ' H' f).2 _ r.length.symm
def ZaP{K K':am}{U:Mx}{H:Hp}{ds:List D}{a:aE}{xs:List V}(hp:H a=aa (.tup xs))(r:Rq U H ds xs):WRel K U H ds (Itt K' a):=VD r λρ' H' f=>by
 have h:=SqT.of (K:=K')<|f.keep a _ hp λ_ z=>by cases z
 exact#[λi x g=>#[#[xs,x,h,g],λy H'' z=>#[z.1,by have:=z.2 xs h;rw[g]at this;exact(aq this).symm]],λn e=>#[xs,h,by omega]]
def vg{K K':am}{U:Mx}{H:Hp}{ds:List D}{a:aE}{xs:List V}(hp:∀ρ' H',Lat U H ρ' H'->SqL K' H' a xs)(r:Rq U H ds xs):WRel K U H ds (Itl K' a):=VD r λρ' H' f=>by
 have h:=hp ρ' H' f;exact#[λi x g=>#[#[xs,x,h,g],λy H'' z=>#[z.1,by have:=z.2 xs h;rw[g]at this;exact(aq this).symm]],λn e=>#[xs,h,by omega]]
def Jv(lo:Int)(n:Nat):(Pv.ZV lo n).length=n:=by unfold Pv.ZV;rw[ax,bi]
theorem V5(lo:Int):∀(l:List Nat),Rq U H (l.map λ(k:Nat)=>Pv.V.int<|lo+(k:Int)) (l.map λ(k:Nat)=>V.int<|lo+(k:Int))
 |[]=>Rq.nil
 |_::l=>Rq.cons (ZR _)<|V5 lo l
def zF{K:am}{U:Mx}{H:Hp}{lo:Int}{n:Nat}:WRel K U H (Pv.ZV lo n) (Itr lo n):=VD (V5 lo<|aM n) λρ' H' f=>by
 refine#[λi x g=>?_,λm e=>?_]
 .have hi:i<n:=by have:=(aH.mp g).1;simpa using this
  rw[aU,db hi]at g;exact#[hi,λy H'' z=>#[z.1,z.2.trans<|aq g]]
 .rw[ax,bi]at e;show n<=m;omega
def ZgJ(he:CE X xw C e i):CW X xw C tg e (.of i):=.mk <| PI.imp (ZeY he.h)<|by
 left;rw[Pv.wE7]at h;refine#[U,l,S,st,lr,h.bind λx S1 ρ1 H1 v f1 st1 r1 h1=>?_]
 obtain⟨ds,hd,h1⟩:=End.po h1;have q:∀{J},WRel X.K ρ1 H1 ds J->Q J H1:=λw=>End.ok (rep:=WRel X.K) h1 st1 w
 cases x with
 |tup ds=>cases hd;obtain⟨a,xs,rfl,hp,r⟩:=r1.tup';exact#[a,rfl,.inr #[#[xs,SqT.of hp],q<|ZaP hp r]]
 |lst ds=>cases hd;obtain⟨a,xs,rfl,hp,hx,r⟩:=r1.lst';exact#[a,rfl,.inl #[#[xs,SqL.of hp],q<|vg (λρ' H' f=>SqL.of<|f.keep a _ hp λ_ _=>hx) r]]
 |scr ns=>
  cases hd;obtain⟨a,rfl,hp⟩:=r1.scr';rw[st1.hk]at hp;refine#[a,rfl,.inl #[#[_,hp.sq],q<|vg (λρ' H' f=>?_)<|Rq.ints ns]]
  rcases hp with⟨o,hp⟩|hp
  .exact .inl<|.inr #[o,f.keep a _ hp λ_ z=>by cases z]
  .exact .inr hp
 |_=>exact Ev.nos hd
def Zd7{B β:Type}{rep:Mx->Hp->B->β->Prop}{U:Mx}{l:Lc}{S:Zv}{Z:L2.St}{H:Hp}{Q:β->Hp->Prop}{Q1:List V->Hp->Prop}{g:D->Zv->R B}(st:St3 X.K U S H)(lr:LocR U H l Z)(h:End X.K xw rep U H Q ((Pv.pv C i l S).bind g))
  (k:∀x S1 ρ1 H1 v,St3 X.K ρ1 S1 H1->Rep ρ1 H1 x v->End X.K xw rep ρ1 H1 Q (g x S1)->Q1 [v] H1):tA X xw (Pv.pvs C [i]) Z H Q1:=by
 refine#[U,l,S,st,lr,?_];show End X.K xw Rq U H _ ((Pv.pv C i l S).bind λx S=>.ok [x] S)
 cases q:Pv.pv C i l S with
 |no=>rw[q]at h;exact h
 |ex c S1=>rw[q]at h;exact h
 |ok x S1=>
  rw[q]at h;intro ρ1 H1 vs f1 st1 r1;obtain⟨v,rfl,r⟩:=ZaB r1;exact k x S1 ρ1 H1 v st1 r<|End.mono f1 h
def Zan{B β:Type}{rep:Mx->Hp->B->β->Prop}{U:Mx}{l:Lc}{S:Zv}{Z:L2.St}{H:Hp}{Q:β->Hp->Prop}{Q1:List V->Hp->Prop}{g:D->D->Zv->R B}(st:St3 X.K U S H)(lr:LocR U H l Z)(h:End X.K xw rep U H Q ((Pv.pv C i l S).bind λx S=>(Pv.pv C j l S).bind λy S=>g x y S))
  (k:∀x y S1 ρ1 H1 v u,St3 X.K ρ1 S1 H1->Rep ρ1 H1 x v->Rep ρ1 H1 y u->End X.K xw rep ρ1 H1 Q (g x y S1)->Q1 [v,u] H1):tA X xw (Pv.pvs C [i,j]) Z H Q1:=by
 refine#[U,l,S,st,lr,?_];show End X.K xw Rq U H _ ((Pv.pv C i l S).bind λx S=>((Pv.pv C j l S).bind λy S=>.ok [y] S).bind λxs S=>.ok (x::xs) S)
 cases q:Pv.pv C i l S with
 |no=>rw[q]at h;exact h
 |ex c S1=>rw[q]at h;exact h
 |ok x S1=>
  rw[q]at h;have h:End X.K xw rep U H Q ((Pv.pv C j l S1).bind λy S=>g x y S):=h
  show End X.K xw Rq U H _ (((Pv.pv C j l S1).bind λy S=>.ok [y] S).bind λxs S=>.ok (x::xs) S)
  cases q2:Pv.pv C j l S1 with
  |no=>rw[q2]at h;exact h
  |ex c S2=>rw[q2]at h;exact h
  |ok y S2=>
   rw[q2]at h;intro ρ1 H1 vs f1 st1 r1;obtain⟨v,u,rfl,rv,ru⟩:=zw r1;exact k x y S2 ρ1 H1 v u st1 rv ru<|End.mono f1 h
def Yo(h:Ev.Yt n=aj):-(2^62)<=n/\n<2^62:=T6 h
def Zb9(hm:X.mg "range" = ae)(ha:CA X xw C [a] [i])(hg:Gl X "range")(hs:aB [a] X.env=[#[37]]):CW X xw C tg (.Call (.Name "range" p) [a] [] pos) (.rng1 i):=.mk <|
 PI.imp (ux hg hm ha.h hs) λZ H Q #[U,l,S,st,lr,h]=>Zd7 st lr h λx S1 ρ1 H1 v st1 r h1=>by
  cases x with
  |int n=>
   obtain⟨hs,h2⟩:=End.guard h1;exact#[n,by rw[r.int'],(Yo hs).1,(Yo hs).2,End.ok h2 st1 zF]
  |_=>exact False.elim h1
def Zde(hm:X.mg "range" = ae)(ha:CA X xw C [a,b] [i,j])(hg:Gl X "range")(hs:aB [a,b] X.env=[#[37],(ak,cu b X.env)])(hs2:aB [b] X.env=[(ak,cu b X.env)]) :
  CW X xw C tg (.Call (.Name "range" p) [a,b] [] pos) (.rng2 i j):=.mk <|
 PI.imp (uZ hg hm ha.h hs hs2) λZ H Q #[U,l,S,st,lr,h]=>Zan st lr h λx y S1 ρ1 H1 v u st1 rv ru h1=>by
  cases x with
  |int n=>cases y with
   |int m=>
    obtain⟨hs,h3⟩:=End.guard h1;obtain⟨s1,s2⟩:=(aC _ _).mp hs;exact#[n,m,by rw[rv.int',ru.int'],#[(Yo s1).1,(Yo s1).2,(Yo s2).1,(Yo s2).2],End.ok h3 st1 zF]
   |_=>exact False.elim h1
  |_=>exact False.elim h1
def ZcP{D:Ends}{Z:L2.St}{U:Mx}{H0 H1:Hp}{W:Own}{l:Lc}{os:List Nat}{S1:Zv}{J:It}{wk:List Pv.V}{fr:Bool}{ns:List Nat}{ms:List Sm}{t:List Nat}(st1:St3 X.K U S1 H1)(en:Eu U H0 W l os Z H1)(r1:WRel X.K (U.ex W) H1 wk J)
  (h1:ZC fr X.K xw U H0 D (Pv.Y5 (λx U os s=>if(t.any<|lS os)=aj then(.no:Pv.PR Pv.FlV)else(Pv.po (Pv.Zo t x U) s).bind λU s=>Pv.rvs C ns ms U os s) wk l os S1)):∃W:Nat->Nat->L2.St->Hp->Prop,(∃m,W 0 m Z H1)/\∀i m Z H,W i m Z H->
   (J.stop i H/\D.nx Z H)\/(J.go i H/\∃N:L2.St->Hp->Prop,(∀σ' H',N σ' H'->∃m',m'<m/\W (i+1) m' σ' H')/\∀x H',J.yld i H x H'->tGU X.K t x Z H' λσ2 H2=>tS3 X xw fr (Pv.rvs C ns ms) {D with nx:=N,ct:=N,bk:=D.nx} σ2 H2):=by
 obtain⟨bs,en1⟩:=en.off st1.xd;have h1:=h1.rebase bs en.xd;generalize hB:(λx U os s=>if(t.any<|lS os)=aj then(.no:Pv.PR Pv.FlV)else(Pv.po (Pv.Zo t x U) s).bind λU s=>Pv.rvs C ns ms U os s)=B at h1
 let I:Nat->L2.St->Hp->Prop:=λn σ' H'=>∃W' l' os' S',St3 X.K U S' H'/\Eu U (QO H1 W) W' l' os' σ' H'/\ZC fr X.K xw U (QO H1 W) D (Pv.Y5 B (wk.drop n) l' os' S')
 refine#[λn m σ' H'=>m=wk.length-n/\n<=wk.length/\I n σ' H',#[wk.length,rfl,eE _,W,l,os,S1,st1,en1,h1],?_]
 rintro n m σ' H' ⟨rfl,hn,W',l',os',S',st',en',e'⟩
 have lat:=en.walk en';by_cases hlt:n<wk.length
 .refine .inr ?_
  rw[ck hlt,Pv.Y5]at e';obtain⟨go,yl⟩:=r1.go n _ S' H' lat (en'.st st') hlt;refine#[go,I<|n+1,λσ2 H2 q=>#[wk.length-(n+1),kg _ _ hlt,rfl,hlt,q],λx H3 y=>?_]
  obtain⟨f3,st3,rp⟩:=yl x H3 y;have rx:=rp _<|ai hlt;have f3:Fut U H' U H3:=#[rfl,f3.keep];have hBn:B wk[n] l' os' S'=if(t.any<|lS os')=aj then(.no:Pv.PR Pv.FlV)else(Pv.po (Pv.Zo t wk[n] l') S').bind λU s=>Pv.rvs C ns ms U os' s:=by rw[<-hB]
  rw[hBn]at e';by_cases c:(t.any<|lS os')=aj
  .rw[T9 c]at e';exact e'.elim
  rw[T8 c]at e';cases ha:Pv.Zo t wk[n] l' with
  |none=>rw[ha]at e';exact e'.elim
  |some l2=>
   rw[ha]at e';refine(en'.mono f3).assign (by simpa using c) rx ha λσ2 e2=>#[U,_,W',l2,os',S',st3.unex,e2,?_]
   have e':ZC fr X.K xw U (QO H1 W) D ((Pv.rvs C ns ms l2 os' S').bind _):=e';cases q:Pv.rvs C ns ms l2 os' S' with
   |no=>rw[q]at e';exact e'
   |ex c S2=>rw[q]at e';exact e'
   |ok fl S2=>
    rw[q]at e';cases fl with|nx l3 os3=>exact λH4 σ4 W4 st4 lr4=>#[W4,l3,os3,S2,st4,lr4,e']|cnt l3 os3=>exact λH4 σ4 W4 st4 lr4=>#[W4,l3,os3,S2,st4,lr4,e']|ret d=>exact e'
 .refine .inl ?_
  have en2:n=wk.length:=by omega
  subst en2;rw[fc]at e';exact#[r1.stop _ S' H' lat<|en'.st st',e' H' σ' W' st' en']
def ZeT{body:List fg}{fr:Bool}{ns:List Nat}{ms:List Sm}{w:Ev.W}{t:List Nat}(hp:PassesOwn #[10] X.A X.env X.xe)(hc:X.calm=aj)(hw:CW X xw C tg it w)(hg:CG X tg t)(hb:CSs X xw fr C ns body ms)
  (hs:∀x,cc it X.env x=cF x):CS X xw fr C ns (.For tg it body [] pos) (.forr t w ms):=.mk <| PS.imp (Zf3 hp hc hw.h hg.h hb.h hs)<|by
 right;rw[Pv.QX]at h;refine#[U.ex W,Pv.hide os l,S,en.st st,en.hid,ZC.bindW en h λwk S1 H1 J f1 st1 r1 h1=>ZcP st1 (en.mono f1) r1 h1]
end
end
section
noncomputable def v8(env:Env):List (bq×eQ)->List (bq×aE)->List (bq×aE)
 |[],acc=>acc
 |x::r,acc=>v8 env r (if(x.2 == bI)=aj then(x.1,(env.cells.lookup x.1).getD 0)::acc else acc)
theorem Qg{env:Env}{f:bq×eQ->List (bq×aE)->oD (ForInStep<|List<|bq×aE)}:∀(names:List (bq×eQ))(acc:List (bq×aE)),
  (∀x∈names,∀c,f x c=cF (.yield (if(x.2 == bI)=aj then(x.1,(env.cells.lookup x.1).getD 0)::c else c)))->nU names acc f=cF (v8 env names acc)
 |[],acc,_=>rfl
 |x::r,acc,h=>by
  rw[mO,h x al,pure_bind];exact Qg r _ λy hy=>h y<|ao _ hy
theorem zd :∀(names:List (bq×eQ))(acc:List (bq×aE)),(v8 env names acc).lookup x=aa c->acc.lookup x=aa c\/(∃y∈names,y.1=x/\y.2=.free/\c=(env.cells.lookup x).getD 0)
 |[],acc,h=>.inl h
 |y::r,acc,h=>by
  rcases zd r _ h with h|⟨z,hz,e⟩
  .by_cases hf:(y.2 == bI)=aj
   .rw[T9 hf,bR]at h
    cases q:(x == y.1)with
    |true=>
     rw[q]at h;have e:=fJ q;exact .inr #[y,al,e.symm,fJ hf,by rw[e];exact(aq h).symm]
    |false=>rw[q]at h;exact .inl h
   .rw[T8 hf]at h;exact .inl h
  .exact .inr #[z,ao _ hz,e]
theorem zA :∀(names:List (bq×eQ))(acc:List (bq×aE)),(acc.lookup x).isSome=aj->((v8 env names acc).lookup x).isSome=aj
 |[],acc,h=>h
 |y::r,acc,h=>by
  refine zA r _ ?_;split
  .rw[bR]
   cases(x == y.1)with|true=>rfl|false=>exact h
  .exact h
theorem z5 :∀(names:List (bq×eQ))(acc:List (bq×aE)),(x,bI)∈names->((v8 env names acc).lookup x).isSome=aj
 |[],acc,h=>by cases h
 |y::r,acc,h=>by
  rcases ay.mp h with h|h
  .subst h
   refine zA r _ ?_;rw[T9 #[7],bR,beq_self_eq_true]
   rfl
  .exact z5 r _ h
def WJ{scope:dS}{env:Env}(h:∀y∈scope.names,y.2=.free->∃c,env.cells.lookup y.1=aa c) :
  ∃cl,iY scope env=cF cl/\(∀x c,cl.lookup x=aa c->env.cells.lookup x=aa c)/\∀x,(x,bI)∈scope.names->∃c,cl.lookup x=aa c:=by
 refine#[v8 env scope.names [],?_,λx c e=>?_,λx hx=>c7.mp<|z5 _ _ hx]
 .simp only[iY]
  rw[Qg (env:=env) scope.names [] (λx hx c=>by
   obtain⟨n,kind⟩:=x;by_cases hk:(kind == bI)=aj
   .obtain⟨a,ha⟩:=h (n,kind) hx (fJ hk)
    have ha':=ha;simp only[hk,if_true,cellOf,ha',pure_bind,Option.getD_some]
   .simp only[hk,if_false]
    rfl),pure_bind]
 .rcases zd _ _ e with e|⟨y,hy,e1,e2,e3⟩
  .cases e
  .obtain⟨a,ha⟩:=h y hy e2
   rw[e1]at ha;rw[e3,ha];rfl
theorem VN{x:bq}{c:aE}{lo:Nat}:∀(names:List (bq×eQ))(h:cy)(acc:List (bq×aE)),lo<=h.objs.size->(dE h.objs.size names acc).lookup x=aa c->
  ((x,da)∉names/\acc.lookup x=aa c)\/((x,da)∈names/\lo<=c/\(pE h names).IsCell c ae)
 |[],h,acc,_,e=>.inl #[by simp,e]
 |(name,kind)::r,h,acc,hlo,e=>by
  unfold dE at e;unfold pE;split at e
  .rename_i hk
   rw[T9 hk];have hk:=fJ hk;subst hk;rw[<-cH h {cls:=.type "cell",data:=.cell ae}]at e;rcases VN r (h.push {cls:=.type "cell",data:=.cell ae}) ((name,h.objs.size)::acc) (bW hlo<|by rw[cH];exact fN _) e with⟨e1,e2⟩|⟨e1,e2⟩
   .rw[bR]at e2
    cases hb:x == name with
    |true=>
     rw[hb]at e2;cases e2;have:=fJ hb;subst this;exact .inr #[al,hlo,_,mP _ _ _ _<|aR _ rfl,rfl]
    |false=>
     rw[hb]at e2;refine .inl #[λhm=>?_,e2]
     rcases ay.mp hm with q|q
     .cases q
      rw[beq_self_eq_true]at hb;cases hb
     .exact e1 q
   .exact .inr #[ao _ e1,e2]
  .rename_i hk
   rw[T8 hk];rcases VN r _ _ hlo e with⟨e1,e2⟩|⟨e1,e2⟩
   .refine .inl #[λhm=>?_,e2]
    rcases ay.mp hm with q|q
    .cases q
     exact hk rfl
    .exact e1 q
   .exact .inr #[ao _ e1,e2]
theorem VQ:∀(names:List (bq×eQ))(n:Nat)(acc:List (bq×aE)),(∀x c,acc.lookup x=aa c->c<n)->(∀x y c,acc.lookup x=aa c->acc.lookup y=aa c->x=y)->
  ∀x y c,(dE n names acc).lookup x=aa c->(dE n names acc).lookup y=aa c->x=y
 |[],n,acc,_,h=>h
 |(name,kind)::r,n,acc,hl,h=>by
  unfold dE;split
  .refine VQ r (n+1) _ (λx c e=>?_) λx y c e1 e2=>?_
   .rw[bR]at e
    split at e
    .cases e;exact iZ _
    .exact dW<|hl x c e
   .rw[bR]at e1 e2
    cases p:x == name<;>cases q:y == name<;>rw[p]at e1<;>rw[q]at e2
    .exact h x y c e1 e2
    .cases e2;exact T7 (hl x _ e1)<|bz _
    .cases e1;exact T7 (hl y _ e2)<|bz _
    .rw[fJ p,fJ q]
  .exact VQ r n acc hl h
theorem VR{x:bq}:∀(names:List (bq×eQ))(n:Nat)(acc:List (bq×aE)),(∃c,acc.lookup x=aa c)\/(x,da)∈names->∃c,(dE n names acc).lookup x=aa c
 |[],n,acc,h=>h.elim (λh=>h) λh=>by cases h
 |(name,kind)::r,n,acc,h=>by
  unfold dE;split
  .refine VR r _ _ ?_
   cases hb:x == name with
   |true=>exact .inl #[n,by rw[bR,hb]]
   |false=>
    rcases h with⟨c,e⟩|h
    .exact .inl #[c,by rw[bR,hb];exact e]
    .rcases ay.mp h with q|q
     .cases q
      rw[beq_self_eq_true]at hb;cases hb
     .exact .inr q
  .rename_i hk
   refine VR r _ _<|h.imp (λh=>h) λh=>?_
   rcases ay.mp h with q|q
   .cases q
    exact T7 rfl hk
   .exact q
def x5{M:Model}{A:cz}{E:au->aA->Prop}{s:aA}{scope:dS}{g:aE}{cl:List (bq×aE)}{q:bq}{env:Env}{Q:Env->aA->Prop}
  (h:Q (newEnv scope s.heap.objs.size g (dE (s.heap.objs.size+1) scope.names cl) q ae .none (aa env) n5) {s with heap:=pE (s.heap.push {cls:=.type "dict",data:=.dict #[]}) scope.names}) :
  bf M A (newFunctionEnv scope g cl [] q ae .none<|aa env) Q E s:=by
 simp only[newFunctionEnv,ow,if_true];refine ag<|wpAny_alloc ?_;refine ag<|wpAny_layCells _ (λname kind cells=>by cases hkc:kind == da<;>simp[hkc]) _ _ _ _ ?_
 rw[cH ..]
 exact aD h
def cxC(X:Cx)(N:List bq)(scope:dS)(cl:List (bq×aE))(s:aA)(H:Hp)(fp:List aE):Cx:=
 {X with N:=N,s₀:=s,H₀:=H,env:=compEnvC scope cl s.heap.objs.size X.env,outer:=X.stack,ex:=fp,fn:=λx=>scope.names.any λy=>y.2 == .cell&&y.1 == x,pn:=[],xe:=λ_ _=>False}
def PTs(X:Cx)(ifs:List Expr)(t:TT):Prop:=
 ∀(pq:List (aE×fW))(s:aA)(Z:L2.St)(H:Hp)(Q:Bool->Hp->Prop),Inv X pq Z H s->t Z H Q->
  bf #[10] X.A (nU ifs aj λc r=>if r=aj then do let ok <-isTrue c X.env (cu c X.env);cF (kr ok)else cF (kr r)) (TP X pq Z Q) X.xe s
def Zdm :PTs X [] (λZ H Q=>Q aj H):=λpq s Z H Q I h=>wpAny_tests_nil #[H,I,h]
def ZdF(h:PT X c t):PTs X [c] t:=λpq s Z H Q I hq=>wpAny_tests_one<|h pq s Z H Q I hq
structure CompScope(sc:dS)(N0:List bq)(scope:dS)(N:List bq)(cap:List Nat)(nl:Nat):Prop where
 kind:scope.kind=.function
 cell:∀y∈scope.names,y.2=.cell->(y.1,bI)∉scope.names
 names:∀y∈scope.names,y.2=.local->scope.names.lookup y.1=aa .local
 free:∀y∈scope.names,y.2=.free->sc.names.lookup y.1=aa .cell\/sc.names.lookup y.1=aa .free
 apart:∀y∈scope.names,y.2=.free->scope.names.lookup y.1≠aa .local
 len:N.length=nl+cap.length
 cap:∀p∈cap.zipIdx,N[nl+p.2]?=N0[p.1]?/\(N0[p.1]?).map (λx=>af<|(x,bI)∈scope.names)=aa aj
def CompScope.capt{sc:dS}{N0:List bq}{scope:dS}{N:List bq}{cap:List Nat}{nl:Nat}(h:CompScope sc N0 scope N cap nl)(i j:Nat)(e:cap[i]?=aa j):∃x,N[nl+i]?=aa x/\N0[j]?=aa x/\(x,bI)∈scope.names:=by
 have hm:(j,i)∈cap.zipIdx:=by
  rw[ku];exact e
 obtain⟨h1,h2⟩:=h.cap (j,i) hm;cases q:N0[j]? with
 |none=>rw[q]at h2;cases h2
 |some x=>
  rw[q]at h1 h2
  exact#[x,h1,rfl,T6<|aq h2]
noncomputable def Xk(cap:List Nat)(nl:Nat)(Z:L2.St):L2.St:=aJ nl ae++cap.map λi=>(Z[i]?).join
section
variable{X:Cx}{pq:List (aE×fW)}{Z:L2.St}{H:Hp}{s:aA}
theorem Vm{env:Env}{x:bq}:∀{names:List (bq×eQ)},(names.map λ(n,k)=>if(k == bI&&env.scope.kind == .function&&env.kindOf n == aa .cell)then(n,da)else(n,k)).lookup x=aa .cell\/
  (names.map λ(n,k)=>if(k == bI&&env.scope.kind == .function&&env.kindOf n == aa .cell)then(n,da)else(n,k)).lookup x=aa .free->(x,bI)∈names\/(x,da)∈names
 |[],h=>by rcases h with h|h<;>cases h
 |(n,k)::r,h=>by
  have ih:=@Vm env x r;rw[aX]at h;by_cases e:x=n
  .subst e
   by_cases c:(k == bI&&env.scope.kind == .function&&env.kindOf x == aa .cell)=aj
   .have:=(aC _ _).mp c
    rw[fJ ((aC _ _).mp this.1).1];exact .inl al
   .simp only[T8 c,bR,beq_self_eq_true,Option.some.injEq]at h
    rcases h with h|h
    .rw[h];exact .inr al
    .rw[h];exact .inl al
  .have hb:=beq_eq_false_iff_ne.mpr e
   refine(ih ?_).imp (ao _)<|ao _;by_cases c:(k == bI&&env.scope.kind == .function&&env.kindOf n == aa .cell)=aj
   .simpa only[T9 c,bR,hb]using h
   .simpa only[T8 c,bR,hb]using h
theorem Zbq{N:List bq}{scope:dS}{cl:List (bq×aE)}{fp:List aE}{cap:List Nat}{nl:Nat}{h1:cy}{tk:Nat}(I:Inv X pq Z H s)(CS:CompScope X.env.scope X.N scope N cap nl)(hN:X.N.Nodup)
  (c1:∀x c,cl.lookup x=aa c->((x,da)∉scope.names/\X.env.cells.lookup x=aa c)\/((x,da)∈scope.names/\s.heap.objs.size<=c/\h1.IsCell c ae))(c2:∀x,(x,bI)∈scope.names\/(x,da)∈scope.names->∃c,cl.lookup x=aa c)
  (c3:∀x y c,cl.lookup x=aa c->cl.lookup y=aa c->x=y)(hf:∀b∈fp,Vk X pq H b)(hb:∀b∈fp,∃o,s.heap.get? b=aa o)(hns:∃m,h1.Ns s.heap.objs.size m)(hk:∀b o,s.heap.get? b=aa o->h1.get? b=aa o) :
  Inv #[12] [] (Xk cap nl Z) H {s with heap:=h1,toks:=tk}:=by
 have bne:∀b∈fp,b≠s.heap.objs.size:=λb hb' e=>by
  obtain⟨o,ho⟩:=hb b hb';exact T7 (aQ ho) (by rw[e];exact bz _)
 refine#[#[I.ok.mod,CS.kind,I.ok.glob,I.ok.blt,aI _,c3,λx hx=>c2 x<|Vm hx,λx c h e=>?_,I.ok.hd,I.ok.frames,.inl rfl,
  λb hb'=>#[bne b hb',λx c e=>(c1 x c e).elim (λq=>(hf b hb').2.2.2.2.1 x c q.2) λq z=>?_],I.bs,bW I.ok.bsz I.sz,λb o e hb'=>?_,λb hb' hm=>?_,I.stack,I.stkFree],
  rfl,I.bare,Un.kept hk,?_,λx c e=>?_,I.hok.fresh<|aI _,λx c e=>(c1 x c e).elim (λq=>I.freeC x c q.2) λq=>I.hok.fresh q.2.1,λp hp=>T7 hp (by simp[cxC]),I.hok.kept hk,?_]
 .rcases c1 x c e with q|q
  .obtain⟨y,hy,e⟩:=fK.mp h
   obtain⟨e1,e2⟩:=(aC _ _).mp e;obtain⟨y,k⟩:=y;have a1:=fJ e1;have a2:y=x:=fJ e2;subst a1 a2;exact T7 hy q.1
  .exact q.2.1
 .obtain⟨o,ho⟩:=hb b hb'
  have:=aQ ho;rw[<-z]at this;exact T7 q.2.1<|Nat.not_le.mpr this
 .rcases(hf b hb').2.2.2.1 with z|z
  .exact I.ok.noex b o e z
  .exact T7 (aQ e)<|Nat.not_lt.mpr<|bW I.ok.bsz z
 .rcases ay.mp (I.stkSub b hm)with e|e
  .exact(hf b hb').2.1 e
  .exact(hf b hb').2.2.1 e
 .obtain⟨m1,hm1⟩:=hns
  refine#[m1,hm1,λi x v e1 e2 e3=>?_]
  obtain⟨m,hm,hl⟩:=I.loc;have hi:nl<=i:=by
   by_cases hi:nl<=i
   .exact hi
   .have z:(Xk cap nl Z)[i]?=aa ae:=by
     unfold Xk;rw[cg (by simp;lia),cB,T9 #[0]]
    rw[z]at e2;cases e2
  have e2':(cap.map λi=>(Z[i]?).join)[i-nl]?=aa (aa v):=by
   have:=e2;unfold Xk at this
   rwa [bP (by simp;exact hi),cS]at this
  rw[aU]at e2';cases hj:cap[i-nl]? with
  |none=>rw[hj]at e2';cases e2'
  |some j=>
   rw[hj]at e2';have hv:Z[j]?=aa (aa v):=by
    have:(Z[j]?).join=aa v:=aq e2';cases q:Z[j]? with
    |none=>rw[q]at this;cases this
    |some o=>rw[q]at this;cases o with|none=>cases this|some w=>cases this;rfl
   obtain⟨x',n1,n2,fr⟩:=CS.capt _ _ hj;have ex:x'=x:=by
    have:N[nl+(i-nl)]?=aa x:=by rw[show nl+(i-nl)=i by lia];exact e1
    rw[n1]at this;exact aq this
   subst ex;have kd:=CS.free _ fr rfl;have vis:Vis X.env.scope x':=by
    rcases kd with z|z
    .exact .inr<|.inl z
    .exact .inr<|.inr z
   obtain⟨u,r,lk⟩:=hl j x' v n2 hv vis;refine#[u,r,?_];rcases lk with⟨k,_⟩|⟨k,c,ec,hc⟩
   .have k':X.env.scope.names.lookup x'=aa .local:=k
    rcases kd with z|z<;>(rw[z]at k';cases k')
   .obtain⟨c',ec'⟩:=c2 x' (.inl fr)
    have ecc:c'=c:=by
     have:=(c1 x' c' ec').elim (λq=>q.2) λq=>T7 fr<|CS.cell _ q.1 rfl
     rw[ec]at this;exact(aq this).symm
    subst ecc;have vis2:=e3;refine .inr #[?_,c',ec',?_]
    .rcases vis2 with z|z|z
     .have z':=z
      exfalso
      have:∀(names:List (bq×eQ)),(∀y∈names,y.2=eQ.local->y.1≠x')->(names.map λ(n,k)=>if(k == bI&&X.env.scope.kind == .function&&X.env.kindOf n == aa .cell)then(n,da)else(n,k)).lookup x'≠aa .local:=by
       intro names
       induction names with
       |nil=>intro _ h;cases h
       |cons y r ih=>
        obtain⟨n,k⟩:=y;intro hy h;rw[aX]at h;by_cases e:x'=n
        .subst e
         by_cases c:(k == bI&&X.env.scope.kind == .function&&X.env.kindOf x' == aa .cell)=aj
         .simp only[T9 c,bR,beq_self_eq_true]at h;cases h
         .simp only[T8 c,bR,beq_self_eq_true]at h
          exact hy (x',k) al (aq h) rfl
        .have hb:=beq_eq_false_iff_ne.mpr e
         refine ih (λy hy'=>hy y<|ao _ hy') ?_
         by_cases c:(k == bI&&X.env.scope.kind == .function&&X.env.kindOf n == aa .cell)=aj
         .simp only[T9 c,bR,hb]at h;exact h
         .simp only[T8 c,bR,hb]at h;exact h
      refine this scope.names (λy hy hl e=>?_) z'
      have l1:=CS.names y hy hl;rw[e]at l1;exact CS.apart (x',.free) fr rfl l1
     .exact .inl z
     .exact .inr z
    .obtain⟨o,ho,hd⟩:=hc
     exact#[o,hk c' o ho,hd]
 .rcases c1 x c e with q|q
  .obtain⟨v,o,ho,hd⟩:=I.cell x c q.2
   exact#[v,o,hk c o ho,hd]
  .exact#[ae,q.2.2]
 .unfold Xk
  show _=N.length;rw[aN,cS,ax,CS.len]
end
abbrev TEm:=L2.St->Hp->(L2.St->Hp->Prop)->Prop
def yt(X:Cx)(act:oD Fin->oD Fin)(te:TEm):Prop:=
 ∀(pq:List (aE×fW))(s:aA)(Z:L2.St)(H:Hp)(Q:L2.St->Hp->Prop)(k:oD Fin)(QF:Fin->aA->Prop)(EE:au->aA->Prop),Inv X pq Z H s->te Z H Q->(∀s' σ' H',Inv X pq σ' H' s'->Q σ' H'->bf #[10] X.A k QF EE s')->
  bf #[10] X.A (act k) QF EE s
noncomputable def QG(ipos:gj)(tg:Expr)(ifs:List Expr)(act:oD Fin->oD Fin)(it:au)(env:Env)(c:Code):oD Fin:=do
 lD ipos
 match <-o7 it with
 |none=>cF<|.done .next
 |some v=>
  mM tg it v
  assign tg env v
  let mut ok:=aj
  for c in ifs do
   if ok then ok <-isTrue c env (cu c env)
  if ok then act (again c)else again c
def vU(J:It)(g:TG)(tt:TT)(te:TEm)(W:Nat->Nat->L2.St->Hp->Prop)(Q:L2.St->Hp->Prop):Prop:=∀i m σ' H',W i m σ' H'->
  (J.stop i H'/\Q σ' H')\/(J.go i H'/\∀x H'',J.yld i H' x H''->g x σ' H'' λσ2 H2=>tt σ2 H2 λok H3=>if ok=aj then te σ2 H3 λσ3 H4=>∃m',m'<m/\W (i+1) m' σ3 H4 else ∃m',m'<m/\W (i+1) m' σ2 H3)
def Jj{tn:Nat->cy->Prop}{Rr:pc->aA->Prop}{Q:L2.St->Hp->Prop}{W:Nat->Nat->L2.St->Hp->Prop}
  (hc:Y.calm=aj)(hx:∀a b,Y.xe a b->False)(hT:rV e depth (.ref it) acc Y.env=QG ipos tg ifs act (.ref it) Y.env (.compLoop e depth (.ref it) acc Y.env))(hquiet:(sG e depth (.ref it) acc Y.env).isFrame=ak)
  (hq:(sG e depth (.ref it) acc Y.env).quiet=aj)(T:Turn Y.prog Y.w Y.K tg J fp it tn)(hg:PG Y tg g)(ht:PTs Y ifs tt)(he:yt Y act te)(stat:∀{H':Hp},(∀b∈fp,H' b=ae)->∀b∈fp,Vk Y pq H' b)
  (turn:vU J g tt te W Q)(fin:∀Z H s,Inv Y pq Z H s->Q Z H->Rr (.ok .next) s)
  (I0:Inv Y pq Z H s)(st0:tn 0 s.heap)(fr0:∀b∈fp,H b=ae)(w0:W 0 m Z H)(hden:(aV Y.prog Y.w).den (.compLoop e depth (.ref it) acc Y.env)=(rV e depth (.ref it) acc Y.env).onRaise (λx=>do noteFrame x Y.env;theTreesLotGoes x))
  (hund:Y.A.under (.compLoop e depth (.ref it) acc Y.env)=Y.A):eT (aV Y.prog Y.w) Y.A (.compLoop e depth (.ref it) acc Y.env) Rr s:=by
 refine codeAny_loop hq (λn s'=>∃i σ' H',Inv Y pq σ' H' s'/\tn i s'.heap/\(∀b∈fp,H' b=ae)/\W i n σ' H') (λn s5 hI=>?_) m #[0,Z,H,I0,st0,fr0,w0]
 rw[hund,hden,hT];refine wpAny_noted ?_;obtain⟨i,σ5,H5,I5,st5,fr5,w5⟩:=hI;refine ag<|eY<|ag ?_;rcases turn i n σ5 H5 w5 with⟨stop,qn⟩|⟨go,step⟩
 .refine cW (T.done Y rfl rfl rfl hc i pq s5 σ5 H5 (λ_ _=>False) I5 (stat fr5) st5 stop) (λr s6 #[hr,I6]=>?_) λ_ _ h'=>h'.elim
  subst hr;exact aD<|fin σ5 H5 s6 I6 qn
 .refine cW (T.item Y rfl rfl rfl hc i pq s5 σ5 H5 (λ_ _=>False) I5 (stat fr5) st5 go) (λr s6 #[u,hr,h6]=>?_) λ_ _ h'=>h'.elim
  subst hr;refine ag<|cW h6 (λ_ s7 #[x,H7,I7,r7,y7,st7,fr7]=>?_) λ_ _ h'=>h'.elim
  have I7':=I7.pinned (stat fr7)<|T.obj _ _ st7;have back:∀{σ8:L2.St}{H8:Hp}{s8:aA}{m':Nat},Inv Y (pq++Qk fp s7.heap) σ8 H8 s8->m'<n->W (i+1) m' σ8 H8->∃m,m<n/\∃i σ' H',Inv Y pq σ' H' s8/\tn i s8.heap/\(∀b∈fp,H' b=ae)/\W i m σ' H':=λ{σ8 H8 s8 m'} I8 hm w8=>by
   refine#[m',hm,i+1,σ8,H8,I8.unpinned,T.keep _ _ _ st7 λb hb' o e=>(I8.pin (b,o)<|bt _<|bt _<|XD hb' e).1,λb hb'=>?_,w8]
   obtain⟨o,e,d⟩:=T.obj _ _ st7 b hb';exact(I8.pin (b,o)<|bt _<|bt _<|XD hb' e).2.1
  refine ag<|cW (hg _ s7 σ5 H7 x u _ I7' r7<|step x H7 y7) (λ_ s8 #[σ8,H8,I8,q8]=>?_) λ_ _ h'=>(hx _ _ h').elim
  refine ag<|cW (ht _ s8 σ8 H8 _ I8 q8) (λok s9 #[H9,I9,q9]=>?_) λ_ _ h'=>(hx _ _ h').elim
  cases ok with
  |false=>
   rw[T8 aS]at q9;obtain⟨m',hm,w9⟩:=q9;exact aD #[rfl,back I9 hm w9]
  |true=>
   rw[T9 rfl]at q9;exact he _ s9 σ8 H9 _ _ _ _ I9 q9<|by rintro s10 σ10 H10 I10 ⟨m',hm,w10⟩;exact aD #[rfl,back I10 hm w10]
def Qa{Y:Cx}{elt:Expr}{te:TE}{D:aE}(hx:∀a b,Y.xe a b->False)(he:PE Y elt te):yt Y (λk=>(do let _ <-call (.builtin "list.append") [.ref D,<-cu elt Y.env]:oD Unit) >>= λ_=>k) (λZ H Q=>te Z H λy H4=>∃ys,H4 D=aa (.lst ys)/\ys.length<bj/\Q Z (upd H4 D<|.lst<|ys++[y])):=by
 intro pq s Z H Q k QF EE I h hk;refine ag ?_;refine ag<|cW (he pq s Z H _ I h) (λxv s10 #[y,H10,I10,r10,ys,hDy,hz,q]=>?_) λ_ _ h'=>(hx _ _ h').elim
 refine ag<|cW (VM pq s10 Z H10 (.ref D) [y] (.ref D) [xv] (λv H'=>v=.non/\H'=upd H10 D (.lst<|ys++[y])) I10 rfl (.cons r10 .nil) #[D,ys,y,rfl,rfl,hDy,hz,rfl,rfl]) (λ_ s11 #[v11,H11,I11,_,_,eH]=>?_) λ_ _ h'=>(hx _ _ h').elim
 subst eH;exact aD<|hk _ _ _ I11 q
def xZ(wi:TI)(g:TG)(tt:TT)(te:aE->TEm)(cap:List Nat)(nl:Nat):TE:=λZ H Q=>wi Z H λJ H1=>∀D,H1 D=ae->∃W:Nat->Nat->L2.St->Hp->Prop,(∃m,W 0 m (Xk cap nl Z)<|upd H1 D<|.lst [])/\vU J g tt (te D) W λ_ H'=>Q (.ref D) H'
def ZaG(wi:TI)(g:TG)(tt:TT)(te:TE)(cap:List Nat)(nl:Nat):TE:=λZ H Q=>wi Z H λJ H1=>∀D,H1 D=ae->∃W:Nat->Nat->L2.St->Hp->Prop,(∃m,W 0 m (Xk cap nl Z)<|upd H1 D<|.lst [])/\∀i m σ' H',W i m σ' H'->
  (J.stop i H'/\Q (.ref D) H')\/(J.go i H'/\∀x H'',J.yld i H' x H''->g x σ' H'' λσ2 H2=>tt σ2 H2 λok H3=>if ok=aj then te σ2 H3 λy H4=>∃ys,H4 D=aa (.lst ys)/\ys.length<bj/\∃m',m'<m/\W (i+1) m' σ2 (upd H4 D<|.lst<|ys++[y])else ∃m',m'<m/\W (i+1) m' σ2 H3)
structure Gone(X:Cx)(pq:List (aE×fW))(H:Hp)(s:aA)(C:aE):Prop where
 free:H C=ae
 ns:∃m,s.heap.Ns C m
 loc:C≠X.env.locals
 big:X.s₀.heap.objs.size<=C
 cel:∀x c,X.env.cells.lookup x=aa c->c≠C
 pin:∀p∈X.pn++pq,p.1≠C
def VZ{tg iter elt:Expr}{ifs:List Expr}{scope:dS}{pos fpos:gj}{N:List bq}{cap:List Nat}{nl:Nat}{wi:TI}{g:TG}{tt:TT}{te:aE->TEm}{act:au->Env->oD Fin->oD Fin}{rest:List Comprehension}{pq:List (aE×fW)}{s:aA}{Z:L2.St}{H:Hp}{Q:VK}{use:Option (au->oD Unit)}{QQ:au->aA->Prop}(hc:X.calm=aj)(hN:X.N.Nodup)(CS:CompScope X.env.scope X.N scope N cap nl)(hi:PI X tg iter wi)
  (hT:∀it acc env,rV (.ListComp elt (#[tg,iter,ifs,0]::rest) scope pos) 0 it acc env=QG iter.pos tg ifs (act acc env) it env (.compLoop (.ListComp elt (#[tg,iter,ifs,0]::rest) scope pos) 0 it acc env))
  (hb:∀cl s H fp,PG #[12] tg g/\PTs #[12] ifs tt/\∀D,yt #[12] (act (.ref D) (cxC X N scope cl s H fp).env)<|te D)
  (hs:∀x,cc iter X.env x=cF x)(I:Inv X pq Z H s)(h:xZ wi g tt te cap nl Z H Q)
  (fin:∀D C H5 s6,Inv X pq Z H5 s6->Gone X pq H5 s6 C->Q (.ref D) H5->compPost #[10] X.A X.xe use QQ (.ref D) C (.ok .next) s6) :
  bf #[10] X.A (comprehension (.ListComp elt (#[tg,iter,ifs,0]::rest) scope pos) scope X.env fpos (newList []) ak (cu iter X.env) use) QQ X.xe s:=by
 obtain⟨cl,hcl,c1,c2⟩:=WJ λy hy hf=>I.ok.has y.1<|CS.free y hy hf
 refine wpAny_comprehension_free rfl hs hcl CS.kind CS.names ?_;refine thn (hi pq s Z H _ I h) λv s1 h1=>thn h1 λitv s2 h2=>?_
 obtain⟨it,fp,tn,J,H2,rfl,I2,T,st2,f2,q2⟩:=h2;obtain⟨W,⟨m0,w0⟩,turn⟩:=q2 s2.heap.objs.size<|I2.hok.fresh<|aI _;refine bT<|x5 ?_
 dsimp only
 have I3:Inv X pq Z (upd H2 s2.heap.objs.size<|.lst []) {s2 with heap:=s2.heap.push {cls:=.type "list",dict:=ae,data:=.seq ([]:List au).toArray},toks:=s2.toks}:=
  I2.laid (λb u e=>aw _ e) (aI _) #[eE _,[],0,.nil,aR _ rfl]
 generalize hD:s2.heap.objs.size=D at I3 w0 turn ⊢;generalize hs3:({s2 with heap:=s2.heap.push {cls:=.type "list",dict:=ae,data:=.seq ([]:List au).toArray},toks:=s2.toks}:aA)=s3 at I3
 have hh3:s2.heap.push {cls:=.type "list",dict:=ae,data:=.seq ([]:List au).toArray}=s3.heap:=by rw[<-hs3]
 rw[hh3];have old:∀b o,s2.heap.get? b=aa o->s3.heap.get? b=aa o:=λb o e=>by rw[<-hh3];exact aw _ e
 have neD:∀b∈fp,b≠D:=λb hb' e=>by
  obtain⟨o,ho,_⟩:=T.obj _ _ st2 b hb';exact T7 (aQ ho) (by rw[e,<-hD];exact bz _)
 have f3:∀b∈fp,Vk X pq (upd H2 D<|.lst []) b:=λb hb'=>#[by rw[Zj<|neD b hb'];exact(f2 b hb').1,(f2 b hb').2]
 generalize hh4:pE (s3.heap.push {cls:=.type "dict",data:=.dict #[]}) scope.names=h₁;have keep4:∀b o,s3.heap.get? b=aa o->h₁.get? b=aa o:=λb o e=>by rw[<-hh4];exact mP _ _ b o<|aw _ e
 have hns₁:∃m,h₁.Ns s3.heap.objs.size m:=#[_,by rw[<-hh4];exact(cy.Ns.new s3.heap<|.type "dict").keeps<|mP _ _]
 have lt3:∀x c,cl.lookup x=aa c->c<s3.heap.objs.size+1:=λx c e=>by
  obtain⟨v,q⟩:=I3.cell x c<|c1 x c e;exact dW q.lt
 have c3:=VQ scope.names _ cl lt3 λx y c h1 h2=>I.ok.inj x y c (c1 x c h1)<|c1 y c h2
 have c2':∀x,(x,bI)∈scope.names\/(x,da)∈scope.names->∃c,(dE (s3.heap.objs.size+1) scope.names cl).lookup x=aa c:=λx hx=>VR _ _ _<|hx.imp (c2 x) λh=>h
 have c1':∀x c,(dE (s3.heap.objs.size+1) scope.names cl).lookup x=aa c->((x,da)∉scope.names/\X.env.cells.lookup x=aa c)\/((x,da)∈scope.names/\s3.heap.objs.size<=c/\h₁.IsCell c ae):=λx c e=>by
  rw[<-cH s3.heap {cls:=.type "dict",data:=.dict #[]}]at e;refine(VN _ _ _ (by rw[cH];exact fN _) e).imp (λq=>#[q.1,c1 x c q.2]) λq=>?_
  rw[hh4]at q;exact q
 generalize dE (s3.heap.objs.size+1) scope.names cl=cl at c1' c2' c3;have I4:=Zbq (tk:=s2.toks) I3 CS hN c1' c2' c3 f3 (λb hb'=>let #[o,ho,_]:=T.obj _ _ st2 b hb';#[o,old b o ho]) hns₁ keep4
 have e4:({s3 with heap:=h₁,toks:=s2.toks}:aA)={s2 with heap:=h₁,toks:=s2.toks}:=by rw[<-hs3]
 rw[e4]at I4;obtain⟨hg,ht,he⟩:=hb cl s3 (upd H2 D<|.lst []) fp;generalize hY:cxC X N scope cl s3 (upd H2 D<|.lst []) fp=Y at I4 hg ht he;have yP:Y.prog=X.prog:=by rw[<-hY];rfl
 have stat:∀{H':Hp},(∀b∈fp,H' b=ae)->∀b∈fp,Vk Y [] H' b:=λhn b hb'=>by
  subst hY;refine#[hn b hb',λe=>?_,λhm=>?_,.inl hb',λx c e=>(c1' x c e).elim (λq=>(f3 b hb').2.2.2.2.1 x c q.2) λq z=>?_,λp hp=>T7 hp (by simp[cxC])]
  .obtain⟨o,ho,_⟩:=T.obj _ _ st2 b hb'
   have:=aQ<|old b o ho;rw[e]at this;exact T7 this<|bz _
  .rcases ay.mp (I3.stkSub b hm)with e|e
   .exact(f3 b hb').2.1 e
   .exact(f3 b hb').2.2.1 e
  .obtain⟨o,ho,_⟩:=T.obj _ _ st2 b hb'
   have:=aQ<|old b o ho;rw[<-z]at this;exact T7 q.2.1<|Nat.not_le.mpr this
 subst hY
 let Y:=cxC X N scope cl s3 (upd H2 D<|.lst []) fp
 have st4:=T.keep _ _ _ st2 λb hb' o e=>keep4 b o<|old b o e
 have fr4:=λb hb'=>(f3 b hb').1
 have loop:eT #[10] X.A (.compLoop (.ListComp elt (#[tg,iter,ifs,0]::rest) scope pos) 0 (.ref it) (.ref D)<|compEnvC scope cl s3.heap.objs.size X.env)
   (compPost #[10] X.A X.xe use QQ (.ref D) s3.heap.objs.size) {s2 with heap:=h₁,toks:=s2.toks}:=by
  refine Jj (Y:=cxC X N scope cl s3 (upd H2 D<|.lst []) fp) hc (λ_ _ z=>z) (hT _ _ _) rfl rfl T hg ht (he D) stat turn (λσ5 H5 s6 I6 qn=>?_) I4 st4 fr4 w0 rfl rfl
  obtain⟨m6,hn6,_⟩:=I6.loc;have u:=I6.base;have IX:=Inv.call' (s':=s6) I3 I6.os #[u.keep,u.slot,u.free,u.there,u.tups,u.frzs,u.tbls] I6.hok I6.bare λb hb'=>#[(f3 b hb').2.2.2.1,(f3 b hb').2.1,(f3 b hb').2.2.2.2.1,λp hp e=>(f3 b hb').2.2.2.2.2 p hp e]
  refine fin D s3.heap.objs.size H5 s6 IX #[I6.free,#[m6,hn6],Ne.symm<|bv I3.lt,I3.sz,λx c e z=>?_,λp hp z=>?_] qn
  .obtain⟨v,q⟩:=I3.cell x c e
   exact T7 q.lt (by rw[z];exact bz _)
  .exact T7 (aQ (I3.pin p hp).1) (by rw[z];exact bz _)
 subst hs3;exact codeAny_compStart_list loop<|T.self _ 0 _ _ _ st4 loop
def Gone.inv(G:Gone X pq H s C)(I:Inv X pq Z H s)(hsb:gJ C s.heap h'):Inv X pq Z H {s with heap:=h' }:=
 I.turned (t':=s.toks) (λb o hb e=>(hsb.2 b hb).trans e) G.free G.loc (.inr G.big) G.cel G.pin
def ZeQ(te:TE)(D:aE):TEm:=λZ H Q=>te Z H λy H4=>∃ys,H4 D=aa (.lst ys)/\ys.length<bj/\Q Z (upd H4 D<|.lst<|ys++[y])
def ZbX(hc:X.calm=aj)(hN:X.N.Nodup)(CS:CompScope X.env.scope X.N scope N cap nl)(hi:PI X tg iter wi)
  (hb:∀cl s H fp,PG #[12] tg g/\PTs #[12] ifs tt/\PE #[12] elt te)
  (hs:∀x,cc iter X.env x=cF x:=by intro _;rfl):PE X (.ListComp elt [#[tg,iter,ifs,0]] scope pos) (ZaG wi g tt te cap nl):=by
 intro pq s Z H Q I h;rw[eval_ListComp];refine VZ (act:=λacc env k=>(do let _ <-call (.builtin "list.append") [acc,<-cu elt env]:oD Unit) >>= λ_=>k) hc hN CS hi (λ_ _ _=>rfl) (λcl s H fp=>#[(hb cl s H fp).1,(hb cl s H fp).2.1,λD=>Qa (λ_ _ z=>z) (hb cl s H fp).2.2]) hs I h λD C H5 s6 I6 G q=>?_
 obtain⟨m6,hn6⟩:=G.ns;exact#[m6,hn6,λh' hsb=>#[.ref D,H5,G.inv I6 hsb,rfl,q]]
def ZaV(hc:X.calm=aj)(hN:X.N.Nodup)(CS:CompScope X.env.scope X.N scope N cap nl)(hi:PI X tg iter wi)
  (hb:∀cl s H fp,PG #[12] tg g/\PTs #[12] ifs tt/\PE #[12] elt te)
  (hsw:eZ (.ListComp elt [#[tg,iter,ifs,0]] scope pos) (aa<|.Name y py) spos.line X.env=cF aj)
  (hy:X.N[i]?=aa y)(hx:L2.Loc X.env.scope y)(hf:X.fn y=aj\/X.env.scope.names.lookup y=aa .local)
  (hs:∀x,cc iter X.env x=cF x:=by intro _;rfl):PS X (.Assign [.Name y py] (.ListComp elt [#[tg,iter,ifs,0]] scope pos) spos) (λD Z H=>ZaG wi g tt te cap nl Z H λv H1=>D.nx (Z.set i<|aa v) H1):=by
 intro pq s Z H D I h;rw[mW _ _ _ _ hsw];refine ag<|eY<|ag ?_;refine ag<|cW (VZ (Q:=λv H1=>D.nx (Z.set i<|aa v) H1) (act:=λacc env k=>(do let _ <-call (.builtin "list.append") [acc,<-cu elt env]:oD Unit) >>= λ_=>k) hc hN CS hi (λ_ _ _=>rfl) (λcl s H fp=>#[(hb cl s H fp).1,(hb cl s H fp).2.1,λD=>Qa (λ_ _ z=>z) (hb cl s H fp).2.2]) hs I h λA C H5 s6 I6 G q=>?_) (λ_ s' hq=>aD<|aD hq) λ_ _ e=>e
 refine lE<|VJ (v:=V.ref A) I6 hN hy hx rfl (λs7 I7 #[a,hsb,ha]=>?_) hf
 have hCa:C≠a:=by
  rcases ha with e|e
  .rw[e];exact G.loc
  .exact Ne.symm<|G.cel y a e
 obtain⟨m6,hn6⟩:=G.ns;have G7:Gone X pq H5 s7 C:=#[G.free,#[m6,hn6.sameBut hsb hCa],G.loc,G.big,G.cel,G.pin];exact#[m6,hn6.sameBut hsb hCa,λh' hs'=>#[Z.set i<|aa<|.ref A,H5,G7.inv I7 hs',q]]
def we(wi:TI)(g:TG)(tt:TT)(te:TEm):TEm:=λZ H Q=>wi Z H λJ H1=>∃W:Nat->Nat->L2.St->Hp->Prop,(∃m,W 0 m Z H1)/\vU J g tt te W Q
def xH(hc:Y.calm=aj)(hx:∀a b,Y.xe a b->False)(hi:PI Y t2 i2 wi)(hg:PG Y t2 g)(ht:PTs Y f2 tt)(he:yt Y act te)
  (hs:∀x,cc i2 Y.env x=cF x)
  (hstart:∀(it:au)(R:pc->aA->Prop)(s:aA),eT (aV Y.prog Y.w) Y.A (.compLoop (.ListComp elt gens scope pos) 1 it acc Y.env) R s->bf (aV Y.prog Y.w) Y.A (n8 it) (λit' s'=>eT (aV Y.prog Y.w) Y.A (.compLoop (.ListComp elt gens scope pos) 1 it' acc Y.env) R s') (notedBy (aV Y.prog Y.w) Y.A Y.env λx s'=>R (.error x) s') s->eT (aV Y.prog Y.w) Y.A (.compStart (.ListComp elt gens scope pos) 1 it acc Y.env) R s)
  (hT:∀it,rV (.ListComp elt gens scope pos) 1 it acc Y.env=QG i2.pos t2 f2 act it Y.env (.compLoop (.ListComp elt gens scope pos) 1 it acc Y.env)) :
  yt Y (λk=>do let x <-cu i2 Y.env;lD i2.pos;let x <-cc i2 Y.env x;let _ <-runOwn (.compStart (.ListComp elt gens scope pos) 1 (<-i8 [x] (n8 x)) acc Y.env) Y.env;k) (we wi g tt te):=by
 intro pq s Z H Q k QF EE I h hk;refine ag<|cW (hi pq s Z H _ I h) (λv s1 h1=>ag<|eY<|ag<|eF (hs v)<|ag<|cK<|cW h1 (λitv s2 h2=>?_) λ_ _ z=>(hx _ _ z).elim) λ_ _ z=>(hx _ _ z).elim
 obtain⟨it,fp,tn,J,H2,rfl,I2,T,st2,f2',W,⟨m0,w0⟩,turn⟩:=h2;have stat:∀{H':Hp},(∀b∈fp,H' b=ae)->∀b∈fp,Vk Y pq H' b:=λhn b hb=>#[hn b hb,(f2' b hb).2]
 have loop:eT (aV Y.prog Y.w) Y.A (.compLoop (.ListComp elt gens scope pos) 1 (.ref it) acc Y.env) (λr s'=>match r with|.ok f=>bf (aV Y.prog Y.w) Y.A k QF EE s'|.error x=>cameBackBy (aV Y.prog Y.w) Y.A Y.env EE x s') s2:=
  Jj hc hx (hT _) rfl rfl T hg ht he stat turn (λσ5 H5 s6 I6 qn=>hk s6 σ5 H5 I6 qn) I2 st2 (λb hb=>(f2' b hb).1) w0 rfl rfl
 exact ag<|wpAny_runOwn<|hstart _ _ _ loop<|T.self _ 0 _ _ _ st2 loop
def Zf4{R:pc->aA->Prop}
  (h0:eT #[8] A (.compLoop #[22] 1 it acc env) R s)
  (h:bf #[8] A (n8 it) (λit' s'=>eT #[8] A (.compLoop #[22] 1 it' acc env) R s') (notedBy #[8] A env λx s'=>R (.error x) s') s) :
  eT #[8] A (.compStart #[22] 1 it acc env) R s:=by
 refine codeAny_of_tree ?_;show bf _ _ ((compStart #[22] 1 it acc env).onRaise λx=>do noteFrame x env;lD theWindowsPlace) _ _ s
 refine wpAny_notedAt ?_;refine ag<|wpAny_askSetting<|wpAny_ite ?_;split
 .first|exact ag<|aD<|aD<|bh rfl h0|exact aD<|bh rfl h0
 .first|exact ag<|d6<|ag<|eY<|ag<|cW h (λit' s' h'=>aD<|bh rfl h') λ_ _ x=>x|(refine ag<|d6 ?_;exact ag<|eY<|ag<|cW h (λit' s' h'=>aD<|bh rfl h') λ_ _ x=>x)
def uD(hc:X.calm=aj)(hN:X.N.Nodup)(CS:CompScope X.env.scope X.N scope N cap nl)(hi:PI X t1 i1 wi)
  (hb:∀cl s H fp,PG #[12] t1 g1/\PTs #[12] f1 tt1/\PI #[12] t2 i2 wj/\PG #[12] t2 g2/\PTs #[12] f2 tt2/\PE #[12] elt te)
  (hsw:eZ #[22] (aa<|.Name y py) spos.line X.env=cF aj)
  (hy:X.N[i]?=aa y)(hx:L2.Loc X.env.scope y)(hf:X.fn y=aj\/X.env.scope.names.lookup y=aa .local)
  (hs:∀x,cc i1 X.env x=cF x:=by intro _;rfl)(hs2:∀env x,cc i2 env x=cF x:=by intro _ _;rfl) :
  PS X (.Assign [.Name y py] #[22] spos) (λD Z H=>xZ wi g1 tt1 (λD=>we wj g2 tt2<|ZeQ te D) cap nl Z H λv H1=>D.nx (Z.set i<|aa v) H1):=by
 intro pq s Z H D I h;rw[mW _ _ _ _ hsw];refine ag<|eY<|ag ?_;refine ag<|cW (VZ (act:=λacc env k=>do let x <-cu i2 env;lD i2.pos;let x <-cc i2 env x;let _ <-runOwn (.compStart #[22] 1 (<-i8 [x] (n8 x)) acc env) env;k) hc hN CS hi (λ_ _ _=>rfl) (λcl s H fp=>?_) hs I h λA C H5 s6 I6 G q=>?_) (λ_ s' hq=>aD<|aD hq) λ_ _ e=>e
 .obtain⟨a1,a2,a3,a4,a5,a6⟩:=hb cl s H fp
  exact#[a1,a2,λD=>xH hc (λ_ _ z=>z) a3 a4 a5 (Qa (λ_ _ z=>z) a6) (λx=>hs2 _ x) (λit R s k1 k2=>Zf4 k1 k2) λit=>rfl]
 refine lE<|VJ (v:=V.ref A) I6 hN hy hx rfl (λs7 I7 #[a,hsb,ha]=>?_) hf
 have hCa:C≠a:=by
  rcases ha with e|e
  .rw[e];exact G.loc
  .exact Ne.symm<|G.cel y a e
 obtain⟨m6,hn6⟩:=G.ns;have G7:Gone X pq H5 s7 C:=#[G.free,#[m6,hn6.sameBut hsb hCa],G.loc,G.big,G.cel,G.pin];exact#[m6,hn6.sameBut hsb hCa,λh' hs'=>#[Z.set i<|aa<|.ref A,H5,G7.inv I7 hs',q]]
open Ev (E Sm Fn Bop Cop Ty Bf Mf)
section
variable{X:Cx}{xw:Nat->Hp->Prop}{C:Calls}{e a b c tg it:Expr}{i j k:E}{pos p p' p2:gj}
structure CTs(X:Cx)(xw:Nat->Hp->Prop)(C:Calls)(ifs:List Expr)(is:List E):Prop where
 h:PTs X ifs (tB3 X xw<|Pv.pvt C is)
def PTs.imp{X:Cx}{e:List Expr}{t t':TT}(h:PTs X e t)(k:∀Z H Q,t' Z H Q->t Z H Q):PTs X e t':=λpq s Z H Q I q=>h pq s Z H Q I<|k Z H Q q
def Zb0:CTs X xw C [] []:=.mk <| PTs.imp Zdm<|by left;exact End.ok (h) st rfl
def Zds(Z:Lc)(S:Zv):Pv.pvt C [i] Z S=Pv.Y2 C i Z S:=by
 show((Pv.pv C i Z S).bind λx S=>(Pv.po (Pv.Zs x) S).bind λb S=>if b then Pv.pvt C [] Z S else .ok ak S)=(Pv.pv C i Z S).bind λx S=>Pv.po (Pv.Zs x) S
 congr 1
 funext x S
 cases Pv.Zs x with|none=>rfl|some b=>cases b<;>rfl
def ZbW(h:CT X xw C c i):CTs X xw C [c] [i]:=.mk <| PTs.imp (ZdF h.h)<|by left;exact #[U,l,S,st,lr,by rw[<-Zds];exact h]
def LocR.caught(lr:LocR U H l Z)(cap:List Nat)(nl:Nat):LocR U H (Pv.Z8 cap nl l) (Xk cap nl Z):=by
 refine#[by unfold Pv.Z8 Xk;simp,λn d e=>?_]
 unfold Pv.Z8 at e;by_cases hn:n<nl
 .rw[cg (by simp;exact hn),cB,T9 hn]at e
  cases e
 .rw[bP (by simp;omega),cS,aU]at e
  unfold Xk;rw[bP (by simp;omega),cS,aU]
  cases q:cap[n-nl]? with
  |none=>rw[q]at e;cases e
  |some m=>
   rw[q]at e;have e':(l[m]?).join=aa d:=aq e;have:l[m]?=aa (aa d):=by
    cases z:l[m]? with
    |none=>rw[z]at e';cases e'
    |some o=>rw[z]at e';cases o with|none=>cases e'|some w=>cases e';rfl
   obtain⟨v,hv,r⟩:=lr.val m d this;exact#[v,by show aa ((Z[m]?).join)=_;rw[hv];rfl,r]
noncomputable def Mx.at(U:Mx)(A:aE):Mx:=#[U.K,U.n0,λa=>U.X a\/a=A,λa h=>.inl<|U.xz a h]
def XN(U:Mx)(A:aE)(H H':Hp):Prop:=∀a o,a≠A->H a=aa o->H' a=aa o\/(U.n0=aa a/\∃xs,o=.lst xs)\/((∃ps,o=.tbl ps)/\∃ps,H' a=aa (.tbl ps))
def XN.trans(f:XN U A H H1)(g:XN U A H1 H2):XN U A H H2:=λa o n h=>(f a o n h).elim (g a o n) λz=>z.elim (λz=>.inr<|.inl z)<|by
 rintro ⟨e,ps,h⟩;rcases g a _ n h with q|⟨_,xs,q⟩|⟨_,q⟩
 .exact .inr<|.inr #[e,ps,q]
 .cases q
 .exact .inr<|.inr #[e,q]
def XN.of(f:Fut (U.at A) H ρ' H1):XN U A H H1:=λa o _ h=>f.keep a o h
structure CI(K:am)(U:Mx)(A:aE)(acc:List D)(l:Lc)(Z:L2.St)(H:Hp)(S:Zv):Prop where
 st:St3 K (U.at A) S H
 lr:LocR (U.at A) H l Z
 ac:∃us,H A=aa (.lst us)/\Rq (U.at A) H acc us
section
variable{K:am}{U:Mx}{A:aE}{acc:List D}{l l':Lc}{Z:L2.St}{H H':Hp}{S S':Zv}
def XN.lat(f:XN U A H H')(ha:H A=aa (.lst us)):Lat (U.at A) H (U.at A) H':=#[rfl,rfl,λa o h x n _=>by
 by_cases c:a=A
 .subst c;rw[ha]at h;cases h;exact T7 (.inr rfl)<|x us rfl
 .rcases f a o c h with z|⟨z,xs,e⟩|⟨⟨ps,e⟩,_⟩
  .exact z
  .exact T7 (.inl<|U.xz a z)<|x xs e
  .exact T7 e<|n ps,λ_ _ x=>x]
theorem CI.mono(h:CI K U A acc l Z H S)(na:U.n0≠aa A)(f:Fut (U.at A) H ρ' H')(st:St3 K (U.at A) S' H'):CI K U A acc l Z H' S':=by
 obtain⟨us,e,r⟩:=h.ac;cases f.eq;exact#[st,h.lr.mono f,us,(f.keep A _ e).elim id λz=>z.elim (λz=>T7 z.1 na)<|by rintro ⟨⟨_,z⟩,_⟩;exact (by cases z),r.mono f]
def ZeR{Q:L2.St->Hp->Prop}(lr:LocR U H l Z)(r:Rep U H d v)(e:Pv.Zo t d l=aa l')(q:∀σ',LocR U H l' σ'->Q σ' H):tGU K t v Z H Q:=by
 have fill:∀{t:List Nat}{vs:List D}{us:List V}{l l':Lc}{Z:L2.St},LocR U H l Z->Rq U H vs us->Pv.Y6 t vs l=aa l'->us.length=t.length/\LocR U H l' (QJ t us Z):=λ{t}=>by
  induction t with
  |nil=>intro vs us l l' Z h r e;cases vs with|nil=>rw[r];cases e;exact#[rfl,h]|cons _ _=>cases e
  |cons i t ih=>intro vs us l l' Z h r e;cases vs with
   |nil=>cases e
   |cons v vs=>
    obtain⟨d,ds,rfl,a,b⟩:=r;obtain⟨z,q⟩:=ih (h.set i a) b e;exact#[by rw[aG,aG,z],q]
 have gen:∀t:List Nat,(match Pv.ZaJ d with
   |some xs=>Pv.Y6 t xs l
   |none=>ae)=aa l'->∃a xs,v=.ref a/\(SqT K H a xs\/H a=aa #[35])/\xs.length=t.length/\Q (QJ t xs Z) H:=by
  intro t e;cases d with|tup vs=>obtain⟨p,ds,rfl,hp,rs⟩:=r.tup';obtain⟨z,y⟩:=fill lr rs e;exact#[p,ds,rfl,.inl<|SqT.of hp,z,q _ y]|lst vs=>obtain⟨p,ds,rfl,hp,_,rs⟩:=r.lst';obtain⟨z,y⟩:=fill lr rs e;exact#[p,ds,rfl,.inr hp,z,q _ y]|_=>cases e
 match t,e with
 |[i],e=>cases e;exact q _<|lr.set i r
 |[],e=>exact gen [] e
 |i::j::t,e=>exact gen (i::j::t) e
theorem Jr:∀{t:List Nat}{vs:List D}{l l':Lc},Pv.Y6 t vs l=aa l'->l'.length=l.length/\∀j,j∉t->l'[j]?=l[j]?
 |[],[],l,l',h=>by cases h;exact#[rfl,λ_ _=>rfl]
 |[],_::_,_,_,h=>by cases h
 |_::_,[],_,_,h=>by cases h
 |i::t,v::vs,l,l',h=>by
  obtain⟨a,b⟩:=Jr (t:=t) h;exact#[by rw[a,bC],λj hj=>by rw[b j λz=>hj<|ao _ z,bg λz=>hj (by rw[z];exact al ..)]]
def Uf(e:Pv.Zo t v l=aa l'):l'.length=l.length/\∀j,j∉t->l'[j]?=l[j]?:=by
 have gen:∀t:List Nat,(match Pv.ZaJ v with
   |some xs=>Pv.Y6 t xs l
   |none=>ae)=aa l'->l'.length=l.length/\∀j,j∉t->l'[j]?=l[j]?:=λt e=>by
  cases q:Pv.ZaJ v with|none=>rw[q]at e;cases e|some xs=>rw[q]at e;exact Jr e
 match t,e with
 |[i],e=>cases e;exact#[bC ..,λj hj=>bg λz=>hj (by rw[z];exact al ..)]
 |[],e=>exact gen [] e
 |i::j::t,e=>exact gen (i::j::t) e
def LocR.back(e:Pv.Zo t v l=aa l')(hn:∀i∈t,∀d,l[i]?≠aa (aa d))(lr:LocR U H l' Z):LocR U H l Z:=by
 obtain⟨a,b⟩:=Uf e;exact#[by rw[<-a];exact lr.len,λi d q=>lr.val i d (by rw[b i λz=>hn i z d q];exact q)]
end
def jM(C:Calls)(t:List Nat)(is:List E)(G:Lc->Zv->R (List D))(l:Lc)(x:D)(S:Zv):R (List D):=(Pv.po (Pv.Zo t x l) S).bind λl S=>(Pv.pvt C is l S).bind λb S=>if b then G l S else .ok [] S
def Uw{B β:Type}{r:R B}{f:B->Zv->R β}{b:β}{S:Zv}(h:r.bind f=.ok b S):∃a S1,r=.ok a S1/\f a S1=.ok b S:=by
 cases r with|ok a S1=>exact#[a,S1,rfl,h]|ex _ _=>cases h|no=>cases h
def uC(h:Pv.mapP f (x::w) S=.ok rs S2):∃y S1 zs,f x S=.ok y S1/\Pv.mapP f w S1=.ok zs S2/\rs=y++zs:=by
 rw[Pv.mapP]at h;split at h
 .split at h
  .cases h;exact#[_,_,_,‹_›,‹_›,rfl]
  .cases h
 .cases h
def Zhv(K:am)(U:Mx)(A:aE)(P:Lc->Prop)(te:TEm)(G:Lc->Zv->R (List D)):Prop:=∀acc l Z H S ys S2 QQ,P l->CI K U A acc l Z H S->G l S=.ok ys S2->(acc++ys).length<=Ev.lim->(∀σ3 H3,XN U A H H3->CI K U A (acc++ys) l σ3 H3 S2->QQ σ3 H3)->te Z H QQ
def Qo{U ρw:Mx}{A:aE}{Hw:Hp}{w:List D}{J:It}(r:WRel X.K ρw Hw w J)(na:U.n0≠aa A){t:List Nat}{is:List E}{te:TEm}{G:Lc->Zv->R (List D)}{P:Lc->Prop}(em:Zhv X.K U A P te G){l:Lc}(hn:∀i∈t,∀d,l[i]?≠aa (aa d))(hP:∀x l2,Pv.Zo t x l=aa l2->P l2){acc ys:List D}{Z:L2.St}{H:Hp}{S S2:Zv}{QQ:L2.St->Hp->Prop}
  (hl:∀H',XN U A H H'->Lat ρw Hw (U.at A) H')(c:CI X.K U A acc l Z H S)(h:Pv.mapP (jM C t is G l) w S=.ok ys S2)(hz:(acc++ys).length<=Ev.lim)(k:∀σ3 H3,XN U A H H3->CI X.K U A (acc++ys) l σ3 H3 S2->QQ σ3 H3) :
  ∃W:Nat->Nat->L2.St->Hp->Prop,(∃m,W 0 m Z H)/\vU J (tGU X.K t) (tB3 X nx<|Pv.pvt C is) te W QQ:=by
 refine#[λn m σ' H'=>m=w.length-n/\n<=w.length/\XN U A H H'/\∃ac rs S',ac++rs=acc++ys/\Pv.mapP (jM C t is G l) (w.drop n) S'=.ok rs S2/\CI X.K U A ac l σ' H' S',#[w.length,rfl,eE _,λ_ _ _ h=>.inl h,acc,ys,S,rfl,h,c],?_]
 rintro n m σ' H' ⟨rfl,hn',ff,ac,rs,S',ea,e',c'⟩
 have lat:=hl H' ff;by_cases hlt:n<w.length
 .refine .inr ?_
  rw[ck hlt]at e';obtain⟨y1,S1,r1,q1,q2,rfl⟩:=uC e';obtain⟨go,yl⟩:=r.go n _ S' H' lat c'.st hlt;refine#[go,λx H3 y=>?_]
  obtain⟨f3,st3,rp⟩:=yl x H3 y;have rx:=rp _<|ai hlt;obtain⟨l2,Sa,ha,q1⟩:=Uw q1;obtain⟨b,Sb,hb,q1⟩:=Uw q1;have hal:Pv.Zo t w[n] l=aa l2/\Sa=S':=by
   cases z:Pv.Zo t w[n] l<;>rw[z]at ha<;>cases ha;exact#[rfl,rfl]
  obtain⟨hal,rfl⟩:=hal;have ff3:=ff.trans<|XN.of f3;have c3:=c'.mono na f3 st3;refine ZeR c3.lr rx hal λσ2 lr2=>#[U.at A,l2,Sa,st3,lr2,?_]
  rw[hb];intro ρ4 H4 b' f4 st4 eb;have eb:b=b':=eb;subst eb;cases f4.eq;have ff4:=ff3.trans<|XN.of f4;have c4:=c3.mono na f4 st4;cases b with
  |false=>
   rw[T8 aS]at q1 ⊢;cases q1;exact#[w.length-(n+1),kg _ _ hlt,rfl,hlt,ff4,ac,r1,_,ea,q2,c4.st,(lr2.mono f4).back hal hn,c4.ac]
  |true=>
   rw[T9 rfl]at q1 ⊢;refine em ac l2 σ2 H4 Sb y1 S1 _ (hP _ _ hal) #[c4.st,lr2.mono f4,c4.ac] q1 ?_ λσ3 H5 f5 c5=>#[w.length-(n+1),kg _ _ hlt,rfl,hlt,ff4.trans f5,ac++y1,r1,S1,by rw[bu];exact ea,q2,c5.st,c5.lr.back hal hn,c5.ac]
   rw[<-ea]at hz;simp only[aN]at hz ⊢;omega
 .refine .inl ?_
  have en:n=w.length:=by omega
  subst en;rw[fc]at e';cases e';rw[bO]at ea;subst ea;exact#[r.stop _ _ H' lat c'.st,k σ' H' ff c']
def ZaT{U:Mx}{A:aE}(na:U.n0≠aa A)(ie:E):Zhv X.K U A (λ_=>True) (ZeQ (tE X nx<|Pv.pv C ie) A) (λl S=>(Pv.pv C ie l S).bind λy S=>.ok [y] S):=λacc l Z H S ys S2 QQ _ c h hz k=>by
 obtain⟨y,S1,hy,h⟩:=Uw h;cases h;refine#[U.at A,l,S,c.st,c.lr,?_];rw[hy];intro ρ4 H4 v f4 st4 r4;cases f4.eq;have c4:=c.mono na f4 st4;obtain⟨us,e,r⟩:=c4.ac;rw[aN]at hz;have hz:acc.length+1<=Ev.lim:=hz;have fa:XN U A H4 (upd H4 A<|.lst<|us++[v]):=λa o n h=>.inl (by rw[Zj n];exact h)
 have lt:=fa.lat e;refine#[us,e,by rw[r.length,<-X8];omega,k Z _ ((XN.of f4).trans fa) #[#[st4.hk,λb x=>?_,λb x=>?_,st4.tb.upd (λo u z=>by rw[e]at z;cases z) λ_ z=>by cases z],#[c4.lr.len,λi d q=>let #[u,a,b]:=c4.lr.val i d q;#[u,a,b.lat lt]],_,Zn,(r.lat lt).append<|Rq.cons (r4.lat lt) Rq.nil]]
 .by_cases z:b=A
  .rw[z,Zn];intro q;cases q
  .rw[Zj z];exact st4.xd b x
 .rw[Zj λz=>na (by rw[<-z];exact x)];exact st4.dw b x
def wz(st:St3 X.K U S H)(lr:LocR U H l Z)(hA:H A=ae):U.n0≠aa A/\CI X.K U A [] l Z (upd H A<|.lst []) S/\∀H',XN U A (upd H A<|.lst []) H'->Fut U H U H'/\Lat U H (U.at A) H':=by
 have ne:∀a,H a≠ae->a≠A:=λa h z=>h<|z▸hA
 have f:∀H',XN U A (upd H A<|.lst []) H'->Fut U H U H'/\Lat U H (U.at A) H':=λH' g=>by
  have f:Fut U H U H':=#[rfl,λa o h=>g a o (ne a<|by rw[h];intro z;cases z) (by rw[Zj<|ne a (by rw[h];intro z;cases z)];exact h)]
  exact#[f,rfl,rfl,f.lat.keep',λa h x=>x.elim id λz=>T7 z<|ne a h]
 have s:=st.fresh (o:=.lst []) hA;obtain⟨f1,lt⟩:=f _ λ_ _ _ h=>.inl h
 refine#[λz=>st.xd A (U.xz A z) hA,#[#[s.hk,λb x=>x.elim (s.xd b) λz=>(by rw[z,Zn];intro q;cases q),s.dw,s.tb],#[lr.len,λi d q=>let #[u,a,b]:=lr.val i d q;#[u,a,b.lat lt]],[],Zn,Rq.nil],f]
def VU{l:Lc}{cap:List Nat}{nl i:Nat}(h:i<nl)(v:D):(Pv.Z8 cap nl l)[i]?≠aa (aa v):=by
 unfold Pv.Z8;rw[cg (by simpa using h),cB,T9 h]
 intro z;cases z
def zG(f0:Fut U H0 U H)(hA:H A=ae)(st:St3 X.K U S H)(f:Fut U H U H')(c:CI X.K U A ys l Z H' S')(h:End X.K nx (Xx aj H0) U H Q (.ok (.lst ys) S')):Q (.ref A) H':=by
 obtain⟨us,e,r⟩:=c.ac;have lt:Lat (U.at A) H' U H':=#[rfl,rfl,λ_ _ h _ _ _=>h,λ_ _ x=>.inl x]
 refine h U H' _ f #[c.st.hk,λb x=>c.st.xd b<|.inl x,c.st.dw,c.st.tb] #[Xb e (st.nx hA)<|r.lat lt,λ_ _ _=>#[A,rfl,f0.new hA st.xd]]
def zk{K:am}{rep:Mx->Hp->D->V->Prop}{U:Mx}{H:Hp}{Q:VK}{r:R (List D)}(h:End K xw rep U H Q (r.bind λys s=>if ys.length<=Ev.lim then Pv.PR.ok (.lst ys) s else .no).nox):∃ys S,r=.ok ys S/\ys.length<=Ev.lim/\End K nx rep U H Q (.ok (.lst ys) S):=by
 cases r with
 |no=>exact h.elim
 |ex c S=>exact h.elim
 |ok ys S=>
  have h:=End.nox h
  obtain⟨hl,h⟩:=End.guard h;exact#[ys,S,rfl,hl,h]
def zQ{is:List E}{ie:E}{cap:List Nat}{nl:Nat}{w:Ev.W}{t:List Nat}{Z:L2.St}{H:Hp}{Q:VK}(hyp:tF X xw (Pv.pv C<|.comp1 cap nl t w is ie) Z H Q):ZaG (tW3 X xw<|Pv.pvw C w) (tGU X.K t) (tB3 X nx<|Pv.pvt C is) (tE X nx<|Pv.pv C ie) cap nl Z H Q:=by
 obtain⟨U,l,S,st,lr,h⟩:=hyp;rw[Pv.jV]at h;obtain⟨ho,h⟩:=End.guard h;refine#[U,l,S,st,lr,h.bind λwk S1 ρ1 H1 J f1 st1 r1 h1=>λA hA=>?_]
 cases f1.eq;obtain⟨ys,S2,hm,hl,h1⟩:=zk h1;obtain⟨na,ci,ft⟩:=wz st1 ((lr.mono f1).caught cap nl) hA;exact Qo (C:=C) (G:=λl S=>(Pv.pv C ie l S).bind λy S=>.ok [y] S) r1 na (ZaT na ie) (λi hi d=>VU (T6<|aY.mp ho i hi) d) (λ_ _ _=>dU) (λH' f=>(ft H' f).2) ci hm hl λσ3 H3 f3 c3=>zG f1 hA st1 (ft H3 f3).1 c3 h1
def ud{is js:List E}{ie:E}{cap:List Nat}{nl:Nat}{w w2:Ev.W}{t u:List Nat}{Z:L2.St}{H:Hp}{Q:VK}(hyp:tF X xw (Pv.pv C<|.comp2 cap nl t w is u w2 js ie) Z H Q) :
  xZ (tW3 X xw<|Pv.pvw C w) (tGU X.K t) (tB3 X nx<|Pv.pvt C is) (λD=>we (tW3 X nx<|Pv.pvw C w2) (tGU X.K u) (tB3 X nx<|Pv.pvt C js)<|ZeQ (tE X nx<|Pv.pv C ie) D) cap nl Z H Q:=by
 obtain⟨U,l,S,st,lr,h⟩:=hyp;rw[Pv.Zg5]at h;obtain⟨ho,h⟩:=End.guard h;obtain⟨ho,hu⟩:=(aC _ _).mp ho;refine#[U,l,S,st,lr,h.bind λwk S1 ρ1 H1 J f1 st1 r1 h1=>λA hA=>?_]
 cases f1.eq;obtain⟨ys,S2,hm,hl,h1⟩:=zk h1;obtain⟨na,ci,ft⟩:=wz st1 ((lr.mono f1).caught cap nl) hA;have hu:∀i∈u,i<nl/\i∉t:=λi hi=>by
  have:=(aC _ _).mp<|aY.mp hu i hi;exact#[T6 this.1,by simpa using this.2]
 refine Qo (C:=C) (P:=λl=>∀i∈u,∀d,l[i]?≠aa (aa d)) (G:=λl S=>(Pv.pvw C w2 l S).bind λwk S=>Pv.mapP (jM C u js (λl S=>(Pv.pv C ie l S).bind λy S=>.ok [y] S) l) wk S) r1 na (λacc l Z H S ys S2 QQ pl c h hz k=>?_) (λi hi d=>VU (T6<|aY.mp ho i hi) d) (λx l2 e i hi d=>?_) (λH' f=>(ft H' f).2) ci hm hl λσ3 H3 f3 c3=>zG f1 hA st1 (ft H3 f3).1 c3 h1
 .obtain⟨wk2,S5,hw,h⟩:=Uw h
  refine#[U.at A,l,S,c.st,c.lr,?_];rw[hw];intro ρ5 H5 J5 f5 st5 r5;cases f5.eq;have c5:=c.mono na f5 st5;obtain⟨us,e,_⟩:=c5.ac;exact Qo (C:=C) r5 na (ZaT na ie) pl (λ_ _ _=>dU) (λH' f=>f.lat e) c5 h hz λσ3 H3 f3 c3=>k σ3 H3 ((XN.of f5).trans f3) c3
 .rw[(Uf e).2 i (hu i hi).2]
  exact VU (hu i hi).1 d
def jZ{elt:Expr}{ifs:List Expr}{is:List E}{ie:E}{scope:dS}{N:List bq}{cap:List Nat}{nl:Nat}{w:Ev.W}{t:List Nat}(hc:X.calm=aj)(hN:X.N.Nodup)(CSc:CompScope X.env.scope X.N scope N cap nl)(hi:CW X xw C tg it w)
  (hb:∀cl s H fp,CG #[12] tg t/\CTs #[12] nx C ifs is/\CE #[12] nx C elt ie)
  (hs:∀x,cc it X.env x=cF x):CF X xw C (.ListComp elt [#[tg,it,ifs,0]] scope pos) (.comp1 cap nl t w is ie):=.mk <|
 PE.imp (ZbX hc hN CSc hi.h (λcl s H fp=>have#[a,b,c]:=hb cl s H fp;#[a.h,b.h,c.h]) hs) λZ H Q hyp=>zQ hyp
def jc{fr:Bool}{ns:List Nat}{elt:Expr}{ifs:List Expr}{is:List E}{ie:E}{scope:dS}{N:List bq}{cap:List Nat}{nl:Nat}{w:Ev.W}{t:List Nat}{n:Nat}{y:bq}{spos py:gj}(hc:X.calm=aj)(hN:X.N.Nodup)(CSc:CompScope X.env.scope X.N scope N cap nl)(hi:CW X xw C tg it w)
  (hb:∀cl s H fp,CG #[12] tg t/\CTs #[12] nx C ifs is/\CE #[12] nx C elt ie)
  (hsw:eZ (.ListComp elt [#[tg,it,ifs,0]] scope pos) (aa<|.Name y py) spos.line X.env=cF aj)
  (hy:X.N[n]?=aa y)(hx:L2.Loc X.env.scope y)(hf:X.fn y=aj\/X.env.scope.names.lookup y=aa .local)
  (hs:∀x,cc it X.env x=cF x):CS X xw fr C ns (.Assign [.Name y py] (.ListComp elt [#[tg,it,ifs,0]] scope pos) spos) (.asg [n]<|.comp1 cap nl t w is ie):=.mk <|
 PS.imp (ZaV hc hN CSc hi.h (λcl s H fp=>have#[a,b,c]:=hb cl s H fp;#[a.h,b.h,c.h]) hsw hy hx hf hs)<|by right;exact zQ<|ZeL st en h
def uN{fr:Bool}{ns:List Nat}{elt t1 i1 t2 i2:Expr}{f1' f2':List Expr}{is js:List E}{ie:E}{scope:dS}{N:List bq}{cap:List Nat}{nl:Nat}{w w2:Ev.W}{t u:List Nat}{n:Nat}{y:bq}{spos py:gj}(hc:X.calm=aj)(hN:X.N.Nodup)(CSc:CompScope X.env.scope X.N scope N cap nl)(hi:CW X xw C t1 i1 w)
  (hb:∀cl s H fp,CG #[12] t1 t/\CTs #[12] nx C f1' is/\CW #[12] nx C t2 i2 w2/\CG #[12] t2 u/\CTs #[12] nx C f2' js/\CE #[12] nx C elt ie)
  (hsw:eZ (.ListComp elt [#[t1,i1,f1',0],#[t2,i2,f2',0]] scope pos) (aa<|.Name y py) spos.line X.env=cF aj)
  (hy:X.N[n]?=aa y)(hx:L2.Loc X.env.scope y)(hf:X.fn y=aj\/X.env.scope.names.lookup y=aa .local)
  (hs:∀x,cc i1 X.env x=cF x)(hs2:∀env x,cc i2 env x=cF x) :
  CS X xw fr C ns (.Assign [.Name y py] (.ListComp elt [#[t1,i1,f1',0],#[t2,i2,f2',0]] scope pos) spos) (.asg [n]<|.comp2 cap nl t w is u w2 js ie):=.mk <|
 PS.imp (uD hc hN CSc hi.h (λcl s H fp=>have#[a,b,c,d,e,f]:=hb cl s H fp;#[a.h,b.h,c.h,d.h,e.h,f.h]) hsw hy hx hf hs hs2)<|by right;exact ud<|ZeL st en h
end
theorem LocR.start(r:Rq U H ds vs)(N:List bq)(n:Nat)(hn:n=N.length):LocR U H (Pv.ZL n ds) (L2.start N vs):=by
 subst hn;have hl:=r.length;refine#[by unfold Pv.ZL L2.start;simp[hl],λi d e=>?_]
 unfold Pv.ZL at e;by_cases hi:i<ds.length
 .rw[cg (by simpa using hi),aU]at e
  cases q:ds[i]? with
  |none=>rw[q]at e;cases e
  |some d'=>
   rw[q]at e;cases e;obtain⟨v,hv,r'⟩:=r.get q;refine#[v,?_,r'];unfold L2.start;rw[cg (by simp;lia),aU,hv]
   rfl
 .rw[bP (by simp;lia),cB]at e
  split at e<;>cases e
theorem Eu.start{K:am}{U:Mx}{H:Hp}{S:Zv}{ds:List D}{vs:List V}(st:St3 K U S H)(r:Rq U H ds vs)(N:List bq)(n:Nat)(hn:n=N.length):Eu U H (λ_=>ae) (Pv.ZL n ds) [] (L2.start N vs) H:=by
 have lr:=LocR.start r N n hn;refine#[Fut.refl _ _,st.xd,lr.len,λ_=>rfl,λ_ _ _ h=>?_,λ_ _ h=>?_,λ_ _ h=>?_,λi d e _=>?_]
 .cases h
 .cases h
 .cases h
 .obtain⟨v,a,b⟩:=lr.val i d e
  exact#[v,a,Rep.lat (U:=U) (ρ':=U.ex λ_=>ae) #[rfl,rfl,λ_ _ h _ _ _=>h,λ_ _ x=>Or.elim x id λ#[_,z]=>by cases z] b]
section
variable{P:bE}{w:bZ}{K:am}{mg:bq->Option au}{base:cy}
def GA(C:Calls)(fn:Fn)(ds:List D)(S:Zv):R D:=if ds.length=fn.ps then(Pv.rvs C (Pv.muts fn.body) fn.body (Pv.ZL fn.ns ds) [] S).bind λf S=>match f with
  |.ret x=>.ok x S
  |.nx _ _=>.ok .non S
  |_=>.no
 else .no
def yF{C:Calls}{fn:Fn}{fr:Bool}{xw:Nat->Hp->Prop}{U:Mx}{H:Hp}{ds:List D}{S:Zv}{Q:VK}{E:L2.Ends}(hE:∀v H',Q v H'->E.rt v H')(hN:∀Z H',Q .non H'->E.nx Z H')(h:End K xw (Xx fr H) U H Q (GA C fn ds S)):ZC fr K xw U H E (Pv.rvs C (Pv.muts fn.body) fn.body (Pv.ZL fn.ns ds) [] S):=by
 obtain⟨_,h⟩:=End.guard h;cases q:Pv.rvs C (Pv.muts fn.body) fn.body (Pv.ZL fn.ns ds) [] S with
 |no=>rw[q]at h;exact h
 |ex c S2=>rw[q]at h;exact λH' f st=>h U H' f st
 |ok fl S2=>
  rw[q]at h;cases fl with|ret x=>exact λH' v f st r=>hE v H'<|h U H' v f st r|nx l os=>exact λH' σ' W' st en=>hN σ' H'<|h U H' .non en.fut st #[UI,λ_ _ z=>by cases z]|cnt l os=>exact False.elim h
end
section
variable{prog:bE}{w:bZ}{A:cz}{E:au->aA->Prop}{s:aA}
theorem uR(n:Nat):c6 ((n:Int)-1) (-1) (-1)=n:=by
 unfold c6;have h1:¬((-1:Int)>0):=by decide
 rw[T8 h1];by_cases h:(n:Int)-1 > -1
 .rw[T9 h,show(- -1:Int)=1 by decide,Int.ediv_one]
  lia
 .rw[T8 h]
  lia
def VP{sl:aE}{vk:au}{n:Nat}{Q:Int×Int×Nat->aA->Prop}(hs:s.heap.IsSliceOf sl .none .none vk)(pk:kT vk (aa<|-1))
  (h:Q ((n:Int)-1,-1,n) s):bf #[8] A (kW (.ref sl)<|cF (n:Int)) Q E s:=by
 obtain⟨os,hos,hcs,hds⟩:=id hs;refine ag<|ag<|cC hos hds rfl<|ag<|cC hos hds rfl<|ag<|cC hos hds rfl<|aD ?_;refine ag<|HT.WU pk ?_;show bf _ _ (if((-1:Int) == 0)=aj then _ else _) _ _ s
 rw[T8 #[1]]
 refine ag<|kU<|ag<|kU<|ag<|aD ?_;show bf _ _ (cF ((n:Int)-1,(-1:Int),c6 ((n:Int)-1) (-1)<|-1)) _ _ s;rw[uR];exact aD h
theorem j6(xs:Array au):((aM xs.size).filterMap λ(k:Nat)=>xs[((xs.size:Int)-1+(k:Int) * -1).toNat]?).toArray=xs.toList.reverse.toArray:=by
 congr 1
 have e:(aM xs.size).filterMap (λ(k:Nat)=>xs[((xs.size:Int)-1+(k:Int) * -1).toNat]?)=((aM xs.size).map λk=>xs.size-1-k).filterMap (xs[·]?):=by
  rw[oq]
  congr 1
  funext k
  have:((xs.size:Int)-1+(k:Int) * -1).toNat=xs.size-1-k:=by lia
  rw[this];rfl
 rw[e,PySem.W.krv_range,List.filterMap_reverse,PySem.W.krv_all]
def Ve{Q:au->aA->Prop}(ht:oE s.heap t items)(hs:s.heap.IsSliceOf sl .none .none vk)(pk:kT vk (aa<|-1))
  (h:Q #[30] {s with heap:=s.heap.push {cls:=.type "tuple",data:=.seq items.toList.reverse.toArray}})
  (hsz:items.size<=bj):bf #[8] A (lG (.ref t)<|.ref sl) Q E s:=by
 have htake:sizeOk (.seq items.toList.reverse.toArray):=by
  show items.toList.reverse.toArray.size<=bj;rw[az,kD,aP];exact hsz
 obtain⟨os,hos,hcs,hds⟩:=id hs;have hTs:s.TypeIs (.ref sl) "slice":=#[os,hos,hcs];unfold lG
 try with_reducible refine cK ?_
 first|refine ag<|aD ?_|skip
 refine ag<|lH ht.typeIs #[1] ?_
 refine ag (dm ht.typeIs cR
  (dO cR ht.typeIs kC ?_<|kX _ _))
 show bf _ _ (gE (.ref t) >>= _) _ _ s;refine ag<|nP ht ?_;refine ag<|fP hTs ?_;rw[T9 #[1]]
 refine ag<|VP hs pk ?_;have hno:¬(((items.size:Int)-1 == 0&&(-1:Int) == 1&&items.size == items.size)=aj):=by
  intro q;rw[aC,aC]at q;exact T7 q.1.2 #[1]
 show bf _ _ (if((items.size:Int)-1 == 0&&(-1:Int) == 1&&items.size == items.size)=aj then _ else _) _ _ s
 rw[T8 hno,j6]
 first
  |exact ag<|bT (aD #[_,rfl,aD h]) htake
  |exact ag<|bT (ag<|aD<|aD #[_,rfl,aD h]) htake
  |exact ag<|ag<|bT (aD<|aD #[_,rfl,aD h]) htake
  |exact ag<|ag<|bT (aD #[_,rfl,aD h]) htake
end
section
variable{X:Cx}{xw:Nat->Hp->Prop}{C:Calls}{e a b c tg it:Expr}{i j k:E}{pos p p' p2 p3:gj}{q1:Option bq}
def ZfL{e1:Expr}(ha:CE X xw C a i)(h1:CE X xw C e1 (.neg<|.n 1)):CE X xw C (.Subscript a (.Slice ae ae (aa e1) p2) pos) (.rev i):=.mk <| by
 intro pq s Z H Q I hq;obtain⟨U,l,S,st,lr,h⟩:=hq;have h':=h
 refine rP<|thn (ha.h pq s Z H (λx H1=>∃ρ1 S1 d,St3 X.K ρ1 S1 H1/\LocR ρ1 H1 l Z/\Rep ρ1 H1 d x/\End X.K xw Rep ρ1 H1 Q (Pv.po (Pv.Zg0 d) S1)) I #[U,l,S,st,lr,h'.bind λd S1 ρ1 H1 v f1 st1 r1 h1=>#[ρ1,S1,d,st1,lr.mono f1,r1,h1]]) λv s1 #[x,H1,I1,r1,ρ1,S1,d,st1,lr1,rd,h2]=>?_
 refine wpAny_Slice ?_;rw[nQ];refine aD<|aD ?_;rw[evalPart_some];refine thn (h1.h pq s1 Z H1 (λy H2=>y=.int (-1)/\∃ρ2,Fut ρ1 H1 ρ2 H2/\St3 X.K ρ2 S1 H2) I1 #[ρ1,l,S1,st1,lr1,λρ2 H2 y f2 st2 ry=>#[ry.int',ρ2,f2,st2]]) λvk s2 #[y,H2,I2,ry,ey,ρ2,f2,st2]=>?_
 subst ey;obtain⟨t,rfl⟩:=ry;have rd2:=rd.mono f2;have h3:=End.mono f2 h2;cases d with
 |tup ds=>
  obtain⟨q,xs,rfl,hp,rs⟩:=rd2.tup';cases r1;have I4:Inv X pq Z H2 {s2 with heap:=s2.heap.push {cls:=.type "slice",data:=.fields [.none,.none,.int (-1) t].toArray}}:=I2.kept (t':=s2.toks) λb ob q=>aw _ q
  obtain⟨its,r,ht,hz⟩:=I4.tuple<|SqT.of hp;have hlen:its.toArray.size=xs.length:=by rw[az];exact r.length.symm
  refine tail_any ht.typeIs cR.lookup ?_ (by with_unfolding_all rfl)
  refine Ve ht (ot ..) (kT.int _ _) ?_ (by rw[hlen];exact hz)
  refine#[.ref _,_,I4.laid (t':=s2.toks) (o:=.tup xs.reverse) (λb ob q=>aw _ q) (aI _) #[by rw[kD];exact hz,_,r.reverse,iW _ _],rfl,h3.newT st2 rs.reverse _<|I4.hok.fresh<|aI _]
 |_=>exact False.elim h3
end
def zZ{a b c}:aB (.Constant a b c::es) env=(ak,cu (.Constant a b c) env)::aB es env:=rfl
def wQ{a b}:aB (.Name a b::es) env=(ak,cu (.Name a b) env)::aB es env:=rfl
def qR{a b c}:aB (.Tuple a b c::es) env=(ak,cu (.Tuple a b c) env)::aB es env:=rfl
def ZaZ{a b}:aB (.List a b::es) env=(ak,cu (.List a b) env)::aB es env:=rfl
def vi{a b c}:aB (.Dict a b c::es) env=(ak,cu (.Dict a b c) env)::aB es env:=rfl
def Zbb{a b c d}:aB (.BinOp a b c d::es) env=(ak,cu (.BinOp a b c d) env)::aB es env:=rfl
def Zd9{a b c}:aB (.UnaryOp a b c::es) env=(ak,cu (.UnaryOp a b c) env)::aB es env:=rfl
def Zbk{a b c d}:aB (.Compare a b c d::es) env=(ak,cu (.Compare a b c d) env)::aB es env:=rfl
def ZaR{a b c}:aB (.Subscript a b c::es) env=(ak,cu (.Subscript a b c) env)::aB es env:=rfl
def wu{a b c d}:aB (.Call a b c d::es) env=(ak,cu (.Call a b c d) env)::aB es env:=rfl
def vW{a b c d}:aB (.ListComp a b c d::es) env=(ak,cu (.ListComp a b c d) env)::aB es env:=rfl
def Xn:List l9->List (Int×Int)->Prop
 |[],[]=>True
 |e::r,(k,j)::q=>(∃t,e.key=.int k t)/\e.hash=hashInt k/\(∃u,e.val=.int j u)/\Xn r q
 |_,_=>False
theorem Xn.mem :∀{es:List l9}{tab:List (Int×Int)},Xn es tab->∀e∈es,∃k,(lK P w).is k e.key=aj/\e.hash=(lK P w).hash k
 |[],_,_,e,h=>by cases h
 |e::r,[],h,_,_=>h.elim
 |e::r,(k,j)::q,h,x,hx=>by
  obtain⟨⟨t,h1⟩,h2,_,h4⟩:=h;rcases ay.mp hx with rfl|hx
  .exact#[k,by rw[h1];exact intKind_is P w k t,h2]
  .exact Xn.mem h4 x hx
theorem Xn.find(k:Int):∀{es:List l9}{tab:List (Int×Int)},Xn es tab->(tab.lookup k=ae->(es.find? λe=>(lK P w).is k e.key)=ae)/\∀j,tab.lookup k=aa j->∃e t,(es.find? λe=>(lK P w).is k e.key)=aa e/\e.val=.int j t
 |[],[],_=>#[λ_=>rfl,λj h=>by cases h]
 |[],_::_,h=>h.elim
 |e::r,[],h=>h.elim
 |e::r,(k',j')::q,h=>by
  obtain⟨⟨t,h1⟩,h2,⟨u,h3⟩,h4⟩:=h;obtain⟨i1,i2⟩:=Xn.find k h4;rw[bR,fw];have hd:(lK P w).is k e.key=af (k=k'):=KeyKind.is_eq_decide (by rw[h1];exact intKind_is P w k' t) k
  rw[hd];by_cases z:k=k'
  .subst z
   rw[beq_self_eq_true,T5 rfl];exact#[λz=>(by cases z),λj z=>(by cases z;exact#[e,u,rfl,h3])]
  .rw[beq_eq_false_iff_ne.mpr z,T4 z]
   exact#[i1,i2]
def Zdj{P:bE}{w:bZ}{K:am}{a:aE}{es:Array l9}{n:Nat}{tab:List (Int×Int)}(hl:K.lookup a=aa #[.type "dict",ae,.dict es n,#[]])(ht:Xn es.toList tab)(ha:(a == fe)=ak):Zg7 P w K a tab:=by
 refine#[ha,λk=>findBy (lK P w).is es k,λh X=>#[_,es,n,X _ _ hl,#[rfl,rfl,rfl],rfl,λe he=>ht.mem e<|Array.mem_toList_iff.mpr he,λ_=>rfl],λk=>?_]
 obtain⟨l⟩:=es;obtain⟨i1,i2⟩:=Xn.find k ht;refine#[λz=>?_,λj z=>?_]
 .show((l.toArray.find? λe=>(lK P w).is k e.key).map (·.val))=ae
  rw[ox,i1 z];rfl
 .obtain⟨e,t,q1,q2⟩:=i2 j z
  refine#[t,?_];show((l.toArray.find? λe=>(lK P w).is k e.key).map (·.val))=_
  rw[ox,q1];exact congrArg aa q2
def hu7(hr:Room k A):A.units+7<dN:=Nat.lt_of_le_of_lt #[0] hr.un
end
section
def Src(b:Bool)(h:cy)(it l:aE)(k:Nat):Prop:=match b with
 |true=>h.IsListIter it l k
 |false=>h.IsTupleIter it l k
def YK(b:Bool)(h:cy)(l:aE)(xs:Array au):Prop:=match b with
 |true=>h.IsList l xs
 |false=>h.IsTuple l xs
def Src.ext(x:Src b h it l k)(e:iq c h h')(n:it≠c):Src b h' it l k:=by
 cases b
 .exact cy.IsTupleIter.extBut x e n
 .exact cy.IsListIter.extBut x e n
def Src.keep(x:Src b h it l k)(e:∀o,h.get? it=aa o->h'.get? it=aa o):Src b h' it l k:=by
 cases b
 .obtain⟨o,ho,r⟩:=x;exact#[o,e o ho,r]
 .obtain⟨o,ho,r⟩:=x;exact#[o,e o ho,r]
def Src.obj(x:Src b h it l k):∃o,h.get? it=aa o/\∀v,o.data≠.cell v:=by
 cases b
 .obtain⟨o,ho,_,d⟩:=x;exact#[o,ho,λv z=>by rw[d]at z;cases z]
 .obtain⟨o,ho,_,d⟩:=x;exact#[o,ho,λv z=>by rw[d]at z;cases z]
def YK.keep(x:YK b h l xs)(e:∀o,h.get? l=aa o->h'.get? l=aa o):YK b h' l xs:=by
 cases b
 .obtain⟨o,ho,r⟩:=x;exact#[o,e o ho,r]
 .obtain⟨o,ho,r⟩:=x;exact#[o,e o ho,r]
def ZaY{Q:au->aA->Prop}(hit:s.heap.IsTupleIter it t i)(ht:s.heap.IsTuple t items)(hx:items[i]?=aa x)
  (hQ:∀h',h'.IsTupleIter it t (i+1)->gJ it s.heap h'->Q x {s with heap:=h' }):bf #[8] A (fu<|.ref it) Q E s:=by
 obtain⟨o,ho,hc,hd⟩:=id hit;obtain⟨ol,hol,_,nl,hdl⟩:=ht;refine ag<|dm hit.typeIs fj<|dO fj hit.typeIs kM ?_<|kw _;show bf _ _ (field (.ref it) 0 >>= _) _ _ s;refine ag<|cC ho hd rfl ?_;show bf _ _ (if(dZ t == bN)=aj then _ else _) _ _ s
 rw[T8 (by exact aS)];refine ag<|cC ho hd rfl ?_
 refine ag<|fk hol hdl ?_;simp only[fC,hx];refine ag<|wpAny_setField ho hd #[2]<|aD #[x,rfl,aD<|hQ _ #[_,iT _ ho<|mX<|lh hd _,(oU ..).trans hc,?_]<|kF ..]
 rw[lh hd];simp[hZ]
def Gy{Q:au->aA->Prop}(hh:A.handled=ae)(hit:s.heap.IsTupleIter it t i)(ht:s.heap.IsTuple t items)(hx:items[i]?=ae)
  (hE:∀h' e,iq it s.heap h'->(∃o,h'.get? e=aa o/\o.cls=.type "StopIteration")->E (.ref e) {s with heap:=h' }):bf #[8] A (fu<|.ref it) Q E s:=by
 obtain⟨o,ho,hc,hd⟩:=id hit;obtain⟨ol,hol,_,nl,hdl⟩:=ht;refine ag<|dm hit.typeIs fj<|dO fj hit.typeIs kM ?_<|kw _;show bf _ _ (field (.ref it) 0 >>= _) _ _ s;refine ag<|cC ho hd rfl ?_;show bf _ _ (if(dZ t == bN)=aj then _ else _) _ _ s
 rw[T8 (by exact aS)];refine ag<|cC ho hd rfl ?_
 refine ag<|fk hol hdl ?_;simp only[fC,hx];refine ag<|d6<|ag<|wpAny_setField ho hd #[2] ?_;show bf _ _ (newExc (.type "StopIteration") [] >>= _) _ _ _
 refine ag ?_;simp only[newExc,newTuple];refine ag<|bT ?_ (by size_fits)
 refine ag (eF (by first|rfl|(simp only[firstArgMember];rfl))<|bT ?_ (by size_fits))
 simp only[raiseNew];refine ag<|wpAny_handled ?_;first|rw[hh]|rw[hh]
 exact ag<|aD<|wpAny_throw<|hE _ _ (((kF ..).extBut.push _).push _) #[_,aR _ rfl,rfl]
def Vt{Q:au->aA->Prop}(hit:Src b s.heap it l k)(hl:YK b s.heap l xs)(hx:xs[k]?=aa x)
  (hQ:∀h',Src b h' it l (k+1)->gJ it s.heap h'->Q x {s with heap:=h' }):bf #[8] A (fu<|.ref it) Q E s:=by
 cases b
 .exact ZaY hit hl hx hQ
 .exact wpAny_nextOf_list_item hit hl hx hQ
def GI{Q:au->aA->Prop}(hh:A.handled=ae)(hit:Src b s.heap it l k)(hl:YK b s.heap l xs)(hx:xs[k]?=ae)
  (hE:∀h' e,iq it s.heap h'->(∃o,h'.get? e=aa o/\o.cls=.type "StopIteration")->E (.ref e) {s with heap:=h' }):bf #[8] A (fu<|.ref it) Q E s:=by
 cases b
 .exact Gy hh hit hl hx hE
 .exact wpAny_nextOf_list_end hh hit hl hx hE
noncomputable def YC(b:Bool)(l:aE):fW:={cls:=.type (if b then "list_iterator" else "tuple_iterator"),data:=.fields [.ref l,.int 0 0].toArray}
def Vb{Q:au->aA->Prop}(hl:YK b s.heap l xs)(h:Q #[30] {s with heap:=s.heap.push (YC b l)}):bf #[8] A (n8<|.ref l) Q E s:=by
 cases b
 .exact h8 hl h
 .exact gu hl h
structure ZipSt(b1 b2:Bool)(z TI TO i1 i2 l1 l2:aE)(k:Nat)(f0:au)(h:cy):Prop where
 zp:rc h z TI TO f0
 ti:mH h TI (.ref i1) (.ref i2)
 to:∃a b,mH h TO a b
 s1:Src b1 h i1 l1 k
 s2:Src b2 h i2 l2 k
def Za1{b1 b2:Bool}{z TI TO i1 i2 l1 l2:aE}{k:Nat}{xs ys:Array au}{x y:au}{Q:au->aA->Prop}(D:ni z TI TO i1 i2 l1 l2)(Z:ZipSt b1 b2 z TI TO i1 i2 l1 l2 k .none s.heap)(hl1:YK b1 s.heap l1 xs)(hl2:YK b2 s.heap l2 ys)(hx:xs[k]?=aa x)(hy:ys[k]?=aa y)
  (hQ:∀h',ZipSt b1 b2 z TI TO i1 i2 l1 l2 (k+1) (hZ s.heap.objs.size) h'->mH h' s.heap.objs.size x y->(∀c o,c∉[z,TO,i1,i2]->s.heap.get? c=aa o->h'.get? c=aa o)->Q #[30] {s with heap:=h' }) :
  bf #[8] A (eV.«zip.__next__» #[[.ref z],[]]) (λfin s'=>∃v,fin=.done (.ret v)/\Q v s') E s:=by
 obtain⟨hz,hTI,⟨a,b,hTO⟩,h1,h2⟩:=Z;show bf _ _ (field (.ref z) 2 >>= _) _ _ _;refine ag<|cC hz rfl rfl ?_;refine ag<|cC hz rfl rfl<|ag<|fk hTI rfl ?_;refine ag ?_;refine ag<|cC hz rfl rfl<|aD ?_;simp only[if_true];refine ag<|d6<|ag<|cC hz rfl rfl<|ag<|fm hz #[2] λh₁ hz₁ hs₁=>?_
 replace hz₁:rc h₁ z TI TO .ellipsis:=by exact hz₁
 refine ag ?_;simp only[md,rm,mO,rW];refine ag<|ag<|lT ?_;refine ag<|Vt (h1.ext hs₁.extBut D.i1z) (hl1.keep λo e=>hs₁.extBut _ o D.l1z e) hx λh₂ h1₂ hs₂=>aD ?_
 have hTO₂:mH h₂ TO a b:=by exact hs₂.extBut _ _ D.TOi1<|hs₁.extBut _ _ D.TOz hTO
 refine ag<|fk hTO₂ rfl<|ag<|kh hTO₂ λh₃ hTO₃ hs₃=>?_
 replace hTO₃:mH h₃ TO x b:=by exact hTO₃
 refine ag<|re<|aD<|ag<|ag<|lT ?_;have to3:∀c o,c≠z->c≠TO->c≠i1->s.heap.get? c=aa o->h₃.get? c=aa o:=λc o c1 c2 c3 e=>hs₃.extBut _ _ c2<|hs₂.extBut _ _ c3<|hs₁.extBut _ _ c1 e
 refine ag<|Vt (h2.keep λo e=>to3 _ o D.i2z D.TOi2.symm D.i12.symm e) (hl2.keep λo e=>to3 _ o D.l2z D.l2TO D.l2i1 e) hy λh₄ h2₄ hs₄=>aD ?_
 have hTO₄:mH h₄ TO x b:=by exact hs₄.extBut _ _ D.TOi2 hTO₃
 refine ag<|fk hTO₄ rfl<|ag<|kh hTO₄ λh₅ hTO₅ hs₅=>?_
 replace hTO₅:mH h₅ TO x y:=by exact hTO₅
 refine ag<|re<|aD<|aD<|ag<|fk hTO₅ rfl<|ag<|wpAny_newTuple ?_;have hsz:h₅.objs.size=s.heap.objs.size:=by rw[hs₅.1,hs₄.1,hs₃.1,hs₂.1,hs₁.1]
 have to5:=λc o c1 c2 c3 c4 e=>hs₅.extBut _ _ c2<|hs₄.extBut _ _ c4<|to3 c o c1 c2 c3 e
 have hz₅:rc h₅ z TI TO .ellipsis:=by exact hs₅.extBut _ _ D.TOz.symm<|hs₄.extBut _ _ D.i2z.symm<|hs₃.extBut _ _ D.TOz.symm<|hs₂.extBut _ _ D.i1z.symm hz₁
 have h1₅:=((h1₂.ext hs₃.extBut D.TOi1.symm).ext hs₄.extBut D.i12).ext hs₅.extBut D.TOi1.symm;have h2₅:=h2₄.ext hs₅.extBut D.TOi2.symm;have zl:=aQ hz₅;refine ag ?_;have hz₆:rc (h₅.push {cls:=.type "tuple",data:=.seq [x,y].toArray}) z TI TO .ellipsis:=by exact aw _ hz₅
 refine ag<|fm hz₆ #[2] λh₇ hz₇ hs₇=>?_
 replace hz₇:rc h₇ z TI TO (hZ h₅.objs.size):=by exact hz₇
 refine fm hz₇ #[2] λh₈ hz₈ hs₈=>aD #[_,rfl,?_]
 replace hz₈:rc h₈ z TI TO (hZ h₅.objs.size):=by exact hz₈
 have up:∀c o,c≠z->h₅.get? c=aa o->h₈.get? c=aa o:=λc o c1 e=>by exact hs₈.extBut _ _ c1<|hs₇.extBut _ _ c1<|aw _ e
 have hT₈:mH h₈ h₅.objs.size x y:=by exact hs₈.extBut _ _ (gL zl)<|hs₇.extBut _ _ (gL zl)<|aR _ rfl
 rw[hsz]at hz₈ hT₈ ⊢;refine hQ h₈ #[hz₈,up _ _ D.TIz<|to5 _ _ D.TIz D.TITO D.TIi1 D.TIi2 hTI,#[x,y,up _ _ D.TOz hTO₅],h1₅.keep λo e=>up _ o D.i1z e,h2₅.keep λo e=>up _ o D.i2z e] hT₈ λc o hc e=>?_
 simp only[ay,bG,or_false,not_or]at hc;exact up c o hc.1<|to5 c o hc.1 hc.2.1 hc.2.2.1 hc.2.2.2 e
def QS{b1 b2:Bool}{z TI TO i1 i2 l1 l2:aE}{k:Nat}{xs ys:Array au}{Q:Fin->aA->Prop}(hh:A.handled=ae)(D:ni z TI TO i1 i2 l1 l2)(Z:ZipSt b1 b2 z TI TO i1 i2 l1 l2 k .none s.heap)(hl1:YK b1 s.heap l1 xs)(hl2:YK b2 s.heap l2 ys)(hend:xs[k]?=ae\/ys[k]?=ae)
  (hE:∀h' e,(∀c o,c∉[z,TO,i1,i2]->s.heap.get? c=aa o->h'.get? c=aa o)->(∃o,h'.get? e=aa o/\o.cls=.type "StopIteration")->E (.ref e) {s with heap:=h' }) :
  bf #[8] A (eV.«zip.__next__» #[[.ref z],[]]) Q E s:=by
 obtain⟨hz,hTI,⟨a,b,hTO⟩,h1,h2⟩:=Z;have hk:∀{c:aE},c∉[z,TO,i1,i2]->c≠z/\c≠TO/\c≠i1/\c≠i2:=λhc=>by
  simp only[ay,bG,or_false,not_or]at hc;exact hc
 show bf _ _ (field (.ref z) 2 >>= _) _ _ _;refine ag<|cC hz rfl rfl ?_;refine ag<|cC hz rfl rfl<|ag<|fk hTI rfl ?_;refine ag ?_;refine ag<|cC hz rfl rfl<|aD ?_;simp only[if_true];refine ag<|d6<|ag<|cC hz rfl rfl<|ag<|fm hz #[2] λh₁ hz₁ hs₁=>?_
 replace hz₁:rc h₁ z TI TO .ellipsis:=by exact hz₁
 refine ag ?_;simp only[md,rm,mO,rW];refine ag<|ag<|lT ?_;have l1₁:=hl1.keep λo e=>hs₁.extBut _ o D.l1z e
 cases hx:xs[k]? with
 |none=>
  refine ag<|GI hh (h1.ext hs₁.extBut D.i1z) l1₁ hx λh₂ e hs₂ he=>?_
  obtain⟨oe,hoe,hce⟩:=he;have hz₂:rc h₂ z TI TO .ellipsis:=by exact hs₂ _ _ D.i1z.symm hz₁
  have hez:e≠z:=λx=>by subst x;rw[hz₂]at hoe;cases hoe;simp at hce
  exact fm hz₂ #[2] λh₃ _ hs₃=>hE h₃ e (λc o hc x=>hs₃.extBut _ _ (hk hc).1<|hs₂ _ _ (hk hc).2.2.1<|hs₁.extBut _ _ (hk hc).1 x) #[oe,hs₃.extBut _ _ hez hoe,hce]
 |some x=>
  have hy:ys[k]?=ae:=by rcases hend with q|q;rw[hx]at q;cases q;exact q
  refine ag<|Vt (h1.ext hs₁.extBut D.i1z) l1₁ hx λh₂ h1₂ hs₂=>aD ?_
  have hTO₂:mH h₂ TO a b:=by exact hs₂.extBut _ _ D.TOi1<|hs₁.extBut _ _ D.TOz hTO
  refine ag<|fk hTO₂ rfl<|ag<|kh hTO₂ λh₃ hTO₃ hs₃=>?_
  refine ag<|re<|aD<|ag<|ag<|lT ?_;have to3:∀c o,c≠z->c≠TO->c≠i1->s.heap.get? c=aa o->h₃.get? c=aa o:=λc o c1 c2 c3 e=>hs₃.extBut _ _ c2<|hs₂.extBut _ _ c3<|hs₁.extBut _ _ c1 e
  refine ag<|GI hh (h2.keep λo e=>to3 _ o D.i2z D.TOi2.symm D.i12.symm e) (hl2.keep λo e=>to3 _ o D.l2z D.l2TO D.l2i1 e) hy λh₄ e hs₄ he=>?_
  obtain⟨oe,hoe,hce⟩:=he;have hz₄:rc h₄ z TI TO .ellipsis:=by exact hs₄ _ _ D.i2z.symm<|hs₃.extBut _ _ D.TOz.symm<|hs₂.extBut _ _ D.i1z.symm hz₁
  have hez:e≠z:=λx=>by subst x;rw[hz₄]at hoe;cases hoe;simp at hce
  exact fm hz₄ #[2] λh₅ _ hs₅=>hE h₅ e (λc o hc x=>hs₅.extBut _ _ (hk hc).1<|hs₄ _ _ (hk hc).2.2.2<|to3 c o (hk hc).1 (hk hc).2.1 (hk hc).2.2.1 x) #[oe,hs₅.extBut _ _ hez hoe,hce]
def xq{b1 b2:Bool}{z TI TO i1 i2 l1 l2:aE}{k:Nat}{xs ys:Array au}{x y:au}{Q:Option au->aA->Prop}(D:ni z TI TO i1 i2 l1 l2)(Z:ZipSt b1 b2 z TI TO i1 i2 l1 l2 k .none s.heap)(hl1:YK b1 s.heap l1 xs)(hl2:YK b2 s.heap l2 ys)(hx:xs[k]?=aa x)(hy:ys[k]?=aa y)
  (hQ:∀h',ZipSt b1 b2 z TI TO i1 i2 l1 l2 (k+1) (hZ s.heap.objs.size) h'->mH h' s.heap.objs.size x y->(∀c o,c∉[z,TO,i1,i2]->s.heap.get? c=aa o->h'.get? c=aa o)->Q (aa<|.ref s.heap.objs.size) {s with heap:=h' }) :
  bf #[8] A (o7<|.ref z) Q E s:=by
 have hT:s.TypeIs (.ref z) "zip":=#[_,Z.zp,rfl];exact ag<|lV<|dm hT kx<|dO kx hT pF (Za1 D Z hl1 hl2 hx hy λh' a1 a2 a3=>aD<|hQ h' a1 a2 a3)<|oV _
def Qp{b1 b2:Bool}{z TI TO i1 i2 l1 l2:aE}{k:Nat}{xs ys:Array au}{Q:Option au->aA->Prop}(hh:A.handled=ae)(D:ni z TI TO i1 i2 l1 l2)(Z:ZipSt b1 b2 z TI TO i1 i2 l1 l2 k .none s.heap)(hl1:YK b1 s.heap l1 xs)(hl2:YK b2 s.heap l2 ys)(hend:xs[k]?=ae\/ys[k]?=ae)
  (hQ:∀h',(∀c o,c∉[z,TO,i1,i2]->s.heap.get? c=aa o->h'.get? c=aa o)->Q ae {s with heap:=h' }):bf #[8] A (o7<|.ref z) Q E s:=by
 have hT:s.TypeIs (.ref z) "zip":=#[_,Z.zp,rfl];refine ag<|lV<|dm hT kx<|dO kx hT pF (QS hh D Z hl1 hl2 hend λh' e hk he=>?_)<|oV _
 obtain⟨o,ho,hc⟩:=he;exact ag<|i4 #[o,ho,hc] isSubtype_stop<|aD<|hQ _ hk
def zH1(h:cy)(b1:Bool)(l1:aE):cy:=h.push<|YC b1 l1
def zH2(h:cy)(b1 b2:Bool)(l1 l2:aE):cy:=(zH1 h b1 l1).push<|YC b2 l2
def zH3(h:cy)(b1 b2:Bool)(l1 l2:aE):cy:=(zH2 h b1 b2 l1 l2).push {cls:=.type "tuple",data:=.seq [.ref h.objs.size,.ref (zH1 h b1 l1).objs.size].toArray}
def zH4(h:cy)(b1 b2:Bool)(l1 l2:aE):cy:=(zH3 h b1 b2 l1 l2).push {cls:=.type "tuple",data:=.seq [.none,.none].toArray}
def zH5(h:cy)(b1 b2:Bool)(l1 l2:aE):cy:=(zH4 h b1 b2 l1 l2).push {cls:=.type "zip",data:=.fields [.none,.bool ak,.bool ak,.ref (zH2 h b1 b2 l1 l2).objs.size,.ref (zH3 h b1 b2 l1 l2).objs.size].toArray}
def Zdf(b1 b2:Bool)(l1 l2:aE)(xs ys:Array au) :
  rT (eV.«zip.__new__» #[[.type "zip",.ref l1,.ref l2],[]]) (λ_ R s=>YK b1 s.heap l1 xs/\YK b2 s.heap l2 ys/\R (.ok<|.ret<|.ref (zH4 s.heap b1 b2 l1 l2).objs.size) {s with heap:=zH5 s.heap b1 b2 l1 l2}):=
 .of_wp λprog w A R s h=>by
  obtain⟨hp,g,d,tk,os⟩:=s;obtain⟨hl1,hl2,h⟩:=h;have hsub:=sub_zip;have hL1:=hl1;have hL2:YK b2 (aA.heap #[hp.push<|YC b1 l1,g,d,tk,os]) l2 ys:=hl2.keep λo e=>aw _ e
  wp_walk using Vb hL1,Vb hL2
  exact#[_,rfl,h]
def Zbm{Q:au->aA->Prop}(hl1:YK b1 s.heap l1 xs)(hl2:YK b2 s.heap l2 ys)
  (h:∀h' n,n=s.heap.objs.size->ZipSt b1 b2 (n+4) (n+2) (n+3) n (n+1) l1 l2 0 .none h'->(∀c o,s.heap.get? c=aa o->h'.get? c=aa o)->Q (.ref<|n+4) {s with heap:=h' }) :
  bf #[8] A (call (.type "zip") [.ref l1,.ref l2]) Q E s:=by
 refine callType_new F.called_zip #[1] (F.typeCall_zip_2 _ _) (F.newCall_zip_2 _ _) (λobj=>F.args_object_init_3 obj _ _) F.entry_zip_new (Zdf b1 b2 l1 l2 xs ys) #[hl1,hl2,?_]
 have z1:(zH1 s.heap b1 l1).objs.size=s.heap.objs.size+1:=cH ..;have z2:(zH2 s.heap b1 b2 l1 l2).objs.size=s.heap.objs.size+2:=by unfold zH2;rw[cH,z1]
 have z3:(zH3 s.heap b1 b2 l1 l2).objs.size=s.heap.objs.size+3:=by unfold zH3;rw[cH,z2]
 have z4:(zH4 s.heap b1 b2 l1 l2).objs.size=s.heap.objs.size+4:=by unfold zH4;rw[cH,z3]
 have g5:(zH5 s.heap b1 b2 l1 l2).get? (zH4 s.heap b1 b2 l1 l2).objs.size=aa {cls:=.type "zip",data:=.fields [.none,.bool ak,.bool ak,.ref (zH2 s.heap b1 b2 l1 l2).objs.size,.ref (zH3 s.heap b1 b2 l1 l2).objs.size].toArray}:=aR _ rfl;have k4:∀c o,(zH4 s.heap b1 b2 l1 l2).get? c=aa o->(zH5 s.heap b1 b2 l1 l2).get? c=aa o:=λc o e=>aw _ e
 have k3:=λc o e=>k4 c o<|aw _ e
 have k2:=λc o e=>k3 c o<|aw _ e
 have k1:=λc o e=>k2 c o<|aw _ e
 have g4:=k4 _ _<|aR (zH3 s.heap b1 b2 l1 l2) rfl;have g3:=k3 _ _<|aR (zH2 s.heap b1 b2 l1 l2) rfl;have g2:=k2 _ _<|aR (zH1 s.heap b1 l1) rfl;have g1:=k1 _ _<|aR s.heap rfl;rw[z2,z3,z4]at g5;rw[z1,z2]at g3;rw[z3]at g4;rw[z1]at g2;rw[z4];have src:∀b l it,(zH5 s.heap b1 b2 l1 l2).get? it=aa (YC b l)->Src b (zH5 s.heap b1 b2 l1 l2) it l 0:=λb l it e=>by
  cases b
  .exact#[_,e,rfl,rfl]
  .exact#[_,e,rfl,rfl]
 exact#[#[_,g5,rfl],h _ _ rfl #[g5,g3,#[_,_,g4],src b1 l1 _ g1,src b2 l2 _ g2] λc o e=>k1 c o<|aw _ e]
open Ev (E Sm Fn Bop Cop Ty Bf Mf)
def Wh{X:Cx}{pq:List (aE×fW)}{Z:L2.St}{H:Hp}{s:aA}{h':cy}{t':Nat}{ch:List aE}(I:Inv X pq Z H s)(k:∀b o,b∉ch->s.heap.get? b=aa o->h'.get? b=aa o)(hf:∀b∈ch,Vk X pq H b):Inv X pq Z H {s with heap:=h',toks:=t' }:=by
 have nit:∀b u,H b=aa u->b∉ch:=λb u e z=>by have:=(hf b z).1;rw[e]at this;cases this
 refine I.step (g':=s.gens) (d':=s.drawn) (λb hb=>?_) (λb o _ _ hc e _=>k b o hc e) (λb o _ _ hc e _=>#[o.slots,k b o hc e]) (λ_ _ _ _ n=>n) (λb o hc e=>#[o,k b o hc e]) (λ_ _ e=>e) (λ_ _ _ e=>e) (λb ps e=>#[#[],by rw[e];simp]) (λm hm=>?_) (λb u e=>?_) I.bare
 .exact#[(hf b hb).2.2.2.1,(hf b hb).2.1,(hf b hb).2.2.2.2.1,(hf b hb).2.2.2.2.2]
 .obtain⟨o,es,ep,ho,r⟩:=hm
  exact#[o,es,ep,k _ o (λz=>(hf _ z).2.1 rfl) ho,r]
 .refine(I.hok b u e).stay (λc v hc q=>k c v ?_ q) (λ_ q=>q) λ_ _ q=>q
  rcases hc with z|z
  .rw[z];exact nit b u e
  .exact nit c _ z
def JD{h:cy}{o o':fW}{b:aE}(e:(h.push o').get? b=aa o)(n:b≠h.objs.size):h.get? b=aa o:=by
 unfold cy.get? cy.push at *;simp only[Array.getElem?_push]at e;rw[T8 n]at e;exact e
def We{a b:Nat}(h:a<b\/b<a):(a:aE)≠b:=λe=>by
 have e':=e;omega
def Sq(b:Bool)(K:am)(H:Hp)(l:aE)(xs:List V):Prop:=match b with
 |true=>SqL K H l xs
 |false=>SqT K H l xs
def YY(I:Inv X pq Z H s)(h:Sq b X.K H l xs):∃its:List au,Vals xs its/\YK b s.heap l its.toArray:=by
 cases b
 .obtain⟨its,r,p,_⟩:=I.tuple h;exact#[its,r,p]
 .obtain⟨its,r,p,_⟩:=I.list h;exact#[its,r,p.isList]
def xO(I:Inv X pq Z H s)(h:Sq b X.K H l xs)(h':Sq b X.K H l ys):xs=ys:=by
 cases b
 .exact I.tuple_inj h h'
 .exact I.list_inj h h'
def Vp(x:YK b h l xs):l<h.objs.size:=by
 cases b
 .obtain⟨o,ho,_⟩:=x;exact aQ ho
 .obtain⟨o,ho,_⟩:=x;exact aQ ho
def Itz(K:am)(b1 b2:Bool)(l1 l2:aE):It:=
 #[λi H=>∃xs ys x y,Sq b1 K H l1 xs/\Sq b2 K H l2 ys/\xs[i]?=aa x/\ys[i]?=aa y,
  λi H v H'=>∃T x y,(∀xs,Sq b1 K H l1 xs->xs[i]?=aa x)/\(∀ys,Sq b2 K H l2 ys->ys[i]?=aa y)/\H T=ae/\H'=upd H T (.tup [x,y])/\v=.ref T,
  λi H=>∃xs ys,Sq b1 K H l1 xs/\Sq b2 K H l2 ys/\(xs.length<=i\/ys.length<=i)]
def ZaO{P:bE}{w:bZ}{K:am}{elts:List Expr}{kk:Nat}{tp:gj}{b1 b2:Bool}{z TI TO i1 i2 l1 l2:aE}(D:ni z TI TO i1 i2 l1 l2) :
  Turn P w K (.Tuple elts kk tp) (Itz K b1 b2 l1 l2) [z,TI,TO,i1,i2] z (λi h=>ZipSt b1 b2 z TI TO i1 i2 l1 l2 i .none h) where
 mem:=by simp
 obj:=λi h st b hb=>by
  simp only[ay,bG,or_false]at hb;obtain⟨a,c,hTO⟩:=st.to;rcases hb with e|e|e|e|e<;>subst e
  .exact#[_,st.zp,λv q=>by cases q]
  .exact#[_,st.ti,λv q=>by cases q]
  .exact#[_,hTO,λv q=>by cases q]
  .exact st.s1.obj
  .exact st.s2.obj
 keep:=λi h h' st k=>by
  obtain⟨a,c,hTO⟩:=st.to;exact#[k z #[2] _ st.zp,k TI #[2] _ st.ti,#[a,c,k TO #[2] _ hTO],st.s1.keep λo e=>k i1 #[2] o e,st.s2.keep λo e=>k i2 #[2] o e]
 item:=by
  intro X hP hw hK hc i pq s Z H E I hf st hg;subst hP hw hK;obtain⟨xs,ys,x,y,hq1,hq2,hx,hy⟩:=hg;obtain⟨its,rv,o1⟩:=YY I hq1;obtain⟨its2,rv2,o2⟩:=YY I hq2;obtain⟨u,hu,ru⟩:=rv.get hx;obtain⟨u2,hu2,ru2⟩:=rv2.get hy;refine xq D st o1 o2 (by simpa using hu) (by simpa using hu2) λh' Z' hT hk=>?_
  have hfree:=I.hok.fresh<|aI _;have ltz:∀b∈[z,TI,TO,i1,i2],b≠s.heap.objs.size:=λb hb e=>by
   simp only[ay,bG,or_false]at hb;obtain⟨a,c,hTO⟩:=st.to;rcases hb with q|q|q|q|q<;>subst q
   .exact T7 (aQ st.zp) (by rw[e];exact bz _)
   .exact T7 (aQ st.ti) (by rw[e];exact bz _)
   .exact T7 (aQ hTO) (by rw[e];exact bz _)
   .obtain⟨o,ho,_⟩:=st.s1.obj;exact T7 (aQ ho) (by rw[e];exact bz _)
   .obtain⟨o,ho,_⟩:=st.s2.obj;exact T7 (aQ ho) (by rw[e];exact bz _)
  have IA:Inv X pq Z (upd H s.heap.objs.size<|.tup [x,y]) {s with heap:=s.heap.push {cls:=.type "tuple",data:=.seq [u,u2].toArray},toks:=s.toks}:=
   I.laid (λb o e=>aw _ e) (aI _) #[by show 2<=bj;decide,[u,u2],.cons ru<|.cons ru2 .nil,iW _ _]
  have hf2:∀b∈[z,TI,TO,i1,i2],Vk X pq (upd H s.heap.objs.size<|.tup [x,y]) b:=λb hb=>#[by rw[Zj<|ltz b hb];exact(hf b hb).1,(hf b hb).2]
  have IB:Inv X pq Z (upd H s.heap.objs.size<|.tup [x,y]) {s with heap:=h',toks:=s.toks}:=by
   refine Wh (s:={s with heap:=s.heap.push {cls:=.type "tuple",data:=.seq [u,u2].toArray},toks:=s.toks}) (ch:=[z,TO,i1,i2]) IA (λb o hb e=>?_) λb hb=>hf2 b (by simp only[ay,bG,or_false]at hb ⊢;rcases hb with q|q|q|q<;>simp[q])
   by_cases hbs:b=s.heap.objs.size
   .subst hbs
    have e':=e;rw[aR _ rfl]at e';cases e';exact hT
   .refine hk b o hb ?_
    have e':=e;have hlt:=aQ e';rw[cH]at hlt;exact JD e' hbs
  refine#[.ref s.heap.objs.size,rfl,wpAny_letOwnedTupleGo_zip Z'.zp λh2 hz2 hs2=>?_]
  have IC:Inv X pq Z (upd H s.heap.objs.size<|.tup [x,y]) {s with heap:=h2,toks:=s.toks}:=Wh (s:={s with heap:=h',toks:=s.toks}) (ch:=[z]) IB (λb o hb e=>(hs2.2 b<|by simpa using hb).trans e) λb hb=>hf2 b (by simp only[aT]at hb;simp[hb])
  obtain⟨a,c,hTO⟩:=Z'.to;refine#[.ref s.heap.objs.size,_,IC,rfl,#[_,x,y,λzs hz=>by rw[xO I hz hq1];exact hx,λzs hz=>by rw[xO I hz hq2];exact hy,hfree,rfl,rfl],?_,λb hb=>(hf2 b hb).1]
  exact#[hz2,hs2.extBut _ _ D.TIz Z'.ti,#[a,c,hs2.extBut _ _ D.TOz hTO],Z'.s1.ext hs2.extBut D.i1z,Z'.s2.ext hs2.extBut D.i2z]
 done:=by
  intro X hP hw hK hc i pq s Z H E I hf st hg;subst hP hw hK;obtain⟨xs,ys,hq1,hq2,hend⟩:=hg;obtain⟨its,rv,o1⟩:=YY I hq1;obtain⟨its2,rv2,o2⟩:=YY I hq2;have e1:=rv.length;have e2:=rv2.length;refine Qp #[43] D st o1 o2 (by rcases hend with q|q;exact .inl (by simp;omega);exact .inr<|by simp;omega) λh' hk=>#[rfl,Wh (t':=s.toks) I (λb o hb e=>hk b o hb e) λb hb=>hf b (by simp only[ay,bG,or_false]at hb ⊢;rcases hb with q|q|q|q<;>simp[q])]
 self:=λ_ _ _ _ _ st h=>wpAny_pyIter_zip st.zp h
def Zim(K:am)(ta:TA):TI:=λZ H R=>ta Z H λvs H1=>∃b1 b2 l1 l2,vs=[.ref l1,.ref l2]/\(∃xs,Sq b1 K H1 l1 xs)/\(∃ys,Sq b2 K H1 l2 ys)/\R (Itz K b1 b2 l1 l2) H1
def ZfD{a b:Expr}{ta:TA}{p pos:gj}(hg:Gl X "zip")(hm:X.mg "zip" = ae)(ha:PA X [a,b] ta)(hs:aB [a,b] X.env=[#[37],(ak,cu b X.env)]:=by rfl)(hs2:aB [b] X.env=[(ak,cu b X.env)]:=by rfl) :
  PI X (.Tuple elts kk tp) (.Call (.Name "zip" p) [a,b] [] pos) (Zim X.K ta):=by
 intro pq s Z H R I h;refine rM<|Y1 I hg hm #[7]<|bU (thn (ha pos pq s Z H _ I h) λus s1 #[vs,H1,I1,r1,q1]=>?_) (by rw[hs,hs2]) (by rw[hs2];rfl)
 obtain⟨b1,b2,l1,l2,e,⟨xs,hq1⟩,⟨ys,hq2⟩,q⟩:=q1;subst e;cases r1 with
 |cons r rr=>
  cases rr with
  |cons r' rr=>
   cases rr;cases r;cases r';obtain⟨its,rv,o1⟩:=YY I1 hq1;obtain⟨its2,rv2,o2⟩:=YY I1 hq2;have lt1:=Vp o1;have lt2:=Vp o2;refine Zbm o1 o2 λh' n hn Y hk=>?_
   have I2:=I1.kept (t':=s1.toks) hk
   have q1:(l1:Nat)<n:=by rw[hn];exact lt1
   have q2:(l2:Nat)<n:=by rw[hn];exact lt2
   have D:ni (n+4) (n+2) (n+3) n (n+1) l1 l2:=by constructor<;>first|exact We #[3]|exact We<|.inl<|br q1<|dB n _|exact We<|.inl<|br q2<|dB n _|exact We<|.inl q1|exact We<|.inl q2
   refine wpAny_pyIter_zip Y.zp #[n+4,[n+4,n+2,n+3,n,n+1],_,_,H1,rfl,I2,ZaO D,Y,λb hb=>?_,q]
   have hbn:s1.heap.objs.size<=b:=by
    rw[<-hn];simp only[ay,bG,or_false]at hb;rcases hb with e|e|e|e|e<;>rw[e]
    .exact dB n 4
    .exact dB n 2
    .exact dB n 3
    .exact aI n
    .exact dB n 1
   exact I1.fpOk hbn<|I1.hok.fresh hbn
def Side(K:am)(U:Mx)(H:Hp)(wk:List D)(b:Bool)(l:aE):Prop:=∀ρ' H',Lat U H ρ' H'->∃vs,Sq b K H' l vs/\Rq ρ' H' wk vs
def GS{K:am}{U:Mx}{H:Hp}{x:D}{v:V}{wk:List D}(hk:U.K=K)(r:Rep U H x v)(h:Pv.YG x=aa wk):∃b l,v=.ref l/\(∃xs,Sq b K H l xs)/\Side K U H wk b l:=by
 cases x with
 |tup ds=>
  obtain⟨a,xs,rfl,hp,rs⟩:=r.tup';cases h;exact#[ak,a,rfl,#[xs,SqT.of hp],λρ' H' f=>#[xs,SqT.of (f.keep a _ hp λ_ z=>by cases z),rs.lat f]]
 |lst ds=>
  obtain⟨a,xs,rfl,hp,hx,rs⟩:=r.lst';cases h;exact#[aj,a,rfl,#[xs,SqL.of hp],λρ' H' f=>#[xs,SqL.of<|f.keep a _ hp λ_ _=>hx,rs.lat f]]
 |scr ns=>
  obtain⟨a,rfl,hp⟩:=r.scr';cases h;rw[hk]at hp;refine#[aj,a,rfl,#[_,hp.sq],λρ' H' f=>#[_,?_,Rq.ints ns]]
  rcases hp with⟨o,hp⟩|hp
  .exact .inl<|.inr #[o,f.keep a _ hp λ_ z=>by cases z]
  .exact .inr hp
 |_=>exact Ev.nos h
def Zap{K:am}{U:Mx}{H:Hp}{v w:List D}{b1 b2:Bool}{l1 l2:aE}(h1:Side K U H v b1 l1)(h2:Side K U H w b2 l2):WRel K U H ((v.zip w).map λp=>.tup [p.1,p.2]) (Itz K b1 b2 l1 l2) where
 go:=λi ρ' S' H' f st hi=>by
  obtain⟨xs,q1,r1⟩:=h1 ρ' H' f;obtain⟨ys,q2,r2⟩:=h2 ρ' H' f;have hi':i<sD v.length w.length:=by simpa using hi
  have ha:=(oy.mp hi').1;have hb:=(oy.mp hi').2;obtain⟨x,g1,rx⟩:=r1.get<|ai ha;obtain⟨y,g2,ry⟩:=r2.get<|ai hb;refine#[#[xs,ys,x,y,q1,q2,g1,g2],λu H'' #[T,x',y',e1,e2,hT,eH,eu]=>?_]
  subst eH eu;have ex:=(e1 xs q1).symm.trans g1;have ey:=(e2 ys q2).symm.trans g2;cases ex;cases ey;refine#[Zu hT,st.fresh hT,λd hd=>?_]
  have hz:(v.zip w)[i]?=aa (v[i],w[i]):=gR.mpr #[ai ha,ai hb];rw[aU,hz]at hd;cases hd;exact XE Zn<|Rq.cons (rx.mono<|Zu hT)<|Rq.cons (ry.mono<|Zu hT) Rq.nil
 stop:=λρ' S' H' f st=>by
  obtain⟨xs,q1,r1⟩:=h1 ρ' H' f;obtain⟨ys,q2,r2⟩:=h2 ρ' H' f;refine#[xs,ys,q1,q2,?_];show xs.length<=((v.zip w).map λp=>Pv.V.tup [p.1,p.2]).length\/_
  rw[r1.length,r2.length,ax,fZ];omega
section
variable{X:Cx}{xw:Nat->Hp->Prop}{C:Calls}{a b:Expr}{i j:E}{pos p tp:gj}{elts:List Expr}{kk:Nat}
def Ze9(hm:X.mg "zip" = ae)(ha:CA X xw C [a,b] [i,j])(hg:Gl X "zip")(hs:aB [a,b] X.env=[#[37],(ak,cu b X.env)])(hs2:aB [b] X.env=[(ak,cu b X.env)]) :
  CW X xw C (.Tuple elts kk tp) (.Call (.Name "zip" p) [a,b] [] pos) (.zip i j):=.mk <|
 PI.imp (ZfD hg hm ha.h hs hs2) λZ H Q #[U,l,S,st,lr,h]=>Zan st lr h λx y S1 ρ1 H1 v u st1 rv ru h1=>by
  cases e1:Pv.YG x with
  |none=>rw[e1]at h1;exact False.elim h1
  |some v1=>
   cases e2:Pv.YG y with
   |none=>rw[e1,e2]at h1;exact False.elim h1
   |some v2=>
    rw[e1,e2]at h1;obtain⟨b1,l1,rfl,s1,d1⟩:=GS st1.hk rv e1;obtain⟨b2,l2,rfl,s2,d2⟩:=GS st1.hk ru e2;exact#[b1,b2,l1,l2,rfl,s1,s2,End.ok h1 st1<|Zap d1 d2]
end
def Jq(hh:A.handled=ae)(b:Bool)(it l:aE)(hne:l≠it)(xs:Array au) :
  Draws prog w A it [it,l] xs.size (λi v=>xs[i]?=aa v) (λi h=>Src b h it l i/\YK b h l xs) where
 live:=λ_ _ st=>let #[o,ho,_]:=st.1.obj;#[o,ho]
 frame:=λ_ _ _ st hk=>#[st.1.keep λo e=>hk it #[2] o e,st.2.keep λo e=>hk l #[2] o e]
 item:=λi s Q E hi st hQ=>Vt st.1 st.2 (bS hi) λh' hit' hs'=>hQ _ h' s.toks (bS hi) #[hit',st.2.keep λo e=>hs'.extBut _ o hne e] hs'
 done:=λs Q E st hE=>GI hh st.1 st.2 (Array.getElem?_eq_none<|aI _) hE
def Ite(K:am)(b:Bool)(l:aE):It:=
 #[λi H=>∃xs x,Sq b K H l xs/\xs[i]?=aa x,
  λi H v H'=>∃T x,(∀xs,Sq b K H l xs->xs[i]?=aa x)/\H T=ae/\H'=upd H T (.tup [.int i,x])/\v=.ref T,
  λi H=>∃xs,Sq b K H l xs/\xs.length=i]
def qi{P:bE}{w:bZ}{K:am}{elts:List Expr}{kk:Nat}{tp:gj}{b:Bool}{e it l:aE}(hei:e≠it)(hle:l≠e)(hli:l≠it) :
  Turn P w K (.Tuple elts kk tp) (Ite K b l) [e,it] e (λi h=>(∃old,IsEnum h e it i old)/\Src b h it l i) where
 mem:=by simp
 obj:=λi h st c hc=>by
  simp only[ay,bG,or_false]at hc;obtain⟨⟨old,he⟩,hs⟩:=st;rcases hc with q|q<;>subst q
  .exact#[_,he,λv q=>by cases q]
  .exact hs.obj
 keep:=λi h h' st k=>by
  obtain⟨⟨old,he⟩,hs⟩:=st;exact#[#[old,k e #[2] _ he],hs.keep λo q=>k it #[2] o q]
 item:=by
  intro X hP hw hK hc i pq s Z H E I hf st hg;subst hP hw hK;obtain⟨xs,x,hq,hx⟩:=hg;obtain⟨its,rv,o1⟩:=YY I hq;obtain⟨⟨old,he⟩,hs⟩:=st;obtain⟨u,hu,ru⟩:=rv.get hx;have hlt:i<its.toArray.size:=by
   have:=(aH.mp hu).1
   simpa using this
  have hh:X.A.in1.handled=ae:=I.ok.hd hc;refine wpAny_pyNext_enum_itemD (Jq hh b it l hli its.toArray) he #[hs,o1] hlt hei (by simp only[ay,bG,or_false,not_or];exact#[hei,Ne.symm hle]) λx' h' tk hP ho hst hT hsz hk=>?_
  have ex:x'=u:=by
   have:its.toArray[i]?=aa u:=by simpa using hu
   rw[this]at hP;exact(aq hP).symm
  subst ex;have hfree:=I.hok.fresh<|aI _;have ltz:∀c∈[e,it],c≠s.heap.objs.size:=λc hc q=>by
   simp only[ay,bG,or_false]at hc;rcases hc with z|z<;>subst z
   .exact T7 (aQ he) (by rw[q];exact bz _)
   .obtain⟨o,ho,_⟩:=hs.obj;exact T7 (aQ ho) (by rw[q];exact bz _)
  have IA:Inv X pq Z (upd H s.heap.objs.size<|.tup [.int i,x]) {s with heap:=s.heap.push {cls:=.type "tuple",data:=.seq [.int i tk,x'].toArray},toks:=tk+1}:=
   I.laid (λc o q=>aw _ q) (aI _) #[by show 2<=bj;decide,[.int i tk,x'],.cons #[tk,rfl]<|.cons ru .nil,iW _ _]
  have hf2:∀c∈[e,it],Vk X pq (upd H s.heap.objs.size<|.tup [.int i,x]) c:=λc hc=>#[by rw[Zj<|ltz c hc];exact(hf c hc).1,(hf c hc).2]
  have IB:Inv X pq Z (upd H s.heap.objs.size<|.tup [.int i,x]) {s with heap:=h',toks:=tk+1}:=by
   refine Wh (s:={s with heap:=s.heap.push {cls:=.type "tuple",data:=.seq [.int i tk,x'].toArray},toks:=tk+1}) IA (λc o hc q=>?_) hf2
   by_cases hcs:c=s.heap.objs.size
   .subst hcs
    have q':=q;rw[aR _ rfl]at q';cases q';exact hT
   .simp only[ay,bG,or_false,not_or]at hc
    exact hk c o hc.1 hc.2<|JD q hcs
  refine#[.ref s.heap.objs.size,rfl,wpAny_letOwnedTupleGo_enum ho λh2 he2 hs2=>?_]
  have IC:Inv X pq Z (upd H s.heap.objs.size<|.tup [.int i,x]) {s with heap:=h2,toks:=tk+1}:=Wh (s:={s with heap:=h',toks:=tk+1}) (ch:=[e]) IB (λc o hc q=>(hs2.2 c<|by simpa using hc).trans q) λc hc=>hf2 c (by simp only[aT]at hc;simp[hc])
  refine#[.ref s.heap.objs.size,_,IC,rfl,#[_,x,λzs hz=>by rw[xO I hz hq];exact hx,hfree,rfl,rfl],#[#[x',by simpa using he2],hst.1.ext hs2.extBut<|Ne.symm hei],λc hc=>(hf2 c hc).1]
 done:=by
  intro X hP hw hK hc i pq s Z H E I hf st hg;subst hP hw hK;obtain⟨xs,hq,hend⟩:=hg;obtain⟨its,rv,o1⟩:=YY I hq;obtain⟨⟨old,he⟩,hs⟩:=st;have e1:=rv.length;have hh:X.A.in1.handled=ae:=I.ok.hd hc;have en:i=its.toArray.size:=by simp;lia
  subst en;exact wpAny_pyNext_enum_endD (Jq hh b it l hli its.toArray) he #[hs,o1] λh' hx=>#[rfl,Wh (t':=s.toks) I (λc o hc q=>hx c o (λz=>hc<|by simp[z]) q) hf]
 self:=λ_ _ _ _ _ st h=>by
  obtain⟨⟨old,he⟩,_⟩:=st;exact oW he h
section
variable{prog:bE}{w:bZ}{A:cz}{E:au->aA->Prop}{s:aA}
def jQ(l:aE)(items:Array au)(n:Nat)(dct:Option aE)(sl:Array (Option au)) :
  rT (eV.«enumerate.__new__» #[[.type "enumerate",.ref l],[]]) (λ_ R s=>s.heap.get? l=aa {cls:=.type "tuple",dict:=dct,data:=.seq items n,slots:=sl}/\
   R (.ok<|.ret<|.ref (s.heap.push<|YC ak l).objs.size) {s with heap:=(s.heap.push<|YC ak l).push {cls:=.type "enumerate",data:=.fields [.none,.bool ak,.ref s.heap.objs.size,hZ 0,.none,.none].toArray}}):=
 .of_wp λprog w A R s h=>by
  obtain⟨hp,g,d,tk,os⟩:=s;obtain⟨hl,h⟩:=h;have hsub:=sub_enumerate;have hL:cy.IsTuple (aA.heap #[hp,g,d,tk,os]) l items:=#[_,hl,rfl,n,rfl]
  wp_walk using gY hl;refine wpAny_stack_any λst=>aD ?_;split
  .rename_i c _ _ _ _ _;cases(c == au.type "enumerate")<;>(wp_walk using gY hl,h8 hL;exact#[_,rfl,h])
  .wp_walk using gY hl,h8 hL;exact#[_,rfl,h]
def uh{Q:au->aA->Prop}(hL:YK b s.heap l xs)
  (h:∀h' n,n=s.heap.objs.size->IsEnum h' (n+1) n 0 .none->Src b h' n l 0->(∀c o,s.heap.get? c=aa o->h'.get? c=aa o)->Q (.ref<|n+1) {s with heap:=h' }):bf #[8] A (call (.type "enumerate") [.ref l]) Q E s:=by
 cases b with
 |true=>exact call_enumerate_list hL λh' a1 a2 _ a4=>h h' _ rfl a1 a2 a4
 |false=>
  obtain⟨⟨c,dct,dt,sl⟩,hl,hc,n,hd⟩:=hL;simp only at hc hd;subst hc hd;refine callType_new F.called_enumerate #[1] (F.typeCall_enumerate_1 _) (F.newCall_enumerate_1 _) (λobj=>F.args_object_init_2 obj _) F.entry_enumerate_new (jQ l xs n dct sl) #[hl,?_]
  have hz:(s.heap.push<|YC ak l).objs.size=s.heap.objs.size+1:=cH ..;have g2:=aR (s.heap.push<|YC ak l) (o:={cls:=.type "enumerate",data:=.fields [.none,.bool ak,.ref s.heap.objs.size,hZ 0,.none,.none].toArray}) rfl;have g1:((s.heap.push<|YC ak l).push {cls:=.type "enumerate",data:=.fields [.none,.bool ak,.ref s.heap.objs.size,hZ 0,.none,.none].toArray}).get? s.heap.objs.size=aa (YC ak l):=aw _<|aR _ rfl;rw[hz]at g2 ⊢;exact#[#[_,g2,rfl],h _ _ rfl g2 #[_,g1,rfl,rfl] λc o q=>aw _<|aw _ q]
end
def ZgZ(K:am)(ta:TA):TI:=λZ H R=>ta Z H λvs H1=>∃b l,vs=[.ref l]/\(∃xs,Sq b K H1 l xs)/\R (Ite K b l) H1
def ZcW{a:Expr}{ta:TA}{p pos:gj}(hg:Gl X "enumerate")(hm:X.mg "enumerate" = ae)(ha:PA X [a] ta)(hs:aB [a] X.env=[#[37]]:=by rfl):PI X (.Tuple elts kk tp) (.Call (.Name "enumerate" p) [a] [] pos) (ZgZ X.K ta):=by
 intro pq s Z H R I h;refine rM<|Y1 I hg hm #[7]<|bU (thn (ha pos pq s Z H _ I h) λus s1 #[vs,H1,I1,r1,q1]=>?_) hs rfl
 obtain⟨b,l,e,⟨xs,hq⟩,q⟩:=q1;subst e;cases r1 with
 |cons r rr=>
  cases rr;cases r;obtain⟨its,rv,o1⟩:=YY I1 hq;have lt1:=Vp o1;refine uh o1 λh' n hn he hs' hk=>?_
  have I2:=I1.kept (t':=s1.toks) hk
  have q1:(l:Nat)<n:=by rw[hn];exact lt1
  refine oW he #[n+1,[n+1,n],_,_,H1,rfl,I2,qi (We<|.inr<|iZ n) (We<|.inl<|dW q1)<|We<|.inl q1,#[#[_,he],hs'],λc hc=>?_,q]
  have hbn:s1.heap.objs.size<=c:=by
   rw[<-hn];simp only[ay,bG,or_false]at hc;rcases hc with e|e<;>rw[e]
   .exact fN n
   .exact aI n
  exact I1.fpOk hbn<|I1.hok.fresh hbn
def Zac{lo:Int}{n i:Nat}(h:i<n):(Pv.ZV lo n)[i]?=aa (.int<|lo+i):=by
 unfold Pv.ZV;rw[aU,db h];rfl
def v9{K:am}{U:Mx}{H:Hp}{w:List D}{b:Bool}{l:aE}(h1:Side K U H w b l):WRel K U H (((Pv.ZV 0 w.length).zip w).map λp=>.tup [p.1,p.2]) (Ite K b l) where
 go:=λi ρ' S' H' f st hi=>by
  obtain⟨xs,q1,r1⟩:=h1 ρ' H' f;have hi':i<w.length:=by
   rw[ax,fZ,Jv]at hi;lia
  obtain⟨x,g1,rx⟩:=r1.get<|ai hi';refine#[#[xs,x,q1,g1],λu H'' #[T,x',e1,hT,eH,eu]=>?_]
  subst eH eu;have ex:=(e1 xs q1).symm.trans g1;cases ex;refine#[Zu hT,st.fresh hT,λd hd=>?_]
  have hz:((Pv.ZV 0 w.length).zip w)[i]?=aa (.int<|0+i,w[i]):=gR.mpr #[Zac hi',ai hi'];rw[aU,hz]at hd;cases hd;refine XE Zn<|Rq.cons ?_<|Rq.cons (rx.mono<|Zu hT) Rq.nil;rw[show((0:Int)+i)=i by lia]
  exact ZR _
 stop:=λρ' S' H' f st=>by
  obtain⟨xs,q1,r1⟩:=h1 ρ' H' f;refine#[xs,q1,?_];show xs.length=(((Pv.ZV 0 w.length).zip w).map λp=>Pv.V.tup [p.1,p.2]).length
  rw[ax,fZ,Jv,r1.length];lia
section
variable{X:Cx}{xw:Nat->Hp->Prop}{C:Calls}{a b:Expr}{i j:E}{pos p tp:gj}{elts:List Expr}{kk:Nat}
def Zdp(hm:X.mg "enumerate" = ae)(ha:CA X xw C [a] [i])(hg:Gl X "enumerate")(hs:aB [a] X.env=[#[37]]) :
  CW X xw C (.Tuple elts kk tp) (.Call (.Name "enumerate" p) [a] [] pos) (.enum i):=.mk <|
 PI.imp (ZcW hg hm ha.h hs) λZ H Q #[U,l,S,st,lr,h]=>Zd7 st lr h λx S1 ρ1 H1 v st1 r h1=>by
  cases e1:Pv.YG x with
  |none=>rw[e1]at h1;exact False.elim h1
  |some wk=>
   rw[e1]at h1;obtain⟨b1,l1,rfl,s1,d1⟩:=GS st1.hk r e1;exact#[b1,l1,rfl,s1,End.ok h1 st1<|v9 d1]
end
def VG(hh:A.handled=ae)(b:Bool)(it l:aE)(hne:l≠it)(xs:Array au) :
  Walks prog w A it [it,l] [it] xs.size (λi v=>xs[i]?=aa v) (λi h=>Src b h it l i/\YK b h l xs):=by
 cases b
 .exact Walks.tuple hh it l hne xs
 .exact Walks.list hh it l hne xs
def GT{b:Bool}{h:cy}{l:aE}:Src b (h.push<|YC b l) h.objs.size l 0:=by
 cases b
 .exact#[_,aR _ rfl,rfl,rfl]
 .exact#[_,aR _ rfl,rfl,rfl]
def ZhG{K:am}{H:Hp}{p:aE}{xs:List V}(h:SqL K H p xs\/SqT K H p xs):∃b,Sq b K H p xs:=by
 rcases h with h|h
 .exact#[aj,h]
 .exact#[ak,h]
def qC(hc:X.calm=aj):ZB X (.builtin "any") (λvs H Q=>∃U ds x v bs,U.K=X.K/\vs=[v]/\Rep U H x v/\Pv.YG x=aa ds/\Pv.ZY ds=aa bs/\Q (.bl<|bs.any id) H):=by
 intro pq s Z H vs us Q I r h;obtain⟨U,ds,x,v,bs,hk,rfl,r1,hl,hb,q⟩:=h;obtain⟨l,xs,rfl,hsq,rx⟩:=r1.seq hl;rw[hk]at hsq;obtain⟨kb,hq⟩:=ZhG hsq;obtain⟨u,rfl,ru⟩:=Wb r;cases ru;obtain⟨its,rv,o1⟩:=YY I hq;obtain⟨lb,tb⟩:=WO hb;have hlt:=Vp o1;have hlen:its.toArray.size=bs.length:=by rw[az,<-rv.length,rx.length,lb]
 refine call_any_walk<|Vb o1 #[s.heap.objs.size,[s.heap.objs.size,l],[s.heap.objs.size],its.toArray.size,_,_,λj=>bs.getD j ak,rfl,VG (A:=X.A.in1) #[43] kb s.heap.objs.size l (bv hlt) its.toArray,#[GT,o1.keep λo q=>aw _ q],?_,?_]
 .intro j v s' Q' E' hv hQ'
  have hj:its[j]?=aa v:=by simpa using hv
  have jl:j<ds.length:=by
   have:=(aH.mp hj).1;rw[<-rv.length,rx.length]at this;exact this
  obtain⟨w',g,r'⟩:=rx.get<|ai jl;obtain⟨u',g',ru'⟩:=rv.get g;rw[hj]at g';cases g';exact Vx r' ru' (tb j _<|ai jl) s' Q' E' hQ'
 .intro h' tk hk
  rw[hlen,uG];exact#[.bl<|bs.any id,H,I.kept (t':=tk) λb o e=>hk b o (λhm=>by
   have:b=s.heap.objs.size:=by simpa using hm
   exact T7 (this▸aQ e)<|bz _)<|aw _ e,rfl,q]
def vd(hc:X.calm=aj):ZB X (.builtin "any") (Ul X.K xw .any):=ZB.imp (qC hc)<|by
 rintro vs H Q ⟨U,S,ds,st,r,h⟩;obtain⟨d,v,z,rfl,r1,hz,h⟩:=WB h r;obtain⟨xs,hx,hz⟩:=bM.mp hz;obtain⟨bs,hb,rfl⟩:=cw.mp hz;exact#[U,xs,d,v,bs,st.hk,rfl,r1,hx,hb,End.ok h st<|Yg _]
theorem Qr :∀{ds:List D}{is:List Int}{xs:List V},Pv.intsV ds=aa is->Rq U H ds xs->xs=is.map V.int
 |[],is,xs,h,r=>by cases h;rw[r];rfl
 |d::ds,is,xs,h,r=>by
  obtain⟨v,vs,rfl,a1,b1⟩:=r;obtain⟨n,r,rfl,e,rfl⟩:=VH h;rw[a1.int',Qr e b1];rfl
def Qm(f:Nat->Int)(n:Nat):pG f (n+1)=pG f n+f n:=rfl
def yw:∀(is:List Int),pG (λj=>is.getD j 0) is.length=is.sum:=by
 have gen:∀(is:List Int)(n:Nat),n<=is.length->pG (λj=>is.getD j 0) n=(is.take n).sum:=by
  intro is n
  induction n with
  |zero=>intro _;rfl
  |succ n ih=>
   intro h;rw[Qm,ih #[0],lL,List.sum_append]
   have:is[n]?=aa is[n]:=ai #[0]
   simp[this]
 intro is;rw[gen is is.length<|aI _,gN]
theorem WZ(h:∀j,-M<=f j/\f j<=M)(hM:0<=M):∀n:Nat,-(M*n)<=pG f n/\pG f n<=M*n
 |0=>by rw[show pG f 0=0 from rfl];simp
 |n+1=>by
  obtain⟨a,b⟩:=WZ h hM n;obtain⟨c,d⟩:=h n;rw[Qm];have:M*((n+1:Nat):Int)=M*n+M:=by rw[mQ,Int.mul_add];simp
  rw[this];lia
def uv(hc:X.calm=aj):ZB X (.builtin "sum") (λvs H Q=>∃U ds v is,vs=[v]/\Rep U H (.lst ds) v/\Pv.intsV ds=aa is/\Ev.Zbw is=aj/\Q (.int is.sum) H):=by
 intro pq s Z H vs us Q I r h;obtain⟨U,ds,v,is,rfl,r1,hb,hok,q⟩:=h;obtain⟨l,xs,rfl,hx,_,rx⟩:=r1.lst';obtain⟨u,rfl,ru⟩:=Wb r;cases ru;have hq:Sq aj X.K H l xs:=SqL.of hx;obtain⟨its,rv,o1⟩:=YY I hq;have hlt:=Vp o1;have ex:=Qr hb rx;subst ex;have hlen:its.toArray.size=is.length:=by rw[az,<-rv.length,ax]
 obtain⟨k1,k2⟩:=(aC _ _).mp hok;have k1':=T6 k1;have bd:∀j,-1099511627776<=is.getD j 0/\is.getD j 0<=1099511627776:=λj=>by
  cases e:is[j]? with
  |none=>rw[aF,e];simp
  |some y=>
   have:=T6<|aY.mp k2 y<|cY e;rw[aF,e];exact this
 refine call_sum_walk<|Vb o1 #[s.heap.objs.size,[s.heap.objs.size,l],[s.heap.objs.size],its.toArray.size,_,_,λj=>is.getD j 0,rfl,VG (A:=X.A.in1) #[43] aj s.heap.objs.size l (bv hlt) its.toArray,#[GT,o1.keep λo q=>aw _ q],λb hb=>?_,λj v hv=>?_,λj hj=>?_,?_]
 .rw[cH]
  simp only[ay,bG,or_false]at hb;rcases hb with q|q<;>rw[q]
  .exact iZ _
  .exact dW hlt
 .have hj:its[j]?=aa v:=by simpa using hv
  have jl:j<is.length:=by
   have:=(aH.mp hj).1;rw[<-rv.length,ax]at this;exact this
  obtain⟨u',g',ru'⟩:=rv.get (by rw[aU,ai jl];rfl)
  rw[hj]at g';cases g';obtain⟨t,e⟩:=ru';exact#[t,by rw[e];show l0 is[j] t=l0 (is.getD j 0) t;rw[aF,ai jl];rfl]
 .have b1:=bd j
  have b2:=WZ bd #[0]<|j+1
  have jl:j+1<=1000:=by lia
  have b3:(1099511627776:Int)*((j+1:Nat):Int)<=1099511627776*1000:=Int.mul_le_mul_of_nonneg_left #[0] #[0]
  refine#[show InLong (is.getD j 0)from ?_,?_]<;>(unfold InLong;lia)
 .intro h' tk t' hk
  rw[hlen,yw];exact#[.int is.sum,H,I.kept (t':=tk) λb o e=>hk b o (λhm=>by
   have:b=s.heap.objs.size:=by simpa using hm
   exact T7 (this▸aQ e)<|bz _)<|aw _ e,#[t',rfl],q]
def wv(hc:X.calm=aj):ZB X (.builtin "sum") (Ul X.K xw .sum):=ZB.imp (uv hc)<|by
 rintro vs H Q ⟨U,S,ds,st,r,h⟩;obtain⟨d,v,z,rfl,r1,hz,h⟩:=WB h r;cases d with
 |lst ds=>
  obtain⟨is,hb,hz⟩:=bM.mp hz;split at hz
  .cases hz;exact#[U,ds,v,is,rfl,r1,hb,‹_›,End.ok h st<|ZR _]
  .cases hz
 |_=>exact Ev.nos hz
end
end Sd
namespace Tq
open PySem PyProof.Rows
noncomputable def Yv:Bool->cq->Array cq->Nat->Nat->Nat->StateT bX oD (Option Nat):=sortPriv% PySem.Builtin.gallop
def xj(lf:Bool)(k:cq)(ar:Array cq)(bs n hn:Nat):Yv lf k ar bs n hn=(do
 let bd (i:Nat):StateT bX oD (Option Bool):=do
  let x <-gS ar (bs+i)
  if lf then lt' x k else return (<-lt' k x).map (!·)
 let mut la:=0
 let mut of:=1
 let mut lo:=0
 let mut hi:=0
 let aa rt <-bd hn|return ae
 if rt then
  let mx:=n-hn
  for _ in [0:n] do
   if of>=mx then break
   let aa mo <-bd (hn+of)|return ae
   if !mo then break
   la:=of
   of:=2*of+1
  lo:=hn+la+1
  hi:=hn+sD of mx
 else
  let mx:=hn+1
  for _ in [0:n] do
   if of>=mx then break
   let aa fo <-bd (hn-of)|return ae
   if fo then break
   la:=of
   of:=2*of+1
  lo:=hn+1-sD of mx
  hi:=hn-la
 for _ in [0:n] do
  if lo>=hi then break
  let m:=lo+(hi-lo) / 2
  let aa mo <-bd m|return ae
  if mo then lo:=m+1 else hi:=m
 return aa hi):=rfl
noncomputable abbrev BT:=Option (Option Nat)×Nat×Nat
def mid{lo hi:Nat}(c:lo<hi):lo+(hi-lo) / 2<hi:=by omega
def Zba{F:Nat->BT->StateT bX oD (ForInStep BT)}{n:Nat}{τ:bX}{B:Nat->Bool}{Q:BT->bX->Prop}
  (hF:∀i lo hi (Q:ForInStep BT->bX->Prop),hi<=n->(lo>=hi->Q (.done (ae,lo,hi)) τ)->(lo<hi->Q (.yield (ae,if B (lo+(hi-lo) / 2)=aj then(lo+(hi-lo) / 2+1,hi)else(lo,lo+(hi-lo) / 2))) τ)->m7 #[8] A E s (F i (ae,lo,hi)) Q τ)
  (mono:∀i j,i<=j->j<n->B j=aj->B i=aj)(hq:∀r,r<=n->(∀i,i<n->(B i=aj↔i<r))->Q (ae,r,r) τ){lo hi:Nat}(h1:lo<=hi)(h2:hi<=n)(h3:∀i,i<lo->B i=aj)(h4:∀i,hi<=i->i<n->B i=ak) :
  m7 #[8] A E s (nU [0:n] ((ae,lo,hi):BT) F) Q τ:=by
 have fin:∀lo,lo<=n->(∀i,i<lo->B i=aj)->(∀i,lo<=i->i<n->B i=ak)->Q (ae,lo,lo) τ:=λlo a2 a4 a5=>hq _ a2 λi hi=>by
  refine#[λhB=>?_,a4 i]
  by_cases c:i<lo
  .exact c
  .rw[a5 i #[3] hi]at hB;cases hB
 refine cV
  (I:=λi c st'=>st'=τ/\c.1=ae/\c.2.1<=c.2.2/\c.2.2<=n/\c.2.2+i<=n+c.2.1/\(∀i,i<c.2.1->B i=aj)/\∀i,c.2.2<=i->i<n->B i=ak) ?_ ?_ #[rfl,rfl,h1,h2,by dsimp only;omega,h3,h4]
 .rintro i ⟨r,lo,hi⟩ st' hi0 hin ⟨rfl,rfl,a1,a2,a3,a4,a5⟩
  dsimp only at a1 a2 a3 a4 a5 ⊢
  refine hF i lo hi _ a2 (λc=>?_) λc=>?_
  .have e:lo=hi:=by omega
   subst e;exact fin lo a2 a4 a5
  .have m1:=dB lo ((hi-lo) / 2)
   have m2:=mid c;generalize lo+(hi-lo) / 2=m at *;cases hm:B m with
   |true=>
    simp only[if_true];exact#[trivial,trivial,by omega,a2,by omega,λj hj=>mono j _ #[3] #[3] hm,a5]
   |false=>
    simp only[cL,if_false];refine#[trivial,trivial,by omega,by omega,by omega,a4,λj hj hn=>?_]
    cases hj2:B j with|false=>rfl|true=>rw[mono _ j hj hn hj2]at hm;cases hm
 .rintro ⟨r,lo,hi⟩ st' ⟨rfl,rfl,a1,a2,a3,a4,a5⟩
  dsimp only at a1 a2 a3 a4 a5 ⊢
  have e:lo=hi:=by omega
  subst e;exact fin lo a2 a4 a5
def Zgz{lf:Bool}{k:cq}{ar:Array cq}{bs n hn:Nat}{τ:bX}{B:Nat->Bool}{Q:Option Nat->bX->Prop}(hh:hn<n)
  (hb:∀i,i<n->∀Q:Option Bool->bX->Prop,Q (aa<|B i) τ->m7 #[8] A E s (do
   let x <-gS ar (bs+i)
   if lf then lt' x k else return (<-lt' k x).map (!·)) Q τ)
  (mono:∀i j,i<=j->j<n->B j=aj->B i=aj)(hq:∀r,r<=n->(∀i,i<n->(B i=aj↔i<r))->Q (aa r) τ):m7 #[8] A E s (Yv lf k ar bs n hn) Q τ:=by
 have no:∀{i j},i<=j->j<n->B i=ak->B j=ak:=λ{i j} h hj hi=>by
  cases q:B j with|false=>rfl|true=>rw[mono i j h hj q]at hi;cases hi
 rw[xj]
 dsimp only
 refine aK<|hb hn hh _ ?_
 dsimp only
 cases h0:B hn with
 |true=>
  rw[T9 rfl];refine aK (fD (cV
   (I:=λi (c:BT) st'=>st'=τ/\c.1=ae/\c.2.1<c.2.2/\i<c.2.2/\hn+c.2.1<n/\B (hn+c.2.1)=aj)
   (Q:=λ(c:BT) st'=>st'=τ/\c.1=ae/\c.2.1<c.2.2/\hn+c.2.1<n/\B (hn+c.2.1)=aj/\(n<=hn+c.2.2\/B (hn+c.2.2)=ak)) ?_ ?_ #[rfl,rfl,by decide,by decide,hh,h0]) ?_)
  .rintro i ⟨r,la,f⟩ st' _ hin ⟨rfl,rfl,a1,a2,a3,a4⟩
   dsimp only at a1 a2 a3 a4 ⊢
   by_cases c:f>=n-hn
   .rw[T9 c]
    exact aW #[rfl,rfl,a1,a3,a4,.inl (by dsimp only;omega)]
   .rw[T8 c]
    refine aK<|hb _ #[3] _ ?_
    dsimp only
    cases hm:B (hn+f)with|true=>exact aW #[rfl,rfl,by dsimp only;omega,by dsimp only;omega,by dsimp only;omega,hm]|false=>exact aW #[rfl,rfl,a1,a3,a4,.inr hm]
  .rintro ⟨r,la,f⟩ st' ⟨rfl,rfl,a1,a2,a3,a4⟩
   dsimp only at a1 a2 a3 a4 ⊢
   exact#[rfl,rfl,a1,a3,a4,.inl #[3]]
  .rintro ⟨r,la,f⟩ st' ⟨rfl,rfl,a1,a3,a4,a5⟩
   dsimp only at a1 a3 a4 a5 ⊢
   refine aK (Zba (n:=n) (B:=B) (λi lo hi Q h1 h2 h3=>by
    by_cases c:lo>=hi
    .simp only[T9 c];exact aW<|h2 c
    .simp only[T8 c]
     have c:=pH c;refine aK<|hb _ (br (mid c) h1) _ ?_;have h3:=h3 c;cases hm:B (lo+(hi-lo) / 2)<;>(rw[hm]at h3;exact aW h3)) mono (λr hr hB=>aW<|hq r hr hB) #[3] #[3] (λi hi=>mono i _ #[3] a3 a4) λi h1 h2=>?_)
   rcases a5 with a5|a5
   .omega
   .exact no #[3] h2 a5
 |false=>
  rw[T8 #[2]]
  refine aK (fD (cV
   (I:=λi (c:BT) st'=>st'=τ/\c.1=ae/\c.2.1<c.2.2/\i<c.2.2/\c.2.1<=hn/\B (hn-c.2.1)=ak)
   (Q:=λ(c:BT) st'=>st'=τ/\c.1=ae/\c.2.1<c.2.2/\c.2.1<=hn/\B (hn-c.2.1)=ak/\(hn<c.2.2\/B (hn-c.2.2)=aj)) ?_ ?_ #[rfl,rfl,by decide,by decide,eE _,h0]) ?_)
  .rintro i ⟨r,la,f⟩ st' _ hin ⟨rfl,rfl,a1,a2,a3,a4⟩
   dsimp only at a1 a2 a3 a4 ⊢
   by_cases c:f>=hn+1
   .rw[T9 c]
    exact aW #[rfl,rfl,a1,a3,a4,.inl (by dsimp only;omega)]
   .rw[T8 c]
    refine aK<|hb _ #[3] _ ?_
    dsimp only
    cases hm:B (hn-f)with|true=>exact aW #[rfl,rfl,a1,a3,a4,.inr hm]|false=>exact aW #[rfl,rfl,by dsimp only;omega,by dsimp only;omega,by dsimp only;omega,hm]
  .rintro ⟨r,la,f⟩ st' ⟨rfl,rfl,a1,a2,a3,a4⟩
   dsimp only at a1 a2 a3 a4 ⊢
   exact#[rfl,rfl,a1,a3,a4,.inl #[3]]
  .rintro ⟨r,la,f⟩ st' ⟨rfl,rfl,a1,a3,a4,a5⟩
   dsimp only at a1 a3 a4 a5 ⊢
   refine aK (Zba (n:=n) (B:=B) (λi lo hi Q h1 h2 h3=>by
    by_cases c:lo>=hi
    .simp only[T9 c];exact aW<|h2 c
    .simp only[T8 c]
     have c:=pH c;refine aK<|hb _ (br (mid c) h1) _ ?_;have h3:=h3 c;cases hm:B (lo+(hi-lo) / 2)<;>(rw[hm]at h3;exact aW h3)) mono (λr hr hB=>aW<|hq r hr hB) #[3] #[3] (λi hi=>?_) λi h1 h2=>no h1 h2 a4)
   rcases a5 with a5|a5
   .omega
   .exact mono i _ #[3] #[3] a5
abbrev Srt(R:B->B->Prop)(l:List B):Prop:=l.Pairwise R
abbrev lr(rk:B->Nat):B->B->Prop:=λx y=>rk x<rk y
abbrev gr(rk:B->Nat):B->B->Prop:=λx y=>rk y<rk x
structure ML(R:B->B->Prop)(T o ra rb:List B):Prop where
 perm:(o++ra++rb).Perm T
 so:Srt R o
 sa:Srt R ra
 sb:Srt R rb
 lt:∀x∈o,∀y,y∈ra\/y∈rb->R x y
def ML.as{T o xs ra rb:List B}(h:ML R T o (xs++ra) rb)(hx:∀x∈xs,∀y∈rb,R x y):ML R T (o++xs) ra rb:=by
 obtain⟨s1,s2,s3⟩:=eG.mp h.sa;refine#[by simpa[bu]using h.perm,eG.mpr #[h.so,s1,λx hx y hy=>h.lt x hx y<|.inl<|cX _ hy],s2,h.sb,λx hx2 y hy=>?_]
 rcases bK.mp hx2 with z|z
 .exact h.lt x z y<|hy.imp (bt _) id
 .rcases hy with hy|hy
  .exact s3 x z y hy
  .exact hx x z y hy
def ML.swap{T o ra rb:List B}(h:ML R T o ra rb):ML R T o rb ra:=by
 refine#[List.Perm.trans ?_ h.perm,h.so,h.sb,h.sa,λx hx y hy=>h.lt x hx y hy.symm]
 rw[bu,bu];exact List.perm_append_comm.append_left _
def ML.bs(h:ML R T o ra (xs++rb))(hx:∀x∈xs,∀y∈ra,R x y):ML R T (o++xs) ra rb:=(h.swap.as hx).swap
def ML.fin{T o ra:List B}(h:ML R T o ra []):(o++ra).Perm T/\Srt R (o++ra):=by
 have h':=ML.as (ra:=[]) (by simpa using h) λx _ y hy=>by cases hy
 exact#[by simpa using h'.perm,h'.so]
def ML.ne(h:ML R T o ra rb)(hT:(T.map rk).Nodup)(hx:x∈ra)(hy:y∈rb):rk x≠rk y:=by
 have n:=((h.perm.map rk).nodup_iff).mpr hT;rw[bw,gv]at n;exact n.2.2 _ (eR<|bt _ hx) _<|eR hy
structure Od(prog:bE)(w:bZ)(A:cz)(E:au->aA->Prop)(s:aA)(κ:iH)(In:cq->Prop)(rk:cq->Nat):Prop where
 ask:∀{x y:cq}{τ:bX}{Q:Option Bool->bX->Prop},In x->In y->kindOf τ=κ->Q (aa<|af<|rk x<rk y) τ->m7 (aV prog w) A E s (lt' x y) Q τ
def Sg(τ st':bX):Prop:=kindOf st'=kindOf τ/\bo st'=bo τ/\bp st'=bp τ/\gH st'=gH τ
section
variable{In:cq->Prop}
def ZG{Q:cq->bX->Prop}(h:ar[i]?=aa x)(hq:Q x τ):m7 #[8] A E s (gS ar i) Q τ:=by
 rw[elem'_eq,h];exact aW hq
def Wn{Q:Unit->bX->Prop}(hq:Q () τ):m7 #[8] A E s (liftM (oH t):StateT bX oD Unit) Q τ:=wpS_lift<|d6 #[rfl,hq]
theorem vT(O:Od prog w A E s κ In rk){Q:Option Nat->bX->Prop}(hk:kindOf τ=κ)(ik:In k)(hh:h0<n)(hn:i+n<=ar.size)(ia:∀x∈ar.toList,In x)
  (so:Srt (lr rk) ((ar.toList.drop i).take n))(ne:∀x∈(ar.toList.drop i).take n,rk x≠rk k)
  (hq:∀r,r<=n->(∀x∈((ar.toList.drop i).take n).take r,rk x<rk k)->(∀x∈((ar.toList.drop i).take n).drop r,rk k<rk x)->Q (aa r) τ):m7 #[8] A E s (Yv lf k ar i n h0) Q τ:=by
 generalize hl:(ar.toList.drop i).take n=l at so ne hq;have ll:l.length=n:=by rw[<-hl,bQ,bF,aP];lia
 have at_:∀j (hj:j<n),ar[i+j]?=aa (l[j]'#[0]):=λj hj=>by
  have:ar.toList[i+j]?=aa (l[j]'#[0]):=by
   subst hl;rw[gw,gy];exact ai _
  simpa using this
 have mem:∀j (hj:j<n),In (l[j]'#[0]):=λj hj=>ia _ (by
  have h2:∀x∈l,x∈ar.toList:=λx hx=>by rw[<-hl]at hx;exact cx<|dv hx
  exact h2 _<|ba _)
 have hB:∀j (hj:j<n),((l[j]?).any λx=>af<|rk x<rk k)=af (rk (l[j]'#[0])<rk k):=λj hj=>by
  rw[ai #[0]];rfl
 refine Zgz (B:=λj=>(l[j]?).any λx=>af<|rk x<rk k) hh (λj hj Q hQ=>?_) (λa b hab hb h=>?_) λr hr hr2=>hq r hr (λx hx=>?_) λx hx=>?_
 .rw[hB j hj]at hQ
  refine aK<|ZG (at_ j hj) ?_;cases lf with
  |true=>exact O.ask (mem j hj) ik hk hQ
  |false=>
   refine aK<|O.ask ik (mem j hj) hk<|aW ?_;have e:(!decide (rk k<rk (l[j]'#[0])))=af (rk (l[j]'#[0])<rk k):=by
    have:=ne _<|ba (n:=j) #[0]
    by_cases c:rk k<rk (l[j]'#[0])
    .rw[T5 c,T4 #[0]];rfl
    .rw[T4 c,T5 #[0]];rfl
   show Q (aa<|!decide (rk k<rk (l[j]'#[0]))) τ
   rw[e];exact hQ
 .rw[hB b hb]at h
  rw[hB a #[0]]
  rcases Nat.lt_or_eq_of_le hab with c|c
  .have:=cn.mp so a b #[0] #[0] c
   have h:=T6 h;exact T5 #[0]
  .subst c;exact h
 .obtain⟨j,hj,rfl⟩:=cE hx
  rw[bQ]at hj;have:=(hr2 j<|by lia).mpr #[0]
  rw[hB j<|by lia]at this
  rw[gw];exact T6 this
 .obtain⟨j,hj,rfl⟩:=cE hx
  rw[bF]at hj;rw[gy];have h1:=hr2 (r+j) #[0]
  rw[hB _<|by lia]at h1
  have h2:=ne _<|ba (n:=r+j) #[0]
  have h3:¬rk (l[r+j]'#[0])<rk k:=λz=>T7 (h1.mp<|T5 z) #[0]
  lia
end
noncomputable abbrev KA:=Array cq
noncomputable abbrev SM:=StateT bX oD
noncomputable def UW:KA->KA->SM KA:=sortPriv% PySem.Builtin.mergeLo
noncomputable def Je:Nat->SM Unit:=sortPriv% PySem.Builtin.setMinGallop
def qS(g:Nat):Je g=modify λs=>rX (kindOf s) (bo s) (bp s) g (gH s):=rfl
noncomputable abbrev dn(a b o:KA)(i j:Nat):KA:=o++a.extract i a.size++b.extract j b.size
noncomputable abbrev ls(a b o:KA)(i j:Nat):KA:=o++b.extract j b.size++a.extract i a.size
abbrev T2:=Option KA×KA×Nat×Nat×Nat×Nat
abbrev T3:=Option KA×KA×Nat×Nat×Nat×Nat×Nat
abbrev T1:=Option KA×KA×Nat×Nat×Nat
def F1(a b:KA)(g:Nat)(c:T2):SM (ForInStep T2):=do
 let o:=c.2.1
 let i:=c.2.2.1
 let j:=c.2.2.2.1
 let ca:=c.2.2.2.2.1
 let cb:=c.2.2.2.2.2
 let aa t <-lt' (<-gS b j) (<-gS a i)|return .done (aa<|dn a b o i j,o,i,j,ca,cb)
 if t then
  let o:=o.push<|<-gS b j
  let j:=j+1
  if j == b.size then return .done (aa<|dn a b o i j,o,i,j,0,cb+1)
  if cb+1>=g then return .done (ae,o,i,j,0,cb+1)
  return .yield (ae,o,i,j,0,cb+1)
 else
  let o:=o.push<|<-gS a i
  let i:=i+1
  if i+1 == a.size then return .done (aa<|ls a b o i j,o,i,j,ca+1,0)
  if ca+1>=g then return .done (ae,o,i,j,ca+1,0)
  return .yield (ae,o,i,j,ca+1,0)
def G3(a b:KA)(g ca cb i:Nat)(o:KA)(j:Nat):SM (ForInStep T3):=do
 let o:=o.push<|<-gS a i
 let i:=i+1
 if i+1 == a.size then return .done (aa<|ls a b o i j,o,i,j,g,ca,cb)
 if ca<7&&cb<7 then return .done (ae,o,i,j,g,ca,cb)
 return .yield (ae,o,i,j,g,ca,cb)
def G2(a b:KA)(g ca cb j:Nat)(o:KA)(i:Nat):SM (ForInStep T3):=do
 let o:=o.push<|<-gS b j
 let j:=j+1
 if j == b.size then return .done (aa<|dn a b o i j,o,i,j,g,ca,cb)
 let aa k <-Yv aj (<-gS a i) b j (b.size-j) 0|return .done (aa<|dn a b o i j,o,i,j,g,ca,cb)
 if k>0 then
  let o:=o++b.extract j (j+k)
  let j:=j+k
  if j == b.size then return .done (aa<|dn a b o i j,o,i,j,g,ca,k)
  else G3 a b g ca k i o j
 else G3 a b g ca k i o j
def G1(a b:KA)(o:KA)(i j ca cb g:Nat):SM (ForInStep T3):=do
 Je g
 let aa k <-Yv ak (<-gS b j) a i (a.size-i) 0|return .done (aa<|dn a b o i j,o,i,j,g,ca,cb)
 if k>0 then
  let o:=o++a.extract i (i+k)
  let i:=i+k
  if i+1 == a.size then return .done (aa<|ls a b o i j,o,i,j,g,k,cb)
  else if i == a.size then return .done (aa<|dn a b o i j,o,i,j,g,k,cb)
  else G2 a b g k cb j o i
 else G2 a b g k cb j o i
def F2(a b:KA)(c:T3):SM (ForInStep T3):=
 if c.2.2.2.2.1>1 then G1 a b c.2.1 c.2.2.1 c.2.2.2.1 c.2.2.2.2.2.1 c.2.2.2.2.2.2 (c.2.2.2.2.1-1)
 else G1 a b c.2.1 c.2.2.1 c.2.2.2.1 c.2.2.2.2.2.1 c.2.2.2.2.2.2 c.2.2.2.2.1
def F0(a b:KA)(c:T1):SM (ForInStep T1):=do
 let d <-nU [0:a.size+b.size] ((ae,c.2.1,c.2.2.1,c.2.2.2.1,0,0):T2) λ_ d=>F1 a b c.2.2.2.2 d
 lj d.1 (λ_=>do
  oH "list.sort.gallop"
  let e <-nU [0:a.size+b.size] ((ae,d.2.1,d.2.2.1,d.2.2.2.1,c.2.2.2.2+1,d.2.2.2.2.1,d.2.2.2.2.2):T3) λ_ d=>F2 a b d
  lj e.1 (λ_=>do
   Je (e.2.2.2.2.1+1)
   cF (.yield (ae,e.2.1,e.2.2.1,e.2.2.2.1,e.2.2.2.2.1+1))) λr=>cF<|.done (aa r,e.2.1,e.2.2.1,e.2.2.2.1,e.2.2.2.2.1)) λr=>cF<|.done (aa r,d.2.1,d.2.2.1,d.2.2.2.1,c.2.2.2.2)
def zS(a b:KA):UW a b=(do
 oH "list.sort.merge-lo"
 let y <-gS b 0
 if 1 == b.size then return dn a b #[y] 0 1
 if 0+1 == a.size then return ls a b #[y] 0 1
 let τ <-get
 let c <-nU [0:a.size+b.size] ((ae,#[y],0,1,gallopOf τ):T1) λ_ c=>F0 a b c
 lj c.1 (λ_=>rg "internal:list.sort.merge-bound") λr=>cF r):=rfl
def Wo(a:KA)(i:Nat):(a.extract i a.size).toList=a.toList.drop i:=by
 rw[ki,gT,<-aP];exact cG (by rw[bF];exact aI _)
def vO(a:KA)(i k:Nat):(a.extract i<|i+k).toList=(a.toList.drop i).take k:=by
 rw[ki,gT,cf]
def Yd{a:KA}{i:Nat}(h:i<a.size):a.toList.drop i=a[i]::a.toList.drop (i+1):=by
 rw[ck (by simpa using h)];rfl
def td{B:Type}(l:List B)(n r:Nat):(l.drop n).take r++l.drop (n+r)=l.drop n:=by rw[<-lm,cU]
def ZN{a:KA}{i:Nat}(h:i<a.size):a[i]?=aa a[i]:=bS h
section
variable{prog:bE}{w:bZ}{A:cz}{E:au->aA->Prop}{s:aA}{κ:iH}{In:cq->Prop}{rk:cq->Nat}
def ZD{B:Type}{c:Prop}[Decidable c]{x y:SM B}{Q:B->bX->Prop}{τ:bX}(h1:c->m7 #[8] A E s x Q τ)(h2:¬c->m7 #[8] A E s y Q τ):m7 #[8] A E s (if c then x else y) Q τ:=by
 by_cases h:c
 .rw[T9 h];exact h1 h
 .rw[T8 h];exact h2 h
theorem wO(O:Od prog w A E s κ In rk){Q:Option Nat->bX->Prop}(hk:kindOf τ=κ)(ik:In k)(hi:i<ar.size)(ia:∀x∈ar.toList,In x)(so:Srt (lr rk) (ar.toList.drop i))(ne:∀x∈ar.toList.drop i,rk x≠rk k)
  (hq:∀r,i+r<=ar.size->(∀x∈(ar.toList.drop i).take r,rk x<rk k)->(∀x∈ar.toList.drop (i+r),rk k<rk x)->Q (aa r) τ):m7 #[8] A E s (Yv lf k ar i (ar.size-i) 0) Q τ:=by
 have e:(ar.toList.drop i).take (ar.size-i)=ar.toList.drop i:=cG (by rw[bF,aP];exact aI _)
 refine vT O hk ik (Nat.sub_pos_of_lt hi) (mI<|kG<|kJ hi) ia (e.symm▸so) (e.symm▸ne) λr h1 h2 h3=>?_
 rw[e]at h2 h3;rw[lm]at h3;exact hq r #[0] h2 h3
structure Mg(κ:iH)(In:cq->Prop)(rk:cq->Nat)(a b:KA)(T:List cq):Prop where
 nd:(T.map rk).Nodup
 ia:∀x∈a.toList,In x
 ib:∀x∈b.toList,In x
 last:∀y∈b.toList,∀x∈a.toList.drop (a.size-1),rk y<rk x
def Res(rk:cq->Nat)(T:List cq)(r:KA):Prop:=r.toList.Perm T/\Srt (lr rk) r.toList
abbrev Lo(rk:cq->Nat)(a b:KA)(T:List cq)(o:KA)(i j:Nat):Prop:=ML (lr rk) T o.toList (a.toList.drop i)<|b.toList.drop j
structure Iv(rk:cq->Nat)(a b:KA)(T:List cq)(o:KA)(i j:Nat):Prop where
 m:Lo rk a b T o i j
 hi:i+1<a.size
 hj:j<b.size
 z:o.size=i+j
variable{a b:KA}{T:List cq}
def Gq(h:Lo rk a b T o i j)(hj:(j == b.size)=aj):Res rk T (dn a b o i j):=by
 have hj:=beq_iff_eq.mp hj;unfold Lo at h;rw[hj,<-aP,fc]at h;have:=h.fin;unfold Res dn;rw[cr,cr,Wo,Wo,hj,<-aP,fc,bO];exact this
def Zc0(h:Lo rk a b T o i j)(hi:(i == a.size)=aj):Res rk T (dn a b o i j):=by
 have hi:=beq_iff_eq.mp hi;unfold Lo at h;rw[hi,<-aP,fc]at h;have:=h.swap.fin;unfold Res dn;rw[cr,cr,Wo,Wo,hi,<-aP,fc,bO];exact this
theorem JS(G:Mg κ In rk a b T)(h:Lo rk a b T o i j)(hi:(i+1 == a.size)=aj):Res rk T (ls a b o i j):=by
 have hi:=beq_iff_eq.mp hi;have e:a.size-1=i:=by lia
 have:=(ML.bs (by rw[bO];exact h) λy hy x hx=>G.last y (cx hy) x<|by rw[e];exact hx).fin
 unfold Res ls;rw[cr,cr,Wo,Wo];exact this
def Zbc(h:Lo rk a b T o i j)(hj:j<b.size)(hy:∀x∈a.toList.drop i,rk b[j]<rk x):Lo rk a b T (o.push b[j]) i (j+1):=by
 unfold Lo at h ⊢;rw[Yd hj]at h;rw[gz];exact ML.bs h λx hx y hy'=>by rw[aT.mp hx];exact hy y hy'
def Zd3(h:Lo rk a b T o i j)(hi:i<a.size)(hx:∀y∈b.toList.drop j,rk a[i]<rk y):Lo rk a b T (o.push a[i]) (i+1) j:=by
 unfold Lo at h ⊢;rw[Yd hi]at h;rw[gz];exact ML.as h λx hx' y hy'=>by rw[aT.mp hx'];exact hx y hy'
def vC(h:Srt (lr rk) (x::l))(hx:rk y<rk x):∀z∈x::l,rk y<rk z:=λz hz=>by
 rcases ay.mp hz with rfl|hz
 .exact hx
 .exact dA hx<|(aZ.mp h).1 z hz
def Qt(h:m<n)(q:¬(m+1 == n)=aj):m+1<n:=fR h λz=>q<|beq_iff_eq.mpr z
theorem ZgE(O:Od prog w A E s κ In rk)(G:Mg κ In rk a b T){g ca cb:Nat}{r0:Option KA}{τ:bX}{Q:ForInStep T2->bX->Prop}(hk:kindOf τ=κ)(I:Iv rk a b T o i j)
  (hd:∀r c,Res rk T r->Q #[44] τ)(hb:∀o' i' j' ca cb,Iv rk a b T o' i' j'->o'.size=o.size+1->Q (.done (ae,o',i',j',ca,cb)) τ/\Q (.yield (ae,o',i',j',ca,cb)) τ):m7 #[8] A E s (F1 a b g (r0,o,i,j,ca,cb)) Q τ:=by
 have hi:=eL I.hi;have ha:a[i]∈a.toList.drop i:=by rw[Yd hi];exact al ..
 have hb':b[j]'I.hj∈b.toList.drop j:=by rw[Yd I.hj];exact al ..
 have sa:=I.m.sa;have sb:=I.m.sb;rw[Yd hi]at sa;rw[Yd I.hj]at sb;refine aK<|ZG (ZN I.hj)<|aK<|ZG (ZN hi)<|aK<|O.ask (G.ib _<|cx hb') (G.ia _<|cx ha) hk ?_;by_cases c:rk (b[j]'I.hj)<rk a[i]
 .rw[T5 c]
  refine aK<|ZG (ZN I.hj) ?_;have m:=Zbc I.m I.hj (by rw[Yd hi];exact vC sa c)
  have z:(o.push<|b[j]'I.hj).size=o.size+1:=eO ..;refine ZD (λq=>aW<|hd _ _<|Gq m q) λq=>?_
  have h:=hb _ _ _ 0 (cb+1) #[m,I.hi,Qt I.hj q,by rw[z,I.z];lia] z
  exact ZD (λ_=>aW h.1) λ_=>aW h.2
 .rw[T4 c]
  refine aK<|ZG (ZN hi) ?_;have c':=fR (fb c)<|I.m.ne G.nd ha hb';have m:=Zd3 I.m hi (by rw[Yd I.hj];exact vC sb c')
  have z:(o.push a[i]).size=o.size+1:=eO ..;refine ZD (λq=>aW<|hd _ _<|JS G m q) λq=>?_
  have h:=hb _ _ _ (ca+1) 0 #[m,Qt I.hi q,I.hj,by rw[z,I.z];lia] z
  exact ZD (λ_=>aW h.1) λ_=>aW h.2
theorem Sg.trans(h:Sg s1 s2)(k:Sg s2 s3):Sg s1 s3:=#[k.1.trans h.1,k.2.1.trans h.2.1,k.2.2.1.trans h.2.2.1,k.2.2.2.trans h.2.2.2]
def UG{Q:Unit->bX->Prop}(h:∀st',Sg τ st'->Q () st'):m7 #[8] A E s (Je g) Q τ:=by
 rw[qS];exact fS<|h _ #[rfl,rfl,rfl,rfl]
section
variable(O:Od prog w A E s κ In rk)(G:Mg κ In rk a b T)
include O G
theorem Zes{g ca cb:Nat}{τ:bX}(m:Lo rk a b T o i j)(hi:i+1<a.size)(hj:j<b.size)(z:o.size=i+j)(hx:∀y∈b.toList.drop j,rk a[i]<rk y)
  (hd:∀r c,Res rk T r->Q #[44] τ)(hb:∀o' i' j' g ca cb,Iv rk a b T o' i' j'->o'.size=o.size+1->Q (.done (ae,o',i',j',g,ca,cb)) τ/\Q (.yield (ae,o',i',j',g,ca,cb)) τ):m7 #[8] A E s (G3 a b g ca cb i o j) Q τ:=by
 have hi':=eL hi;refine aK<|ZG (ZN hi') ?_;have m:=Zd3 m hi' hx;have z':(o.push a[i]).size=o.size+1:=eO ..;refine ZD (λq=>aW<|hd _ _<|JS G m q) λq=>?_
 have h:=hb _ _ _ g ca cb #[m,Qt hi q,hj,by rw[z',z];lia] z'
 exact ZD (λ_=>aW h.1) λ_=>aW h.2
theorem Zey{g ca cb:Nat}{τ:bX}(hk:kindOf τ=κ)(m:Lo rk a b T o i j)(hi:i+1<a.size)(hj:j<b.size)(z:o.size=i+j)(hy:∀x∈a.toList.drop i,rk b[j]<rk x)
  (hd:∀r c,Res rk T r->Q #[44] τ)(hb:∀o' i' j' g ca cb,Iv rk a b T o' i' j'->o.size<o'.size->Q (.done (ae,o',i',j',g,ca,cb)) τ/\Q (.yield (ae,o',i',j',g,ca,cb)) τ):m7 #[8] A E s (G2 a b g ca cb j o i) Q τ:=by
 have hi':=eL hi;unfold G2;refine aK<|ZG (ZN hj) ?_;have m:=Zbc m hj hy;have z':(o.push b[j]).size=o.size+1:=eO ..;refine ZD (λq=>aW<|hd _ _<|Gq m q) λq=>?_
 have hj:=Qt hj q;have ha:a[i]∈a.toList.drop i:=by rw[Yd hi'];exact al ..
 refine aK<|ZG (ZN hi')<|aK<|wO O hk (G.ia _<|cx ha) hj G.ib m.sb (λy hy=>(m.ne G.nd ha hy).symm) λr hr h1 h2=>?_
 refine ZD (λ_=>?_) λc=>?_
 .have m2:Lo rk a b T (o.push b[j]++b.extract (j+1) (j+1+r)) i (j+1+r):=by
   unfold Lo;rw[cr,vO];refine ML.bs ?_ λy hy x hx=>?_
   .rw[td];exact m
   .have sa:=m.sa
    rw[Yd hi']at sa hx;exact vC sa (h1 y hy) x hx
  have z2:(o.push b[j]++b.extract (j+1) (j+1+r)).size=o.size+1+r:=by rw[iI,z',fF #[0],cf]
  refine ZD (λq=>aW<|hd _ _<|Gq m2 q) λq=>?_
  have hj2:j+1+r<b.size:=fR hr λz=>q<|beq_iff_eq.mpr z
  exact Zes O G m2 hi hj2 (by rw[z2,z];lia) h2 hd λo' i' j' g ca cb I e=>hb o' i' j' g ca cb I #[0]
 .have e:r=0:=by lia
  subst e;exact Zes O G m hi hj (by rw[z',z];lia) h2 hd λo' i' j' g ca cb I e=>hb o' i' j' g ca cb I #[0]
theorem Zef{g ca cb:Nat}{τ:bX}(hk:kindOf τ=κ)(I:Iv rk a b T o i j)
  (hd:∀r c st',Sg τ st'->Res rk T r->Q #[44] st')(hb:∀o' i' j' g ca cb st',Sg τ st'->Iv rk a b T o' i' j'->o.size<o'.size->Q (.done (ae,o',i',j',g,ca,cb)) st'/\Q (.yield (ae,o',i',j',g,ca,cb)) st'):m7 #[8] A E s (G1 a b o i j ca cb g) Q τ:=by
 obtain⟨m,hi,hj,z⟩:=I;have hi':=eL hi;have hb':b[j]∈b.toList.drop j:=by rw[Yd hj];exact al ..
 unfold G1;refine aK<|UG λst' sg=>aK<|ZG (ZN hj)<|aK<|wO O (sg.1.trans hk) (G.ib _<|cx hb') hi' G.ia m.sa (λx hx=>m.ne G.nd hx hb') λr hr h1 h2=>?_
 refine ZD (λ_=>?_) λc=>?_
 .have m2:Lo rk a b T (o++a.extract i (i+r)) (i+r) j:=by
   unfold Lo;rw[cr,vO];refine ML.as ?_ λx hx y hy=>?_
   .rw[td];exact m
   .have sb:=m.sb
    rw[Yd hj]at sb hy;exact vC sb (h1 x hx) y hy
  have z2:(o++a.extract i (i+r)).size=o.size+r:=by rw[iI,fF #[0],cf]
  refine ZD (λq=>aW<|hd _ _ st' sg<|JS G m2 q) λq=>ZD (λq=>aW<|hd _ _ st' sg<|Zc0 m2 q) λq2=>?_
  have q2:i+r≠a.size:=λz=>q2<|beq_iff_eq.mpr z
  exact Zey O G (sg.1.trans hk) m2 (Qt #[0] q) hj (by rw[z2,z];lia) h2 (λr c=>hd r c st' sg) λo' i' j' g ca cb I e=>hb o' i' j' g ca cb st' sg I #[0]
 .have e:r=0:=by lia
  subst e;exact Zey O G (sg.1.trans hk) m hi hj z h2 (λr c=>hd r c st' sg) λo' i' j' g ca cb I e=>hb o' i' j' g ca cb st' sg I #[0]
theorem Zg9{g ca cb:Nat}{r0:Option KA}{τ:bX}(hk:kindOf τ=κ)(I:Iv rk a b T o i j)
  (hd:∀r c st',Sg τ st'->Res rk T r->Q #[44] st')(hb:∀o' i' j' g ca cb st',Sg τ st'->Iv rk a b T o' i' j'->o.size<o'.size->Q (.done (ae,o',i',j',g,ca,cb)) st'/\Q (.yield (ae,o',i',j',g,ca,cb)) st'):m7 #[8] A E s (F2 a b (r0,o,i,j,g,ca,cb)) Q τ:=by
 exact ZD (λ_=>Zef O G hk I hd hb) λ_=>Zef O G hk I hd hb
theorem ZgO{Q:ForInStep T1->bX->Prop}(hk:kindOf τ=κ)(I:Iv rk a b T o i j)
  (hd:∀r c st',Sg τ st'->Res rk T r->Q #[44] st')(hy:∀o' i' j' g st',Sg τ st'->Iv rk a b T o' i' j'->o.size<o'.size->Q (.yield (ae,o',i',j',g)) st'):m7 #[8] A E s (F0 a b (r0,o,i,j,g)) Q τ:=by
 refine aK (fD (cV
  (I:=λx (c:T2) st'=>st'=τ/\c.1=ae/\Iv rk a b T c.2.1 c.2.2.1 c.2.2.2.1/\o.size+x<=c.2.1.size)
  (Q:=λ(c:T2) st'=>st'=τ/\((∃r,c.1=aa r/\Res rk T r)\/c.1=ae/\Iv rk a b T c.2.1 c.2.2.1 c.2.2.2.1/\o.size<c.2.1.size)) ?_ ?_ #[rfl,rfl,I,aI _]) ?_)
 .rintro x ⟨r,o',i',j',ca,cb⟩ st' _ _ ⟨rfl,rfl,I',hz⟩
  exact ZgE O G hk I' (λr c h=>#[rfl,.inl #[r,rfl,h]]) λo2 i2 j2 ca cb I2 e=>#[#[rfl,.inr #[rfl,I2,by dsimp only at hz ⊢;lia]],rfl,rfl,I2,by dsimp only at hz ⊢;lia]
 .rintro ⟨r,o',i',j',ca,cb⟩ st' ⟨rfl,rfl,I',hz⟩
  have:=I'.hi;have:=I'.hj;have:=I'.z;lia
 .rintro ⟨r,o',i',j',ca,cb⟩ st' ⟨rfl,⟨r',rfl,h⟩|⟨rfl,I',hz⟩⟩
  .exact aW<|hd _ _ _ #[rfl,rfl,rfl,rfl] h
  .dsimp only at I' hz
   refine aK (Wn (aK (fD (cV
    (I:=λx (c:T3) st''=>Sg st' st''/\c.1=ae/\Iv rk a b T c.2.1 c.2.2.1 c.2.2.2.1/\o'.size+x<=c.2.1.size)
    (Q:=λ(c:T3) st''=>Sg st' st''/\((∃r,c.1=aa r/\Res rk T r)\/c.1=ae/\Iv rk a b T c.2.1 c.2.2.1 c.2.2.2.1/\o'.size<c.2.1.size)) ?_ ?_ #[#[rfl,rfl,rfl,rfl],rfl,I',aI _]) ?_)))
   .rintro x ⟨r,o2,i2,j2,g,ca,cb⟩ st2 _ _ ⟨sg,rfl,I2,hz2⟩
    dsimp only at I2 hz2
    exact Zg9 O G (sg.1.trans hk) I2 (λr c st3 s3 h=>#[sg.trans s3,.inl #[r,rfl,h]]) λo3 i3 j3 g ca cb st3 s3 I3 e=>#[#[sg.trans s3,.inr #[rfl,I3,by dsimp only;lia]],sg.trans s3,rfl,I3,by dsimp only;lia]
   .rintro ⟨r,o2,i2,j2,g,ca,cb⟩ st2 ⟨sg,rfl,I2,hz2⟩
    have:=I2.hi;have:=I2.hj;have:=I2.z;lia
   .rintro ⟨r,o2,i2,j2,g,ca,cb⟩ st2 ⟨sg,⟨r',rfl,h⟩|⟨rfl,I2,hz2⟩⟩
    .exact aW<|hd _ _ _ sg h
    .exact aK<|UG λst3 s3=>aW<|hy _ _ _ _ _ (sg.trans s3) I2<|dA hz hz2
theorem yW{τ:bX}{Q:KA->bX->Prop}(hk:kindOf τ=κ)(ha:0<a.size)(hb:0<b.size)(sa:Srt (lr rk) a.toList)(sb:Srt (lr rk) b.toList)(hT:(a.toList++b.toList).Perm T)(h0:∀x∈a.toList,rk b[0]<rk x)
  (hq:∀r st',Sg τ st'->Res rk T r->Q r st'):m7 #[8] A E s (UW a b) Q τ:=by
 rw[zS];refine aK<|Wn<|aK<|ZG (ZN hb) ?_;have m0:Lo rk a b T #[] 0 0:=#[by simpa using hT,.nil,by simpa using sa,by simpa using sb,λx hx=>by cases hx]
 have m:=Zbc m0 hb (by simpa using h0)
 have sg0:Sg τ τ:=#[rfl,rfl,rfl,rfl];refine ZD (λq=>aW<|hq _ _ sg0<|Gq m q) λq1=>ZD (λq=>aW<|hq _ _ sg0<|JS G m q) λq2=>aK (iJ (aK (fD (cV
  (I:=λx (c:T1) st''=>Sg τ st''/\c.1=ae/\Iv rk a b T c.2.1 c.2.2.1 c.2.2.2.1/\x<=c.2.1.size)
  (Q:=λ(c:T1) st''=>Sg τ st''/\∃r,c.1=aa r/\Res rk T r) ?_ ?_ #[sg0,rfl,#[m,Qt ha q2,Qt hb q1,rfl],eE _]) ?_)))
 .rintro x ⟨r,o,i,j,g⟩ st2 _ _ ⟨sg,rfl,I,hz⟩
  dsimp only at I hz
  exact ZgO O G (sg.1.trans hk) I (λr c st3 s3 h=>#[sg.trans s3,r,rfl,h]) λo3 i3 j3 g st3 s3 I3 e=>#[sg.trans s3,rfl,I3,by dsimp only;lia]
 .rintro ⟨r,o,i,j,g⟩ st2 ⟨sg,rfl,I,hz⟩
  have:=I.hi;have:=I.hj;have:=I.z;lia
 .rintro ⟨r,o,i,j,g⟩ st2 ⟨sg,r',rfl,h⟩
  exact aW<|hq _ _ sg h
end
end
noncomputable def UM:KA->KA->SM KA:=sortPriv% PySem.Builtin.mergeHi
noncomputable abbrev dh(a b o:KA)(i j:Nat):KA:=a.extract 0 i++b.extract 0 j++o.reverse
noncomputable abbrev fh(a b o:KA)(i j:Nat):KA:=b.extract 0 j++a.extract 0 i++o.reverse
abbrev U1:=Option KA×Nat×Nat×KA×Nat
abbrev U2:=Option KA×Nat×Nat×KA×Nat×Nat
abbrev U3:=Option KA×Nat×Nat×KA×Nat×Nat×Nat
def H1(a b:KA)(g:Nat)(c:U2):SM (ForInStep U2):=do
 let i:=c.2.1
 let j:=c.2.2.1
 let o:=c.2.2.2.1
 let ca:=c.2.2.2.2.1
 let cb:=c.2.2.2.2.2
 let aa t <-lt' (<-gS b (j-1)) (<-gS a (i-1))|return .done (aa<|dh a b o i j,i,j,o,ca,cb)
 if t then
  let i:=i-1
  let o:=o.push<|<-gS a i
  if i == 0 then return .done (aa<|dh a b o i j,i,j,o,ca+1,0)
  if ca+1>=g then return .done (ae,i,j,o,ca+1,0)
  return .yield (ae,i,j,o,ca+1,0)
 else
  let j:=j-1
  let o:=o.push<|<-gS b j
  if j == 1 then return .done (aa<|fh a b o i j,i,j,o,0,cb+1)
  if cb+1>=g then return .done (ae,i,j,o,0,cb+1)
  return .yield (ae,i,j,o,0,cb+1)
def K3(a b:KA)(g ca cb i:Nat)(o:KA)(j:Nat):SM (ForInStep U3):=do
 let i:=i-1
 let o:=o.push<|<-gS a i
 if i == 0 then return .done (aa<|dh a b o i j,i,j,o,g,ca,cb)
 if ca<7&&cb<7 then return .done (ae,i,j,o,g,ca,cb)
 return .yield (ae,i,j,o,g,ca,cb)
def K2(a b:KA)(g ca cb j:Nat)(o:KA)(i:Nat):SM (ForInStep U3):=do
 let j:=j-1
 let o:=o.push<|<-gS b j
 if j == 1 then return .done (aa<|fh a b o i j,i,j,o,g,ca,cb)
 let aa t <-Yv aj (<-gS a (i-1)) b 0 j (j-1)|return .done (aa<|dh a b o i j,i,j,o,g,ca,cb)
 if j-t>0 then
  let o:=o++(b.extract t j).reverse
  if t == 1 then return .done (aa<|fh a b o i t,i,t,o,g,ca,j-t)
  else if t == 0 then return .done (aa<|dh a b o i t,i,t,o,g,ca,j-t)
  else K3 a b g ca (j-t) i o t
 else K3 a b g ca (j-t) i o j
def K1(a b:KA)(o:KA)(i j ca cb g:Nat):SM (ForInStep U3):=do
 Je g
 let aa t <-Yv ak (<-gS b (j-1)) a 0 i (i-1)|return .done (aa<|dh a b o i j,i,j,o,g,ca,cb)
 if i-t>0 then
  let o:=o++(a.extract t i).reverse
  if t == 0 then return .done (aa<|dh a b o t j,t,j,o,g,i-t,cb)
  else K2 a b g (i-t) cb j o t
 else K2 a b g (i-t) cb j o i
def H2(a b:KA)(c:U3):SM (ForInStep U3):=
 if c.2.2.2.2.1>1 then K1 a b c.2.2.2.1 c.2.1 c.2.2.1 c.2.2.2.2.2.1 c.2.2.2.2.2.2 (c.2.2.2.2.1-1)
 else K1 a b c.2.2.2.1 c.2.1 c.2.2.1 c.2.2.2.2.2.1 c.2.2.2.2.2.2 c.2.2.2.2.1
def TT(n:Nat)(f1:Nat->U2->SM (ForInStep U2))(f2:U3->SM (ForInStep U3))(c:U1):SM (ForInStep U1):=do
 let d <-nU [0:n] ((ae,c.2.1,c.2.2.1,c.2.2.2.1,0,0):U2) λ_ d=>f1 c.2.2.2.2 d
 lj d.1 (λ_=>do
  oH "list.sort.gallop"
  let e <-nU [0:n] ((ae,d.2.1,d.2.2.1,d.2.2.2.1,c.2.2.2.2+1,d.2.2.2.2.1,d.2.2.2.2.2):U3) λ_ d=>f2 d
  lj e.1 (λ_=>do
   Je (e.2.2.2.2.1+1)
   cF (.yield (ae,e.2.1,e.2.2.1,e.2.2.2.1,e.2.2.2.2.1+1))) λr=>cF<|.done (aa r,e.2.1,e.2.2.1,e.2.2.2.1,e.2.2.2.2.1)) λr=>cF<|.done (aa r,d.2.1,d.2.2.1,d.2.2.2.1,c.2.2.2.2)
def yz(a b:KA):UM a b=(do
 oH "list.sort.merge-hi"
 let x <-gS a (a.size-1)
 if a.size-1 == 0 then return dh a b #[x] (a.size-1) b.size
 if b.size == 1 then return fh a b #[x] (a.size-1) b.size
 let τ <-get
 let c <-nU [0:a.size+b.size] ((ae,a.size-1,b.size,#[x],gallopOf τ):U1) λ_ c=>TT (a.size+b.size) (H1 a b) (H2 a b) c
 lj c.1 (λ_=>rg "internal:list.sort.merge-bound") λr=>cF r):=rfl
def Zbv{a:KA}{t i:Nat}:(a.extract t i).toList=(a.toList.take i).drop t:=by
 rw[ki,gT,List.drop_take]
noncomputable abbrev rv(a:KA)(i:Nat):List cq:=(a.toList.take i).reverse
def Vi{a:KA}{i:Nat}(h:0<i)(h2:i<=a.size):rv a i=a[i-1]::rv a (i-1):=by
 obtain⟨k,rfl⟩:∃k,i=k+1:=#[i-1,by lia]
 show(a.toList.take<|k+1).reverse=_;rw[List.take_succ_eq_append_getElem (by rw[aP];exact h2),nI];rfl
def j7{a:KA}{t i:Nat}(h:t<=i):rv a i=((a.toList.take i).drop t).reverse++rv a t:=by
 rw[<-nI];have:=cU t<|a.toList.take i;rw[rY,hJ h]at this;rw[this]
section
variable{prog:bE}{w:bZ}{A:cz}{E:au->aA->Prop}{s:aA}{κ:iH}{In:cq->Prop}{rk:cq->Nat}{a b:KA}{T:List cq}
abbrev Hi(rk:cq->Nat)(a b:KA)(T:List cq)(o:KA)(i j:Nat):Prop:=ML (gr rk) T o.toList (rv a i)<|rv b j
structure Ih(rk:cq->Nat)(a b:KA)(T:List cq)(o:KA)(i j:Nat):Prop where
 m:Hi rk a b T o i j
 i0:0<i
 i1:i<=a.size
 j0:1<j
 j1:j<=b.size
 z:o.size+i+j=a.size+b.size
def JV{l:List cq}{r:KA}(h:l.Perm T/\Srt (gr rk) l)(e:r.toList=l.reverse):Res rk T r:=by
 unfold Res;rw[e];exact#[(gA l).trans h.1,gp.mpr h.2]
def ZcC(h:Hi rk a b T o i j)(hi:(i == 0)=aj):Res rk T (dh a b o i j):=by
 cases beq_iff_eq.mp hi;refine JV (ML.fin h.swap) ?_;simp
def Zh0(h:Hi rk a b T o i j)(hj:(j == 0)=aj):Res rk T (dh a b o i j):=by
 cases beq_iff_eq.mp hj;refine JV (ML.fin h) ?_;simp
def GN(fs:∀x∈a.toList,∀y∈b.toList.take 1,rk y<rk x)(h:Hi rk a b T o i j)(hj:(j == 1)=aj):Res rk T (fh a b o i j):=by
 cases beq_iff_eq.mp hj;have:=(ML.as (by rw[bO];exact h) λx hx y hy=>fs x (dv<|ei.mp hx) y<|ei.mp hy).swap.fin
 refine JV this ?_;simp
def ZbK(h:Hi rk a b T o i j)(i0:0<i)(i1:i<=a.size)(hx:∀y∈rv b j,rk y<rk a[i-1]):Hi rk a b T (o.push a[i-1]) (i-1) j:=by
 unfold Hi at h ⊢;rw[Vi i0 i1]at h;rw[gz];exact ML.as h λx hx' y hy'=>by rw[aT.mp hx'];exact hx y hy'
def Zd5(h:Hi rk a b T o i j)(j0:0<j)(j1:j<=b.size)(hx:∀y∈rv a i,rk y<rk b[j-1]):Hi rk a b T (o.push b[j-1]) i (j-1):=by
 unfold Hi at h ⊢;rw[Vi j0 j1]at h;rw[gz];exact ML.bs h λx hx' y hy'=>by rw[aT.mp hx'];exact hx y hy'
def w4{l:List cq}{x y:cq}(h:Srt (gr rk) (x::l))(hx:rk x<rk y):∀z∈x::l,rk z<rk y:=λz hz=>by
 rcases ay.mp hz with rfl|hz
 .exact hx
 .exact dA ((aZ.mp h).1 z hz) hx
theorem wG(O:Od prog w A E s κ In rk){lf:Bool}{k:cq}{ar:KA}{n:Nat}{τ:bX}{Q:Option Nat->bX->Prop}(hk:kindOf τ=κ)(ik:In k)(hn:0<n)(h1:n<=ar.size)(ia:∀x∈ar.toList,In x)(so:Srt (gr rk) (rv ar n))(ne:∀x∈rv ar n,rk x≠rk k)
  (hq:∀r,r<=n->(∀x∈rv ar r,rk x<rk k)->(∀x∈((ar.toList.take n).drop r).reverse,rk k<rk x)->Q (aa r) τ):m7 #[8] A E s (Yv lf k ar 0 n<|n-1) Q τ:=by
 refine vT O hk ik (Nat.sub_lt hn Nat.one_pos) #[0] ia (gp.mp so) (λx hx=>ne x<|ei.mpr hx) λr h2 h3 h4=>hq r h2 (λx hx=>h3 x ?_) λx hx=>h4 x<|ei.mp hx
 have hx:=ei.mp hx;rw[rY,hJ h2];exact hx
def UD{a:KA}{i:Nat}(i0:0<i)(i1:i<=a.size):a[i-1]∈rv a i:=by rw[Vi i0 i1];exact al ..
def yu{a:KA}{i:Nat}{x:cq}(h:x∈rv a i):x∈a.toList:=dv<|ei.mp h
section
variable(O:Od prog w A E s κ In rk)(G:Mg κ In rk a b T)(fs:∀x∈a.toList,∀y∈b.toList.take 1,rk y<rk x)
include O G fs
theorem ZgF{g ca cb:Nat}{r0:Option KA}{τ:bX}{Q:ForInStep U2->bX->Prop}(hk:kindOf τ=κ)(I:Ih rk a b T o i j)
  (hd:∀r c,Res rk T r->Q #[44] τ)(hb:∀o' i' j' ca cb,Ih rk a b T o' i' j'->o'.size=o.size+1->Q (.done (ae,i',j',o',ca,cb)) τ/\Q (.yield (ae,i',j',o',ca,cb)) τ):m7 #[8] A E s (H1 a b g (r0,i,j,o,ca,cb)) Q τ:=by
 obtain⟨m,i0,i1,j0,j1,z⟩:=I;have j0':=eL j0;have hja:j-1<b.size:=by lia
 have hia:i-1<a.size:=by lia
 have ha:=UD i0 i1;have hb':=UD j0' j1;have sa:=m.sa;have sb:=m.sb;rw[Vi i0 i1]at sa;rw[Vi j0' j1]at sb;refine aK<|ZG (ZN hja)<|aK<|ZG (ZN hia)<|aK<|O.ask (G.ib _<|yu hb') (G.ia _<|yu ha) hk ?_;by_cases c:rk b[j-1]<rk a[i-1]
 .rw[T5 c]
  refine aK<|ZG (ZN hia) ?_;have m:=ZbK m i0 i1 (by rw[Vi j0' j1];exact w4 sb c)
  have z':(o.push a[i-1]).size=o.size+1:=eO ..;refine ZD (λq=>aW<|hd _ _<|ZcC m q) λq=>?_
  have q:i-1≠0:=λz=>q<|beq_iff_eq.mpr z
  have h:=hb _ _ _ (ca+1) 0 #[m,by lia,by lia,j0,j1,by lia] z'
  exact ZD (λ_=>aW h.1) λ_=>aW h.2
 .rw[T4 c]
  refine aK<|ZG (ZN hja) ?_;have c':=fR (fb c)<|m.ne G.nd ha hb';have m:=Zd5 m j0' j1 (by rw[Vi i0 i1];exact w4 sa c')
  have z':(o.push b[j-1]).size=o.size+1:=eO ..;refine ZD (λq=>aW<|hd _ _<|GN fs m q) λq=>?_
  have q:j-1≠1:=λz=>q<|beq_iff_eq.mpr z
  have h:=hb _ _ _ 0 (cb+1) #[m,i0,i1,by lia,by lia,by lia] z'
  exact ZD (λ_=>aW h.1) λ_=>aW h.2
theorem Zet{g ca cb:Nat}{τ:bX}(I:Ih rk a b T o i j)(hx:∀y∈rv b j,rk y<rk (a[i-1]'(by have:=I.i0;have:=I.i1;lia)))
  (hd:∀r c,Res rk T r->Q #[44] τ)(hb:∀o' i' j' g ca cb,Ih rk a b T o' i' j'->o'.size=o.size+1->Q (.done (ae,i',j',o',g,ca,cb)) τ/\Q (.yield (ae,i',j',o',g,ca,cb)) τ):m7 #[8] A E s (K3 a b g ca cb i o j) Q τ:=by
 obtain⟨m,i0,i1,j0,j1,z⟩:=I;refine aK<|ZG (ZN<|by lia) ?_
 have m:=ZbK m i0 i1 hx;have z':(o.push a[i-1]).size=o.size+1:=eO ..;refine ZD (λq=>aW<|hd _ _<|ZcC m q) λq=>?_
 have q:i-1≠0:=λz=>q<|beq_iff_eq.mpr z
 have h:=hb _ _ _ g ca cb #[m,by lia,by lia,j0,j1,by lia] z'
 exact ZD (λ_=>aW h.1) λ_=>aW h.2
theorem Zd8{g ca cb:Nat}{τ:bX}(hk:kindOf τ=κ)(I:Ih rk a b T o i j)(hy:∀y∈rv a i,rk y<rk (b[j-1]'(by have:=I.j0;have:=I.j1;lia)))
  (hd:∀r c,Res rk T r->Q #[44] τ)(hb:∀o' i' j' g ca cb,Ih rk a b T o' i' j'->o.size<o'.size->Q (.done (ae,i',j',o',g,ca,cb)) τ/\Q (.yield (ae,i',j',o',g,ca,cb)) τ):m7 #[8] A E s (K2 a b g ca cb j o i) Q τ:=by
 obtain⟨m,i0,i1,j0,j1,z⟩:=I;unfold K2;refine aK<|ZG (ZN<|by lia) ?_
 have m:=Zd5 m (eL j0) j1 hy;have z':(o.push b[j-1]).size=o.size+1:=eO ..;refine ZD (λq=>aW<|hd _ _<|GN fs m q) λq=>?_
 have q:j-1≠1:=λz=>q<|beq_iff_eq.mpr z
 have ha:=UD i0 i1;refine aK<|ZG (ZN<|by lia)<|aK<|wG O hk (G.ia _<|yu ha) #[0] #[0] G.ib m.sb (λy hy=>(m.ne G.nd ha hy).symm) λr hr h1 h2=>?_
 refine ZD (λc=>?_) λc=>?_
 .have m2:Hi rk a b T (o.push b[j-1]++(b.extract r<|j-1).reverse) i r:=by
   unfold Hi;rw[cr,nj,Zbv];refine ML.bs ?_ λy hy x hx=>?_
   .rw[<-j7 hr];exact m
   .have sa:=m.sa
    rw[Vi i0 i1]at sa hx;exact w4 sa (h2 y hy) x hx
  have z2:(o.push b[j-1]++(b.extract r<|j-1).reverse).size=o.size+1+(j-1-r):=by rw[iI,z',oz,fF #[0]]
  refine ZD (λq=>aW<|hd _ _<|GN fs m2 q) λq1=>ZD (λq=>aW<|hd _ _<|Zh0 m2 q) λq2=>?_
  have q1:r≠1:=λz=>q1<|beq_iff_eq.mpr z
  have q2:r≠0:=λz=>q2<|beq_iff_eq.mpr z
  exact Zet O G fs #[m2,i0,i1,by lia,by lia,by lia] h1 hd λo' i' j' g ca cb I e=>hb o' i' j' g ca cb I #[0]
 .have e:r=j-1:=by lia
  subst e;exact Zet O G fs #[m,i0,i1,by lia,by lia,by lia] h1 hd λo' i' j' g ca cb I e=>hb o' i' j' g ca cb I #[0]
theorem Zeq{g ca cb:Nat}{τ:bX}(hk:kindOf τ=κ)(I:Ih rk a b T o i j)
  (hd:∀r c st',Sg τ st'->Res rk T r->Q #[44] st')(hb:∀o' i' j' g ca cb st',Sg τ st'->Ih rk a b T o' i' j'->o.size<o'.size->Q (.done (ae,i',j',o',g,ca,cb)) st'/\Q (.yield (ae,i',j',o',g,ca,cb)) st'):m7 #[8] A E s (K1 a b o i j ca cb g) Q τ:=by
 obtain⟨m,i0,i1,j0,j1,z⟩:=I;have j0':=eL j0;have hb':=UD j0' j1;unfold K1;refine aK<|UG λst' sg=>aK<|ZG (ZN<|by lia)<|aK<|wG O (sg.1.trans hk) (G.ib _<|yu hb') i0 i1 G.ia m.sa (λx hx=>m.ne G.nd hx hb') λr hr h1 h2=>?_
 refine ZD (λc=>?_) λc=>?_
 .have m2:Hi rk a b T (o++(a.extract r i).reverse) r j:=by
   unfold Hi;rw[cr,nj,Zbv];refine ML.as ?_ λx hx y hy=>?_
   .rw[<-j7 hr];exact m
   .have sb:=m.sb
    rw[Vi j0' j1]at sb hy;exact w4 sb (h2 x hx) y hy
  have z2:(o++(a.extract r i).reverse).size=o.size+(i-r):=by rw[iI,oz,fF #[0]]
  refine ZD (λq=>aW<|hd _ _ st' sg<|ZcC m2 q) λq=>?_
  have q:r≠0:=λz=>q<|beq_iff_eq.mpr z
  exact Zd8 O G fs (sg.1.trans hk) #[m2,by lia,by lia,j0,j1,by lia] h1 (λr c=>hd r c st' sg) λo' i' j' g ca cb I e=>hb o' i' j' g ca cb st' sg I #[0]
 .have e:r=i:=by lia
  subst e;exact Zd8 O G fs (sg.1.trans hk) #[m,i0,i1,j0,j1,z] h1 (λr c=>hd r c st' sg) λo' i' j' g ca cb I e=>hb o' i' j' g ca cb st' sg I #[0]
theorem ZhC{g ca cb:Nat}{r0:Option KA}{τ:bX}(hk:kindOf τ=κ)(I:Ih rk a b T o i j)
  (hd:∀r c st',Sg τ st'->Res rk T r->Q #[44] st')(hb:∀o' i' j' g ca cb st',Sg τ st'->Ih rk a b T o' i' j'->o.size<o'.size->Q (.done (ae,i',j',o',g,ca,cb)) st'/\Q (.yield (ae,i',j',o',g,ca,cb)) st'):m7 #[8] A E s (H2 a b (r0,i,j,o,g,ca,cb)) Q τ:=by
 exact ZD (λ_=>Zeq O G fs hk I hd hb) λ_=>Zeq O G fs hk I hd hb
theorem ZgL{g:Nat}{r0:Option KA}{τ:bX}{Q:ForInStep U1->bX->Prop}(hk:kindOf τ=κ)(I:Ih rk a b T o i j)
  (hd:∀r c st',Sg τ st'->Res rk T r->Q #[44] st')(hy:∀o' i' j' g st',Sg τ st'->Ih rk a b T o' i' j'->o.size<o'.size->Q (.yield (ae,i',j',o',g)) st'):m7 #[8] A E s (TT (a.size+b.size) (H1 a b) (H2 a b) (r0,i,j,o,g)) Q τ:=by
 refine aK (fD (cV
  (I:=λx (c:U2) st'=>st'=τ/\c.1=ae/\Ih rk a b T c.2.2.2.1 c.2.1 c.2.2.1/\o.size+x<=c.2.2.2.1.size)
  (Q:=λ(c:U2) st'=>st'=τ/\((∃r,c.1=aa r/\Res rk T r)\/c.1=ae/\Ih rk a b T c.2.2.2.1 c.2.1 c.2.2.1/\o.size<c.2.2.2.1.size)) ?_ ?_ #[rfl,rfl,I,aI _]) ?_)
 .rintro x ⟨r,i',j',o',ca,cb⟩ st' _ _ ⟨rfl,rfl,I',hz⟩
  exact ZgF O G fs hk I' (λr c h=>#[rfl,.inl #[r,rfl,h]]) λo2 i2 j2 ca cb I2 e=>#[#[rfl,.inr #[rfl,I2,by dsimp only at hz ⊢;lia]],rfl,rfl,I2,by dsimp only at hz ⊢;lia]
 .rintro ⟨r,i',j',o',ca,cb⟩ st' ⟨rfl,rfl,I',hz⟩
  have:=I'.i0;have:=I'.j0;have:=I'.z;lia
 .rintro ⟨r,i',j',o',ca,cb⟩ st' ⟨rfl,⟨r',rfl,h⟩|⟨rfl,I',hz⟩⟩
  .exact aW<|hd _ _ _ #[rfl,rfl,rfl,rfl] h
  .dsimp only at I' hz
   refine aK (Wn (aK (fD (cV
    (I:=λx (c:U3) st''=>Sg st' st''/\c.1=ae/\Ih rk a b T c.2.2.2.1 c.2.1 c.2.2.1/\o'.size+x<=c.2.2.2.1.size)
    (Q:=λ(c:U3) st''=>Sg st' st''/\((∃r,c.1=aa r/\Res rk T r)\/c.1=ae/\Ih rk a b T c.2.2.2.1 c.2.1 c.2.2.1/\o'.size<c.2.2.2.1.size)) ?_ ?_ #[#[rfl,rfl,rfl,rfl],rfl,I',aI _]) ?_)))
   .rintro x ⟨r,i2,j2,o2,g,ca,cb⟩ st2 _ _ ⟨sg,rfl,I2,hz2⟩
    dsimp only at I2 hz2
    exact ZhC O G fs (sg.1.trans hk) I2 (λr c st3 s3 h=>#[sg.trans s3,.inl #[r,rfl,h]]) λo3 i3 j3 g ca cb st3 s3 I3 e=>#[#[sg.trans s3,.inr #[rfl,I3,by dsimp only;lia]],sg.trans s3,rfl,I3,by dsimp only;lia]
   .rintro ⟨r,i2,j2,o2,g,ca,cb⟩ st2 ⟨sg,rfl,I2,hz2⟩
    have:=I2.i0;have:=I2.j0;have:=I2.z;lia
   .rintro ⟨r,i2,j2,o2,g,ca,cb⟩ st2 ⟨sg,⟨r',rfl,h⟩|⟨rfl,I2,hz2⟩⟩
    .exact aW<|hd _ _ _ sg h
    .exact aK<|UG λst3 s3=>aW<|hy _ _ _ _ _ (sg.trans s3) I2<|dA hz hz2
theorem xt{τ:bX}{Q:KA->bX->Prop}(hk:kindOf τ=κ)(ha:0<a.size)(hb:0<b.size)(sa:Srt (lr rk) a.toList)(sb:Srt (lr rk) b.toList)(hT:(a.toList++b.toList).Perm T)
  (hq:∀r st',Sg τ st'->Res rk T r->Q r st'):m7 #[8] A E s (UM a b) Q τ:=by
 rw[yz];refine aK<|Wn<|aK<|ZG (ZN<|by lia) ?_
 have ea:rv a a.size=a.toList.reverse:=by show(a.toList.take a.size).reverse=_;rw[<-aP,gN]
 have eb:rv b b.size=b.toList.reverse:=by show(b.toList.take b.size).reverse=_;rw[<-aP,gN]
 have m0:Hi rk a b T #[] a.size b.size:=by
  unfold Hi;rw[ea,eb];exact#[by simpa using((gA _).append<|gA _).trans hT,.nil,gp.mpr sa,gp.mpr sb,λx hx=>by cases hx]
 have m:=ZbK m0 ha (aI _) λy hy=>G.last y (yu hy) _ (by rw[Yd #[0]];exact al ..)
 have sg0:Sg τ τ:=#[rfl,rfl,rfl,rfl];refine ZD (λq=>aW<|hq _ _ sg0<|ZcC m q) λq1=>ZD (λq=>aW<|hq _ _ sg0<|GN fs m q) λq2=>?_
 have q1:a.size-1≠0:=λz=>q1<|beq_iff_eq.mpr z
 have q2:b.size≠1:=λz=>q2<|beq_iff_eq.mpr z
 refine aK (iJ (aK (fD (cV
  (I:=λx (c:U1) st''=>Sg τ st''/\c.1=ae/\Ih rk a b T c.2.2.2.1 c.2.1 c.2.2.1/\x<=c.2.2.2.1.size)
  (Q:=λ(c:U1) st''=>Sg τ st''/\∃r,c.1=aa r/\Res rk T r) ?_ ?_ #[sg0,rfl,#[m,by dsimp only;lia,by dsimp only;lia,by dsimp only;lia,aI _,by show 1+(a.size-1)+b.size=_;lia],eE _]) ?_)))
 .rintro x ⟨r,i,j,o,g⟩ st2 _ _ ⟨sg,rfl,I,hz⟩
  dsimp only at I hz
  exact ZgL O G fs (sg.1.trans hk) I (λr c st3 s3 h=>#[sg.trans s3,r,rfl,h]) λo3 i3 j3 g st3 s3 I3 e=>#[sg.trans s3,rfl,I3,by dsimp only;lia]
 .rintro ⟨r,i,j,o,g⟩ st2 ⟨sg,rfl,I,hz⟩
  have:=I.i0;have:=I.j0;have:=I.z;lia
 .rintro ⟨r,i,j,o,g⟩ st2 ⟨sg,r',rfl,h⟩
  exact aW<|hq _ _ sg h
end
end
noncomputable def Kr(rk:cq->Nat)(xs:Array cq)(i:Nat):Nat:=match xs[i]? with
 |some p=>rk p
 |none=>0
def W7(h:xs[i]?=ys[j]?):Kr rk xs i=Kr rk ys j:=by unfold Kr;rw[h]
structure Sb(κ:iH)(a₀:Array cq)(P:Array (Nat×Nat×Nat))(lo:Nat)(L:List cq)(τ:bX):Prop where
 kd:kindOf τ=κ
 pm:(bo τ).Perm a₀
 fl:gH τ=ae
 pd:bp τ=P
 ah:(bo τ).toList.take lo=L
def Up(rk:cq->Nat)(xs:Array cq)(lo m:Nat):Prop:=∀i j,lo<=i->i<j->j<lo+m->Kr rk xs i<Kr rk xs j
def Dn(rk:cq->Nat)(xs:Array cq)(lo m:Nat):Prop:=∀i j,lo<=i->i<j->j<lo+m->Kr rk xs j<Kr rk xs i
section
variable{κ:iH}{a₀:Array cq}{P:Array (Nat×Nat×Nat)}{lo:Nat}{L:List cq}{τ:bX}{In:cq->Prop}{rk:cq->Nat}
theorem Sb.size(h:Sb κ a₀ P lo L τ):(bo τ).size=a₀.size:=h.pm.size_eq
def Sb.in(h:Sb κ a₀ P lo L τ)(ia:∀x∈a₀.toList,In x):∀x∈(bo τ).toList,In x:=λx hx=>ia x<|(bJ.mp h.pm).mem_iff.mp hx
def zy(hi:i<xs.size):Kr rk xs i=rk xs[i]:=by unfold Kr;rw[bS hi]
theorem Sb.ne(h:Sb κ a₀ P lo L τ)(nd:(a₀.toList.map rk).Nodup)(hi:i<a₀.size)(hj:j<a₀.size)(e:Kr rk (bo τ) i=Kr rk (bo τ) j):i=j:=by
 have hs:=h.size;have n:=(((bJ.mp h.pm).map rk).nodup_iff).mpr nd;have g:∀k,k<a₀.size->((bo τ).toList.map rk)[k]?=aa (Kr rk (bo τ) k):=λk hk=>by
  rw[aU,bD,bS #[0],zy #[0]];rfl
 exact(iK (by rw[ax,aP];lia) n).mp (by rw[g i hi,g j hj,e])
def Sb.setA(h:Sb κ a₀ P lo L τ)(hp:xs.Perm (bo τ))(hf:∀k,k<lo->xs[k]?=(bo τ)[k]?):Sb κ a₀ P lo L (rZ τ xs):=
 #[h.kd,hp.trans h.pm,h.fl,h.pd,by
  rw[<-h.ah];refine dg λk=>?_
  rw[cM,cM];split
  .rw[bD,bD];exact hf k ‹_›
  .rfl]
variable{prog:bE}{w:bZ}{A:cz}{E:au->aA->Prop}{s:aA}
theorem Jo(O:Od prog w A E s κ In rk)(h:Sb κ a₀ P lo L τ)(ia:∀x∈a₀.toList,In x){Q:Option Bool->bX->Prop}(hi:i<a₀.size)(hj:j<a₀.size)(q:Q (aa<|af<|Kr rk (bo τ) i<Kr rk (bo τ) j) τ):m7 #[8] A E s (ltAt' i j) Q τ:=by
 have hs:=h.size;have m:∀k (hk:k<(bo τ).size),In (bo τ)[k]:=λk hk=>h.in ia _ #[2]
 rw[ltAt'_eq];refine aK<|iJ ?_;refine aK<|ZG (ZN<|by lia)<|aK<|ZG (ZN<|by lia) ?_
 rw[zy #[0],zy<|by lia]at q
 exact O.ask (m i _) (m j _) h.kd q
theorem ZfJ(xs:Array cq):Up rk xs lo 1:=λi j a b c=>by lia
theorem ZcJ(h1:1<=m)(u:Up rk xs lo m)(c:Kr rk xs (lo+m-1)<Kr rk xs (lo+m)):Up rk xs lo (m+1):=λi j a b d=>by
 by_cases z:j=lo+m
 .subst z
  by_cases y:i=lo+m-1
  .rw[y];exact c
  .exact dA (u i (lo+m-1) a #[0]<|by lia) c
 .exact u i j a b #[0]
theorem ZbT(h1:1<=m)(u:Dn rk xs lo m)(c:Kr rk xs (lo+m)<Kr rk xs (lo+m-1)):Dn rk xs lo (m+1):=λi j a b d=>by
 by_cases z:j=lo+m
 .subst z
  by_cases y:i=lo+m-1
  .rw[y];exact c
  .exact dA c<|u i (lo+m-1) a #[0] #[0]
 .exact u i j a b #[0]
theorem Zai(O:Od prog w A E s κ In rk)(ia:∀x∈a₀.toList,In x)(nd:(a₀.toList.map rk).Nodup){n0 nrem:Nat}{F:Nat->AscSt->StateT bX oD (ForInStep AscSt)}{Q:AscSt->bX->Prop}
  (hF:∀i m (Q:ForInStep AscSt->bX->Prop),1<=m->m<nrem->(Kr rk (bo τ) (lo+m)<Kr rk (bo τ) (lo+m-1)->Q (.done (ae,m)) τ)->(¬Kr rk (bo τ) (lo+m)<Kr rk (bo τ) (lo+m-1)->Q (.yield (ae,m+1)) τ)->m7 #[8] A E s (F i (ae,m)) Q τ)
  (hn:lo+nrem<=a₀.size)(h1:1<=n0)(hl:n0<=nrem)(hB:Sb κ a₀ P lo L τ)(u:Up rk (bo τ) lo n0)
  (q:∀m,n0<=m->m<=nrem->Up rk (bo τ) lo m->(m<nrem->Kr rk (bo τ) (lo+m)<Kr rk (bo τ) (lo+m-1))->Q (ae,m) τ):m7 #[8] A E s (nU [n0:nrem] ((ae,n0):AscSt) F) Q τ:=by
 refine cV (I:=λi c st'=>st'=τ/\c=(ae,i)/\Up rk (bo τ) lo i) ?_ ?_ #[rfl,rfl,u]
 .rintro i c st' ha hb ⟨rfl,rfl,u⟩
  refine hF i i _ #[0] hb (λc=>q i ha #[0] u λ_=>c) λc=>#[rfl,rfl,ZcJ #[0] u ?_]
  have:Kr rk (bo st') (lo+i-1)≠Kr rk (bo st') (lo+i):=λe=>by
   have:=hB.ne nd #[0] #[0] e
   lia
  lia
 .rintro c st' ⟨rfl,rfl,u⟩
  have e:max n0 nrem=nrem:=me #[0]
  rw[e]at u ⊢;exact q nrem hl (aI _) u λz=>T7 z<|bz _
theorem jR(O:Od prog w A E s κ In rk)(ia:∀x∈a₀.toList,In x)(nd:(a₀.toList.map rk).Nodup){nrem:Nat}{Q:Option Nat->bX->Prop}(hn:lo+nrem<=a₀.size)(h1:1<=nrem)(hB:Sb κ a₀ P lo L τ)
  (q:∀m st',Sb κ a₀ P lo L st'->1<=m->m<=nrem->Up rk (bo st') lo m->Q (aa m) st'):m7 #[8] A E s (countRun' lo nrem) Q τ:=by
 rw[countRun'_eq];refine aK<|Zai O ia nd (λi m Q a b k1 k2=>?_) hn (aI _) h1 hB (ZfJ _) λm m1 m2 u c=>?_
 .refine aK (Jo O hB ia (by dsimp only;lia) (by dsimp only;lia) ?_)
  dsimp only
  split
  .exact aW<|k1<|T6 ‹_›
  .exact aW<|k2 λz=>‹¬_› (T5 z)
 dsimp only
 by_cases e:m=nrem
 .rw[T9 (by simpa using e)]
  exact aW<|q m τ hB m1 m2 u
 rw[T8 (by simpa using e)]
 by_cases c1:m>1
 .rw[T9 c1]
  refine aK<|Jo O hB ia #[0] #[0] ?_
  dsimp only
  rw[T9<|T5<|u lo (lo+m-1) (aI _) #[0] #[0]]
  exact aW<|q m τ hB m1 m2 u
 rw[T8 c1];obtain rfl:m=1:=by lia
 refine aK<|Wn ?_;have nl:∀i j,i<a₀.size->j<a₀.size->i≠j->¬Kr rk (bo τ) i<Kr rk (bo τ) j->Kr rk (bo τ) j<Kr rk (bo τ) i:=λi j hi hj ne c=>by
  have:Kr rk (bo τ) i≠Kr rk (bo τ) j:=λe=>ne<|hB.ne nd hi hj e
  lia
 have d2:Dn rk (bo τ) lo 2:=λi j a b d=>by
  obtain⟨rfl,rfl⟩:i=lo/\j=lo+1:=by lia
  exact c #[0]
 refine aK<|fD (cV (I:=λi c st'=>st'=τ/\c=(ae,i,0)/\Dn rk (bo τ) lo i) (Q:=λc st'=>st'=τ/\∃i,c=(ae,i,0)/\2<=i/\i<=nrem/\Dn rk (bo τ) lo i) ?_ ?_ #[rfl,rfl,d2]) ?_
 .rintro i c st' ha hb ⟨rfl,rfl,u⟩
  dsimp only
  refine aK<|Jo O hB ia #[0] #[0] ?_
  dsimp only
  split
  .rw[T8<|bz 0]
   exact aW #[rfl,rfl,ZbT #[0] u<|T6 ‹_›]
  .refine aK (Jo O hB ia #[0] #[0] ?_)
   dsimp only
   rw[T9<|T5<|nl (lo+i) (lo+i-1) #[0] #[0] #[0] λz=>‹¬_› (T5 z)]
   exact aW #[rfl,i,rfl,by lia,by lia,u]
 .rintro c st' ⟨rfl,rfl,u⟩
  have e:max (1+1) nrem=nrem:=me #[0]
  rw[e]at u ⊢;exact#[rfl,nrem,rfl,by lia,aI _,u]
 .rintro c st' ⟨rfl,i,rfl,h2,hi,u⟩
  dsimp only
  rw[T8<|bz 0];refine aK<|wpS_reverse ?_;have hs:=hB.size;have gm:=λk=>getElem?_mirror_all (xs:=bo st') (i:=lo) (j:=lo+i) #[0] k
  have hB2:Sb κ a₀ P lo L (rZ st'<|mirror (bo st') lo (lo+i)<|(lo+i-lo) / 2):=hB.setA (mirror_perm ..) λk hk=>by
   rw[gm k,T8 #[0]]
  have u2:Up rk (mirror (bo st') lo (lo+i)<|(lo+i-lo) / 2) lo i:=λa b h1 h2 h3=>by
   have e:∀k,lo<=k->k<lo+i->Kr rk (mirror (bo st') lo (lo+i)<|(lo+i-lo) / 2) k=Kr rk (bo st') (lo+(lo+i-1-k)):=λk ka kb=>W7 (by rw[gm k,T9 #[ka,kb],Nat.sub_sub,Nat.sub_sub,Nat.add_sub_assoc #[0]])
   rw[e a h1 #[0],e b #[0] h3]
   exact u _ _ (dB ..) (Nat.add_lt_add_left (Nat.sub_lt_sub_left (br h2<|Nat.le_sub_one_of_lt h3) h2) _) #[0]
  refine aK<|Zai O ia nd (τ:=rZ st'<|mirror (bo st') lo (lo+i)<|(lo+i-lo) / 2) (λi m Q a b k1 k2=>?_) hn #[0] hi hB2 u2 λm m1 m2 u c=>?_
  .refine aK (Jo O hB2 ia (by dsimp only;lia) (by dsimp only;lia) ?_)
   dsimp only
   split
   .exact aW<|k1<|T6 ‹_›
   .exact aW<|k2 λz=>‹¬_› (T5 z)
  .exact aW<|q m _ hB2 #[0] m2 u
theorem ZcN(O:Od prog w A E s κ In rk)(ia:∀x∈a₀.toList,In x)(nd:(a₀.toList.map rk).Nodup){n ok:Nat}{Q:Bool->bX->Prop}(hn:lo+n<=a₀.size)(h1:1<=ok)(hok:ok<=n)(hB:Sb κ a₀ P lo L τ)(u:Up rk (bo τ) lo ok)
  (q:∀st',Sb κ a₀ P lo L st'->Up rk (bo st') lo n->Q aj st'):m7 #[8] A E s (binarySort' lo n ok) Q τ:=by
 rw[binarySort'_eq];refine aK<|fD (cV (I:=λk c st'=>c=(ae,())/\Sb κ a₀ P lo L st'/\Up rk (bo st') lo k) (Q:=λc st'=>c=(ae,())/\Sb κ a₀ P lo L st'/\Up rk (bo st') lo n) ?_ ?_ #[rfl,hB,by rw[rn h1];exact u]) ?_
 .rintro k c st' ha hb ⟨rfl,B,u⟩
  have hs:=B.size;refine aK (fD (cV (I:=λx c st2=>st2=st'/\∃l r,c=(ae,l,r)/\l<=r/\r<=k/\r+x<=k+l/\(∀i,i<l->Kr rk (bo st') (lo+i)<Kr rk (bo st') (lo+k))/\∀i,r<=i->i<k->Kr rk (bo st') (lo+k)<Kr rk (bo st') (lo+i))
   (Q:=λc st2=>st2=st'/\∃l r,c=(ae,l,r)/\l<=k/\(∀i,i<l->Kr rk (bo st') (lo+i)<Kr rk (bo st') (lo+k))/\∀i,l<=i->i<k->Kr rk (bo st') (lo+k)<Kr rk (bo st') (lo+i)) ?_ ?_ #[rfl,0,k,rfl,by lia,by lia,by lia,λi hi=>by lia,λi a b=>by lia]) ?_)
  .rintro x c st2 _ hx ⟨rfl,l,r,rfl,g1,g2,g3,g4,g5⟩
   dsimp only
   by_cases c:l>=r
   .rw[T9 c]
    exact aW #[rfl,l,r,rfl,by lia,g4,λi a b=>g5 i #[0] b]
   .rw[T8 c]
    have m1:l<=(l+r) / 2:=by lia
    have m2:(l+r) / 2<r:=by lia
    generalize (l+r) / 2=m at *;refine aK<|Jo O B ia #[0] #[0] ?_
    dsimp only
    split
    .have cm:=T6 ‹_›
     refine aW #[rfl,l,m,rfl,by lia,by lia,by lia,g4,λi a b=>?_]
     by_cases y:i=m
     .rw[y];exact cm
     .exact dA cm<|u _ _ #[0] #[0] #[0]
    .have cm:Kr rk (bo st2) (lo+m)<Kr rk (bo st2) (lo+k):=by
      have z:¬Kr rk (bo st2) (lo+k)<Kr rk (bo st2) (lo+m):=λz=>‹¬_› (T5 z)
      have:Kr rk (bo st2) (lo+k)≠Kr rk (bo st2) (lo+m):=λe=>by
       have:=B.ne nd #[0] #[0] e
       lia
      lia
     refine aW #[rfl,m+1,r,rfl,by lia,by lia,by lia,λi a=>?_,g5]
     by_cases y:i=m
     .rw[y];exact cm
     .exact dA (u _ _ #[0] #[0]<|by lia) cm
  .rintro c st2 ⟨rfl,l,r,rfl,g1,g2,g3,g4,g5⟩
   exact#[rfl,l,r,rfl,by lia,g4,λi a b=>g5 i #[0] b]
  .rintro c st2 ⟨rfl,l,r,rfl,g2,g4,g5⟩
   dsimp only
   rw[moveDown'_eq];refine aK<|fS<|aW ?_;have gb:=λi=>getElem?_bubble (xs:=bo st2) (src:=lo+k) #[0] (lo+k-(lo+l)) #[0] i
   rw[Nat.sub_sub_self<|Nat.add_le_add_left g2 lo]at gb;refine#[rfl,B.setA (bubble_perm ..) λi hi=>?_,λi j a b d=>?_]
   .rw[gb i,T8 #[0],T8 #[0]]
   .have e:∀i,Kr rk (bubble (bo st2) (lo+k)<|lo+k-(lo+l)) i=if i=lo+l then Kr rk (bo st2) (lo+k)else if lo+l<i/\i<=lo+k then Kr rk (bo st2) (i-1)else Kr rk (bo st2) i:=λi=>by
     have h:=gb i;split at h
     .rw[T9 ‹_›];exact W7 h
     .rw[T8 ‹_›]
      split at h
      .rw[T9 ‹_›];exact W7 h
      .rw[T8 ‹_›];exact W7 h
    show Kr rk (bubble _ _ _) i<Kr rk (bubble _ _ _) j;rw[e i,e j];have low:∀x,lo<=x->x<lo+l->Kr rk (bo st2) x<Kr rk (bo st2) (lo+k):=λx a b=>by
     obtain⟨y,rfl⟩:=mf a;exact g4 y<|lB b
    have high:∀x,lo+l<=x->x<lo+k->Kr rk (bo st2) (lo+k)<Kr rk (bo st2) x:=λx a b=>by
     obtain⟨y,rfl⟩:=mf<|Nat.le_of_add_right_le a;exact g5 y (Nat.le_of_add_le_add_left a)<|lB b
    by_cases ci:i=lo+l
    .rw[T9 ci,T8 #[0],T9 #[0]]
     exact high _ #[0] #[0]
    .rw[T8 ci]
     by_cases cj:j=lo+l
     .rw[T9 cj,T8 #[0]]
      exact low _ a #[0]
     .rw[T8 cj]
      by_cases di:lo+l<i/\i<=lo+k
      .rw[T9 di,T9 #[0]];exact u _ _ #[0] #[0] #[0]
      .rw[T8 di]
       by_cases dj:lo+l<j/\j<=lo+k
       .obtain⟨m,rfl⟩:=mh dj.1
        rw[T9 dj];exact u _ (lo+l+m) a #[0] #[0]
       .rw[T8 dj];exact u _ _ a b #[0]
 .rintro c st' ⟨rfl,B,u⟩
  have e:max (max ok 1) n=n:=by rw[rn h1,me hok]
  rw[e]at u;exact#[rfl,B,u]
 .rintro c st' ⟨rfl,B,u⟩
  exact aW<|q st' B u
end
def zP(i:Nat):mergeAt' i=(do
 let t <-get
 let (aa (ia,ma,pw),aa (ib,mb,_)):=((bp t)[i]?,(bp t)[i+1]?)|unsupported "internal:list.sort.pending"
 set (h9 t<|((bp t).setIfInBounds i (ia,ma+mb,pw)).eraseIdxIfInBounds<|i+1)
 let aa r <-Yv ak (<-gS (bo t) ib) (bo t) ia ma 0|return ak
 let (ja,la):=(ia+r,ma-r)
 if la == 0 then return aj
 let aa lb <-Yv aj (<-gS (bo t) (ja+la-1)) (bo t) ib mb (mb-1)|return ak
 if lb == 0 then return aj
 let u:=(bo t).extract ja ib
 let v:=(bo t).extract ib<|ib+lb
 let mg <-if la<=lb then UW u v else UM u v
 modify λt=>rZ t<|mg.toList.zipIdx.foldl (λa (p,j)=>a.setIfInBounds (ja+j) p)<|bo t
 return (gH<|<-get).isNone):=rfl
theorem zu(b:Nat):∀(m:List cq)(j:Nat)(a:Array cq),b+j+m.length<=a.size->((m.zipIdx j).foldl (λa q=>a.setIfInBounds (b+q.2) q.1) a).toList=a.toList.take (b+j)++m++a.toList.drop (b+j+m.length)
 |[],j,a,h=>by simp
 |x::r,j,a,h=>by
  rw[aG]at h;rw[md,dM,zu b r (j+1) _ (by rw[Array.size_setIfInBounds];lia)]
  dsimp only
  rw[ln,aG,<-eD b j 1,lL,List.take_set_of_le<|aI _,bn (by simpa using(by lia:b+j<a.size)),List.drop_set_of_lt #[0]]
  simp[eD,iD 1]
def Runs(rk:cq->Nat):List (Nat×Nat)->Nat->Nat->List cq->Prop
 |[],a,b,_=>a=b
 |(i,n)::r,a,b,l=>i=a/\1<=n/\Srt (lr rk) ((l.drop a).take n)/\Runs rk r (a+n) b l
section
theorem Runs.le:∀{r:List (Nat×Nat)}{a b:Nat}{l:List cq},Runs rk r a b l->a+r.length<=b
 |[],a,b,l,h=>mI h
 |(i,n)::r,a,b,l,#[_,h1,_,h]=>by have:=h.le;rw[aG];lia
theorem Runs.app:∀{r q:List (Nat×Nat)}{a b:Nat}{l:List cq},Runs rk (r++q) a b l↔∃c,Runs rk r a c l/\Runs rk q c b l
 |[],q,a,b,l=>#[λh=>#[a,rfl,h],λ#[c,h1,h2]=>by cases h1;exact h2]
 |(i,n)::r,q,a,b,l=>by
  constructor
  .rintro ⟨h1,h2,h3,h4⟩
   obtain⟨c,h5,h6⟩:=Runs.app.mp h4;exact#[c,#[h1,h2,h3,h5],h6]
  .rintro ⟨c,⟨h1,h2,h3,h4⟩,h5⟩
   exact#[h1,h2,h3,Runs.app.mpr #[c,h4,h5]]
theorem Runs.congr:∀{r:List (Nat×Nat)}{a b:Nat}{l l':List cq},Runs rk r a b l->(∀k,a<=k->k<b->l'[k]?=l[k]?)->Runs rk r a b l'
 |[],a,b,l,l',h,_=>h
 |(i,n)::r,a,b,l,l',#[h1,h2,h3,h4],e=>by
  have:=h4.le;refine#[h1,h2,?_,h4.congr λk ha hb=>e k #[0] hb]
  have:(l'.drop a).take n=(l.drop a).take n:=dg λk=>by
   rw[cM,cM,fq,fq];split
   .exact e _ #[0] #[0]
   .rfl
  rw[this];exact h3
def J0(hx:Srt (lr rk) x)(hy:Srt (lr rk) y)(h:∀a∈x,∀b∈y,rk a<rk b):Srt (lr rk) (x++y):=eG.mpr #[hx,hy,h]
structure Sc(κ:iH)(a₀:Array cq)(τ:bX):Prop where
 kd:kindOf τ=κ
 pm:(bo τ).Perm a₀
 fl:gH τ=ae
variable{In:cq->Prop}
theorem x8(O:Od prog w A E s κ In rk)(ia:∀x∈a₀.toList,In x)(nd:(a₀.toList.map rk).Nodup){Q:Bool->bX->Prop}{i a na nb pw qw:Nat}{U X Y Z:List cq}(h:Sc κ a₀ τ)(h1:(bp τ)[i]?=aa (a,na,pw))(h2:(bp τ)[i+1]?=aa (a+na,nb,qw))
  (hl:(bo τ).toList=U++(X++(Y++Z)))(lU:U.length=a)(lX:X.length=na)(lY:Y.length=nb)(xa:1<=na)(yb:1<=nb)(sx:Srt (lr rk) X)(sy:Srt (lr rk) Y)
  (q:∀st' M,Sc κ a₀ st'->bp st'=((bp τ).setIfInBounds i (a,na+nb,pw)).eraseIdxIfInBounds (i+1)->(bo st').toList=U++(M++Z)->M.length=na+nb->Srt (lr rk) M->Q aj st'):m7 #[8] A E s (mergeAt' i) Q τ:=by
 have hp:=bJ.mp h.pm;have ial:∀x∈(bo τ).toList,In x:=λx hx=>ia x<|hp.mem_iff.mp hx
 have ndl:=((hp.map rk).nodup_iff).mpr nd;have hsz:(bo τ).size=a+(na+(nb+Z.length)):=by rw[<-aP,hl];simp[lU,lX,lY]
 have dX:((bo τ).toList.drop a).take na=X:=by rw[hl,<-lU,lq,<-lX,lu]
 have dY:((bo τ).toList.drop<|a+na).take nb=Y:=by rw[hl,<-bu,<-lU,<-lX,<-aN,lq,<-lY,lu]
 have ndXY:∀x∈X,∀y∈Y,rk x≠rk y:=λx hx y hy e=>by
  rw[hl,bw,gv,bw,gv]at ndl;exact ndl.2.1.2.2 _ (eR hx) _ (by rw[bw];exact cX _<|eR hy) e
 have inX:∀x∈X,In x:=λx hx=>ial x (by rw[hl];simp[hx])
 have inY:∀y∈Y,In y:=λy hy=>ial y (by rw[hl];simp[hy])
 obtain⟨y0,Y',rfl⟩:∃y0 Y',Y=y0::Y':=by cases Y with|nil=>simp at lY;lia|cons y Y'=>exact#[y,Y',rfl]
 have e0:(bo τ)[a+na]?=aa y0:=by
  rw[<-bD,hl,<-bu,bP (by simp;lia)]
  simp[lU,lX]
 rw[zP];refine aK<|iJ ?_;rw[h1,h2]
 dsimp only
 refine aK<|fS (f:=λ_=>h9 τ<|((bp τ).setIfInBounds i (a,na+nb,pw)).eraseIdxIfInBounds<|i+1) ?_
 generalize hst:h9 τ (((bp τ).setIfInBounds i (a,na+nb,pw)).eraseIdxIfInBounds<|i+1)=st1;have S1:Sc κ a₀ st1:=by rw[<-hst];exact#[h.kd,h.pm,h.fl]
 have P1:bp st1=((bp τ).setIfInBounds i (a,na+nb,pw)).eraseIdxIfInBounds (i+1):=by rw[<-hst]
 have A1:bo st1=bo τ:=by rw[<-hst]
 refine aK<|ZG e0<|aK<|vT O S1.kd (inY y0<|al ..) xa #[0] ial (by rw[dX];exact sx) (by rw[dX];exact λx hx=>ndXY x hx y0<|al ..) λr hr r1 r2=>?_
 rw[dX]at r1 r2
 dsimp only
 have lowY:∀x∈X.take r,∀y∈y0::Y',rk x<rk y:=λx hx y hy=>by
  rcases ay.mp hy with rfl|hy
  .exact r1 x hx
  .exact dA (r1 x hx)<|(aZ.mp sy).1 y hy
 by_cases c:na-r=0
 .rw[T9 (by simpa using c)]
  have:X.take r=X:=cG #[0]
  rw[this]at lowY;exact aW<|q st1 (X++y0::Y') S1 P1 (by rw[A1,hl,bu]) (by rw[aN,lX,lY])<|J0 sx sy lowY
 rw[T8 (by simpa using c)]
 obtain⟨d,hd⟩:=mh<|Nat.lt_of_sub_ne_zero c;have n9:na-r=d+1:=by rw[hd,eD,cf]
 rw[n9];have hd':r+d<X.length:=by lia
 have exl:(bo τ)[a+r+(d+1)-1]?=X[r+d]?:=by
  show(bo τ)[a+r+d]?=_;rw[<-bD,hl,<-lU,eD,bP<|dB ..,cf,cg hd']
 have xl:X[r+d]?=aa (X[r+d]'hd'):=ai _;generalize hx0:X[r+d]'hd'=x0 at xl;have mx0:x0∈X:=cY xl;have mx1:x0∈X.drop r:=cY (i:=d) (by rw[fq,<-xl])
 have maxX:∀x∈X,x=x0\/rk x<rk x0:=λx hx=>by
  obtain⟨k,hk,rfl⟩:=nk.mp hx;by_cases z:k=r+d
  .subst z;exact .inl hx0
  .refine .inr ?_;rw[<-hx0];exact cn.mp sx k (r+d) hk hd' #[0]
 refine aK<|ZG (exl.trans xl)<|aK<|vT O S1.kd (inX x0 mx0) #[0] #[0] ial (by rw[dY];exact sy) (by rw[dY];exact λy hy=>Ne.symm<|ndXY x0 mx0 y hy) λt ht t1 t2=>?_
 rw[dY]at t1 t2
 dsimp only
 have t0:t≠0:=λz=>by
  subst z;have a1:=r2 x0 mx1;have a2:=t2 y0<|al ..;lia
 rw[T8 (by simpa using t0)]
 generalize hY:y0::Y'=Y at *;have eu:((bo τ).extract (a+r)<|a+na).toList=X.drop r:=by
  have:a+na=(a+r)+(d+1):=by lia
  rw[this,vO,<-lm,hl,<-lU,lq,kj #[0]]
  rw[show d+1=(X.drop r).length by rw[bF,lX,n9],lu]
 have ev:((bo τ).extract (a+na)<|a+na+t).toList=Y.take t:=by
  rw[vO,hl,<-bu,<-lU,<-lX,<-aN,lq,kl #[0]]
 generalize hu:(bo τ).extract (a+r) (a+na)=u at *;generalize hv:(bo τ).extract (a+na) (a+na+t)=v at *;have ul:u.size=d+1:=by rw[<-aP,eu,bF,lX,n9]
 clear n9;have vl:v.size=t:=by rw[<-aP,ev,fT #[0]]
 have su:Srt (lr rk) u.toList:=by rw[eu];exact sx.sublist<|List.drop_sublist ..
 have sv:Srt (lr rk) v.toList:=by rw[ev];exact sy.sublist<|lF ..
 have v0:∀x∈u.toList,rk (v[0]'#[0])<rk x:=λx hx=>by
  have:v.toList[0]?=aa y0:=by
   rw[ev,<-hY];obtain⟨t',rfl⟩:=Nat.exists_eq_succ_of_ne_zero t0;rfl
  have e:v[0]'#[0]=y0:=by
   rw[bD,bS<|by lia]at this
   exact aq this
  rw[e];exact r2 x (by rw[<-eu];exact hx)
 have G:Mg κ In rk u v (u.toList++v.toList):=by
  refine#[?_,λx hx=>inX x<|cx<|eu▸hx,λy hy=>inY y<|dv<|ev▸hy,λy hy x hx=>?_]
  .rw[bw,gv]
   have nx:∀{z:List cq},Srt (lr rk) z->(z.map rk).Nodup:=λ{z} hz=>dk.mpr<|hz.imp λhab=>bv hab
   refine#[nx su,nx sv,λp hp p' hp' e=>?_]
   obtain⟨x,hx,rfl⟩:=aO.mp hp;obtain⟨y,hy,rfl⟩:=aO.mp hp';exact ndXY x (cx<|eu▸hx) y (dv<|ev▸hy) e
  .have hx:x=x0:=by
    rw[eu,ul,lm,oA,ck hd',show r+d+1=X.length by lia,fc,aT]at hx
    rw[hx];exact hx0
   rw[hx];exact t1 y (by rw[<-ev];exact hy)
 have fin:∀r' st',Sg st1 st'->Res rk (u.toList++v.toList) r'->m7 #[8] A E s (do
   modify λt=>rZ t<|r'.toList.zipIdx.foldl (λz (p,j)=>z.setIfInBounds (a+r+j) p)<|bo t
   return (gH<|<-get).isNone) Q st':=λr' st' sg hr'=>by
  obtain⟨g1,g2,g3,g4⟩:=sg;obtain⟨k1,k2⟩:=hr';have rl:r'.toList.length=(d+1)+t:=by rw[k1.length_eq,aN,aP,aP,ul,vl]
  refine aK<|fS<|aK<|iJ<|aW ?_;have fo:=zu (a+r) r'.toList 0 (bo τ) #[0]
  have el:((r'.toList.zipIdx.foldl (λz (q:cq×Nat)=>z.setIfInBounds (a+r+q.2) q.1)<|bo τ).toList)=U++((X.take r++(r'.toList++Y.drop t))++Z):=by
   rw[fo,Nat.add_zero,hl,<-lU,List.take_append,pI,rl];have e2:U.length+r+(d+1+t)-U.length=na+t:=by rw[eD,cf,hd,<-eD,<-eD]
   rw[cf,e2,cG #[0],mJ #[0],eN,kl #[0],<-lX,pI,mJ #[0],eN,cf,kj #[0]]
   simp[bu]
  have hX:X.take r++X.drop r=X:=cU ..;have hYt:Y.take t++Y.drop t=Y:=cU ..;have pM:(X.take r++(r'.toList++Y.drop t)).Perm (X++Y):=by
   rw[eu,ev]at k1;have:(X.take r++(r'.toList++Y.drop t)).Perm (X.take r++((X.drop r++Y.take t)++Y.drop t)):=(k1.append_right _).append_left _;refine this.trans<|mR ?_;rw[bu<|X.drop r,hYt,<-bu,hX]
  show Q (gH st').isNone _;rw[g4,S1.fl];refine q (rZ st'<|r'.toList.zipIdx.foldl (λz (q:cq×Nat)=>z.setIfInBounds (a+r+q.2) q.1)<|bo st') (X.take r++(r'.toList++Y.drop t)) #[g1.trans S1.kd,?_,g4.trans S1.fl] (g3.trans P1) (by rw[<-el,<-A1,<-g2]) (by rw[pM.length_eq,aN,lX,lY]) ?_
  .refine(bJ.mpr ?_).trans h.pm
   show(oF<|List.foldl _ (bo st') _).Perm _;rw[g2,A1,el,hl,<-bu X Y Z];exact(pM.append_right _).append_left _
  .have memR:∀z∈r'.toList,z∈X.drop r\/z∈Y.take t:=λz hz=>by
    have:=k1.mem_iff.mp hz;rw[eu,ev]at this;exact bK.mp this
   have sX:=eG.mp<|hX.symm▸sx;have sY:=eG.mp<|hYt.symm▸sy;refine J0 sX.1 (J0 k2 sY.2.1 λp hp y hy=>?_) λx hx z hz=>?_
   .rcases memR p hp with m|m
    .have:=t2 y hy
     rcases maxX p (cx m)with rfl|m
     .exact this
     .exact dA m this
    .exact sY.2.2 p m y hy
   .rcases bK.mp hz with m|m
    .rcases memR z m with m|m
     .exact sX.2.2 x hx z m
     .exact lowY x hx z<|dv m
    .exact lowY x hx z<|cx m
 by_cases cl:d+1<=t
 .rw[T9 cl]
  exact aK<|yW O G S1.kd #[0] #[0] su sv (cI _) v0 λr' st' sg hr'=>fin r' st' sg hr'
 .rw[T8 cl]
  have fs:∀x∈u.toList,∀y∈v.toList.take 1,rk y<rk x:=λx hx y hy=>by
   have e:=Yd (a:=v) (i:=0) #[0]
   rw[lg]at e;rw[e]at hy;rw[aT.mp hy];exact v0 x hx
  exact aK<|xt O G fs S1.kd #[0] #[0] su sv (cI _) λr' st' sg hr'=>fin r' st' sg hr'
end
section
variable{In:cq->Prop}
noncomputable abbrev g2(q:Nat×Nat×Nat):Nat×Nat:=(q.1,q.2.1)
def pl(τ:bX):List (Nat×Nat):=(bp τ).toList.map g2
def cut2{B:Type}{l:List B}{i:Nat}{x y:B}(h1:l[i]?=aa x)(h2:l[i+1]?=aa y):l=l.take i++(x::y::l.drop (i+2)):=by
 obtain⟨a,e1⟩:=aH.mp h1;obtain⟨b,e2⟩:=aH.mp h2
 conv=>lhs;rw[<-cU i l,ck a,ck b,e1,e2]
theorem WI(O:Od prog w A E s κ In rk)(ia:∀x∈a₀.toList,In x)(nd:(a₀.toList.map rk).Nodup){Q:Bool->bX->Prop}{i b:Nat}{R3:List (Nat×Nat)}(h:Sc κ a₀ τ)(hi:i+1<(bp τ).size)(hb:b<=a₀.size)(hr:Runs rk (pl τ++R3) 0 b (bo τ).toList)
  (q:∀st',Sc κ a₀ st'->(bp st').size=(bp τ).size-1->Runs rk (pl st'++R3) 0 b (bo st').toList->Q aj st'):m7 #[8] A E s (mergeAt' i) Q τ:=by
 obtain⟨⟨a,na,pw⟩,h1⟩:∃x,(bp τ)[i]?=aa x:=#[_,bS #[0]]
 obtain⟨⟨b1,nb,qw⟩,h2⟩:∃x,(bp τ)[i+1]?=aa x:=#[_,bS hi];have e:=cut2 (l:=(bp τ).toList) (by rw[bD];exact h1) (by rw[bD];exact h2)
 generalize hA:(bp τ).toList.take i=RA at e;generalize hC:(bp τ).toList.drop (i+2)=RC at e;have lA:RA.length=i:=by rw[<-hA,bQ,aP];lia
 unfold pl at hr;rw[e,bw,bu]at hr;obtain⟨c,r1,r2⟩:=Runs.app.mp hr;obtain⟨z1,n1,s1,z2,n2,s2,r3⟩:=r2
 dsimp only[g2]at z1 n1 s1 z2 n2 s2 r3
 subst z1 z2;have hle:=r3.le;have hsz:(bo τ).toList.length=a₀.size:=by rw[aP];exact h.pm.size_eq
 generalize hl:(bo τ).toList=l at *;have el:l=l.take a++((l.drop a).take na++((l.drop<|a+na).take nb++l.drop (a+na+nb))):=by
  rw[td,td,cU]
 have lU:(l.take a).length=a:=fT #[0]
 refine x8 O ia nd h h1 h2 (hl.trans el) lU (fT<|by rw[bF];exact mY<|by lia) (fT<|by rw[bF];exact mY<|by lia) n1 n2 s1 s2 λst' M S' hp' hl' lM sM=>?_
 have hpl:(bp st').toList=RA++((a,na+nb,pw)::RC):=by
  rw[hp',Array.toList_eraseIdxIfInBounds,ln,e,List.set_append_right _ _ #[0],lA,Nat.sub_self]
  rw[List.eraseIdx_append_of_length_le #[0],lA,cf]
  rfl
 refine q st' S' ?_ ?_
 .rw[<-aP,hpl,<-aP,e]
  simp
 .have at_:∀k,(k<a\/a+na+nb<=k)->(bo st').toList[k]?=l[k]?:=λk hk=>by
   rw[hl'];rcases hk with hk|hk
   .rw[cg<|lU.symm▸hk,cM,T9 hk]
   .obtain⟨d,rfl⟩:=Nat.le.dest hk
    have e1:(l.take a++M).length=a+na+nb:=by rw[aN,lU,lM,eD]
    rw[<-bu,bP<|e1▸hk,e1,cf,fq]
  unfold pl;rw[hpl,bw,bu];refine Runs.app.mpr #[a,r1.congr λk _ hk=>at_ k<|.inl hk,rfl,by dsimp only[g2];lia,?_,?_]
  .show Srt (lr rk) (((bo st').toList.drop a).take<|na+nb)
   rw[hl',<-lM,List.drop_left' lU,lu];exact sM
  .show Runs rk _ (a+(na+nb)) b _
   rw[<-eD];exact r3.congr λk hk _=>at_ k<|.inr hk
theorem Zbi{lo n:Nat}{xs:Array cq}(hn:lo+n<=xs.size)(u:Up rk xs lo n):Srt (lr rk) ((xs.toList.drop lo).take n):=by
 refine cn.mpr λi j hi hj hij=>?_
 rw[bQ,bF,aP]at hi hj;have g:∀k (hk:k<((xs.toList.drop lo).take n).length),((xs.toList.drop lo).take n)[k]=xs[lo+k]'(by rw[bQ,bF,aP]at hk;lia):=λk hk=>by
  rw[gw,gy,Array.getElem_toList]
 rw[g,g];have:=u (lo+i) (lo+j) #[0] #[0] #[0]
 rw[zy #[0],zy<|by lia]at this
 exact this
def Ja{P:Array (Nat×Nat×Nat)}{k pw:Nat}:(P.modify k λq=>(q.1,q.2.1,pw)).toList.map g2=P.toList.map g2:=by
 refine dg λi=>?_
 rw[aU,aU,bD,bD,Array.getElem?_modify];split
 .cases P[i]?<;>rfl
 .rfl
theorem sort_ok(O:Od prog w A E s κ In rk)(ia:∀x∈a₀.toList,In x)(nd:(a₀.toList.map rk).Nodup){Q:Unit->bX->Prop}(hk:kindOf τ=κ)(ha:bo τ=a₀)(hp:bp τ = #[])(hf:gH τ=ae)(h1:1<=a₀.size)
  (q:∀st',(bo st').Perm a₀->gH st'=ae->Srt (lr rk) (bo st').toList->Q () st'):m7 #[8] A E s sortRuns' Q τ:=by
 rw[sortRuns'_eq];refine aK<|iJ ?_;rw[ha]
 dsimp only
 have S0:Sc κ a₀ τ:=#[hk,by rw[ha],hf]
 refine aK (fD (cV
  (I:=λx c st'=>∃lo,c=(ae,lo)/\x<=lo/\lo<=a₀.size/\Sc κ a₀ st'/\Runs rk (pl st') 0 lo (bo st').toList)
  (Q:=λc st'=>c=(ae,a₀.size)/\Sc κ a₀ st'/\Runs rk (pl st') 0 a₀.size (bo st').toList) ?_ ?_ #[0,rfl,aI _,eE _,S0,by unfold pl;rw[hp];rfl]) ?_)
 .rintro x c st1 _ hx ⟨lo,rfl,g1,g2',S1,R1⟩
  dsimp only
  by_cases c:lo>=a₀.size
  .rw[T9 c]
   obtain rfl:lo=a₀.size:=by lia
   exact aW #[rfl,S1,R1]
  rw[T8 c];have B1:Sb κ a₀ (bp st1) lo ((bo st1).toList.take lo) st1:=#[S1.kd,S1.pm,S1.fl,rfl,rfl];refine aK<|jR O ia nd #[0] #[0] B1 λm st2 B2 m1 m2 u2=>?_
  dsimp only
  have done:∀n st3,1<=n->lo+n<=a₀.size->Sc κ a₀ st3->Runs rk (pl st3++[(lo,n)]) 0 (lo+n) (bo st3).toList->∃lo',((ae,lo+n):Option PUnit×Nat)=(ae,lo')/\x+1<=lo'/\lo'<=a₀.size/\Sc κ a₀ (h9 st3<|(bp st3).push (lo,n,0))/\Runs rk (pl<|h9 st3<|(bp st3).push (lo,n,0)) 0 lo' (bo st3).toList:=λn st3 n1 n2 S3 R3=>
   #[lo+n,rfl,by lia,n2,#[S3.kd,S3.pm,S3.fl],by
    have:pl (h9 st3<|(bp st3).push (lo,n,0))=pl st3++[(lo,n)]:=by
     show nq g2 ((bp st3).push (lo,n,0)).toList=_;rw[gz,bw];rfl
    rw[this];exact R3]
  by_cases c2:m<rG a₀.size a₀.size 0
  .rw[T9 c2]
   refine aK<|Wn<|aK<|ZcN (n:=sD (a₀.size-lo)<|rG a₀.size a₀.size 0) O ia nd #[0] m1 #[0] B2 u2 λst5 B u=>?_
   have n1:1<=sD (a₀.size-lo) (rG a₀.size a₀.size 0):=by lia
   have n2:lo+sD (a₀.size-lo) (rG a₀.size a₀.size 0)<=a₀.size:=by lia
   simp only[gZ,cL,if_false];generalize sD (a₀.size-lo) (rG a₀.size a₀.size 0)=n at *;clear B2 u2;refine aK<|iJ ?_;have S5:Sc κ a₀ st5:=#[B.kd,B.pm,B.fl];have hz:(bo st5).size=a₀.size:=B.size;have R5:Runs rk (pl st5++[(lo,n)]) 0 (lo+n) (bo st5).toList:=Runs.app.mpr #[lo,by
    unfold pl at R1 ⊢;rw[B.pd];refine R1.congr λk _ hk=>?_
    have e:(nE lo _)[k]?=(nE lo _)[k]?:=congrArg (λl=>l[k]?) B.ah
    rw[cM,cM,T9 hk,T9 hk]at e;exact e,rfl,n1,Zbi #[0] u,rfl]
   cases hbk:(bp st5).back? with
   |none=>
    exact aK<|fS<|aW<|done n st5 n1 n2 S5 R5
   |some q5=>
    obtain⟨x1,x2,x3⟩:=q5
    dsimp only
    refine aK<|fD (cV (I:=λ_ c st3=>c=(ae,())/\Sc κ a₀ st3/\Runs rk (pl st3++[(lo,n)]) 0 (lo+n) (bo st3).toList) ?_ (λc st3 h=>h) #[rfl,S5,R5]) ?_
    .rintro x c st3 _ _ ⟨rfl,S3,R3⟩
     refine aK<|iJ ?_;by_cases c:(bp st3).size>1
     .rw[T9 c,bS<|show(bp st3).size-2<(bp st3).size by lia]
      dsimp only
      split
      .exact aW #[rfl,S3,R3]
      .refine aK (WI O ia nd S3 #[0] n2 R3 λst4 S4 _ R4=>?_)
       simp only[gZ,cL,if_false];exact aW #[rfl,S4,R4]
     .rw[T8 c]
      exact aW #[rfl,S3,R3]
    .rintro c st3 ⟨rfl,S3,R3⟩
     dsimp only
     exact aK (fS (aK (fS (aW (done n (h9 st3 _) n1 n2 #[S3.kd,S3.pm,S3.fl] (by
      show Runs rk (nq g2 (Array.modify _ _ _).toList++_) _ _ _;rw[Ja];exact R3))))))
  .rw[T8 c2]
   have n2:lo+m<=a₀.size:=by lia
   refine aK<|iJ ?_;have S5:Sc κ a₀ st2:=#[B2.kd,B2.pm,B2.fl];have hz:(bo st2).size=a₀.size:=B2.size;have R5:Runs rk (pl st2++[(lo,m)]) 0 (lo+m) (bo st2).toList:=Runs.app.mpr #[lo,by
    unfold pl at R1 ⊢;rw[B2.pd];refine R1.congr λk _ hk=>?_
    have e:(nE lo _)[k]?=(nE lo _)[k]?:=congrArg (λl=>l[k]?) B2.ah
    rw[cM,cM,T9 hk,T9 hk]at e;exact e,rfl,m1,Zbi #[0] u2,rfl]
   cases hbk:(bp st2).back? with
   |none=>
    exact aK<|fS<|aW<|done m st2 m1 n2 S5 R5
   |some q5=>
    obtain⟨x1,x2,x3⟩:=q5
    dsimp only
    refine aK<|fD (cV (I:=λ_ c st3=>c=(ae,())/\Sc κ a₀ st3/\Runs rk (pl st3++[(lo,m)]) 0 (lo+m) (bo st3).toList) ?_ (λc st3 h=>h) #[rfl,S5,R5]) ?_
    .rintro x c st3 _ _ ⟨rfl,S3,R3⟩
     refine aK<|iJ ?_;by_cases c:(bp st3).size>1
     .rw[T9 c,bS<|show(bp st3).size-2<(bp st3).size by lia]
      dsimp only
      split
      .exact aW #[rfl,S3,R3]
      .refine aK (WI O ia nd S3 #[0] n2 R3 λst4 S4 _ R4=>?_)
       simp only[gZ,cL,if_false];exact aW #[rfl,S4,R4]
     .rw[T8 c]
      exact aW #[rfl,S3,R3]
    .rintro c st3 ⟨rfl,S3,R3⟩
     dsimp only
     exact aK (fS (aK (fS (aW (done m (h9 st3 _) m1 n2 #[S3.kd,S3.pm,S3.fl] (by
      show Runs rk (nq g2 (Array.modify _ _ _).toList++_) _ _ _;rw[Ja];exact R3))))))
 .rintro c st1 ⟨lo,rfl,g1,g2',S1,R1⟩
  obtain rfl:lo=a₀.size:=by lia
  exact#[rfl,S1,R1]
 .rintro c st1 ⟨rfl,S1,R1⟩
  dsimp only
  have len1:=R1.le;refine aK (fD (cV
   (I:=λx c st2=>c=(ae,())/\Sc κ a₀ st2/\Runs rk (pl st2) 0 a₀.size (bo st2).toList/\(bp st2).size<=max 1 (a₀.size-x))
   (Q:=λc st2=>c=(ae,())/\Sc κ a₀ st2/\Runs rk (pl st2) 0 a₀.size (bo st2).toList/\(bp st2).size<=1) ?_ ?_ #[rfl,S1,R1,by unfold pl at len1;rw[ax,aP]at len1;lia]) ?_)
  .rintro x c st2 _ hx ⟨rfl,S2,R2,l2⟩
   refine aK<|iJ ?_;by_cases c:(bp st2).size<=1
   .rw[T9 c]
    exact aW #[rfl,S2,R2,c]
   rw[T8 c];generalize hj:(if(Option.any (λx=>af<|x<((bp st2)[(bp st2).size-2+1]?).elim 0 λx=>x.2.1)<|if(bp st2).size-2>0 then Option.map (λx=>x.2.1) (bp st2)[(bp st2).size-2-1]? else ae)=aj then(bp st2).size-2-1 else(bp st2).size-2)=j
   have hj1:j+1<(bp st2).size:=by
    have g:∀b:Bool,(if b=aj then(bp st2).size-2-1 else(bp st2).size-2)+1<(bp st2).size:=λb=>by cases b<;>simp<;>lia
    rw[<-hj];exact g _
   refine aK<|WI (R3:=[]) O ia nd S2 hj1 (aI _) (by rw[bO];exact R2) λst3 S3 l3 R3=>?_
   rw[bO]at R3;simp only[gZ,cL,if_false];exact aW #[rfl,S3,R3,by lia]
  .rintro c st2 ⟨rfl,S2,R2,l2⟩
   exact#[rfl,S2,R2,by lia]
  .rintro c st2 ⟨rfl,S2,R2,l2⟩
   dsimp only
   refine aW<|q st2 S2.pm S2.fl ?_;have hz:(bo st2).toList.length=a₀.size:=by rw[aP];exact S2.pm.size_eq
   unfold pl at R2
   match hP:(bp st2).toList,R2 with
   |[],R2=>exact T7 (show 0=a₀.size from R2) #[0]
   |[(i,n,pw)],R2=>
    obtain⟨_,_,z,e⟩:=R2;have e:0+n=a₀.size:=e;rw[lg,cG<|by dsimp only[g2];lia]at z
    exact z
   |_::_::_,_=>rw[<-aP,hP]at l2;simp at l2
end
end Tq
namespace Sq
open PySem PySem.W PyProof.Rows
structure Ord(n:Nat)(lt:Nat->Nat->Bool):Prop where
 tot:∀i j,i<n->j<n->i≠j->lt i j=ak->lt j i=aj
 asy:∀i j,i<n->j<n->lt i j=aj->lt j i=ak
 tr:∀i j k,i<n->j<n->k<n->lt i j=aj->lt j k=aj->lt i k=aj
noncomputable abbrev g(p:Array Nat)(i:Nat):Nat:=p.getD i 0
def Pm(n:Nat)(p:Array Nat):Prop:=p.Perm<|dC<|aM n
theorem Pm.size(h:Pm n p):p.size=n:=by have:=Array.Perm.size_eq h;simpa using this
def ZbR(h:i<p.size):p[i]?=aa (g p i):=by simp[g,h]
def Pm.lt(h:Pm n p)(hi:i<n):g p i<n:=by
 have hs:=h.size;have h1:g p i∈p.toList:=by
  have:p.toList[i]?=aa (g p i):=by rw[bD];exact ZbR #[0]
  exact cY this
 have h2:p.toList.Perm (aM n):=by simpa using bJ.mp h
 exact bc.mp<|h2.mem_iff.mp h1
def Up(lt:Nat->Nat->Bool)(p:Array Nat)(m:Nat):Prop:=∀i j,i<j->j<m->lt (g p i) (g p j)=aj
theorem Jd{B:Type}{p q:B->Bool}:∀{l:List B},(∀x∈l,p x=aj->q x=aj)->(∃x∈l,q x=aj/\p x=ak)->l.countP p<l.countP q
 |[],_,#[x,hx,_]=>by cases hx
 |y::l,h,#[x,hx,h1,h2]=>by
  have hm:=List.countP_mono_left λz hz=>h z<|ao _ hz
  rw[pJ,pJ];rcases ay.mp hx with rfl|hx
  .rw[h1,h2,T9 rfl,T8 aS];lia
  .have:=Jd (λz hz=>h z<|ao _ hz) #[x,hx,h1,h2]
   have hy:=h y<|al ..;cases e:p y with|false=>rw[T8 aS];lia|true=>rw[hy e,T9 rfl];lia
noncomputable def rank(n:Nat)(lt:Nat->Nat->Bool)(i:Nat):Nat:=(aM n).countP λj=>lt j i
def Uz{n:Nat}{lt:Nat->Nat->Bool}(O:Ord n lt){i j:Nat}(hi:i<n)(hj:j<n):af (rank n lt i<rank n lt j)=lt i j:=by
 have irr:∀k,k<n->lt k k=ak:=λk hk=>by
  cases e:lt k k with|false=>rfl|true=>rw[<-e];exact O.asy k k hk hk e
 have up:=λ{a b} ha hb e=>
  Jd (λx hx h=>O.tr x a b (bc.mp hx) ha hb h e) #[a,bc.mpr ha,e,irr a ha]
 cases e:lt i j with
 |true=>exact T5<|up hi hj e
 |false=>
  refine T4 λh=>?_
  by_cases z:i=j
  .subst z;exact bz _ h
  .exact Nat.lt_asymm h<|up hj hi<|O.tot i j hi hj z e
section
open Classical
noncomputable def idx(vs:List au)(v:au):Nat:=if h:∃i:Nat,vs[i]?=aa v then choose h else 0
def xI(nd:vs.Nodup)(h:vs[i]?=aa v):idx vs v=i:=by
 have hx:∃i:Nat,vs[i]?=aa v:=#[i,h];unfold idx;rw[dif_pos hx];have e:=choose_spec hx;have hl:=(aH.mp e).1;exact(iK hl nd).mp<|e.trans h.symm
end
def Zgm{vs:List au}{κ:iH}{lt:Nat->Nat->Bool}(nd:vs.Nodup)(h1:1<=vs.length)(O:Ord vs.length lt)
  (ask:∀i j,i<vs.length->j<vs.length->∀(C:Bool->aA->Prop)(E:au->aA->Prop),C (lt i j) s->bf #[8] A (keyLt' κ (vs.getD i bN)<|vs.getD j bN) C E s) :
  bf #[8] A ((sortRuns').run<|rX κ (vs.toArray.zip vs.toArray) #[] 7 ae) (λr s'=>s'=s/\∃p,Pm vs.length p/\Up lt p vs.length/\gH r.2=ae/\(bo r.2).map (·.2)=dC (p.toList.map λi=>vs.getD i bN)) E s:=by
 have hz:(vs.toArray.zip vs.toArray).toList=vs.map λv=>(v,v):=by
  rw[ksk_zip];clear ask O h1 nd
  induction vs with|nil=>rfl|cons v l ih=>rw[bV,ih];rfl
 let rk:cq->Nat:=λx=>rank vs.length lt<|idx vs x.1
 let In:cq->Prop:=λx=>∃i:Nat,vs[i]?=aa x.1/\x=(x.1,x.1)
 have atI:∀{x:cq},In x->idx vs x.1<vs.length/\vs.getD (idx vs x.1) bN=x.1:=λ{x} #[i,e,_]=>by
  rw[xI nd e];exact#[(aH.mp e).1,by rw[aF,e];rfl]
 have od:Tq.Od prog w A E s κ In rk:=⟨λ{x y τ Q} ix iy hk q=>by
  obtain⟨a1,a2⟩:=atI ix;obtain⟨b1,b2⟩:=atI iy;rw[lt'_eq];refine aK<|iJ ?_;rw[hk];have:=ask _ _ a1 b1 (λb s'=>s'=s/\b=lt (idx vs x.1) (idx vs y.1)) (λ_ _=>False) #[rfl,rfl]
  rw[a2,b2]at this;refine aK<|wpS_lift<|lV<|cW this (λb s' h=>?_) λ_ _ h=>h.elim
  obtain⟨rfl,rfl⟩:=h;refine#[rfl,aW ?_];rw[<-Uz O a1 b1];exact q⟩
 have ia:∀x∈(vs.toArray.zip vs.toArray).toList,In x:=λx hx=>by
  rw[hz]at hx;obtain⟨v,hv,rfl⟩:=aO.mp hx;obtain⟨i,hi,e⟩:=nk.mp hv;exact#[i,by rw[ai hi,e],rfl]
 have rks:(vs.toArray.zip vs.toArray).toList.map rk=(aM vs.length).map (rank vs.length lt):=by
  rw[hz,bY];refine dg λi=>?_
  rw[aU,aU];by_cases h:i<vs.length
  .rw[db h,ai h]
   exact congrArg (λk=>aa<|rank vs.length lt k)<|xI nd<|ai h
  .rw[dF #[0],dF (by rw[bi];lia)];rfl
 have ndr:((vs.toArray.zip vs.toArray).toList.map rk).Nodup:=by
  rw[rks];refine dk.mpr<|List.Pairwise.imp_of_mem ?_ pK;intro a b ha hb ne e;have ha:=bc.mp ha;have hb:=bc.mp hb;have h1:=Uz O ha hb;have h2:=Uz O hb ha;rw[e,T4<|bz _]at h1 h2;exact T7 (O.tot a b ha hb ne h1.symm) (by rw[<-h2];simp)
 have sz:(vs.toArray.zip vs.toArray).size=vs.length:=by rw[<-aP,hz,ax]
 refine Tq.sort_ok (Q:=λ_ st'=>∃p,Pm vs.length p/\Up lt p vs.length/\gH st'=ae/\(bo st').map (·.2)=dC (p.toList.map λi=>vs.getD i bN)) od ia ndr rfl rfl rfl rfl #[0] λst' pm fl so=>?_
 have pl:=bJ.mp pm;have inS:=λx hx=>ia x<|pl.mem_iff.mp hx
 have pp:((bo st').toList.map λx=>idx vs x.1).Perm (aM vs.length):=by
  refine(pl.map _).trans<|mR ?_;rw[hz,bY];refine dg λi=>?_
  rw[aU];by_cases h:i<vs.length
  .rw[db h,ai h]
   exact congrArg aa<|xI nd<|ai h
  .rw[dF #[0],dF (by rw[bi];lia)];rfl
 have sl:(bo st').toList.length=vs.length:=by rw[pl.length_eq,hz,ax]
 refine#[dC<|(bo st').toList.map λx=>idx vs x.1,bJ.mpr pp,λi j hij hj=>?_,fl,?_]
 .have gk:∀k (hk:k<(bo st').toList.length),g (dC<|(bo st').toList.map λx=>idx vs x.1) k=idx vs ((bo st').toList[k]).1:=λk hk=>by
   show((dC<|(bo st').toList.map λx=>idx vs x.1).getD k 0)=_
   rw[Array.getD_eq_getD_getElem?,List.getElem?_toArray,aU,ai hk];rfl
  rw[gk i #[0],gk j #[0]]
  have:=cn.mp so i j #[0] #[0] hij
  rw[<-Uz O (atI<|inS _<|ba _).1 (atI<|inS _<|ba _).1];exact T5 this
 .apply mi.mp
  rw[pL,bY];refine eS λx hx=>?_
  have hi:=inS x hx;show x.2=vs.getD (idx vs x.1) bN;rw[(atI hi).2];obtain⟨_,_,e⟩:=hi;rw[e]
open PySem.Calls
def Lat(h h':cy):Prop:=∀b o,h.get? b=aa o->h'.get? b=aa o
structure Asks(prog:bE)(w:bZ)(A:cz)(h:cy)(vs:List au)(κ:iH)(lt:Nat->Nat->Bool):Prop where
 kind:2<=vs.length->∀(s':aA)(E:au->aA->Prop)(Q:iH->aA->Prop),Lat h s'.heap->Q κ s'->bf (aV prog w) A (keyKind' vs.toArray) Q E s'
 nd:vs.Nodup
 cmp:∀i j,i<vs.length->j<vs.length->∀(s':aA)(C:Bool->aA->Prop)(E:au->aA->Prop),Lat h s'.heap->C (lt i j) s'->bf (aV prog w) A (keyLt' κ (vs.getD i bN)<|vs.getD j bN) C E s'
noncomputable def ltR(b:Bool)(n:Nat)(lt:Nat->Nat->Bool):Nat->Nat->Bool:=λi j=>if b=aj then lt (n-1-i) (n-1-j)else lt i j
def Zcl(O:Ord n lt):Ord n (ltR b n lt):=by
 cases b
 .exact O
 .exact#[λi j hi hj ne h=>O.tot _ _ #[0] #[0] #[0] h,λi j hi hj h=>O.asy _ _ #[0] #[0] h,λi j k hi hj hk h1 h2=>O.tr _ _ _ #[0] #[0] #[0] h1 h2]
def yj(hi:i<vs.length):(lW b vs).getD i bN=vs.getD (if b=aj then vs.length-1-i else i) bN:=by
 cases b
 .rfl
 .show vs.reverse.getD i bN=vs.getD (vs.length-1-i) bN
  simp only[aF];rw[iU hi]
def qu(vs:List au):(aM vs.length).map (λi=>vs.getD i bN)=vs:=by
 apply dg
 intro i;rw[aU];by_cases h:i<vs.length
 .rw[db h];simp[h]
 .simp[fb h]
def list_sort_rev{P:PySem.Fin->aA->Prop}(ho:s.heap.get? a=aa (ky "list" vs.toArray n))(h64:vs.length<=100000)
  (h00:∀b o,h0.get? b=aa o->b≠a/\s.heap.get? b=aa o)(O:Ord vs.length lt)(K:Asks prog w A h0 vs κ lt)
  (h:∀p,Pm vs.length p->Up (ltR b vs.length lt) p vs.length->P (.done<|.ret .none) {s with heap:=sortedHeap s.heap a vs (dC<|lW b<|p.toList.map λi=>(lW b vs).getD i bN)}) :
  bf #[8] A (eV.«list.sort» #[[.ref a],[(kN "reverse",.bool b)]]) P E s:=by
 rw[lv];have ha:=aQ ho;refine ag<|listItems_at ho rfl ?_;refine ag<|nV ho rfl ?_;obtain⟨e1,ho1⟩:∃e1,(s.heap.update a<|fE λ_=>#[]).get? a=aa (ky "list" #[] e1):=#[_,get?_update_seq ho λ_=>#[]]
 refine ag<|rh ho1 rfl ?_;refine ag<|wpAny_newTuple ?_;refine ag<|wpAny_newList ?_;refine cK ?_;have ho6:(((s.heap.update a<|fE λ_=>#[]).push<|ky "tuple" vs.toArray 0).push<|ky "list" #[] 0).get? a=aa (ky "list" #[] e1):=by
  rw[iL _ _ _ (by rw[size_push',mj];exact bv<|dW ha),iL _ _ _ (by rw[mj];exact bv ha)]
  exact ho1
 have lat:Lat h0 (((s.heap.update a<|fE λ_=>#[]).push<|ky "tuple" vs.toArray 0).push<|ky "list" #[] 0):=λb o e=>by
  obtain⟨nb,e⟩:=h00 b o e;exact aw _<|aw _ (by rw[nJ _ _ _ _ nb];exact e)
 generalize hs':((s.heap.update a<|fE λ_=>#[]).push<|ky "tuple" vs.toArray 0).push (ky "list" #[] 0)=h1 at ho6 lat ⊢
 dsimp only
 have step:∀t:oD PySem.Fin,bf #[8] A t P E {s with heap:=h1}->bf #[8] A (if b=aj then(do let _ <-oH "list.sort.reverse";t)else t) P E {s with heap:=h1}:=by
  intro t ht;split
  .exact ag<|d6 ht
  .exact ht
 refine step _ ?_;have hrl:=rH b vs;have fin:∀out:List au,out.length=vs.length->(∃p,Pm vs.length p/\Up (ltR b vs.length lt) p vs.length/\out=p.toList.map λi=>(lW b vs).getD i bN)->
   P (.done<|.ret .none) {s with heap:=h1.update a (fE λ_=>dC<|lW b out)}:=by
  rintro out _ ⟨p,h1',h2',rfl⟩
  subst hs';exact h p h1' h2'
 by_cases h2:vs.toArray.size<2
 .rw[T9 h2,T9 h2]
  refine ag<|aD ?_;rw[StateT.run_pure];refine ag<|aD ?_
  dsimp only
  have hz:((bo<|rX general' (if b=aj then(vs.toArray.zip vs.toArray).reverse else vs.toArray.zip vs.toArray) #[] 7 ae).map (·.2))=dC (lW b vs):=by
   rw[kat_pairs b rfl];apply mi.mp;rw[pL,ksk_zip];exact List.map_snd_zip<|aI _
  rw[hz];refine ag<|rh ho6 rfl ?_;rw[kat_outs];refine ag<|nV ho6 rfl ?_ (hsz2:=by rw[az];(try rw[rH]);(try rw[rH]);rw[du];lia)
  simp only[bne_self_eq_false,cL,if_false];refine aD<|fin (lW b vs) (rH b vs) #[dC<|aM vs.length,Array.Perm.refl _,λi j a1 a2=>by rw[az]at h2;lia,?_]
  rw[<-hrl];exact(qu _).symm
 .rw[T8 h2,T8 h2]
  have l2:2<=vs.length:=by rw[az]at h2;lia
  refine ag<|K.kind l2 _ _ _ lat ?_;rw[kat_pairs b rfl];have ndR:(lW b vs).Nodup:=by
   cases b
   .exact K.nd
   .exact(gA vs).nodup_iff.mpr K.nd
  refine ag (cW (Zgm ndR #[0] (by rw[hrl];exact Zcl (b:=b) O) (by
    rw[hrl];intro i j hi hj C E hC;rw[yj hi,yj hj];cases b
    .exact K.cmp i j hi hj _ _ _ lat hC
    .exact K.cmp _ _ (by simp only[if_true];lia) (by simp only[if_true];lia) _ _ _ lat hC)) ?_ λ_ _ x=>x)
  rintro ⟨⟨⟩,st'⟩ s' ⟨rfl,p,e2,e3,hf,har⟩
  rw[hrl]at e2 e3
  dsimp only
  rw[har];have hl:(p.toList.map λi=>(lW b vs).getD i bN).length=vs.length:=by rw[ax,aP,e2.size]
  refine ag<|rh ho6 rfl ?_;rw[kat_outs];refine ag<|nV ho6 rfl ?_ (hsz2:=by rw[az];(try rw[rH]);rw[hl,du];lia)
  rw[hf];simp only[bne_self_eq_false,cL,if_false];exact aD<|fin _ hl #[p,e2,e3,rfl]
def qt(a:aE):eV.«list.sort» #[[.ref a],[]]=eV.«list.sort» #[[.ref a],[(kN "reverse",.bool ak)]]:=by
 rw[PyProof.Rows.list_sort_plain,lv];rfl
def VA{Q:au->aA->Prop}(hl:s.heap.IsList l vs.toArray)(h64:vs.length<=100000)(O:Ord vs.length lt)(K:Asks prog w A.in1.in1 s.heap vs κ lt)
  (h:∀p,Pm vs.length p->Up (ltR ak vs.length lt) p vs.length->Q (.ref<|s.heap.objs.size+1) {s with heap:=sortedAll s.heap vs (dC<|lW ak<|p.toList.map λi=>(lW ak vs).getD i bN)}) :
  bf #[8] A (call (.builtin "sorted") [.ref l]) Q E s:=by
 refine Calls.call_function_entry kind_sorted plain_sorted entry_sorted (args_sorted1 _) ?_;unfold eV.«sorted»;refine ag<|aD ?_;refine ag<|collect_list hl ?_ (by rw[du];lia)
 refine ag<|wpAny_newList ?_ (by rw[du];lia)
 have hsz:((s.heap.push<|ky "list" #[] 0).update s.heap.objs.size (fE (·++vs.toArray))).objs.size=s.heap.objs.size+1:=by
  rw[mj,size_push']
 have hoL:(((s.heap.push<|ky "list" #[] 0).update s.heap.objs.size (fE (·++vs.toArray))).push<|ky "list" vs.toArray 0).get? (s.heap.objs.size+1)=aa (ky "list" vs.toArray 0):=by
  rw[<-hsz];exact aR _ rfl
 rw[hsz];refine ag (cK (dO slot_list_sort #[_,hoL,rfl] entry_list_sort (by
  rw[qt];exact list_sort_rev hoL h64 (λb o e=>by
   have hlt:=aQ e;refine#[bv<|dW hlt,?_];rw[iL _ _ _ (by rw[hsz];exact bv<|dW hlt),nJ _ _ _ _<|bv hlt,iL _ _ _<|bv hlt]
   exact e) O K λp a1 a2=>#[_,rfl,aD #[_,rfl,h p a1 a2]])<|args_list_sort _))
end Sq
namespace Sd
open PySem PySem.Spec PyProof.Rows L2
open Ev (E Sm Fn Bop Cop Ty Bf Mf)
section
variable{X:Cx}{pq:List (aE×fW)}{Z:L2.St}{H:Hp}{s:aA}{A:cz}{E:au->aA->Prop}{b:Bool}{Q:au->aA->Prop}
def xY(I:Inv X pq Z H s)(rx:Zy x u)(ty:TyOf X.K H x t)(htp:s.heap.get? tp=aa #[.type "tuple",dd,.seq its.toArray n,sl])
  (e:gI X.K t its=aa b)(h:∀tk,Q (.bool b) {s with toks:=tk}):bf #[10] A (call (.builtin "isinstance") [u,.ref tp]) Q E s:=by
 cases ty with
 |non=>cases(rx);exact d4 oI I.kIn dU htp e #[18] h
 |bl y=>cases(rx);exact d4 oJ I.kIn dU htp e #[18] h
 |int i=>obtain⟨t,q⟩:=(rx);cases q;exact d4 o9 I.kIn dU htp e #[18] h
 |str y=>obtain⟨t,q⟩:=(rx);cases q;exact d4 pb I.kIn dU htp e #[18] h
 |@lst a xs ea=>
  cases(rx);obtain⟨_,_,n,_,h1⟩:=(I.hok a _ ea)
  exact d4 iz I.kIn #[_,h1,rfl] htp e #[18] h
 |@frz a ob xs ea=>
  cases(rx);obtain⟨_,_,_,n,_,h1⟩:=(I.hok a _ ea)
  exact d4 iz I.kIn #[_,h1,rfl] htp e #[18] h
 |@tup a xs ea=>
  cases(rx);obtain⟨_,_,_,p⟩:=(I.hok a _ ea)
  obtain⟨o,h1,h2,_⟩:=p;exact d4 om I.kIn #[o,h1,h2] htp e #[18] h
 |@dK a kvs ea=>
  cases(rx);obtain⟨_,_,vs,_,p⟩:=(I.hok a _ ea)
  obtain⟨o,es,ep,h1,h2,_⟩:=p;exact d4 iA I.kIn #[o,h1,h2.1] htp e #[18] h
 |@dT a kvs ea=>
  cases(rx);obtain⟨_,_,xs,_,o,es,ep,h1,h2,_⟩:=(I.hok a _ ea)
  exact d4 iA I.kIn #[o,h1,h2.1] htp e #[18] h
end
section
variable{X:Cx}{xw:Nat->Hp->Prop}{C:Calls}{e a b c:Expr}{i j k:E}{pos p p' p2 p3:gj}
def ua(T U:String):ZB X (.builtin "isinstance") (λvs H Q=>∃v tv n q,vs=[v,.ref q]/\H q=aa (.tup [.ty T,.ty U])/\TyOf X.K H v tv/\gI X.K tv [.type T,.type U]=aa n/\Q (.bl n) H):=by
 intro pq s Z H vs us Q I r h;obtain⟨v,tv,n,q,rfl,hq,ty,e,qq⟩:=h;obtain⟨u,w',rfl,r1,r2⟩:=yn r;cases r2;obtain⟨its,rv,⟨o,ho,hc,m,hd⟩,_⟩:=I.tuple<|SqT.of hq;obtain⟨cls,dd,data,sl⟩:=o;simp only at hc hd;subst hc hd;obtain⟨z1,z2,rfl,q1,q2⟩:=yn rv;cases q1;cases q2;exact xY I r1 ty ho e λtk=>#[.bl n,H,I.tok tk,rfl,qq]
def TyOf.later{K:am}{H:Hp}{v:V}{tv:au}{q:aE}{o:HO}(h:TyOf K H v tv)(hq:H q=ae):TyOf K (upd H q o) v tv:=by
 cases h with|non=>exact .non|bl b=>exact .bl b|int b=>exact .int b|str b=>exact .str b|lst e=>exact .lst (by rw[Zj<|ZO e hq];exact e)|frz e=>exact .frz (by rw[Zj<|ZO e hq];exact e)|tup e=>exact .tup (by rw[Zj<|ZO e hq];exact e)|dK e=>exact .dK (by rw[Zj<|ZO e hq];exact e)|dT e=>exact .dT (by rw[Zj<|ZO e hq];exact e)
def TyOf.uniq{K:am}{H:Hp}{v:V}{t1 t2:au}(h1:TyOf K H v t1)(h2:TyOf K H v t2):t1=t2:=by
 cases h1<;>cases h2<;>first|rfl|simp_all
theorem ZdG{T Y:bq}{t u:Ty}{k0:Nat}{p4:gj}(ht:∀m,t≠.cls m)(hu:∀m,u≠.cls m)(hm:X.mg "isinstance" = ae)(hmT:X.mg T=ae)(hmU:X.mg Y=ae)(ha:CE X xw C a i)(hg:Gl X "isinstance")(hgT:Gl X T)(hgU:Gl X Y)(hvT:dJ T=aa (.type<|ZS t))(hvU:dJ Y=aa (.type<|ZS u))(hnT:T≠"__name__")(hdT:(T == #[9])=ak)(hnU:Y≠"__name__")(hdU:(Y == #[9])=ak)
  (hs0:aB [.Name T p2,.Name Y p3] X.env=(ak,cu (.Name T p2) X.env)::aB [.Name Y p3] X.env)(hs00:aB [.Name Y p3] X.env=(ak,cu (.Name Y p3) X.env)::aB [] X.env)
  (hs1:aB [a,.Tuple [.Name T p2,.Name Y p3] k0 p4] X.env=#[37]::aB [.Tuple [.Name T p2,.Name Y p3] k0 p4] X.env)(hs2:aB [.Tuple [.Name T p2,.Name Y p3] k0 p4] X.env=(ak,cu (.Tuple [.Name T p2,.Name Y p3] k0 p4) X.env)::aB [] X.env)(hpl:(dG pos<|aB [.Tuple [.Name T p2,.Name Y p3] k0 p4] X.env).any (·.1)=ak) :
  CE X xw C (.Call (.Name "isinstance" p) [a,.Tuple [.Name T p2,.Name Y p3] k0 p4] [] pos) (.isi i [t,u]):=.mk <|
 PE.imp (Xv (ua (ZS t)<|ZS u) hg hm #[7] (Zz ha.h (Zz (Za3<|Zz (UC (v:=.ty<|ZS t) hgT hmT hvT rfl hnT hdT) (Zz (UC (v:=.ty<|ZS u) hgU hmU hvU rfl hnU hdU) Ym hs00) hs0) Ym hs2) hs1) #[1] #[1] hs1 hpl)<|by
  left;refine#[U,l,S,st,lr,End.bind (h) λx S1 ρ1 H1 v f1 st1 r1 h1=>#[by show 2<=bj;rw[du];lia,λq hq=>?_]]
  obtain⟨n,hn,h2⟩:=End.ob h1;have st2:=st1.fresh (o:=.tup [.ty<|ZS t,.ty<|ZS u]) hq;have f2:=Zu (U:=ρ1) (o:=.tup [.ty<|ZS t,.ty<|ZS u]) hq;have fin:=λtv ty e=>(#[v,tv,n,q,rfl,Zn,TyOf.later ty hq,e,h2 ρ1 _ _ f2 st2<|Yg n]:∃v' tv n q',[v,V.ref q]=[v',.ref q']/\upd H1 q (.tup [.ty<|ZS t,.ty<|ZS u]) q'=aa (.tup [.ty<|ZS t,.ty<|ZS u])/\TyOf X.K (upd H1 q<|.tup [.ty<|ZS t,.ty<|ZS u]) v' tv/\gI X.K tv [.type<|ZS t,.type<|ZS u]=aa n/\Q (.bl n) (upd H1 q<|.tup [.ty<|ZS t,.ty<|ZS u]))
  unfold Pv.Z4 at hn;cases q1:Pv.Yy x t with
  |none=>rw[q1]at hn;cases hn
  |some m=>
   rw[q1]at hn;obtain⟨tv,ty,e⟩:=wn r1 ht q1;cases m with
   |true=>
    have hn':=(aq hn).symm;exact fin tv ty (by unfold gI;rw[e,hn'])
   |false=>
    have hn1:(match Pv.Yy x u with
     |some aj=>aa aj
     |some ak=>Pv.Z4 x []
     |none=>ae)=aa n:=hn
    cases q2:Pv.Yy x u with
    |none=>rw[q2]at hn1;cases hn1
    |some m2=>
     rw[q2]at hn1;obtain⟨tv2,ty2,e2⟩:=wn r1 hu q2;have et:=TyOf.uniq ty2 ty;subst et;refine fin tv2 ty ?_;unfold gI;rw[e];unfold gI;rw[e2];cases m2 with|true=>exact hn1|false=>exact hn1
end
end Sd
namespace Sd
open Ev (ltI XI Yb)
theorem UK:∀{x y:List Int},x≠y->ltI x y=ak->ltI y x=aj
 |[],[],h,_=>T7 rfl h
 |[],_::_,_,h=>by cases h
 |_::_,[],_,_=>rfl
 |a::x,b::y,h,e=>by
  unfold ltI at e ⊢;by_cases c:a=b
  .subst c
   rw[T9 rfl]at e ⊢;exact UK (λz=>h<|by rw[z]) e
  .rw[T8 c]at e
   rw[T8<|Ne.symm c];have:=of_decide_eq_false e;exact T5 #[3]
theorem W9:∀{x y:List Int},ltI x y=aj->ltI y x=ak
 |[],[],h=>by cases h
 |[],_::_,_=>rfl
 |_::_,[],h=>by cases h
 |a::x,b::y,e=>by
  unfold ltI at e ⊢;by_cases c:a=b
  .subst c
   rw[T9 rfl]at e ⊢;exact W9 e
  .rw[T8 c]at e
   rw[T8<|Ne.symm c];have:=T6 e;exact T4 #[3]
theorem J2:∀{x y z:List Int},ltI x y=aj->ltI y z=aj->ltI x z=aj
 |[],[],_,h,_=>by cases h
 |_::_,[],_,h,_=>by cases h
 |_,_::_,[],_,h=>by cases h
 |[],_::_,_::_,_,_=>rfl
 |a::x,b::y,c::z,e,f=>by
  unfold ltI at e f ⊢;by_cases h1:a=b
  .subst h1
   rw[T9 rfl]at e;by_cases h2:a=c
   .subst h2
    rw[T9 rfl]at f ⊢;exact J2 e f
   .rw[T8 h2]at f ⊢;exact f
  .rw[T8 h1]at e
   have e':=T6 e;by_cases h2:b=c
   .subst h2
    rw[T8 h1];exact e
   .rw[T8 h2]at f
    have f':=T6 f;rw[T8 #[3]]
    exact T5 #[3]
theorem V4(x:List Int):∀l:List #[14],(XI x l).Perm (x::l)
 |[]=>cI _
 |y::r=>by
  unfold XI;split
  .exact cI _
  .exact((V4 x r).cons y).trans<|nr x y r
theorem WF:∀l:List #[14],(Yb l).Perm l
 |[]=>cI _
 |x::r=>(V4 x<|Yb r).trans<|(WF r).cons x
theorem V7(x:List Int):∀{l:List #[14]},(∀y∈l,x≠y)->l.Pairwise (λa b=>ltI a b=aj)->(XI x l).Pairwise (λa b=>ltI a b=aj)
 |[],_,_=>by exact fM ..
 |y::r,hn,h=>by
  rw[aZ]at h;unfold XI;split
  .rename_i c
   rw[aZ,aZ];refine#[λz hz=>?_,h]
   rcases ay.mp hz with rfl|hz
   .exact c
   .exact J2 c<|h.1 z hz
  .rename_i c
   rw[aZ];refine#[λz hz=>?_,V7 x (λy hy=>hn y<|ao _ hy) h.2]
   rcases ay.mp ((V4 x r).mem_iff.mp hz)with rfl|hz
   .exact UK (hn y<|al ..) (by simpa using c)
   .exact h.1 z hz
theorem Vj:∀{l:List #[14]},l.Nodup->(Yb l).Pairwise (λa b=>ltI a b=aj)
 |[],_=>iE
 |x::r,h=>by
  rw[dz]at h;exact V7 x (λy hy e=>h.1<|by rw[e];exact(WF r).mem_iff.mp hy)<|Vj h.2
theorem Ug:∀{a b:List #[14]},a.Perm b->a.Pairwise (λx y=>ltI x y=aj)->b.Pairwise (λx y=>ltI x y=aj)->a=b
 |[],b,p,_,_=>(pN p)
 |x::a,[],p,_,_=>by have:=p.length_eq;simp at this
 |x::a,y::b,p,ha,hb=>by
  rw[aZ]at ha hb;have e:x=y:=by
   rcases ay.mp (p.mem_iff.mp<|al ..)with h|h
   .exact h
   .rcases ay.mp (p.mem_iff.mpr (al))with h2|h2
    .exact h2.symm
    .have z1:=hb.1 x h
     have z2:=ha.1 y h2;rw[W9 z1]at z2;cases z2
  subst e;rw[Ug (sd x |>.mp p) ha.2 hb.2]
open PySem PySem.Spec PyProof.Rows L2
open Ev (E Sm Fn Bop Cop Ty Bf Mf YU WX Yl ltP Z3)
noncomputable def QV(fin:Bool):List Int->List Int->Bool
 |[],_=>fin
 |_::_,[]=>fin
 |a::x,b::y=>if a=b then QV fin x y else af (a<b)
theorem GG:∀(x y:List Int),QV (af<|x.length<y.length) x y=ltI x y
 |[],[]=>rfl
 |[],_::_=>by unfold QV ltI;simp
 |_::_,[]=>by unfold QV ltI;simp
 |a::x,b::y=>by
  unfold QV ltI;have:af ((a::x).length<(b::y).length)=af (x.length<y.length):=by simp
  rw[this,GG x y]
theorem yv{C:Bool->aA->Prop}:∀{x y:List Int}{u v:List au}{i:Nat},Vals (x.map V.int) u->Vals (y.map V.int) v->C (QV fin x y) s->sf prog w A b fin C (u.zip v) i s
 |[],_,_,_,_,.nil,_,h=>by rw[iM];exact kz h
 |_::_,[],_,_,_,_,.nil,h=>by rw[ig];exact kz h
 |a::x,c::y,_,_,i,.cons ra ta,.cons rb tb,h=>by
  obtain⟨t,rfl⟩:=ra;obtain⟨t',rfl⟩:=rb;rw[bV];refine pO<|l4 ?_;unfold QV at h;by_cases e:a=c
  .rw[T9 e]at h
   rw[beq_iff_eq.mpr e];exact rq<|yv ta tb h
  .rw[T8 e]at h
   rw[beq_eq_false_iff_ne.mpr e];refine sh ?_;cases q:(b&&i == 0)with|true=>exact oneLt_int h|false=>exact rA _ _<|lt_int h
inductive RowsAt(h:cy):List (List Int)->List au->Prop where
 |nil:RowsAt h [] []
 |cons {r:List Int} {rs:List (List Int)} {vs:List au} {a:aE} {o:fW} {us:List au} {m:Nat} (ho:h.get? a=aa o) (hc:o.cls=.type "tuple") (hd:o.data=.seq us.toArray m) (hv:Vals (r.map V.int) us) (t:RowsAt h rs vs):RowsAt h (r::rs) (.ref a::vs)
theorem UU:∀{ks:List D}{k:List Int},Pv.intsV ks=aa k->ks=k.map Pv.V.int
 |[],k,h=>by cases h;rfl
 |d::ks,k,h=>by
  obtain⟨n,r,rfl,e,rfl⟩:=VH h;rw[UU e];rfl
def ug(h:Pv.Ye (d::ds)=aa rs):∃a b,d=Pv.Zd a/\Pv.Ye ds=aa b/\rs=a::b:=by
 cases d with
 |tup x=>
  have h:(match Pv.intsV x,Pv.Ye ds with
   |some a,aa b=>aa (a::b)
   |_,_=>ae)=aa rs:=h
  cases q1:Pv.intsV x with
  |none=>rw[q1]at h;cases h
  |some a=>
   cases q2:Pv.Ye ds with
   |none=>rw[q1,q2]at h;cases h
   |some b=>
    rw[q1,q2]at h;exact#[a,b,congrArg Pv.V.tup<|UU q1,rfl,(aq h).symm]
 |_=>exact Ev.nos h
theorem Rq.intsV:∀{r:List Int}{xs:List V},Rq U H (r.map Pv.V.int) xs->xs=r.map V.int
 |[],xs,h=>by exact h
 |n::r,xs,h=>by
  have h':=h;obtain⟨v,vs,rfl,a,b⟩:=h';rw[a.int',Rq.intsV b];rfl
theorem W6(I:Inv X pq Z H s):∀{ds:List D}{rs:List #[14]}{xs:List V}{its:List au},Pv.Ye ds=aa rs->Rq U H ds xs->Vals xs its->RowsAt s.heap rs its/\ds=rs.map Pv.Zd
 |[],rs,xs,its,h,r,v=>by
  subst r;cases v;cases h;exact#[.nil,rfl]
 |d::ds,rs,xs,its,h,r,v=>by
  obtain⟨x,xs',rfl,r1,r2⟩:=r;cases v with
  |cons v1 v2=>
   obtain⟨a,b,rfl,q2,rfl⟩:=ug h;obtain⟨t,e⟩:=W6 I q2 r2 v2;obtain⟨p,ys,rfl,hp,ry⟩:=r1.tup';have ey:=Rq.intsV ry;subst ey;cases v1;obtain⟨us,rv,⟨o,ho,hc,m,hd⟩,_⟩:=I.tuple<|SqT.of hp;exact#[.cons ho hc hd rv t,by rw[e];rfl]
theorem RowsAt.length{h:cy}:∀{rs:List #[14]}{vs:List au},RowsAt h rs vs->rs.length=vs.length
 |_,_,.nil=>rfl
 |_,_,.cons _ _ _ _ t=>by rw[aG,aG,RowsAt.length t]
theorem RowsAt.at{h:cy}:∀{rs:List #[14]}{vs:List au}(i:Nat),RowsAt h rs vs->i<vs.length->∃a o us m,vs.getD i bN=.ref a/\h.get? a=aa o/\o.data=.seq us.toArray m/\Vals ((rs.getD i []).map V.int) us
 |_,_,_,.nil,hi=>by simp at hi
 |_,_,0,.cons ho hc hd hv t,_=>#[_,_,_,_,rfl,ho,hd,hv]
 |_,_,i+1,.cons ho hc hd hv t,hi=>by
  obtain⟨a,o,us,m,e1,e2,e3,e4⟩:=RowsAt.at i t (by simpa using hi)
  exact#[a,o,us,m,by simpa using e1,e2,e3,by simpa using e4]
theorem RowsAt.tups(k:Sq.Lat h h'):∀{rs:List #[14]}{vs:List au},RowsAt h rs vs->(∀r∈rs,r≠[])->∃fs,rB h' vs fs/\fs.length=vs.length/\∀v∈fs,∃n t,v=l0 n t
 |_,_,.nil,_=>#[[],.nil,rfl,λv hv=>by cases hv]
 |_,_,.cons (r:=r) ho hc hd hv t,hn=>by
  obtain⟨fs,t1,t2,t3⟩:=RowsAt.tups k t λr hr=>hn r<|ao _ hr
  have hr:=hn r<|al ..;cases r with
  |nil=>exact T7 rfl hr
  |cons n r=>
   obtain⟨u,g,rel⟩:=hv.get (i:=0) rfl;refine#[u::fs,.cons (k _ _ ho) hc hd (by simpa using g) t1,by rw[aG,aG,t2],λv hv=>?_]
   rcases ay.mp hv with rfl|hv
   .obtain⟨tk,e⟩:=rel
    exact#[n,tk,e]
   .exact t3 v hv
theorem VB:∀{x y:List Int}{us:List au},Vals (x.map V.int) us->Vals (y.map V.int) us->x=y
 |[],[],_,_,_=>rfl
 |[],_::_,_,.nil,h=>by cases h
 |_::_,[],_,h,.nil=>by cases h
 |a::x,b::y,_,.cons r t,.cons r' t'=>by
  obtain⟨k,rfl⟩:=r;obtain⟨k',e⟩:=r';cases e;rw[VB t t']
def yL{B:Type}{df:B}{rs:List B}{vs:List au}(hl:rs.length=vs.length)(nd:rs.Nodup)(h:∀i j,i<vs.length->j<vs.length->vs.getD i bN=vs.getD j bN->rs.getD i df=rs.getD j df):vs.Nodup:=by
 refine cn.mpr λi j hi hj hij e=>?_
 have:=h i j hi hj (by simp[hi,hj,e])
 simp only[aF,ai (show i<rs.length by lia),ai (show j<rs.length by lia)]at this
 exact cn.mp nd i j #[0] #[0] hij this
def uo{prog:bE}{w:bZ}{A:cz}{h:cy}{rs:List #[14]}{vs:List au}(R:RowsAt h rs vs)(nd:rs.Nodup)(hn:∀r∈rs,r≠[]):Sq.Asks prog w A h vs (tuples' aj) (λi j=>ltI (rs.getD i [])<|rs.getD j []):=by
 refine#[λh2 s' E Q k q=>?_,yL (df:=[]) R.length nd λi j hi hj e=>?_,λi j hi hj s' C E k q=>?_]
 .obtain⟨fs,t1,t2,t3⟩:=R.tups k hn
  exact pP (T:=.type "int") t1 #[0] (λv hv=>by obtain⟨n,t,rfl⟩:=t3 v hv;exact PySem.W.Looks.of_pure rfl) rfl q
 .obtain⟨a,o,us,m,e1,e2,e3,e4⟩:=R.at i hi
  obtain⟨a',o',us',m',f1,f2,f3,f4⟩:=R.at j hj;rw[e1,f1]at e;cases e;rw[e2]at f2;cases f2;rw[e3]at f3;cases f3;exact VB e4 f4
 .obtain⟨a,o,us,m,e1,e2,e3,e4⟩:=R.at i hi
  obtain⟨a',o',us',m',f1,f2,f3,f4⟩:=R.at j hj;rw[e1,f1];refine si (k _ _ e2) e3 (k _ _ f2) f3<|yv e4 f4 ?_;have l1:us.toArray.size=(rs.getD i []).length:=by rw[az,<-e4.length,ax]
  have l2:us'.toArray.size=(rs.getD j []).length:=by rw[az,<-f4.length,ax]
  rw[l1,l2,GG];exact q
def Zbr{rs:List #[14]}{n:Nat}(hn:rs.Nodup)(hl:rs.length=n):Sq.Ord n (λi j=>ltI (rs.getD i [])<|rs.getD j []):=by
 have hd:∀i j,i<n->j<n->i≠j->rs.getD i []≠rs.getD j []:=λi j hi hj ne e=>by
  simp only[aF]at e;have hi':i<rs.length:=by lia
  have hj':j<rs.length:=by lia
  refine ne<|(iK hi' hn).mp ?_;rw[ai hi',ai hj']at e ⊢;exact congrArg aa e
 exact#[λi j hi hj ne e=>UK (hd i j hi hj ne) e,λi j _ _ e=>W9 e,λi j k _ _ _ e f=>J2 e f]
def QE{B β:Type}(b:Bool)(f:B->β)(l:List B):bx b (l.map f)=(bx b l).map f:=by
 cases b
 .rfl
 .exact ml.symm
def Uh{B:Type}(b:Bool)(l:List B):(bx b l).Perm l:=by
 cases b
 .exact cI _
 .exact gA l
def Xd{B:Type}{d:B}{b:Bool}{vs:List B}{i:Nat}(hi:i<vs.length):(bx b vs).getD i d=vs.getD (if b=aj then vs.length-1-i else i) d:=by
 cases b
 .rfl
 .show vs.reverse.getD i d=vs.getD (vs.length-1-i) d
  simp only[aF];rw[iU hi]
def qV{rs:List #[14]}{b:Bool}{p:Array Nat}(hn:rs.Nodup)(h1:Sq.Pm rs.length p)(h2:Sq.Up (Sq.ltR b rs.length λi j=>ltI (rs.getD i [])<|rs.getD j []) p rs.length) :
  (p.toList.map λi=>(bx b rs).getD i [])=Yb rs:=by
 have hp:p.toList.Perm (aM rs.length):=by simpa using bJ.mp h1
 have hl:p.toList.length=rs.length:=by rw[hp.length_eq,bi]
 refine Ug ?_ ?_<|Vj hn
 .refine((hp.map _).trans ?_).trans (WF rs).symm
  have e:(aM rs.length).map (λi=>(bx b rs).getD i [])=bx b rs:=by
   apply dg
   intro i;rw[aU];by_cases h:i<rs.length
   .have:i<(bx b rs).length:=by rw[fz];exact h
    rw[db h];simp[this]
   .have:(bx b rs).length<=i:=by rw[fz];lia
    simp[fb h,this]
  rw[e];exact Uh b rs
 .rw[dk,cn]
  intro i j hi hj hij;have g1:p.toList[i]=Sq.g p i:=by
   have:=Sq.ZbR (by simpa using hi)
   rw[<-bD,ai hi]at this;exact aq this
  have g2:p.toList[j]=Sq.g p j:=by
   have:=Sq.ZbR (by simpa using hj)
   rw[<-bD,ai hj]at this;exact aq this
  rw[g1,g2,Xd (h1.lt #[0]),Xd<|h1.lt #[0]]
  have:=h2 i j hij #[0]
  cases b
  .exact this
  .exact this
def jk{F:List Nat}{xs:List V}{rs:List #[14]}(h:Rq U H (rs.map Pv.Zd) xs)(hF:∀i∈F,i<rs.length):Rq U H ((F.map λi=>rs.getD i []).map Pv.Zd) (F.map λi=>xs.getD i V.non):=by
 induction F with
 |nil=>exact Rq.nil
 |cons i F ih=>
  refine Rq.cons ?_<|ih λj hj=>hF j<|ao _ hj
  have hi:=hF i<|al ..;obtain⟨v,g,r⟩:=h.get (by rw[aU,ai hi];rfl)
  show Rep U H (Pv.Zd<|rs.getD i []) (xs.getD i V.non);rw[aF,aF,g,ai hi];exact r
def zX{F:List Nat}{xs:List V}{us:List au}(h:Vals xs us)(hF:∀i∈F,i<xs.length):Vals (F.map λi=>xs.getD i V.non) (F.map λi=>us.getD i bN):=by
 induction F with
 |nil=>exact .nil
 |cons i F ih=>
  refine .cons ?_<|ih λj hj=>hF j<|ao _ hj
  have hi:=hF i<|al ..;obtain⟨u,g,r⟩:=h.get<|ai hi;show Zy (xs.getD i V.non) (us.getD i bN);rw[aF,aF,g,ai hi];exact r
def yI(h:Rq U H ds xs):Rq U H (bx b ds) (bx b xs):=by
 cases b
 .exact h
 .exact h.reverse
def zc :∀{xs:List V}{us:List au},Vals xs us->Vals (bx b xs) (bx b us):=by
 cases b
 .exact λh=>h
 .have snoc:∀{xs:List V}{us:List au}{x:V}{u:au},Vals xs us->Zy x u->Vals (xs++[x]) (us++[u]):=by
   intro xs us x u h r
   induction h with|nil=>exact .cons r .nil|cons a _ ih=>exact .cons a ih
  intro xs us h;show Vals xs.reverse us.reverse
  induction h with|nil=>exact .nil|cons r t ih=>rw[fB,fB];exact snoc ih r
def Zec(b:Bool):List V->Hp->VK->Prop:=λvs H Q=>∃U ds rws v,vs=[v]/\Rep U H (.lst ds) v/\Pv.Ye ds=aa rws/\YU rws=aj/\∀ys,Rq U H ((if b then(Yb rws).reverse else Yb rws).map Pv.Zd) ys->∀p,H p=ae->Q (.ref p) (upd H p<|.lst ys)
def uY{pq:List (aE×fW)}{s:aA}{Z:L2.St}{H:Hp}{vs:List V}{us:List au}{Q:VK}{b:Bool}(I:Inv X pq Z H s)(r:Vals vs us)(h:Zec b vs H Q) :
  ∃(l:aE)(its:List au)(rs:List #[14]),us=[.ref l]/\s.heap.IsList l its.toArray/\its.length<=100000/\rs.length=its.length/\Sq.Ord its.length (λi j=>ltI (rs.getD i [])<|rs.getD j [])/\(∀A,Sq.Asks X.prog X.w A s.heap its (tuples' aj) λi j=>ltI (rs.getD i [])<|rs.getD j [])/\
   ∀p,Sq.Pm its.length p->Sq.Up (Sq.ltR b its.length λi j=>ltI (rs.getD i [])<|rs.getD j []) p its.length->
    EP X pq Z Q (.ref<|s.heap.objs.size+1) {s with heap:=sortedAll s.heap its (dC<|bx b<|p.toList.map λi=>(bx b its).getD i bN)}:=by
 obtain⟨U,ds,rws,v,rfl,r1,hrw,hok,h3⟩:=h;obtain⟨l,xs,rfl,hx,_,rx⟩:=r1.lst';obtain⟨u,rfl,ru⟩:=Wb r;cases ru;obtain⟨its,rv,pl,hz⟩:=I.list<|SqL.of hx;obtain⟨RA,ed⟩:=W6 I hrw rx rv;obtain⟨hok1,hok3⟩:=(aC _ _).mp hok;obtain⟨hok1,hok2⟩:=(aC _ _).mp hok1;have h64:=T6 hok1;have hnd:=T6 hok2;have hne:∀r∈rws,r≠[]:=λr hr e=>by
  have:=aY.mp hok3 r hr;rw[e]at this;cases this
 have hlen:=RA.length;refine#[l,its,rws,rfl,pl.isList,by lia,hlen,Zbr hnd hlen,λA=>uo RA hnd hne,λp hp hu=>?_]
 rw[<-hlen]at hp hu;have out:=qV hnd hp hu;have hmem:∀i∈p.toList,i<rws.length:=λi hi=>by
  have hp':p.toList.Perm (aM rws.length):=by simpa using bJ.mp hp
  exact bc.mp<|hp'.mem_iff.mp hi
 subst ed;have xl:xs.length=rws.length:=by rw[rx.length,ax]
 have rx1:Rq U H ((bx b rws).map Pv.Zd) (bx b xs):=by rw[<-QE];exact yI rx
 have rx2:=jk rx1 (by rw[fz];exact hmem)
 rw[out]at rx2;have rx3:=yI (b:=b) rx2;have rv2:=zc (b:=b)<|zX (zc (b:=b) rv) (by rw[fz,xl];exact hmem)
 have eb:(if b=aj then(Yb rws).reverse else Yb rws)=bx b (Yb rws):=rfl
 rw[eb,<-QE]at h3;obtain⟨ep,he⟩:=sortedAll_at s.heap its<|dC<|bx b<|p.toList.map λi=>(bx b its).getD i bN
 refine#[.ref<|s.heap.objs.size+1,_,I.laid (t':=s.toks) (λb ob q=>sortedAll_old q) (fN _) ?_,rfl,h3 _ rx3 _<|I.hok.fresh<|fN _]
 refine#[?_,_,ep,rv2,he];rw[fz,ax,aP,hp.size,du];lia
def zv:ZB X (.builtin "sorted") (Zec ak):=by
 intro pq s Z H vs us Q I r h;obtain⟨l,its,rs,rfl,h1,h2,h3,h4,h5,h6⟩:=uY I r h;exact Sq.VA h1 h2 h4 (h5 _) λp a b=>h6 p a b
end Sd
namespace Sd
open PySem PySem.Spec PyProof.Rows L2
open Ev (ltI)
open PySem.SeqAt PySem.MeetsSeq PySem.MeetsSeq2 PySem.MeetsSeq3 PySem.SeqRoads2
open PySem.AutoSeq1 (wpAny_loadPart')
def y8(l b:aE)(u v:List au)(n n2:Nat)(dd dd2:Option aE)(sl sl2:Array (Option au))(x y:List Int)(hx:Vals (x.map V.int) u)(hy:Vals (y.map V.int) v) :
  rT (eV.«tuple.__lt__» #[[.ref l,.ref b],[]]) (λA R s=>s.heap.get? l=aa {cls:=.type "tuple",dict:=dd,data:=.seq u.toArray n,slots:=sl}/\s.heap.get? b=aa {cls:=.type "tuple",dict:=dd2,data:=.seq v.toArray n2,slots:=sl2}/\R (.ok<|.ret<|.bool<|ltI x y) s):=
 .of_wp λprog w A R s h=>by
  obtain⟨hp,g,d,tk,os⟩:=s;obtain⟨hl,hb,h⟩:=h;have f2:=eC;rw[<-GG]at h
  wp_walk using kA hl,kA hb,wpAny_forIn_list _ (λrest b s'=>b.1=ae/\s'=#[hp,g,d,tk,os]/\∃x' y' u' v',rest=List.zip u' v'/\Vals (nq V.int x') u'/\Vals (nq V.int y') v'/\R (.ok<|.ret<|.bool<|QV (af<|x.length<y.length) x' y') #[hp,g,d,tk,os]) _
  case turn=>
   rintro ⟨a,c⟩ rest b s' ⟨hb',rfl,x',y',u',v',hz,hx',hy',hR⟩
   match x',y',u',v',hx',hy',hz,hR with
   |i::x',j::y',_::u',_::v',.cons ra ta,.cons rb tb,hz,hR=>
    obtain⟨t,rfl⟩:=ra;obtain⟨t',rfl⟩:=rb;rw[bV]at hz;injection hz with h1 h2
    cases h1;unfold QV at hR;refine ag<|l4 ?_;by_cases e:i=j
    .rw[T9 e]at hR
     rw[beq_iff_eq.mpr e]
     wp_walk
     exact#[rfl,rfl,x',y',u',v',h2,ta,tb,hR]
    .rw[T8 e]at hR
     rw[beq_eq_false_iff_ne.mpr e];simp only[iN,if_true];refine ag<|d6<|ag<|PyProof.Rows.lt_int ?_
     wp_walk
     exact#[_,rfl,by simpa using hR]
   |[],_,_,_,.nil,_,hz,_=>rw[iM]at hz;cases hz
   |_::_,[],_,_,_,.nil,hz,_=>rw[ig]at hz;cases hz
  case fin=>
   rintro ⟨b1,b2⟩ s' ⟨hb',rfl,x',y',u',v',hz,hx',hy',hR⟩
   simp only at hb';subst hb';have hf:QV (af<|x.length<y.length) x' y'=af (x.length<y.length):=by
    match x',y',u',v',hx',hy',hz with
    |[],_,_,_,_,_,_=>rfl
    |_::_,[],_,_,_,_,_=>rfl
    |_::_,_::_,_::_,_::_,.cons _ _,.cons _ _,hz=>rw[bV]at hz;cases hz
   rw[hf]at hR;have l1:u.length=x.length:=by rw[<-hx.length,ax]
   have l2:v.length=y.length:=by rw[<-hy.length,ax]
   wp_walk
   exact#[_,rfl,by simpa[iS,l1,l2]using hR]
  case h=>
   exact#[rfl,rfl,x,y,u,v,by simp,hx,hy,h]
def Zcr{E:au->aA->Prop}{Q:au->aA->Prop}(ha:s.heap.get? a=aa o)(hc:o.cls=.type "tuple")(hd:o.data=.seq u.toArray m)(hx:Vals (x.map V.int) u)
  (hb:s.heap.get? b=aa o')(hc':o'.cls=.type "tuple")(hd':o'.data=.seq v.toArray m')(hy:Vals (y.map V.int) v)(hu:A.units<dN)(q:Q (.bool<|ltI x y) s):bf #[8] A (cO .Lt (.ref a)<|.ref b) Q E s:=by
 obtain⟨cls,dd,data,sl⟩:=o;obtain⟨cls2,dd2,data2,sl2⟩:=o';simp only at hc hd hc' hd';subst hc hd hc' hd';exact mK (op:=.Lt) #[_,ha,rfl] #[_,hb,rfl] rC pQ (oX _ _) (y8 a b u v m m' dd dd2 sl sl2 x y hx hy) #[ha,hb,#[(λx=>nomatch x),q]] hu
end Sd
namespace Sd
open Ev (ltI ltP WX Yl)
structure StrictB{B:Type}(lt:B->B->Bool):Prop where
 tot:∀{x y},x≠y->lt x y=ak->lt y x=aj
 asy:∀{x y},lt x y=aj->lt y x=ak
 tr:∀{x y z},lt x y=aj->lt y z=aj->lt x z=aj
theorem vA:∀{x y:List #[14]},x≠y->ltP x y=ak->ltP y x=aj
 |[],[],h,_=>T7 rfl h
 |[],_::_,_,h=>by cases h
 |_::_,[],_,_=>rfl
 |a::x,b::y,h,e=>by
  unfold ltP at e ⊢;by_cases c:a=b
  .subst c
   rw[T9 rfl]at e ⊢;exact vA (λz=>h<|by rw[z]) e
  .rw[T8 c]at e
   rw[T8<|Ne.symm c];exact UK c e
theorem wF:∀{x y:List #[14]},ltP x y=aj->ltP y x=ak
 |[],[],h=>by cases h
 |[],_::_,_=>rfl
 |_::_,[],h=>by cases h
 |a::x,b::y,e=>by
  unfold ltP at e ⊢;by_cases c:a=b
  .subst c
   rw[T9 rfl]at e ⊢;exact wF e
  .rw[T8 c]at e
   rw[T8<|Ne.symm c];exact W9 e
theorem Zao:∀{x y z:List #[14]},ltP x y=aj->ltP y z=aj->ltP x z=aj
 |[],[],_,h,_=>by cases h
 |_::_,[],_,h,_=>by cases h
 |_,_::_,[],_,h=>by cases h
 |[],_::_,_::_,_,_=>rfl
 |a::x,b::y,c::z,e,f=>by
  unfold ltP at e f ⊢;by_cases h1:a=b
  .subst h1
   rw[T9 rfl]at e;by_cases h2:a=c
   .subst h2
    rw[T9 rfl]at f ⊢;exact Zao e f
   .rw[T8 h2]at f ⊢;exact f
  .rw[T8 h1]at e
   by_cases h2:b=c
   .subst h2
    rw[T8 h1];exact e
   .rw[T8 h2]at f
    have g:=J2 e f;rw[T8 λz=>by subst z;rw[W9 e]at f;cases f]
    exact g
def YB:StrictB ltP:=#[vA,wF,Zao]
section
variable{B:Type}{lt:B->B->Bool}
theorem VX(x:B):∀l:List B,(WX lt x l).Perm (x::l)
 |[]=>cI _
 |y::r=>by
  unfold WX;split
  .exact cI _
  .exact((VX x r).cons y).trans<|nr x y r
theorem Y3:∀l:List B,(Yl lt l).Perm l
 |[]=>cI _
 |x::r=>(VX x<|Yl lt r).trans<|(Y3 r).cons x
theorem Uc(O:StrictB lt)(x:B):∀{l:List B},(∀y∈l,x≠y)->l.Pairwise (λa b=>lt a b=aj)->(WX lt x l).Pairwise (λa b=>lt a b=aj)
 |[],_,_=>by exact fM ..
 |y::r,hn,h=>by
  rw[aZ]at h;unfold WX;split
  .rename_i c
   rw[aZ,aZ];refine#[λz hz=>?_,h]
   rcases ay.mp hz with rfl|hz
   .exact c
   .exact O.tr c<|h.1 z hz
  .rename_i c
   rw[aZ];refine#[λz hz=>?_,Uc O x (λy hy=>hn y<|ao _ hy) h.2]
   rcases ay.mp ((VX x r).mem_iff.mp hz)with rfl|hz
   .exact O.tot (hn y<|al ..) (by simpa using c)
   .exact h.1 z hz
theorem XM(O:StrictB lt):∀{l:List B},l.Nodup->(Yl lt l).Pairwise (λa b=>lt a b=aj)
 |[],_=>iE
 |x::r,h=>by
  rw[dz]at h;exact Uc O x (λy hy e=>h.1<|by rw[e];exact(Y3 r).mem_iff.mp hy)<|XM O h.2
theorem XH(O:StrictB lt):∀{a b:List B},a.Perm b->a.Pairwise (λx y=>lt x y=aj)->b.Pairwise (λx y=>lt x y=aj)->a=b
 |[],b,p,_,_=>(pN p)
 |x::a,[],p,_,_=>by have:=p.length_eq;simp at this
 |x::a,y::b,p,ha,hb=>by
  rw[aZ]at ha hb;have e:x=y:=by
   rcases ay.mp (p.mem_iff.mp<|al ..)with h|h
   .exact h
   .rcases ay.mp (p.mem_iff.mpr (al))with h2|h2
    .exact h2.symm
    .have z1:=hb.1 x h
     have z2:=ha.1 y h2;rw[O.asy z1]at z2;cases z2
  subst e;rw[XH O (sd x |>.mp p) ha.2 hb.2]
end
open PySem PySem.Spec PyProof.Rows L2
theorem J1:∀{x:List Int}{u:List au}{j:Nat}(h:j<u.length),Vals (x.map V.int) u->∃t,u[j]=l0 (x.getD j 0) t
 |[],[],_,h,.nil=>by simp at h
 |_::_,_::_,0,_,.cons ra _=>by obtain⟨t,rfl⟩:=ra;exact#[t,rfl]
 |_::x,_::u,j+1,h,.cons _ ta=>by
  obtain⟨t,e⟩:=J1 (by simpa using h) ta
  exact#[t,by simpa using e]
def Zhz:∀{x y:List Int},((aM<|sD x.length y.length).all (λj=>x.getD j 0 == y.getD j 0)&&x.length == y.length)=af (x=y):=by
 intro x y;rw[cA,aC,aY,decide_eq_true_iff]
 constructor
 .rintro ⟨h1,h2⟩
  have h2:x.length=y.length:=by simpa using h2
  apply i5 h2;intro i hi hj;have:=h1 i<|bc.mpr #[0]
  simpa[hi,hj]using this
 .rintro rfl
  exact#[λj _=>by simp,by simp]
def Vc(h:cy)(r:List Int)(v:au):Prop:=∃a o us m,v=.ref a/\h.get? a=aa o/\o.cls=.type "tuple"/\o.data=.seq us.toArray m/\Vals (r.map V.int) us
def Vc.lat(k:Sq.Lat h h')(R:Vc h r v):Vc h' r v:=by
 obtain⟨a,o,us,m,e,ho,hc,hd,hv⟩:=R;exact#[a,o,us,m,e,k _ _ ho,hc,hd,hv]
def vj(hx:Vc s.heap x v)(hy:Vc s.heap y u)(hu:A.units<dN):iX A s v u (af<|x=y):=by
 obtain⟨a,o,us,m,rfl,ho,hc,hd,hv⟩:=hx;obtain⟨b,o',us',m',rfl,ho',hc',hd',hv'⟩:=hy;have l1:us.toArray.size=x.length:=by rw[az,<-hv.length,ax]
 have l2:us'.toArray.size=y.length:=by rw[az,<-hv'.length,ax]
 by_cases e:a=b
 .subst e
  rw[ho]at ho';cases ho';rw[hd]at hd';injection hd' with h1 h2
  have h1:us=us':=by simpa using h1
  subst h1;rw[T5<|VB hv hv'];exact ko _
 .refine lc e ?_
  have:=lJ #[o,ho,hc,m,hd] #[o',ho',hc',m',hd'] hu (λj h1 h2=>by
   obtain⟨t,e1⟩:=J1 (by simpa using h1) hv
   obtain⟨t',e2⟩:=J1 (by simpa using h2) hv'
   rw[show us.toArray[j]=us[j]'(by simpa using h1) by simp,show us'.toArray[j]=us'[j]'(by simpa using h2) by simp,e1,e2]
   exact ou _ _ _ _)
  rw[l1,l2,Zhz]at this;exact this
def z6{E:au->aA->Prop}{Q:au->aA->Prop}(hx:Vc s.heap x v)(hy:Vc s.heap y u)(hu:A.units<dN)(q:Q (.bool<|ltI x y) s):bf #[8] A (cO .Lt v u) Q E s:=by
 obtain⟨a,o,us,m,rfl,ho,hc,hd,hv⟩:=hx;obtain⟨b,o',us',m',rfl,ho',hc',hd',hv'⟩:=hy;exact Zcr ho hc hd hv ho' hc' hd' hv' hu q
def Q3(fin:Bool):List #[14]->List #[14]->Bool
 |[],_=>fin
 |_::_,[]=>fin
 |a::x,b::y=>if a=b then Q3 fin x y else ltI a b
theorem Gi:∀(x y:List #[14]),Q3 (af<|x.length<y.length) x y=ltP x y
 |[],[]=>rfl
 |[],_::_=>by unfold Q3 ltP;simp
 |_::_,[]=>by unfold Q3 ltP;simp
 |a::x,b::y=>by
  unfold Q3 ltP;have:af ((a::x).length<(b::y).length)=af (x.length<y.length):=by simp
  rw[this,Gi x y]
inductive RowsIn(h:cy):List (List Int)->List au->Prop where
 |nil:RowsIn h [] []
 |cons {r:List Int} {rs:List (List Int)} {v:au} {vs:List au} (a:Vc h r v) (t:RowsIn h rs vs):RowsIn h (r::rs) (v::vs)
theorem RowsIn.lat(k:Sq.Lat h h'):∀{rs:List #[14]}{vs:List au},RowsIn h rs vs->RowsIn h' rs vs
 |_,_,.nil=>.nil
 |_,_,.cons a t=>.cons (a.lat k)<|RowsIn.lat k t
theorem RowsIn.length :∀{rs:List #[14]}{vs:List au},RowsIn h rs vs->rs.length=vs.length
 |_,_,.nil=>rfl
 |_,_,.cons _ t=>by rw[aG,aG,RowsIn.length t]
theorem zx{C:Bool->aA->Prop}(hu:A.units<dN):∀{x y:List #[14]}{u v:List au}{i:Nat},RowsIn s.heap x u->RowsIn s.heap y v->C (Q3 fin x y) s->sf prog w A ak fin C (u.zip v) i s
 |[],_,_,_,_,.nil,_,h=>by rw[iM];exact kz h
 |_::_,[],_,_,_,_,.nil,h=>by rw[ig];exact kz h
 |a::x,c::y,_,_,i,.cons ra ta,.cons rb tb,h=>by
  rw[bV];refine pO<|vj ra rb hu prog w _ _ ?_;unfold Q3 at h;by_cases e:a=c
  .rw[T9 e]at h
   rw[T5 e];exact rq<|zx hu ta tb h
  .rw[T8 e]at h
   rw[T4 e];refine sh ?_;exact rA _ _<|z6 ra rb hu h
open Ev (E Sm Fn Bop Cop Ty Bf Mf XI Yb YU Z3)
section
variable{B:Type}{lt:B->B->Bool}{df:B}
theorem Zil(O:StrictB lt){rs:List B}{n:Nat}(hn:rs.Nodup)(hl:rs.length=n):Sq.Ord n (λi j=>lt (rs.getD i df)<|rs.getD j df):=by
 have hd:∀i j,i<n->j<n->i≠j->rs.getD i df≠rs.getD j df:=λi j hi hj ne e=>by
  simp only[aF]at e;have hi':i<rs.length:=by lia
  have hj':j<rs.length:=by lia
  refine ne<|(iK hi' hn).mp ?_;rw[ai hi',ai hj']at e ⊢;exact congrArg aa e
 exact#[λi j hi hj ne e=>O.tot (hd i j hi hj ne) e,λi j _ _ e=>O.asy e,λi j k _ _ _ e f=>O.tr e f]
theorem Zig(O:StrictB lt)(hn:rs.Nodup)(h1:Sq.Pm rs.length p)(h2:Sq.Up (Sq.ltR b rs.length λi j=>lt (rs.getD i df)<|rs.getD j df) p rs.length) :
  (p.toList.map λi=>(bx b rs).getD i df)=Yl lt rs:=by
 have hp:p.toList.Perm (aM rs.length):=by simpa using bJ.mp h1
 have hl:p.toList.length=rs.length:=by rw[hp.length_eq,bi]
 refine XH O ?_ ?_<|XM O hn
 .refine((hp.map _).trans ?_).trans (Y3 rs).symm
  have e:(aM rs.length).map (λi=>(bx b rs).getD i df)=bx b rs:=by
   apply dg
   intro i;rw[aU];by_cases h:i<rs.length
   .have:i<(bx b rs).length:=by rw[fz];exact h
    rw[db h];simp[this]
   .have:(bx b rs).length<=i:=by rw[fz];lia
    simp[fb h,this]
  rw[e];exact Uh b rs
 .rw[dk,cn]
  intro i j hi hj hij;have g1:p.toList[i]=Sq.g p i:=by
   have:=Sq.ZbR (by simpa using hi)
   rw[<-bD,ai hi]at this;exact aq this
  have g2:p.toList[j]=Sq.g p j:=by
   have:=Sq.ZbR (by simpa using hj)
   rw[<-bD,ai hj]at this;exact aq this
  rw[g1,g2,Xd (h1.lt #[0]),Xd<|h1.lt #[0]]
  have:=h2 i j hij #[0]
  cases b
  .exact this
  .exact this
def uW{U:Mx}{H:Hp}{enc:B->D}{F:List Nat}{xs:List V}{rs:List B}(h:Rq U H (rs.map enc) xs)(hF:∀i∈F,i<rs.length):Rq U H ((F.map λi=>rs.getD i df).map enc) (F.map λi=>xs.getD i V.non):=by
 induction F with
 |nil=>exact Rq.nil
 |cons i F ih=>
  refine Rq.cons ?_<|ih λj hj=>hF j<|ao _ hj
  have hi:=hF i<|al ..;obtain⟨v,g,r⟩:=h.get (by rw[aU,ai hi];rfl)
  show Rep U H (enc<|rs.getD i df) (xs.getD i V.non);rw[aF,aF,g,ai hi];exact r
end
section
variable{X:Cx}{pq:List (aE×fW)}{Z:L2.St}{H:Hp}{s:aA}{U:Mx}
inductive PartsAt(h:cy):List (List (List Int))->List au->Prop where
 |nil:PartsAt h [] []
 |cons {P:List (List Int)} {ps:List (List<|List Int)} {vs:List au} {a:aE} {o:fW} {us:List au} {m:Nat} (ho:h.get? a=aa o) (hc:o.cls=.type "tuple") (hd:o.data=.seq us.toArray m) (hv:RowsIn h P us) (t:PartsAt h ps vs):PartsAt h (P::ps) (.ref a::vs)
theorem RowsAt.ins{h:cy}:∀{rs:List #[14]}{vs:List au},RowsAt h rs vs->RowsIn h rs vs
 |_,_,.nil=>.nil
 |_,_,.cons ho hc hd hv t=>.cons #[_,_,_,_,rfl,ho,hc,hd,hv]<|RowsAt.ins t
def wg(h:Pv.YI (d::ds)=aa ps):∃ks a b,d=.tup ks/\Pv.Ye ks=aa a/\Pv.YI ds=aa b/\ps=a::b:=by
 cases d with
 |tup ks=>
  have h:(match Pv.Ye ks,Pv.YI ds with
   |some a,aa b=>aa (a::b)
   |_,_=>ae)=aa ps:=h
  cases q1:Pv.Ye ks with
  |none=>rw[q1]at h;cases h
  |some a=>
   cases q2:Pv.YI ds with|none=>rw[q1,q2]at h;cases h|some b=>rw[q1,q2]at h;exact#[ks,a,b,rfl,q1,rfl,(aq h).symm]
 |_=>exact Ev.nos h
theorem z8(I:Inv X pq Z H s):∀{ds:List D}{ps:List (List<|List Int)}{xs:List V}{its:List au},Pv.YI ds=aa ps->Rq U H ds xs->Vals xs its->PartsAt s.heap ps its/\ds=ps.map Pv.Zc
 |[],ps,xs,its,h,r,v=>by
  subst r;cases v;cases h;exact#[.nil,rfl]
 |d::ds,ps,xs,its,h,r,v=>by
  obtain⟨x,xs',rfl,r1,r2⟩:=r;cases v with
  |cons v1 v2=>
   obtain⟨ks,a,b,rfl,q1,q2,rfl⟩:=wg h;obtain⟨t,e⟩:=z8 I q2 r2 v2;obtain⟨p,ys,rfl,hp,ry⟩:=r1.tup';cases v1;obtain⟨us,rv,⟨o,ho,hc,m,hd⟩,_⟩:=I.tuple<|SqT.of hp;obtain⟨ra,ek⟩:=W6 I q1 ry rv;exact#[.cons ho hc hd ra.ins t,by rw[e,ek];rfl]
theorem PartsAt.length :∀{ps:List (List<|List Int)}{vs:List au},PartsAt h ps vs->ps.length=vs.length
 |_,_,.nil=>rfl
 |_,_,.cons _ _ _ _ t=>by rw[aG,aG,PartsAt.length t]
theorem PartsAt.at :∀{ps:List (List<|List Int)}{vs:List au}(i:Nat),PartsAt h ps vs->i<vs.length->∃a o us m,vs.getD i bN=.ref a/\h.get? a=aa o/\o.data=.seq us.toArray m/\RowsIn h (ps.getD i []) us
 |_,_,_,.nil,hi=>by simp at hi
 |_,_,0,.cons ho hc hd hv t,_=>#[_,_,_,_,rfl,ho,hd,hv]
 |_,_,i+1,.cons ho hc hd hv t,hi=>by
  obtain⟨a,o,us,m,e1,e2,e3,e4⟩:=PartsAt.at i t (by simpa using hi)
  exact#[a,o,us,m,by simpa using e1,e2,e3,by simpa using e4]
theorem PartsAt.tups(k:Sq.Lat h h'):∀{ps:List (List<|List Int)}{vs:List au},PartsAt h ps vs->(∀P∈ps,P≠[])->∃fs,rB h' vs fs/\fs.length=vs.length/\∀v∈fs,∃r,Vc h' r v
 |_,_,.nil,_=>#[[],.nil,rfl,λv hv=>by cases hv]
 |_,_,.cons (P:=P) ho hc hd hv t,hn=>by
  obtain⟨fs,t1,t2,t3⟩:=PartsAt.tups k t λr hr=>hn r<|ao _ hr
  have hr:=hn P<|al ..;cases hv with
  |nil=>exact T7 rfl hr
  |cons a tl=>
   rename_i r rs v vs
   refine#[v::fs,.cons (k _ _ ho) hc hd #[2] t1,by rw[aG,aG,t2],λz hz=>?_]
   rcases ay.mp hz with rfl|hz
   .exact#[r,a.lat k]
   .exact t3 z hz
theorem U9 :∀{P P':List #[14]}{us:List au},RowsIn h P us->RowsIn h P' us->P=P'
 |_,_,_,.nil,.nil=>rfl
 |_,_,_,.cons r t,.cons r' t'=>by
  obtain⟨a,o,us,m,rfl,ho,_,hd,hv⟩:=r;obtain⟨a',o',us',m',e,ho',_,hd',hv'⟩:=r';cases e;rw[ho]at ho';cases ho';rw[hd]at hd';cases hd';rw[VB hv hv',U9 t t']
theorem xh(hu:A.units<dN)(R:PartsAt h ps vs)(nd:ps.Nodup)(hn:2<=vs.length->∀P∈ps,P≠[]):Sq.Asks prog w A h vs (tuples' ak) (λi j=>ltP (ps.getD i [])<|ps.getD j []):=by
 refine#[λh2 s' E Q k q=>?_,yL (df:=[]) R.length nd λi j hi hj e=>?_,λi j hi hj s' C E k q=>?_]
 .obtain⟨fs,t1,t2,t3⟩:=R.tups k (hn h2)
  exact pP (T:=.type "tuple") t1 #[0] (λv hv=>by
   obtain⟨r,a,o,us,m,rfl,ho,hc,_,_⟩:=t3 v hv;exact λA Q E s kk qq=>fP #[o,kk _ _ ho,hc] qq) rfl q
 .obtain⟨a,o,us,m,e1,e2,e3,e4⟩:=R.at i hi
  obtain⟨a',o',us',m',f1,f2,f3,f4⟩:=R.at j hj;rw[e1,f1]at e;cases e;rw[e2]at f2;cases f2;rw[e3]at f3;cases f3;exact U9 e4 f4
 .obtain⟨a,o,us,m,e1,e2,e3,e4⟩:=R.at i hi
  obtain⟨a',o',us',m',f1,f2,f3,f4⟩:=R.at j hj;rw[e1,f1];refine si (k _ _ e2) e3 (k _ _ f2) f3<|zx hu (e4.lat k) (f4.lat k) ?_;have l1:us.toArray.size=(ps.getD i []).length:=by rw[az,<-e4.length]
  have l2:us'.toArray.size=(ps.getD j []).length:=by rw[az,<-f4.length]
  rw[l1,l2,Gi];exact q
end
def xg(hu:X.A.units+2<dN)(I:Inv X pq Z H s)(r:Vals [v] us)(r1:Rep U H (.lst ds) v)
  (hps:Pv.YI ds=aa ps)(hok:Z3 ps=aj)(h3:∀ys,Rq U H ((Yl ltP ps).map Pv.Zc) ys->∀p,H p=ae->Q (.ref p) (upd H p<|.lst ys)):bf #[10] X.A (call (.builtin "sorted") us) (EP X pq Z Q) X.xe s:=by
 obtain⟨l,xs,rfl,hx,_,rx⟩:=r1.lst';obtain⟨u,rfl,ru⟩:=Wb r;cases ru;obtain⟨its,rv,pl,hz⟩:=I.list<|SqL.of hx;obtain⟨RA,ed⟩:=z8 I hps rx rv;have hlen:=RA.length;obtain⟨hok1,hok3⟩:=(aC _ _).mp hok;obtain⟨hok1,hok2⟩:=(aC _ _).mp hok1;have h64:=T6 hok1;have hnd:=T6 hok2;refine Sq.VA pl.isList #[0] (Zil YB hnd hlen) (xh hu RA hnd λh2 P hP e=>?_) λp hp hu2=>?_
 .rcases(fY _ _).mp hok3 with h|h
  .have:=T6 h;lia
  .have:=aY.mp h P hP
   rw[e]at this;cases this
 rw[<-hlen]at hp hu2;have out:=Zig YB hnd hp hu2
 have hmem:∀i∈p.toList,i<ps.length:=λi hi=>by
  have hp':p.toList.Perm (aM ps.length):=by simpa using bJ.mp hp
  exact bc.mp<|hp'.mem_iff.mp hi
 subst ed;have xl:xs.length=ps.length:=by rw[rx.length,ax]
 have rx2:=uW (df:=[]) rx hmem;have out':(p.toList.map λi=>ps.getD i [])=Yl ltP ps:=out
 rw[out']at rx2;have rv2:=zX rv (by rw[xl];exact hmem)
 obtain⟨ep,he⟩:=sortedAll_at s.heap its<|dC<|p.toList.map λi=>its.getD i bN
 refine#[.ref<|s.heap.objs.size+1,_,I.laid (t':=s.toks) (λb ob q=>sortedAll_old q) (fN _) ?_,rfl,h3 _ rx2 _<|I.hok.fresh<|fN _]
 refine#[?_,_,ep,rv2,he];rw[ax,aP,hp.size,du];lia
def U6(hu:X.A.units+7<dN):ZB X (.builtin "sorted") (zo X.K xw .sorted):=by
 intro pq s Z H vs us Q I r #[U,S,ds,st,rs,H0,S0,f0,s0,h];obtain⟨d,v,z,rfl,r1,hz,h⟩:=WB h rs;cases d with
 |lst ds=>
  have hz:(if Pv.Zc3 ds=aj then(Pv.Ye ds).bind λrs=>if YU rs=aj then aa (.lst<|(Yb rs).map Pv.Zd)else ae else(Pv.YI ds).bind λps=>if Z3 ps=aj then aa (.lst<|(Yl ltP ps).map Pv.Zc)else ae)=aa z:=hz
  split at hz
  .obtain⟨rws,hr,hz⟩:=bM.mp hz
   split at hz
   .cases hz;exact zv pq s Z H [v] us Q I r #[U,ds,rws,v,rfl,r1,hr,‹_›,λys r=>h.newF f0 s0 st r]
   .cases hz
  .obtain⟨ps,hr,hz⟩:=bM.mp hz
   split at hz
   .cases hz;exact xg #[0] I r r1 hr ‹_› λys r=>h.newF f0 s0 st r
   .cases hz
 |_=>exact Ev.nos hz
def Ur:pR (.type "range_iterator") (.type "reversed")=cF ak:=by rw[isSubtype_type];kernel_rfl
section
variable{prog:bE}{w:bZ}{A:cz}{E:au->aA->Prop}{s:aA}
noncomputable abbrev jb(lo:Int)(n:Nat):fW:={cls:=.type "range_iterator",data:=.fields [hZ<|lo+n-1,hZ n,hZ<|-1].toArray}
theorem Ww{r:aE}{lo hi:Int}{t u v:rJ}{Q:au->aA->Prop}(hr:IsRange s.heap r lo hi 1 t u v)(h1:-(2^62)<=lo)(h2:lo<2^62)(h3:-(2^62)<=hi)(h4:hi<2^62)
  (h:Q #[30] {s with heap:=s.heap.push (jb lo (hi-lo).toNat)}):bf #[8] A (call (.builtin "range.__reversed__") [.ref r]) Q E s:=by
 refine dO F.slot_range_reversed #[_,hr,rfl] F.entry_range_reversed ?_<|F.args_range_reversed_1 _;unfold eV.«range.__reversed__»;refine ag<|eF rfl ?_;refine ag<|ag<|cC hr rfl rfl ?_;refine ag<|eF rfl ?_;refine ag<|cC hr rfl rfl ?_;refine ag<|eF rfl ?_;refine ag<|cC hr rfl rfl ?_;refine ag<|eF rfl ?_;refine aD ?_
 have hn:fH lo hi 1=((hi-lo).toNat:Int):=by rw[nN];split<;>lia
 have hs:(cP lo&&cP hi&&cP 1&&cP (-1)&&cP (lo-1)&&cP (fH lo hi 1))=aj:=by
  rw[hn];simp only[cP,aC,T0];lia
 simp only[hs,gZ,cL,if_false,if_true];refine ag<|bT<|aD #[_,rfl,?_];rw[hn];have e:lo+(((hi-lo).toNat:Int)-1)*1=lo+((hi-lo).toNat:Int)-1:=by lia
 simp only[e];exact h
def Wt{r:aE}{lo hi:Int}{t u v:rJ}{Q₁:au->aA->Prop}(hr:IsRange s.heap r lo hi 1 t u v)(h1:-(2^62)<=lo)(h2:lo<2^62)(h3:-(2^62)<=hi)(h4:hi<2^62)
  (h:Q₁ #[30] {s with heap:=s.heap.push (jb lo (hi-lo).toNat)}) :
  eT #[8] A (.call (.builtin "reversed.__new__") #[[.type "reversed",.ref r],[]]) (wants Q₁ E) s:=by
 refine codeAny_of_tree ?_;refine ag<|eF (F.newCall_reversed_1 _)<|aD #[nY nv _,kB F.entry_reversed_new ?_];rw[km nv _];unfold eV.«reversed.__new__»;refine ag<|eF (newClass_reversed _) ?_
 try dsimp only
 refine ag (eF (by first|rfl|kernel_rfl) ?_)
 refine ag (eF (by first|rfl|kernel_rfl) ?_)
 try dsimp only
 refine ag<|wpAny_specialOf #[_,hr,rfl] F.slot_range_reversed.lookup ?_
 try dsimp only
 refine ag<|eF (F.slot_range_reversed.bind _) ?_
 try dsimp only
 first
 |rw[T8 (aS)]
 |(rw[T8<|show¬((kc "range.__reversed__" == bN)=aj)from aS])
 refine ag<|d6 ?_;refine ag<|Ww hr h1 h2 h3 h4 ?_
 first
 |exact aD h
 |exact ag<|aD<|aD h
def Wy{r:aE}{lo hi:Int}{t u v:rJ}{Q:au->aA->Prop}(hr:IsRange s.heap r lo hi 1 t u v)(h1:-(2^62)<=lo)(h2:lo<2^62)(h3:-(2^62)<=hi)(h4:hi<2^62)
  (h:Q #[30] {s with heap:=s.heap.push (jb lo (hi-lo).toNat)}):bf #[8] A (call (.type "reversed") [.ref r]) Q E s:=by
 refine callType_other (Q₁:=λobj s₁=>obj=.ref s.heap.objs.size/\s₁={s with heap:=s.heap.push (jb lo (hi-lo).toNat)}) (by decide +kernel) F.create_reversed #[_,_,F.mro_reversed] F.made_reversed Ur (F.typeCall_reversed_1 _) (Wt hr h1 h2 h3 h4 #[rfl,rfl]) ?_
 rintro obj s₁ ⟨rfl,rfl⟩
 exact#[#[_,aR _ rfl,rfl],h]
end
noncomputable def Itrv(lo:Int)(n:Nat):It:=#[λi _=>i<n,λi H x H'=>H'=H/\x=.int (lo+n-1-i),λi _=>n<=i]
def yH{P:bE}{w:bZ}{K:am}{tg:Expr}(it:aE)(lo:Int)(n:Nat):Turn P w K tg (Itrv lo n) [it] it (λi h=>IsRangeIter h it (lo+n-1+(i:Nat)*(-1)) ((n:Int)-(i:Nat))<|-1) where
 mem:=by simp
 obj:=λi h st b hb=>by
  have e:b=it:=by simpa using hb
  subst e;exact#[_,st,λv z=>by
   have z':=z;cases z']
 keep:=λi h h' st k=>k it #[2] _ st
 item:=by
  intro X hP hw hK hc i pq s Z H E I hf st hg;subst hP hw hK;obtain⟨f0,f1,f2,f3,f4,f5⟩:=hf it #[2]
  have W:=Walks.range (prog:=X.prog) (w:=X.w) #[43] it (lo+n-1) (-1) n;refine W.item i s _ _ hg st λv h' tk hv st' kk=>?_
  obtain⟨t,rfl⟩:=hv;have I1:Inv X pq Z H {s with heap:=h',toks:=tk}:=I.turned (λb o hb e=>kk b o (by simpa using hb) e) f0 f1 f3 f4 f5
  refine#[_,rfl,wZ st' rfl rfl #[1] #[.int<|lo+n-1-i,H,I1,#[t,?_],#[rfl,rfl],st',λb hb=>(hf b hb).1]]
  have e:lo+n-1+(i:Int) * -1=lo+n-1-i:=by lia
  rw[e]
 done:=by
  intro X hP hw hK hc i pq s Z H E I hf st hg;subst hP hw hK;obtain⟨f0,f1,f2,f3,f4,f5⟩:=hf it #[2]
  exact mC #[43] st (by have:n<=i:=hg;lia) λh' eb=>#[rfl,I.turned (t':=s.toks) (λb o hb e=>eb b o hb e) f0 f1 f3 f4 f5]
 self:=λ_ _ _ _ _ st h=>iu st h
section
variable{X:Cx}{xw:Nat->Hp->Prop}{C:Calls}{a b tg:Expr}{i j:E}{pos p p2 p3:gj}
def ZhD(ta:TA):TI:=λZ H R=>ta Z H λvs H1=>∃i j:Int,vs=[.int i,.int j]/\(-(2^62)<=i/\i<2^62/\-(2^62)<=j/\j<2^62)/\R (Itrv i (j-i).toNat) H1
theorem qe{ta:TA}(hgr:Gl X "reversed")(hmr:X.mg "reversed" = ae)(hg:Gl X "range")(hm:X.mg "range" = ae)(ha:PA X [a,b] ta)(hs:aB [a,b] X.env=[#[37],(ak,cu b X.env)])(hs2:aB [b] X.env=[(ak,cu b X.env)]) :
  PI X tg (.Call (.Name "reversed" p) [.Call (.Name "range" p2) [a,b] [] p3] [] pos) (ZhD ta):=by
 intro pq s Z H R I h;refine rM<|Y1 I hgr hmr (rfl)<|bU (Calls.spliced_cons ?_) rfl rfl
 refine rM<|Y1 I hg hm oh<|bU (thn (ha p3 pq s Z H _ I h) λus s1 #[vs,H1,I1,r1,q1]=>?_) (by rw[hs,hs2]) (by rw[hs2];rfl)
 obtain⟨lo,hi,e,⟨q1,q2,q3,q4⟩,q⟩:=q1;subst e;cases r1 with
 |cons r rr=>
  cases rr with
  |cons r' rr=>
   cases rr;obtain⟨t,rfl⟩:=r;obtain⟨t',rfl⟩:=r';refine call_range_2<|Calls.spliced_nil ?_;refine Wy (pU ..) q1 q2 q3 q4 ?_;have I2:Inv X pq Z H1 {s1 with heap:=s1.heap.push {cls:=.type "range",data:=.fields [.int lo t,.int hi t',.int 1 s1.toks].toArray},toks:=s1.toks+1}:=I1.kept λb o e=>aw _ e
   have I3:=I2.kept (t':=s1.toks+1) (h':=(s1.heap.push {cls:=.type "range",data:=.fields [.int lo t,.int hi t',.int 1 s1.toks].toArray}).push<|jb lo (hi-lo).toNat) λb o e=>aw _ e
   refine iu (aR _ rfl) ?_;refine#[_,[(s1.heap.push {cls:=.type "range",data:=.fields [.int lo t,.int hi t',.int 1 s1.toks].toArray}).objs.size],_,_,H1,rfl,I3,yH _ lo (hi-lo).toNat,?_,λb hb=>?_,q]
   .rw[show lo+((hi-lo).toNat:Int)-1+((0:Nat):Int)*(-1)=lo+((hi-lo).toNat:Int)-1 by lia,show(((hi-lo).toNat:Nat):Int)-((0:Nat):Int)=((hi-lo).toNat:Int) by lia]
    exact aR _ rfl
   .have e:b=(s1.heap.push {cls:=.type "range",data:=.fields [.int lo t,.int hi t',.int 1 s1.toks].toArray}).objs.size:=by simpa using hb
    subst e;exact I2.fpOk (aI _)<|I2.hok.fresh<|aI _
theorem xo{lo:Int}{n i:Nat}(h:i<n):(Pv.ZV lo n).reverse[i]?=aa (.int<|lo+n-1-i):=by
 unfold Pv.ZV;rw[<-ml,aU,iU (by simpa using h),bi,db #[0]]
 simp only[Option.map_some]
 congr 2
 lia
def uI{K:am}{U:Mx}{H:Hp}{lo:Int}{n:Nat}:WRel K U H (Pv.ZV lo n).reverse (Itrv lo n) where
 go:=λi ρ' S' H' f st hi=>by
  have hi':i<n:=by simpa[Pv.ZV]using hi
  refine#[hi',λx H'' #[e,hx]=>?_]
  subst e hx;refine#[Fut.refl _ _,st,λd hd=>?_]
  rw[xo hi']at hd;cases hd;exact ZR _
 stop:=λρ' S' H' f st=>by show n<=((Pv.ZV lo n).reverse).length;simp[Pv.ZV]
def Zdz(hmr:X.mg "reversed" = ae)(hm:X.mg "range" = ae)(ha:CA X xw C [a,b] [i,j])(hgr:Gl X "reversed")(hg:Gl X "range")(hs:aB [a,b] X.env=[#[37],(ak,cu b X.env)])(hs2:aB [b] X.env=[(ak,cu b X.env)]) :
  CW X xw C tg (.Call (.Name "reversed" p) [.Call (.Name "range" p2) [a,b] [] p3] [] pos) (.rrng i j):=.mk <|
 PI.imp (qe hgr hmr hg hm ha.h hs hs2) λZ H Q #[U,l,S,st,lr,h]=>Zan st lr h λx y S1 ρ1 H1 v u st1 rv ru h1=>by
  cases x with
  |int n=>cases y with
   |int m=>
    obtain⟨hs,h3⟩:=End.guard h1;obtain⟨s1,s2⟩:=(aC _ _).mp hs;exact#[n,m,by rw[rv.int',ru.int'],#[(Yo s1).1,(Yo s1).2,(Yo s2).1,(Yo s2).2],End.ok h3 st1 uI]
   |_=>exact False.elim h1
  |_=>exact False.elim h1
end
open PySem.SeqAt PySem.MeetsSeq PySem.MeetsSeq2 PySem.MeetsSeq3 PySem.SeqRoads2
open PySem.AutoSeq1 (wpAny_loadPart')
def yV(l b:aE)(u v:List au)(n n2:Nat)(dd dd2:Option aE)(sl sl2:Array (Option au))(x y:List #[14]) :
  rT (eV.«tuple.__lt__» #[[.ref l,.ref b],[]]) (λA R s=>s.heap.get? l=aa {cls:=.type "tuple",dict:=dd,data:=.seq u.toArray n,slots:=sl}/\s.heap.get? b=aa {cls:=.type "tuple",dict:=dd2,data:=.seq v.toArray n2,slots:=sl2}/\A.units+1<dN/\RowsIn s.heap x u/\RowsIn s.heap y v/\R (.ok<|.ret<|.bool<|ltP x y) s):=
 .of_wp λprog w A R s h=>by
  obtain⟨hp,g,d,tk,os⟩:=s;obtain⟨hl,hb,hu,hx,hy,h⟩:=h;have f2:=eC;rw[<-Gi]at h
  wp_walk using kA hl,kA hb,wpAny_forIn_list _ (λrest b s'=>b.1=ae/\s'=#[hp,g,d,tk,os]/\∃x' y' u' v',rest=List.zip u' v'/\RowsIn hp x' u'/\RowsIn hp y' v'/\R (.ok<|.ret<|.bool<|Q3 (af<|x.length<y.length) x' y') #[hp,g,d,tk,os]) _
  case turn=>
   rintro ⟨a,c⟩ rest b s' ⟨hb',rfl,x',y',u',v',hz,hx',hy',hR⟩
   match x',y',u',v',hx',hy',hz,hR with
   |i::x',j::y',_::u',_::v',.cons ra ta,.cons rb tb,hz,hR=>
    rw[bV]at hz;injection hz with h1 h2
    cases h1;unfold Q3 at hR;refine ag<|vj ra rb #[0] prog w _ _ ?_
    by_cases e:i=j
    .rw[T9 e]at hR
     rw[T5 e]
     wp_walk
     exact#[rfl,rfl,x',y',u',v',h2,ta,tb,hR]
    .rw[T8 e]at hR
     rw[T4 e];simp only[iN,if_true];refine ag<|d6<|ag<|z6 ra rb #[0] ?_
     wp_walk
     exact#[_,rfl,by simpa using hR]
   |[],_,_,_,.nil,_,hz,_=>rw[iM]at hz;cases hz
   |_::_,[],_,_,_,.nil,hz,_=>rw[ig]at hz;cases hz
  case fin=>
   rintro ⟨b1,b2⟩ s' ⟨hb',rfl,x',y',u',v',hz,hx',hy',hR⟩
   simp only at hb';subst hb';have hf:Q3 (af<|x.length<y.length) x' y'=af (x.length<y.length):=by
    match x',y',u',v',hx',hy',hz with
    |[],_,_,_,_,_,_=>rfl
    |_::_,[],_,_,_,_,_=>rfl
    |_::_,_::_,_::_,_::_,.cons _ _,.cons _ _,hz=>rw[bV]at hz;cases hz
   rw[hf]at hR;have l1:u.length=x.length:=by rw[<-hx.length]
   have l2:v.length=y.length:=by rw[<-hy.length]
   wp_walk
   exact#[_,rfl,by simpa[iS,l1,l2]using hR]
  case h=>
   exact#[rfl,rfl,x,y,u,v,by simp,hx,hy,h]
def qH{E:au->aA->Prop}{Q:au->aA->Prop}(ha:s.heap.get? a=aa o)(hc:o.cls=.type "tuple")(hd:o.data=.seq u.toArray m)(hx:RowsIn s.heap x u)
  (hb:s.heap.get? b=aa o')(hc':o'.cls=.type "tuple")(hd':o'.data=.seq v.toArray m')(hy:RowsIn s.heap y v)(hu:A.units+3<dN)(q:Q (.bool<|ltP x y) s):bf #[8] A (cO .Lt (.ref a)<|.ref b) Q E s:=by
 obtain⟨cls,dd,data,sl⟩:=o;obtain⟨cls2,dd2,data2,sl2⟩:=o';simp only at hc hd hc' hd';subst hc hd hc' hd';exact mK (op:=.Lt) #[_,ha,rfl] #[_,hb,rfl] rC pQ (oX _ _) (yV a b u v m m' dd dd2 sl sl2 x y) #[ha,hb,by first|exact hu|(lia)|lia,hx,hy,#[(λx=>nomatch x),q]] #[0]
def vF(hu:X.A.units+7<dN):Xt X xw .Lt .lt:=by
 intro pq s Z H v0 u0 v u Q I rv ru #[U,S,x,y,st,rx,ry,h];rcases ZgQ st rx ry h with z|⟨a,b,A,B,rfl,rfl,hA,hB,q⟩
 .exact Zhe pq s Z H v0 u0 v u Q I rv ru z
 .obtain⟨p1,xs,rfl,hp1,r1⟩:=rx.tup'
  obtain⟨p2,ys,rfl,hp2,r2⟩:=ry.tup';cases rv;cases ru;obtain⟨us,w1,⟨o,ho,hc,m,hd⟩,_⟩:=I.tuple<|SqT.of hp1;obtain⟨us',w2,⟨o',ho',hc',m',hd'⟩,_⟩:=I.tuple<|SqT.of hp2;obtain⟨ra,_⟩:=W6 I hA r1 w1;obtain⟨rb,_⟩:=W6 I hB r2 w2;exact qH ho hc hd ra.ins ho' hc' hd' rb.ins #[0] #[.bl<|ltP A B,H,I,rfl,q]
end Sd
namespace Sd
open PySem PySem.Spec PyProof.Rows L2
open Ev (E Sm Fn Bop Cop Ty Bf Mf)
abbrev upI(i:Nat)(v:au):Prop:=∃t,v=.int (0+i*1) t
theorem wy:∀(us:List au)(a:Int),(∀(j:Nat) v,us[j]?=aa v->∃t,v=.int (a+j) t)->Vals ((aM us.length).map λ(k:Nat)=>V.int<|a+(k:Int)) us
 |[],_,_=>.nil
 |u::us,a,h=>by
  rw[aG,iG,aX,bY];obtain⟨t,e⟩:=h 0 u rfl;refine .cons #[t,e] ?_;have:=wy us (a+1) λj v hj=>by
   obtain⟨t,e⟩:=h (j+1) v (by simpa using hj)
   exact#[t,by rw[e];congr 1;lia]
  refine Eq.mp ?_ this
  congr 2
  funext k
  congr 1;lia
def Zc7{acc:Array au}{n:Nat}(h:ItemsOf upI acc n):Vals ((aM n).map λ(k:Nat)=>V.int<|0+(k:Int)) acc.toList:=by
 have:=wy acc.toList 0 λj v hj=>by
  obtain⟨t,e⟩:=h.2 j v (by simpa using hj)
  exact#[t,by rw[e];congr 1;lia]
 rw[aP,h.1]at this;exact this
def JX:kY (.type "list") "keys" = cF ae:=by rw[typeLookup_type,mZ];kernel_rfl
def x9:pR (.type "AttributeError") (.type "AttributeError")=cF aj:=by rw[isSubtype_type];kernel_rfl
section
variable{prog:bE}{w:bZ}{A:cz}{E:au->aA->Prop}{s:aA}{a:aE}{B:Type}{name msg:bq}
def uP{Q:Unit->aA->Prop}(he:s.heap.get? e=aa {cls:=.type "AttributeError",data:=.fields vs})(h6:vs[6]?=aa unsetMember)(h7:vs[7]?=aa unsetMember)
  (hQ:∀h',iq e s.heap h'->(∃ob,h'.get? e=aa ob/\ob.cls=.type "AttributeError")->Q () {s with heap:=h' }):bf #[8] A (noteAttr (.ref e) ov nm) Q E s:=by
 have hT:s.TypeIs (.ref e) "AttributeError":=#[_,he,rfl];refine ag<|ag<|i4 hT x9 ?_;simp only[gZ,cL,if_false];refine ag<|oa he ?_;simp only[h6,h7];rw[T8 #[1],T8 #[1]]
 refine aD ?_;simp only[if_true];refine ag<|d6<|ag<|fP hT ?_;simp only[layMembers];refine ag<|oa he<|wpAny_update he<|hQ _ (kF ..).extBut #[_,iT _ he<|mX<|lh rfl _,oU ..]
def xR{Q:B->aA->Prop}(hh:A.handled=ae)(hm:msg.length<=bj)(hq:∀h' t' e,(∀b o,s.heap.get? b=aa o->h'.get? b=aa o)->(∃ob,h'.get? e=aa ob/\ob.cls=.type "AttributeError")->E (.ref e) {s with heap:=h',toks:=t' }):bf #[8] A (raiseAttrError (.ref a) name msg:oD B) Q E s:=by
 refine ag<|wpAny_mkStr ?_ hm;simp only[newExc,newTuple];refine ag<|ag<|bT ?_ (by size_fits)
 refine ag (eF (by first|rfl|(simp only[firstArgMember];rfl)) ?_)
 refine bT ?_ (by size_fits)
 refine ag<|wpAny_mkText<|ag<|uP (aR _ rfl) rfl rfl λh' eb ob=>?_
 refine wpAny_raiseNew_none hh<|hq _ _ _ (λb o e=>eb b o (λz=>?_)<|aw _<|aw _ e) ob
 have q:=aQ e;subst z;exact T7 q (by show¬(s.heap.push _).objs.size<s.heap.objs.size;rw[cH];omega)
end
section
variable{prog:bE}{w:bZ}{A:cz}{E:au->aA->Prop}{h:cy}{g:Array rK}{d:Drawn}{t:Nat}{os:OsState}{a:aE}{its:Array au}{n:Nat}
def xC{Q:Fin->aA->Prop}(hx:h.get? a=aa {cls:=.type "list",data:=.seq its n})(hh:A.handled=ae)(hq:∀h' t' e,(∀b o,h.get? b=aa o->h'.get? b=aa o)->(∃ob,h'.get? e=aa ob/\ob.cls=.type "AttributeError")->E (.ref e) #[h',g,d,t',os]) :
  bf #[8] A (eV.«object.__getattribute__» #[[.ref a,.str "keys" tk],[]]) Q E #[46]:=by
 have hT:(#[46]:aA).TypeIs (.ref a) "list":=#[_,hx,rfl];have f4:=JX
 repeat(any_goals (first|assumption|wp_step))
 exact xR hh (by decide +kernel) hq
def uj{R:pc->aA->Prop}(hx:h.get? a=aa {cls:=.type "list",data:=.seq its n})(hh:A.handled=ae)(hq:∀h' t' e,(∀b o,h.get? b=aa o->h'.get? b=aa o)->(∃ob,h'.get? e=aa ob/\ob.cls=.type "AttributeError")->R (.error<|.ref e) #[h',g,d,t',os]) :
  eT #[8] A (.call (.builtin "list.__getattribute__") #[[.ref a,.str "keys" tk],[]]) R #[46]:=
 kn F.slot_list_getattribute.plain F.entry_list_ga (F.slot_list_getattribute.check _ _ _ _ _ _ _ _ (#[_,hx,rfl]) (F.args_list_getattribute_2 _ _)<|xC hx hh hq)
def ZbV{Q:au->aA->Prop}(hx:h.get? a=aa {cls:=.type "list",data:=.seq its n})(hh:A.handled=ae)(hq:∀h' t' e,(∀b o,h.get? b=aa o->h'.get? b=aa o)->(∃ob,h'.get? e=aa ob/\ob.cls=.type "AttributeError")->E (.ref e) #[h',g,d,t',os]):bf #[8] A (getAttrBy (.ref a) (.str "keys" tk) ak) Q E #[46]:=by
 have hT:(#[46]:aA).TypeIs (.ref a) "list":=#[_,hx,rfl];have f2:=F.slot_list_getattribute.lookup;have f3:=F.slot_list_getattribute.bind<|.ref a
 repeat(any_goals (first|assumption|wp_step))
 refine uj hx hh λh' t' e k ob=>?_
 have hTe:(#[h',g,d,t',os]:aA).TypeIs (.ref e) "AttributeError":=ob;have f9:kY (.type "list") "__getattr__" = cF ae:=by rw[typeLookup_type,mZ];kernel_rfl
 have hE:=hq h' t' e k ob
 repeat(any_goals (first|assumption|with_reducible apply i4 hTe x9|wp_step))
def qf{Q:Option au->aA->Prop}(hx:h.get? a=aa {cls:=.type "list",data:=.seq its n})(hh:A.handled=ae)(hq:∀h' t',(∀b o,h.get? b=aa o->h'.get? b=aa o)->Q ae #[h',g,d,t',os]):bf #[8] A (sj (.ref a) "keys") Q E #[46]:=by
 unfold sj getAttrBy?
 refine ag<|wpAny_mkText<|ag<|lV<|ZbV hx hh λh' t' e k ob=>?_
 exact ag<|i4 (ob) x9<|aD<|hq h' t' k
end
def Ws:plainId "dict.update.loop" = aj:=by decide +kernel
def Jt:entryFor table "dict.update.loop" = aa eV.«dict.update.loop»:=entryFor_of_tree (by kernel_rfl)
section
variable{prog:bE}{w:bZ}{A:cz}{E:au->aA->Prop}
def yU{Q:List au->aA->Prop}(hp:oE s.heap p its)(h:Q its.toList s):bf #[8] A (eV.Dict.pairItems<|.ref p) Q E s:=by
 obtain⟨o,ho,hc,n,hd⟩:=hp;refine ag<|fP #[_,ho,hc] ?_;rw[T9 #[1]]
 unfold seqItems?
 refine ag<|ag<|oa ho ?_;rw[hd];exact aD<|aD h
def ww{K:Type}[DecidableEq K]{knd:KeyKind prog w K}{h h':cy}{k:List K}{a:aE}(x:(eI knd).is h k a)(hk:∀o,h.get? a=aa o->h'.get? a=aa o):(eI knd).is h' k a:=by
 obtain⟨o,its,n,h1,r⟩:=x;exact#[o,its,n,hk _ h1,r]
def WM{K:Type}[DecidableEq K]{knd:KeyKind prog w K}{h h':cy}{d:aE}{xs:List (List K×aE×au)}(x:h.DictOfH (eI knd) d xs)(hd:∀o,h.get? d=aa o->h'.get? d=aa o)(hx:∀x∈xs,∀o,h.get? x.2.1=aa o->h'.get? x.2.1=aa o):h'.DictOfH (eI knd) d xs:=by
 obtain⟨o,es,ep,h1,h2,h3,h4,h5,h6⟩:=x;exact#[o,es,ep,hd _ h1,h2,h3,h4,λy hy=>ww (h5 y hy)<|hx y hy,h6]
abbrev Pr:=List Key×aE×aE
def Zaa{I d:aE}{fp wr:List aE}{its:Array au}{St:Nat->cy->Prop}{R:pc->aA->Prop}{h0:cy}{ps:List Pr}{res:au}(W:Walks prog w A.in1 I fp wr its.size (λi v=>its[i]?=aa v) St)(hu:A.units+2<dN)(hf:d∉fp)
  (hl:ps.length=its.size)(hi:∀(i:Nat)(p:Pr),ps[i]?=aa p->its[i]?=aa (dZ p.2.2))
  (hp:∀p∈ps,oE h0 p.2.2 [dZ p.2.1,bH aj].toArray/\(eI<|ZK prog w).is h0 p.1 p.2.1/\p.2.2∉wr/\p.2.2≠d/\p.2.1∉wr/\p.2.1≠d)(hn:(ps.map (·.1)).Nodup)(hz:ps.length<=bj) :
  ∀(k i:Nat)(s:aA),i+k=its.size->i<=its.size->St i s.heap->(∀b o,b∉wr->b≠d->h0.get? b=aa o->s.heap.get? b=aa o)->
  s.heap.DictOfH (eI<|ZK prog w) d ((ps.take i).map λp=>(p.1,p.2.1,bH aj))->
  (∀h' tk,(∀b o,b∉wr->b≠d->h0.get? b=aa o->h'.get? b=aa o)->h'.DictOfH (eI<|ZK prog w) d (ps.map λp=>(p.1,p.2.1,bH aj))->R (.ok<|.ret res) {s with heap:=h',toks:=tk})->
  eT #[8] A (.builtin "dict.update.loop" #[[.ref d,.ref I,hZ i,res],[]]) R s:=by
 intro k
 induction k with
 |zero=>
  intro i s hk hi' hst kp dd hR;subst hk;refine kB Jt ?_;rw[km Ws _];show bf _ A.in1 (o7 (.ref I) >>= _) _ _ s;refine ag<|W.done s _ _ hst λh' tk hk'=>?_
  refine ag<|aD<|aD<|hR h' tk (λb o hb hd z=>hk' b o hb<|kp b o hb hd z) ?_
  rw[cG<|by omega]at dd
  exact WM dd (λo e=>hk' _ o (λz=>hf<|W.sub _ z) e) λx hx o e=>by
   obtain⟨y,hy,rfl⟩:=aO.mp hx;exact hk' _ o (hp y hy).2.2.2.2.1 e
 |succ k ih=>
  intro i s hk hi' hst kp dd hR;have hlt:i<its.size:=by omega
  have hp':=hp _<|ba (l:=ps) (n:=i) #[3]
  have hv:=hi i _<|ai (l:=ps) (i:=i) #[3]
  refine kB Jt ?_;rw[km Ws _];show bf _ A.in1 (o7 (.ref I) >>= _) _ _ s;refine ag<|W.item i s _ _ hlt hst λv h' tk hP hst' hk'=>?_
  rw[hv]at hP;cases hP;obtain⟨p1,p2,p3,p4,p5,p6⟩:=hp';have kp2:∀b o,b∉wr->b≠d->h0.get? b=aa o->h'.get? b=aa o:=λb o hb hd z=>hk' b o hb<|kp b o hb hd z
  have dd2:h'.DictOfH (eI<|ZK prog w) d ((ps.take i).map λp=>(p.1,p.2.1,bH aj)):=WM dd (λo e=>hk' _ o (λz=>hf<|W.sub _ z) e) λx hx o e=>by
   obtain⟨y,hy,rfl⟩:=aO.mp hx;exact hk' _ o (hp y<|dv hy).2.2.2.2.1 e
  obtain⟨po,g1,g2,pn,g3⟩:=p1;refine ag<|cK<|ag<|wpAny_tryCatch<|yU (its:=[dZ ps[i].2.1,bH aj].toArray) #[po,kp2 _ _ p3 p4 g1,g2,pn,g3] ?_;have hsz:((ps.take i).map λp=>(p.1,p.2.1,bH aj)).length<=bj:=by rw[ax,bQ];exact bW (pf ..) hz
  refine cK<|wpAny_dictSet_heap (hsz:=hsz) (kZ<|by omega) (ww p2 λo e=>kp2 _ o p5 p6 e) dd2 λh2 dd3 sb=>?_
  refine aD #[nY Ws _,ih (i+1) _ #[3] hlt (W.frame _ _ _ hst' λb hb o e=>(sb.2 b λz=>hf<|z▸hb).trans e) (λb o hb hd z=>(sb.2 b hd).trans<|kp2 b o hb hd z) ?_ hR]
  have hnew:rS ((ps.take i).map λp=>(p.1,p.2.1,bH aj)) ps[i].1=ae:=by
   unfold rS;rw[mL,oB];intro x hx z;obtain⟨y,hy,rfl⟩:=aO.mp hx;have hn2:=hn;rw[<-cU i ps,bw,gv,ck<|by omega]at hn2
   exact hn2.2.2 _ (eR hy) _ (eR al)<|T6 z
  rw[storedH_new hnew]at dd3;rw[lL,ai #[3],bw]
  exact dd3
def wo{s:aA}{l:aE}{its:Array au}{n:Nat}{ps:List Pr}{Q:au->aA->Prop}(hh:A.handled=ae)(hu:A.units+3<dN)(hx:s.heap.get? l=aa {cls:=.type "list",data:=.seq its n})
  (hl:ps.length=its.size)(hi:∀(i:Nat)(p:Pr),ps[i]?=aa p->its[i]?=aa (dZ p.2.2))
  (hp:∀p∈ps,oE s.heap p.2.2 [dZ p.2.1,bH aj].toArray/\(eI<|ZK prog w).is s.heap p.1 p.2.1)(hn:(ps.map (·.1)).Nodup)(hz:ps.length<=bj)
  (h:∀h' tk,(∀b o,s.heap.get? b=aa o->h'.get? b=aa o)->h'.DictOfH (eI<|ZK prog w) s.heap.objs.size (ps.map λp=>(p.1,p.2.1,bH aj))->Q #[30] {s with heap:=h',toks:=tk}) :
  bf #[8] A (call (.type "dict") [.ref l]) Q E s:=by
 refine callType_codes (Q₁:=λobj s₁=>obj=.ref s.heap.objs.size/\s₁={s with heap:=s.heap.push {cls:=.type "dict",data:=.dict #[]}}) F.kt_called_dict (F.kt_typeCall_dict_1 _) F.entry_dict_init (kt_code_dict_new _ #[rfl,rfl]) ?_
 rintro obj s₁ ⟨rfl,rfl⟩
 have hnew:(s.heap.push {cls:=.type "dict",data:=.dict #[]}).DictOfH (eI<|ZK prog w) s.heap.objs.size []:=cy.DictOfH.new s.heap;have hx':=aw {cls:=.type "dict",data:=.dict #[]} hx;refine#[hnew.typeIs (s:={s with heap:=_}),F.args_dict_init_2 _ _,?_]
 unfold eV.«dict.__init__»;refine ag ?_;unfold eV.Dict.selfAndRest;refine ag<|wpAny_notOrdered_dict (hnew.typeIs (s:={s with heap:=_})) ?_
 show bf _ _ (cF (s.heap.objs.size,[dZ l])) _ _ _;refine aD ?_;show bf _ _ (mm "dict.__init__" s.heap.objs.size (.ref l) [] .none) _ _ _;unfold mm;refine ag<|fP (T:="list") #[_,hx',rfl] ?_;rw[T9 #[1]]
 refine ag<|qf hx' hh λh1 t1 k1=>?_
 rw[T9<|show(ae:Option au).isNone=aj from rfl]
 have hx1:=k1 _ _ hx';obtain⟨od,es,ep,g1,g2⟩:=id hnew;have hd1:s.heap.objs.size<h1.objs.size:=aQ<|k1 _ _ g1;have hl0:l<s.heap.objs.size:=aQ hx;refine ag<|d6<|ag<|gu (items:=its) #[_,hx1,rfl,n,rfl]<|aD #[nY Ws _,?_];have lt:∀{b:aE}{o:fW},s.heap.get? b=aa o->b∉[h1.objs.size]/\b≠s.heap.objs.size:=λ{b o} e=>by
  have q:=aQ e;exact#[λz=>T7 (aT.mp z)<|bv<|dA q hd1,bv q]
 refine Zaa (A:=A.in1) (h0:=s.heap) (ps:=ps) (i:=0) (s:={s with heap:=h1.push<|YC aj l,toks:=t1}) (VG (A:=A.in1.in1) hh aj h1.objs.size l (bv<|dA hl0 hd1) its) (by show A.units+1+2<dN;omega) (λz=>?_) hl hi (λp hq=>?_) hn hz _ (oY _) (eE _) #[GT,?_] (λb o _ _ e=>aw _<|k1 _ _<|aw _ e) ?_ λh' tk kp dd=>#[rfl,h h' tk (λb o e=>kp b o (lt e).1 (lt e).2 e) dd]
 .simp only[ay,bG,or_false]at z
  rcases z with z|z
  .exact bv hd1 z
  .exact gL hl0 z
 .obtain⟨x1,x2⟩:=hp p hq
  obtain⟨_,y1,_⟩:=id x1;obtain⟨_,_,_,y2,_⟩:=id x2;exact#[x1,x2,(lt y1).1,(lt y1).2,(lt y2).1,(lt y2).2]
 .exact#[_,aw _ hx1,rfl,n,rfl]
 .exact WM hnew (λo e=>aw _<|k1 _ _ e) λx hx=>by cases hx
end
section
variable{X:Cx}{xw:Nat->Hp->Prop}{U:Mx}{H:Hp}
theorem yB:∀{ds:List D}{ks:List #[14]}{ys:List V},Pv.WL ds=aa ks->Rq U H ds ys->∃ps:List Pr,ps.map (·.1)=ks.map (·.map ej)/\ps.length=ys.length/\
  ∀(i:Nat)(p:Pr),ps[i]?=aa p->ys[i]?=aa (.ref p.2.2)/\H p.2.2=aa (.tup [.ref p.2.1,.bl aj])/\H p.2.1=aa (.tup<|p.1.map kV)
 |[],ks,ys,h,r=>by
  cases h;subst r;exact#[[],rfl,rfl,λi p e=>by simp at e]
 |d::ds,ks,ys,h,r=>by
  obtain⟨v,vs,rfl,r1,r2⟩:=r;obtain⟨a,e1,h⟩:=bM.mp (h)
  obtain⟨b,e2,rfl⟩:=cw.mp h;obtain⟨ps,h1,h2,h3⟩:=yB e2 r2;unfold Pv.Zep at e1;split at e1
  .split at e1
   .rename_i k b hb
    subst hb;obtain⟨p,zs,rfl,hp,rz⟩:=r1.tup';obtain⟨u,u2,rfl,ru,ru2⟩:=zw rz;rw[ru2.bl']at hp;obtain⟨q,ws,rfl,hq,rw'⟩:=ru.tup';rw[Wi e1 rw']at hq;refine#[(a.map ej,q,p)::ps,by rw[aX,h1];rfl,by simp[h2],λi y hy=>?_]
    cases i with|zero=>simp at hy;subst hy;exact#[rfl,hp,hq]|succ i=>exact h3 i y (by simpa using hy)
   .cases e1
  .cases e1
def Q4(hc:X.calm=aj)(hu:X.A.units+7<dN):ZB X (.type "dict") (Ul X.K xw .dictP):=by
 intro pq s Z H vs us Q I r h;obtain⟨U,S,ds,st,rs,h⟩:=h;obtain⟨d,v,z,rfl,r1,hz,h3⟩:=WB h rs;have hd:∃ds ks,d=.lst ds/\Pv.WL ds=aa ks/\Ev.UN ks=aj/\z=.dct (.inr ks):=by
  cases d with
  |lst ds=>
   obtain⟨ks,hk,hz⟩:=bM.mp hz;split at hz
   .cases hz;exact#[ds,ks,rfl,hk,‹_›,rfl]
   .cases hz
  |_=>exact Ev.nos hz
 obtain⟨ds,ks,rfl,hk,hok,rfl⟩:=hd;obtain⟨l,ys,rfl,hl,_,ry⟩:=r1.lst';obtain⟨u,rfl,ru⟩:=Wb r;cases ru;obtain⟨ps,p1,p2,p3⟩:=yB hk ry;obtain⟨_,its,c,rv,hg⟩:=(show Z7 X.prog X.w H s.heap l (.lst ys)from I.hok l _ hl)
 obtain⟨k1,k2⟩:=(aC _ _).mp hok;have hn:(ps.map (·.1)).Nodup:=by
  rw[p1];exact List.Pairwise.map _ (λa b ne e=>ne<|JT e)<|T6 k2
 have hlen:ps.length=ks.length:=by have:=congrArg pV p1;simpa using this
 have hz:ps.length<=bj:=by rw[hlen,<-X8];exact T6 k1
 have hp0:H s.heap.objs.size=ae:=I.hok.fresh<|aI _;refine wo #[43] #[3] hg (by rw[p2,rv.length,az]) (λi p e=>?_) (λp hp=>?_) hn hz λh' tk kp dd=>?_
 .obtain⟨w',g',ru'⟩:=rv.get (p3 i p e).1
  rw[show w'=.ref p.2.2 from ru']at g'
  simpa using g'
 .obtain⟨i,hi,e⟩:=cE hp
  obtain⟨_,a2,a3⟩:=p3 i p (by rw[<-e];exact ai hi)
  obtain⟨_,zs,rz,tz⟩:=(show Z7 X.prog X.w H s.heap p.2.2 (.tup [.ref p.2.1,.bl aj])from I.hok _ _ a2)
  refine#[?_,Gw I.hok a3];cases rz with
  |cons x rz=>cases rz with
   |cons y rz=>
    cases rz;cases(show _=dZ p.2.1 from x)
    cases(show _=bH aj from y)
    exact tz
 .obtain⟨od,es,ep,g1,g2,g3,g4,g5,g6⟩:=dd
  have hb:(s.heap.objs.size == fe)=ak:=beq_eq_false_iff_ne.mpr<|gL I.big;have hpr:∀{l:List Pr},(∀p∈l,H p.2.1=aa (.tup<|p.1.map kV))->Paired (λ(p:List Key×V) (q:List Key×aE×au)=>p.1=q.1/\upd H s.heap.objs.size (.frz od<|.dT<|ps.map λp=>(p.1,V.bl aj)) q.2.1=aa (.tup<|p.1.map kV)/\Zy p.2 q.2.2) (l.map λp=>(p.1,V.bl aj)) (l.map λp=>(p.1,p.2.1,bH aj)):=λ{l}=>by
   induction l with|nil=>intro _;exact .nil|cons p l ih=>intro hl;exact .cons #[rfl,by rw[Zj<|ZO (hl p al) hp0];exact hl p al,rfl]<|ih λq hq=>hl q<|ao _ hq
  refine#[.ref s.heap.objs.size,upd H s.heap.objs.size<|.frz od<|.dT<|ps.map λp=>(p.1,V.bl aj),I.laid (t':=tk) kp (aI _) (show Z7 X.prog X.w _ h' _ (.frz od<|.dT<|ps.map λp=>(p.1,V.bl aj))from#[g1,by rw[ax];exact hz,hb,ps.map λp=>(p.1,p.2.1,bH aj),hpr λp hp=>?_,od,es,ep,g1,g2,g3,g4,g6]),rfl,?_]
  .obtain⟨i,hi,e⟩:=cE hp
   exact(p3 i p<|by rw[<-e];exact ai hi).2.2
  .exact h3 U _ _ (Zu hp0) (st.fresh hp0) (by unfold Rep;exact#[_,rfl,od,_,Zn,by rw[bY];exact p1])
end
section
variable{X:Cx}{xw:Nat->Hp->Prop}{fr:Bool}{C:Calls}{ns:List Nat}{e a:Expr}{i:E}{pos p p' p2:gj}{n:Nat}{x:bq}{q:Option bq}
def ZcS{q}(ha:CE X xw C a i):CE X xw C (.Subscript a #[48] pos) (.dix i ak):=.mk <| PE.imp (vP Uv ha.h WW<|by intro _ _;with_unfolding_all rfl)<|by
 left;rw[Pv.ZdW]at h;refine#[U,l,S,st,lr,h.bind λx S1 ρ1 H1 v f1 st1 r1 h1=>?_]
 cases x with|drw=>obtain⟨p,rfl,hn⟩:=r1.drw';exact#[p,_,0,_,rfl,rfl,SqL.of (st1.dw p hn).1,rfl,End.ok h1 st1<|ZR _]|_=>exact h1.elim
def ZdD{q}(ha:CE X xw C a i):CE X xw C (.Subscript a (.Constant (.int 1) q p2) pos) (.dix i aj):=.mk <| PE.imp (vP Uv ha.h WW<|by intro _ _;with_unfolding_all rfl)<|by
 left;rw[Pv.ZdW]at h;refine#[U,l,S,st,lr,h.bind λx S1 ρ1 H1 v f1 st1 r1 h1=>?_]
 cases x with|drw=>obtain⟨p,rfl,hn⟩:=r1.drw';exact#[p,_,1,_,rfl,rfl,SqL.of (st1.dw p hn).1,rfl,End.ok h1 st1<|Yg _]|_=>exact h1.elim
def Zcp{q}(he:CE X xw C e i)(hN:X.N[n]?=aa x)(hv:Vis X.env.scope x)(hd:(x == #[9])=ak)
  (hcd:(x == #[15])=ak)
  (ha:∀v,eW (.Subscript (.Name x p') #[48] p) X.env v=(do
   let ov <-i8 [v] (cu (.Name x p') X.env)
   let iv <-i8 [v,ov] (cu #[48] X.env)
   lD p
   i8 [v,ov,iv] (setItem ov iv v)
   release [v,ov,iv] []))(hs:eA [.Subscript (.Name x p') #[48] p] e pos.line X.env=cF ak)(hw:eB [.Subscript (.Name x p') #[48] p] e X.env=cF ae)
  (h1:(cJ [.Subscript (.Name x p') #[48] p] X.env).map (·.2)=[eW (.Subscript (.Name x p') #[48] p) X.env]):CS X xw fr C ns (.Assign [.Subscript (.Name x p') #[48] p] e pos) (.dset n i):=.mk <|
 PS.imp (VW he.h (Zfy (Yn hN hv hd hcd) WW (jU (X:=X)) ha) hs hw h1)<|by
 right;rw[Pv.ZgA]at h;refine#[U,l,S,st,en.all,ZC.bind en h λy S1 H1 v f1 st1 r1 h1=>?_]
 cases y with
 |int y=>
  obtain⟨hk,h1⟩:=h1.guard;have hx:l[n]?=aa (aa .drw):=by
   cases z:l[n]? with
   |none=>rw[z]at h1;exact h1.elim
   |some o=>cases o with
    |none=>rw[z]at h1;exact h1.elim
    |some d=>cases d<;>rw[z]at h1<;>first|rfl|exact h1.elim
  rw[hx]at h1;obtain⟨u,hu,r⟩:=(en.mono f1).all.val n .drw hx;obtain⟨a,rfl,hn⟩:=r.drw';obtain⟨e1,_⟩:=st1.dw a hn;refine#[.ref a,hu,a,_,0,0,rfl,rfl,e1,rfl,?_];rw[r1.int'];have f2:Fut U H1 U (upd H1 a<|.lst [.int y,.bl S1.2]):=#[rfl,λb o z=>by
   by_cases c:b=a
   .subst c;rw[e1]at z;cases z;exact .inr<|.inl #[hn,_,rfl]
   .exact .inl (by rw[Zj c];exact z)]
  refine h1 _ Z W #[st1.hk,λb x=>?_,λb x=>?_,st1.tb.upd (λo u z=>by rw[e1]at z;cases z) λ_ z=>by cases z]<|(en.mono f1).mono f2
  .by_cases c:b=a
   .rw[c];show upd _ _ _ _≠ae;rw[Zn];intro z;cases z
   .show upd _ _ _ _≠ae;rw[Zj c];exact st1.xd b x
  .rw[hn]at x
   cases x;exact#[Zn,hk]
 |_=>exact h1.elim
end
open Ev in
noncomputable def WT:Fn:=#[2,4,
 [.ite (.dix (.v 0) aj) [.asg [2]<|.bin .mod (.dix (.v 0) ak)<|.v 1,
  .dset 0 (.bin .fdiv (.dix (.v 0) ak)<|.v 1),
  .ret (.v 2)] [],
  .dset 0 (.bin .mod (.bin .add (.bin .mul (.dix (.v 0) ak)<|.n 48271)<|.n 29)<|.n 2147483647),
  .asg [3] (.bin .mod (.bin .add (.bin .add (.bin .mul (.dix (.v 0) ak)<|.dix (.v 0) ak)<|.bin .mul (.n 39373)<|.dix (.v 0) ak)<|.n 7)<|.n 2147483629),
  .asg [3] (.bin .mod (.bin .add (.bin .mul (.v 3)<|.v 3)<|.bin .mul (.n 16807)<|.v 3)<|.n 2147483587),
  .ret (.bin .mod (.bin .fdiv (.v 3)<|.n 8)<|.v 1)]]
open Ev Pv in
def Wk(h0:0<=a)(h:a<4294967296):fits a=aj:=by
 refine T5 ?_;have h1:a.natAbs<2^32:=by lia
 exact br h1<|cZ #[1] #[1]
open Ev Pv in
def Ya{C:Calls}{s:Zv}{m:Int}(h:okS s.1 s.2=aj)(m0:0<m)(m1:m<1073741824):GA C WT [.drw,.int m] s=.ok (.int (X9 s m).1) (X9 s m).2:=by
 obtain⟨a,b⟩:=s;unfold okS at h;have hm:muts WT.body=[]:=rfl;unfold GA;rw[hm];have ha:0<=a:=T6 ((aC _ _).mp h).1;have lt8:(8:Int)<big:=qG #[1]
 cases b with
 |true=>
  have o2:okS (a / m) aj=aj:=by simp[okS];exact Int.ediv_nonneg ha #[0]
  simp[WT,X9,rvs,rE1,rE9,Gg,ZgA,pvA,pE1,pE2,pE7,ZdW,Y2,PR.bind,po,Zs,ZL,ofD,Xh,Pv.QW,m0,m1,qG m1,o2,hide]
 |false=>
  have hb:a<2147483647:=by simpa using((aC _ _).mp h).2
  have h1:=Wk ha #[0]
  have x0:0<=(a*48271+29)%2147483647:=by lia
  have x1:(a*48271+29)%2147483647<2147483647:=by lia
  generalize hxx:(a*48271+29)%2147483647=x at x0 x1;have y0:0<=(x*x+39373*x+7)%2147483629:=by lia
  have y1:(x*x+39373*x+7)%2147483629<2147483629:=by lia
  generalize hyy:(x*x+39373*x+7)%2147483629=y at y0 y1;have f1:=Wk x0 #[0]
  have f2:=Wk y0 #[0]
  have f3:fits 48271=aj:=Wk #[0] #[0]
  have f4:fits 39373=aj:=Wk #[0] #[0]
  have f5:fits 16807=aj:=Wk #[0] #[0]
  have o2:okS x ak=aj:=by simp[okS,x0,x1]
  simp[WT,X9,rvs,rE1,rE9,Gg,ZgA,pvA,pE1,pE2,pE7,ZdW,Y2,PR.bind,po,Zs,ZL,ofD,Xh,Pv.QW,m0,m1,lt8,h1,hxx,hyy,f1,f2,f3,f4,f5,o2,hide]
def Zcn{K:am}{F:List Fn}{tk d:Nat}:∀U S H ds vs,St3 K U S H->Rq U H ds vs->Pv.Zl F tk (d+1) tk ds S=.no\/Pv.Zl F tk (d+1) tk ds S=GA #[27] WT ds S:=λU S H ds vs st r=>by
 rw[Pv.Zl,T9 rfl];unfold Pv.Zd6;split
 .rename_i m
  obtain⟨v,u,rfl,r1,_⟩:=zw r;obtain⟨a,_,hn⟩:=r1.drw';split
  .rename_i hm
   exact .inr (Ya (st.dw a hn).2 hm.1 hm.2).symm
  .exact .inl rfl
 .exact .inl rfl
def wM{K:am}{F:List Fn}{tk n d:Nat}{fn:Fn}(hn:n≠tk)(hf:F[n]?=aa fn):∀U S H ds vs,St3 K U S H->Rq U H ds vs->Pv.Zl F tk (d+1) n ds S=.no\/Pv.Zl F tk (d+1) n ds S=GA #[27] fn ds S:=λU S H ds vs st r=>by
 rw[Pv.Zl,T8 hn,hf]
 all_goals exact .inr rfl
def Zch(h:Pv.Qj v=aa d):v=.lst [.int d.1,.bl d.2]/\Pv.okS d.1 d.2=aj:=by
 unfold Pv.Qj at h;split at h
 .split at h
  .cases h;exact#[rfl,‹_›]
  .cases h
 .cases h
def yJ{l:Lc}{i:Nat}{d:D}(h:(l.map Pv.QK)[i]?=aa (aa d)):l[i]?=aa (aa d)/\d.flat=aj:=by
 rw[aU]at h;cases q:l[i]? with
 |none=>rw[q]at h;cases h
 |some o=>
  rw[q]at h;have h:=aq h;obtain⟨a,b⟩:=Option.filter_eq_some_iff.mp h;exact#[by rw[a],b]
def jy{n:Nat}{l:Lc}{i:Nat}{d:D}(h:(Pv.Vo n l)[i]?=aa (aa d)):l[i]?=aa (aa d)/\d.flat=aj:=by
 unfold Pv.Vo at h;rw[List.getElem?_append]at h;split at h
 .obtain⟨a,b⟩:=yJ h
  rw[cM]at a;split at a
  .exact#[a,b]
  .cases a
 .rw[cB]at h
  split at h<;>cases h
def yK :(Pv.Vo n l).length=l.length:=by
 unfold Pv.Vo;rw[aN,ax,bQ,cS];omega
def tCl(X:Cx)(xw:Nat->Hp->Prop)(C:Calls)(fi:Nat)(is:List E):TE:=λZ H Q=>tA X xw (Pv.pvs C is) Z H λvs H1=>∃U ds S,St3 X.K U S H1/\Rq U H1 ds vs/\End X.K xw (Xx aj H1) U H1 Q (C fi ds S)
def ZfQ{xw:Nat->Hp->Prop}{fi:Nat}{y:bq}{es:List Expr}{is:List E}{ss:List fg}{B:List Sm}(hc:PE X #[42] (tCl X xw C fi is))(hB:CSs X xw fr C ns ss B)(hN:X.N.Nodup)
  (hi:X.N[n]?=aa x:=by rfl)(hx:L2.Loc X.env.scope x:=by first|exact Or.inl rfl|exact pD rfl)(hf:X.fn x=aj\/X.env.scope.names.lookup x=aa .local:=by first|exact .inl rfl|exact .inr rfl)
  (hs:eA [.Name x px] #[42] pos.line X.env=cF ak:=by rfl)(hw:eB [.Name x px] #[42] X.env=cF ae:=by rfl)
  (h1:(cJ [.Name x px] X.env).map (·.2)=[eW (.Name x px) X.env]:=by rfl) :
  CSs X xw fr C ns (.Assign [.Name x px] #[42] pos::ss) [.cel n fi is B]:=.mk <|
 PSs.imp (Yw (VW hc (UB hN hi hx hf) hs hw h1) hB.h)<|by
 right;have h:ZC fr X.K xw U H0 D (Pv.rv C ns (.cel n fi is B) l os S):=by
  rw[Pv.rvs]at h;cases q:Pv.rv C ns (.cel n fi is B) l os S with|no=>rw[q]at h;exact h|ex c s=>rw[q]at h;exact h|ok g s=>rw[q]at h;cases g<;>exact h
 rw[Pv.Zhq]at h;obtain⟨ho,h⟩:=h.guard;refine#[U,l,S,st,en.all,ZC.bind en h λxs S1 H1 vs f1 st1 r1 h1=>?_]
 refine#[U,xs,S1,st1,r1,ZC.bind (rep:=Xx aj H1) (en.mono f1) h1 λv S2 H2 u f2 st2 r2 h2=>?_]
 obtain⟨d,hd,h3⟩:=ZC.ob h2;obtain⟨rfl,hok⟩:=Zch hd;obtain⟨a,rfl,na⟩:=r2.2 rfl _ rfl;obtain⟨_,us,z,ea,_,ru⟩:=r2.1.lst';cases z;obtain⟨u1,u2,rfl,q1,q2⟩:=zw ru;cases q1.int';cases q2.bl';have en2:=(en.mono f1).mono f2;have nX:∀q,U.X q->q≠a:=λq x z=>st1.xd q x<|z▸na
 let ρ':Mx:=#[U.K,aa a,λq=>U.X q\/q=a,λq h=>.inr (aq h).symm]
 have st':St3 X.K ρ' d H2:=#[st2.hk,λq x=>x.elim (st2.xd q) λz=>(by rw[z,ea];intro w;cases w),λq x=>(by cases x;exact#[ea,hok]),st2.tb]
 have en':Eu ρ' H2 (λ_=>ae) ((Pv.Vo n l).set n<|aa .drw) [] (Z.set n<|aa<|.ref a) H2:=by
  refine#[Fut.refl _ _,st'.xd,by rw[bC,bC,yK];exact en.len,λ_=>rfl,λ_ _ _ z=>?_,λ_ _ z=>?_,λ_ _ z=>?_,λi w q _=>?_]
  .cases z
  .cases z
  .cases z
  .rcases GE q with⟨rfl,z,hl⟩|⟨c,z⟩
   .cases z
    exact#[.ref a,bn (by rw[<-en.len,<-yK (n:=n)];exact hl),by unfold Rep;exact#[a,rfl,rfl]]
   .obtain⟨z,hfl⟩:=jy z
    obtain⟨v,hv,r⟩:=en2.all.val i w z;exact#[v,by rw[bg c];exact hv,Rep.flat (U:=U) (ρ':=ρ'.ex λ_=>ae) rfl (λ_ _ z _ _=>z) hfl r]
 have n0:∀{b},b≠a->ρ'.n0≠aa b:=λc w=>T7 (aq w).symm c
 have keep:∀{H'},Fut ρ' H2 ρ' H'->∀b o,b≠a->H2 b=aa o->(∀ps,o≠.tbl ps)->H' b=aa o:=λ{H'} f b o c z n=>(f.keep b o z).elim id λw=>w.elim (λw=>T7 w.1<|n0 c) λ#[#[ps,e],_]=>T7 e<|n ps
 have back:∀{H':Hp}{s:Zv},Fut ρ' H2 ρ' H'->St3 X.K ρ' s H'->St3 X.K U S2 H'/\Fut U H0 U H':=λ{H' s} f w=>by
  refine#[#[st2.hk,λq x=>?_,λq x=>?_,w.tb],rfl,λb o z=>?_]
  .exact f.there (n0<|nX q x)<|st2.xd q x
  .obtain⟨e1,e2⟩:=st2.dw q x
   exact#[keep f q _ (nX q<|U.xz q x) e1 (by intro _ z;cases z),e2]
  .have ne:b≠a:=λc=>by rw[c,yG (en.mono f1) st1 na]at z;cases z
   rcases en2.fut.keep b o z with y|y|⟨e,ps,y⟩
   .rcases f.keep b o y with q|q|q
    .exact .inl q
    .exact T7 q.1<|n0 ne
    .exact .inr<|.inr q
   .exact .inr<|.inl y
   .rcases f.keep b _ y with q|⟨_,xs,q⟩|⟨_,q⟩
    .exact .inr<|.inr #[e,ps,q]
    .cases q
    .exact .inr<|.inr #[e,q]
 have backE:∀{H':Hp}{s:Zv}{W':Own}{l':Lc}{os':List Nat}{σ':L2.St},Eu ρ' H2 W' l' os' σ' H'->St3 X.K ρ' s H'->St3 X.K U S2 H'/\Eu U H0 (λ_=>ae) (l'.map Pv.QK) [] σ' H':=λ{H' s W' l' os' σ'} g w=>by
  obtain⟨a1,a2⟩:=back g.fut w;refine#[a1,a2,en.xd,by rw[ax];exact g.len,λ_=>rfl,λ_ _ _ z=>?_,λ_ _ z=>?_,λ_ _ z=>?_,λi w q _=>?_]
  .cases z
  .cases z
  .cases z
  .obtain⟨z,hfl⟩:=yJ q
   obtain⟨v,hv,r⟩:=g.all.val i w z;exact#[v,hv,Rep.flat (U:=ρ') (ρ':=U.ex λ_=>ae) rfl (λ_ _ z _ _=>z) hfl r]
 refine#[ρ',H2,λ_=>ae,_,[],d,st',en',?_]
 cases q:Pv.rvs C ns B ((Pv.Vo n l).set n<|aa .drw) [] d with
 |no=>rw[q]at h3;exact h3
 |ex c s=>rw[q]at h3;exact h3.elim
 |ok g s=>
  rw[q]at h3;cases g with
  |nx l' os'=>exact λH' σ' W' w g=>let #[a1,a2]:=backE g w;h3 H' σ' _ a1 a2
  |cnt l' os'=>exact λH' σ' W' w g=>let #[a1,a2]:=backE g w;h3 H' σ' _ a1 a2
  |ret v=>
   obtain⟨hfl,h3⟩:=ZC.guard h3;exact λH' v' f w r=>let #[a1,a2]:=back f w;h3 H' v' a2 a1 #[Rep.flat (U:=ρ') (ρ':=U) rfl (λ_ _ z _ _=>z) hfl r.1,λ_ ds z=>by rw[z]at hfl;cases hfl]
section
variable{X:Cx}{xw:Nat->Hp->Prop}{C:Calls}{a:Expr}{i:E}{pos p p2 p3:gj}
theorem u6{ta:TA}(hgt:Gl X "list")(hmt:X.mg "list" = ae)(hg:Gl X "range")(hm:X.mg "range" = ae)(hc:X.calm=aj)(ha:PA X [a] ta)(hs:aB [a] X.env=[#[37]]) :
  PE X (.Call (.Name "list" p) [.Call (.Name "range" p2) [a] [] p3] [] pos) (λZ H Q=>ta Z H λvs H1=>∃j:Int,vs=[.int j]/\0<=j/\j<=1000/\∀l,H1 l=ae->Q (.ref l) (upd H1 l<|.lst<|(aM j.toNat).map λ(k:Nat)=>V.int<|0+(k:Int))):=by
 intro pq s Z H Q I h;refine rM<|Y1 I hgt hmt (rfl)<|bU (Calls.spliced_cons ?_) rfl rfl
 refine rM<|Y1 I hg hm oh<|bU (thn (ha p3 pq s Z H _ I h) λus s1 #[vs,H1,I1,r1,q1]=>?_) hs rfl
 obtain⟨j,e,q1,q2,q⟩:=q1;subst e;cases r1 with
 |cons r rr=>
  cases rr;obtain⟨t,rfl⟩:=r;refine call_range_1<|Calls.spliced_nil ?_;have hn:fH 0 j 1=(j.toNat:Int):=by rw[nN];split<;>lia
  refine call_list_range (I1.ok.hd hc) (pU ..) (small_one #[0] #[0] #[0]<|by lia) hn #[0] λh' tk acc c' kp hl hacc=>?_
  refine#[.ref _,_,I1.laid (t':=tk) (o:=.lst<|(aM j.toNat).map λ(k:Nat)=>V.int<|0+(k:Int)) (λb o e=>kp b o<|aw _ e) ?_ #[by rw[ax,bi,du];lia,acc.toList,c',Zc7 hacc,hl],rfl,q _<|I1.hok.fresh ?_]
  .rw[cH];exact fN _
  .rw[cH];exact fN _
def vY(hmt:X.mg "list" = ae)(hm:X.mg "range" = ae)(ha:CA X xw C [a] [i])(hgt:Gl X "list")(hg:Gl X "range")(hc:X.calm=aj)(hs:aB [a] X.env=[#[37]]) :
  CF X xw C (.Call (.Name "list" p) [.Call (.Name "range" p2) [a] [] p3] [] pos) (.blt .rangeL [i]):=.mk <|
 PE.imp (u6 hgt hmt hg hm hc ha.h hs) λZ H Q #[U,l,S,st,lr,h]=>#[U,l,S,st,lr,End.bind (h) λxs S1 ρ1 H1 vs f1 st1 r1 h1=>by
  cases f1.eq;obtain⟨d,v,z,rfl,r1,hz,h1⟩:=WB h1 r1;cases d with
  |int n=>
   have hz:(if Ev.few n then aa (Pv.V.lst<|Pv.ZV 0 n.toNat)else ae)=aa z:=hz
   split at hz
   .cases hz
    have hs':=T6<|‹_›
    exact#[n,by rw[r1.int'],hs'.1,hs'.2,h1.newF f1 st st1<|V5 0<|aM n.toNat]
   .cases hz
  |_=>exact Ev.nos hz]
end
open Ev (ltI XI Yb YU)
end Sd
namespace Sd
open PySem PySem.Spec PyProof.Rows
section
open L2
open Ev (E Sm Fn Bop Cop Ty Bf Mf)
end
section
open L2
end
section
open L2
open Ev (ltI XI Yb)
open Ev (E Sm Fn Bop Cop Ty Bf Mf spcs Zhs YU)
end
end Sd
namespace Sd
open PySem PyProof.Rows L2 Ev
variable{X:Cx}{xw:Nat->Hp->Prop}{C:Calls}{ns:List Nat}{e:Expr}{i:E}{pos:gj}
end Sd
namespace Sd
open PySem PySem.Spec PyProof.Rows L2
open Ev (ltP WX Yl)
open Ev (E Sm Fn Bop Cop Ty Bf Mf ZeO Z3)
open Ev (So)
open PySem.Builtin.Str (occurrences partsBetween strKind)
end Sd
namespace Gn
open PySem PySem.Spec PyProof.Rows L2
open Ev (E Sm Fn Bop Cop Ty Bf Mf)
open Sd (Calls CompScope cxC hu7)
structure FR where
 x:bq
 st:fg
 N:List bq
 k:Nat
noncomputable def FR.ps(r:FR):List bq:=r.N.take r.k
noncomputable def scB(N:List bq)(k:Nat)(sc:dS):Bool:=
 (match sc.kind with|.function=>aj|_=>ak)&&(!sc.isCoroutine&&(!sc.isGenerator&&(decide N.Nodup&&((N.take k).all (λx=>af (sc.names.lookup x=aa .local)||decide (sc.names.lookup x=aa .cell))&&sc.names.all λy=>af<|y.2≠.free))))
def VI(h:scB N k sc=aj):FnScope N (N.take k) sc:=by
 unfold scB at h;simp only[aC,lN,T0,aY,fY]at h;obtain⟨h1,h2,h3,h4,h5,h6⟩:=h;refine#[?_,h2,h3,h4,?_,h5,h6]
 .cases e:sc.kind<;>rw[e]at h1<;>first|rfl|cases h1
 .rw[bQ]
  by_cases hk:k<=N.length
  .rw[hJ hk]
  .rw[Nat.min_eq_right #[3],gN,cG #[3]]
inductive Gv where
 |int (n:Int)|tab (t:List (Int×Int))|str (x:bq)
 deriving DecidableEq
def Zhh(K:am)(mg:bq->Option au)(x:bq):Gv->Prop
 |.int n=>∃t:rJ,mg x=aa (.int n t)
 |.str z=>∃t:rJ,mg x=aa (.str z t)
 |.tab t=>∃tb:aE,(∀P w,Sd.Zg7 P w K tb t)/\mg x=aa (.ref tb)
structure Top(K:am)(mg:bq->Option au)(fs:List FR)(zs:List bq)(gs:List (bq×Gv))(f:Nat->aE)(fd:Nat->cQ):Prop where
 d:∀i r,fs[i]?=aa r->Fun K r.x r.x r.st (f i) (fd i)
 b:∀i r,fs[i]?=aa r->Vl K (fd i) r.ps []
 m:∀i r,fs[i]?=aa r->mg r.x=aa (.ref<|f i)
 z:∀x∈zs,mg x=ae
 g:∀y∈gs,Zhh K mg y.1 y.2
def Jz(r:FR):Prop:=∀(kV doc pm:au)(an:Option aE)(cdv ct:au)(us:List au),us.length=r.ps.length->m9 (eU r.x r.x (Xc r.st) (ZA r.st) (Zh r.st) .none kV doc pm an cdv ct) #[us,[]]=cF (r.ps.zip us)
section
variable{x:bq}{st:fg}
abbrev bA(x:bq)(st:fg)(kV doc pm:au)(an:Option aE)(cdv ct:au)(us:List au):=m9 (eU x x (Xc st) (ZA st) (Zh st) .none kV doc pm an cdv ct) #[us,[]]
def bd1(h:∀kV doc pm an cdv ct a0,bA x st kV doc pm an cdv ct [a0]=cF ((N.take n).zip [a0]))(hl:(N.take n).length=1:=by rfl):Jz #[x,st,N,n]:=λkV doc pm an cdv ct us e=>match us,e.trans hl with|[a0],_=>h kV doc pm an cdv ct a0
def bd2(h:∀kV doc pm an cdv ct a0 a1,bA x st kV doc pm an cdv ct [a0,a1]=cF ((N.take n).zip [a0,a1]))(hl:(N.take n).length=2:=by rfl):Jz #[x,st,N,n]:=λkV doc pm an cdv ct us e=>match us,e.trans hl with|[a0,a1],_=>h kV doc pm an cdv ct a0 a1
def bd3(h:∀kV doc pm an cdv ct a0 a1 a2,bA x st kV doc pm an cdv ct [a0,a1,a2]=cF ((N.take n).zip [a0,a1,a2]))(hl:(N.take n).length=3:=by rfl):Jz #[x,st,N,n]:=λkV doc pm an cdv ct us e=>match us,e.trans hl with|[a0,a1,a2],_=>h kV doc pm an cdv ct a0 a1 a2
def bd4(h:∀kV doc pm an cdv ct a0 a1 a2 a3,bA x st kV doc pm an cdv ct [a0,a1,a2,a3]=cF ((N.take n).zip [a0,a1,a2,a3]))(hl:(N.take n).length=4:=by rfl):Jz #[x,st,N,n]:=λkV doc pm an cdv ct us e=>match us,e.trans hl with|[a0,a1,a2,a3],_=>h kV doc pm an cdv ct a0 a1 a2 a3
end
inductive FnsAt(K:am):List FR->List aE->List cQ->Prop
 |nil:FnsAt K [] [] []
 |cons {x:bq} {st:fg} {N:List bq} {n:Nat} {a:aE} {rs:List FR} {as:List aE} {fds:List cQ} {oc kV dc pm cd ct:au} {od an:Option aE} {sl:Array (Option au)}
   (h1:gO K bB x=aa (aa<|.ref a)) (h2:K.lookup a=aa #[oc,od,.func<|eU x x (Xc st) (ZA st) (Zh st) .none kV dc pm an cd ct,sl])
   (h3:kR K cd x=aj) (h4:fI K (.ref a)=aj) (h5:Jz #[x,st,N,n]) (t:FnsAt K rs as fds) :
   FnsAt K (#[x,st,N,n]::rs) (a::as) (eU x x (Xc st) (ZA st) (Zh st) .none kV dc pm an cd ct::fds)
inductive ZsAt(K:am):List bq->Prop
 |nil:ZsAt K []
 |cons {x:bq} {zs:List bq} (h:gO K bB x=aa ae) (t:ZsAt K zs):ZsAt K (x::zs)
inductive GsAt(K:am):List (bq×Gv)->Prop
 |nil:GsAt K []
 |cons {x:bq} {n:Int} {u:rJ} {gs:List (bq×Gv)} (h:gO K bB x=aa (aa<|.int n u)) (t:GsAt K gs):GsAt K ((x,.int n)::gs)
 |tab {x:bq} {a:aE} {es:Array l9} {n:Nat} {tb:List (Int×Int)} {gs:List (bq×Gv)} (h:gO K bB x=aa (aa<|.ref a)) (h2:K.lookup a=aa #[.type "dict",ae,.dict es n,#[]]) (h3:Sd.Xn es.toList tb) (h4:(a == fe)=ak) (t:GsAt K gs):GsAt K ((x,.tab tb)::gs)
 |str {x z:bq} {u:rJ} {gs:List (bq×Gv)} (h:gO K bB x=aa (aa<|.str z u)) (t:GsAt K gs):GsAt K ((x,.str z)::gs)
theorem GsAt.get{K:am}{h:cy}{mg:bq->Option au}(X:K.In h)(G:h.Ns bB mg):∀{gs:List (bq×Gv)},GsAt K gs->∀y∈gs,Zhh K mg y.1 y.2
 |_,.nil,x,h=>by simp at h
 |_,.cons h t,x,m=>by
  rcases ay.mp m with rfl|m
  .exact#[_,ke X G h]
  .exact t.get X G x m
 |_,.str h t,x,m=>by
  rcases ay.mp m with rfl|m
  .exact#[_,ke X G h]
  .exact t.get X G x m
 |_,.tab h h2 h3 h4 t,x,m=>by
  rcases ay.mp m with rfl|m
  .exact#[_,λP w=>Sd.Zdj h2 h3 h4,ke X G h]
  .exact t.get X G x m
theorem FnsAt.get{K:am}{fd0:cQ}:∀{fs:List FR}{as:List aE}{fds:List cQ},FnsAt K fs as fds->∀i r,fs[i]?=aa r->
  gO K bB r.x=aa (aa<|.ref<|as.getD i 0)/\Fun K r.x r.x r.st (as.getD i 0) (fds.getD i fd0)/\Jz r
 |_,_,_,.nil,i,r,e=>by simp at e
 |_,_,_,.cons h1 h2 h3 h4 h5 t,0,r,e=>by
  simp at e;subst e;exact#[h1,Zgu h2 h3 h4,h5]
 |_,_,_,.cons h1 h2 h3 h4 h5 t,i+1,r,e=>by
  obtain⟨a,b,c⟩:=t.get i r (by simpa using e)
  exact#[by simpa using a,by simpa using b,c]
theorem ZsAt.get{K:am}:∀{zs:List bq},ZsAt K zs->∀x∈zs,gO K bB x=aa ae
 |_,.nil,x,h=>by simp at h
 |_,.cons h t,x,m=>by
  rcases ay.mp m with rfl|m
  .exact h
  .exact t.get x m
def Top.no{K:am}{mg:bq->Option au}{x:bq}(T:Top K mg fs zs gs f fd)(h:zs.contains x=aj):mg x=ae:=T.z x (by simpa using h)
noncomputable def csB(sc:dS)(N0:List bq)(scope:dS)(N:List bq)(cap:List Nat)(nl:Nat):Bool:=
 ((N.take nl).all (λx=>af (scope.names.lookup x=aa .local)||decide (scope.names.lookup x=aa .cell))&&(af (N.length=nl+cap.length)&&(cap.zipIdx.all (λp=>af (N[nl+p.2]?=N0[p.1]?)&&af ((N0[p.1]?).map (λx=>af<|(x,bI)∈scope.names)=aa aj)) &&
  ((match scope.kind with|.function=>aj|_=>ak)&&scope.names.all λy=>(!decide (y.2=.cell) || !decide ((y.1,bI)∈scope.names))&&((!decide (y.2=.local)||decide (scope.names.lookup y.1=aa .local))&&(!decide (y.2=.free)||((af (sc.names.lookup y.1=aa .cell)||decide (sc.names.lookup y.1=aa .free))&&af (scope.names.lookup y.1≠aa .local))))))))
def Zfn{sc:dS}{N0:List bq}{scope:dS}{N:List bq}{cap:List Nat}{nl:Nat}(h:csB sc N0 scope N cap nl=aj):CompScope sc N0 scope N cap nl:=by
 unfold csB at h;simp only[aC,fY,lN,T0,decide_eq_false_iff_not,aY]at h;obtain⟨_,h1,h2,h3,h4⟩:=h;refine#[?_,λy hy z=>(h4 y hy).1.resolve_left λq=>q z,λy hy z=>?_,λy hy z=>?_,λy hy z=>?_,h1,h2]
 .cases e:scope.kind<;>rw[e]at h3<;>first|rfl|cases h3
 .rcases(h4 y hy).2.1 with q|q
  .exact T7 z q
  .exact q
 .rcases(h4 y hy).2.2 with q|q
  .exact T7 z q
  .exact q.1
 .rcases(h4 y hy).2.2 with q|q
  .exact T7 z q
  .exact q.2
noncomputable def cN(scope:dS)(nl:Nat)(cap:List Nat)(N0:List bq):List bq:=((scope.names.drop 1).take nl).map (·.1)++cap.map λi=>N0.getD i ""
def xJ{sc:dS}{N0:List bq}{scope:dS}{cap:List Nat}{nl:Nat}(h:csB sc N0 scope (cN scope nl cap N0) cap nl=aj):CompScope sc N0 scope (cN scope nl cap N0) cap nl:=Zfn h
end Gn
namespace Sd
open PySem PySem.Spec PyProof.Rows L2
def Fly(h:cy)(e T C:aE):Prop:=
 ∃(oe:fW)(vs:Array au)(a0:au)(oT:fW)(ts:Array au),h.get? e=aa oe/\(oe.cls=.ref C/\vs[0]?=aa a0)/\oe.data=.fields vs/\vs[1]?=aa (.ref T)/\T≠e/\h.get? T=aa oT/\oT.data=.fields ts/\ts[3]?=aa .none
def CX1(P:bE)(w:bZ):CXT:=λouter H s E e s'=>
 ∃(a T C:aE)(H':Hp),e=.ref a/\s'.os=s.os/\i7 s'.gens/\Un (frs outer) [] H H' s.heap s'.heap/\HOk P w H' s'.heap/\Fly s'.heap a T C/\s.heap.get? a=ae/\s.heap.get? T=ae/\H' a=ae/\H' T=ae/\E (.ref C) ae H'
def Z7.there(x:Z7 P w H h a o):∃u,h.get? a=aa u:=by
 cases o with|lst xs=>obtain⟨_,_,_,_,e⟩:=x;exact#[_,e]|tup xs=>obtain⟨_,_,_,_,e,_⟩:=x;exact#[_,e]|dK kvs=>obtain⟨_,_,_,_,o,_,_,e,_⟩:=x;exact#[_,e]|dT kvs=>obtain⟨_,_,_,_,o,_,_,e,_⟩:=x;exact#[_,e]|own y=>obtain⟨_,e⟩:=x;exact#[_,e]|frz ob u=>obtain⟨e,_⟩:=x;exact#[_,e]|tbl ps=>exact#[_,(x)]
theorem FunFrames.rebase{h h' base base':cy}:∀{l:List Env},h.FunFrames base l->(∀b∈frs l,∀o,h.get? b=aa o->∃sl,h'.get? b=aa {o with slots:=sl})->(∀b∈frs l,base'.get? b=ae)->h'.FunFrames base' l
 |[],_,_,_=>trivial
 |env::l,#[hk,#[L,o,hf,hn,ho,hd],hr],k,n=>by
  have hm:L∈frs (env::l):=by unfold frs;rw[cD,hf];exact al ..
  obtain⟨sl,e⟩:=k L hm o ho;refine#[hk,#[L,_,hf,n L hm,e,hd],FunFrames.rebase hr (λb hb=>k b ?_) λb hb=>n b ?_]
  all_goals unfold frs at hb ⊢;rw[cD,hf];exact ao _ hb
structure DefX(X:Cx)(E:XK):Prop where
 xe:X.xe=λe s'=>bf (aV X.prog X.w) X.A (leaving X.env e) (λ_ s''=>CX1 X.prog X.w X.outer X.H₀ X.s₀ E e s'') (λe' s''=>CX1 X.prog X.w X.outer X.H₀ X.s₀ E e' s'') s'
 st:X.stack=X.env::X.outer
 fr:X.env.frame=aa X.env.locals
 ex:X.ex=[]
section
variable{X:Cx}{E:XK}{pq:List (aE×fW)}{Z:L2.St}{H H':Hp}{s s':aA}
def Inv.outside(D:DefX X E)(I:Inv X pq Z H s)(un:Un (frs X.stack) [] H H' s.heap s'.heap)(hos:s'.os=s.os)(bare:i7 s'.gens)(hok:HOk X.prog X.w H' s'.heap)(na:s.heap.get? a=ae)(Ha:H' a=ae)
   (hh:∀b∈hid,b∈frs X.stack\/(s.heap.get? b=ae/\H' b=ae))(st:(fv s'.heap hid).StaysIn h')(up:s'.heap.UpToSlots h')(fl:Fly h' a T C)(hT:(fv s'.heap hid).get? T=ae)(hE:E (.ref C) ae H') :
  CX1 X.prog X.w X.outer X.H₀ X.s₀ E (.ref a) {s' with heap:=h' }:=by
 have U1:=I.base;rw[D.ex]at U1;have sub:∀b∈frs X.outer,b∈frs X.stack:=λb hb=>by
  rw[D.st];unfold frs at hb ⊢;rw[cD,D.fr];exact ao _ hb
 have own:∀b o,X.s₀.heap.get? b=aa o->b∈frs X.stack->b∈frs X.outer:=λb o e hb=>by
  rw[D.st]at hb;unfold frs at hb ⊢;rw[cD,D.fr]at hb;rcases ay.mp hb with z|z
  .exact T7 (aQ e) (by rw[z];exact mn I.ok.above)
  .exact z
 have nx:∀b:aE,b∉([]:List aE):=λb=>by simp
 have frN:∀b∈frs X.stack,H' b=ae:=λb hb=>by
  obtain⟨_,o,ho,_⟩:=I.stack.mem hb;exact un.free b o ho (I.stkFree b hb)<|nx b
 have hidN:∀b∈hid,H' b=ae:=λb hb=>by
  rcases hh b hb with z|z
  .exact frN b z
  .exact z.2
 have old:∀b o,s.heap.get? b=aa o->b∉frs X.stack->b∉hid:=λb o e hb hm=>by
  rcases hh b hm with z|z
  .exact hb z
  .rw[e]at z;cases z.1
 have keep:=λb u e n=>st b u<|gV _ e n
 have nof:∀b∈frs X.stack,∀o,s'.heap.get? b=aa o->∀vs,o.data≠.fields vs:=λb hb o e=>by
  obtain⟨_,o1,ho,hd⟩:=I.stack.mem hb;obtain⟨sl,e1⟩:=un.any ho (I.stkFree b hb)<|nx b;rw[e]at e1;cases e1;exact hd
 have frS:=λb hb o e=>up b o e<|nof b hb o e
 have trk:∀b u,H' b=aa u->b∉hid:=λb u e hm=>by rw[hidN b hm]at e;cases e
 have hT2:∀o,s'.heap.get? T=aa o->H' T=ae/\s.heap.get? T=ae\/False:=λo e=>by
  by_cases hm:T∈hid
  .rcases hh T hm with z|z
   .obtain⟨oe,vs,a0,oT,ts,_,_,_,_,_,g1,g2,_⟩:=fl
    obtain⟨sl,e2⟩:=frS T z o e;rw[g1]at e2;cases e2;exact T7 g2<|nof T z o e ts
   .exact .inl #[z.2,z.1]
  .rw[gV _ e hm]at hT;cases hT
 have there:∀b o,X.s₀.heap.get? b=aa o->∃o',s'.heap.get? b=aa o':=λb o e=>by
  obtain⟨o1,e1⟩:=U1.there b o e<|nx b;exact un.there b o1 e1<|nx b
 refine#[a,T,C,H',rfl,hos.trans I.os,bare,#[λb o e n hb _=>?_,λb o e n hb _=>?_,λb o e n _=>?_,λb o e _=>?_,λb xs e=>un.tups b xs<|U1.tups b xs e,λb o u e=>un.frzs b o u<|U1.frzs b o u e,λb ps e=>?_],λc o e=>?_,fl,?_,?_,Ha,?_,hE]
 .have e1:=U1.keep b o e n hb (nx b)
  have hn:=λz=>hb<|own b o e z
  exact keep b o (un.keep b o e1 (U1.free b o e n<|nx b) hn<|nx b)<|old b o e1 hn
 .obtain⟨sl,e1⟩:=U1.slot b o e n hb (nx b)
  obtain⟨sl2,e2⟩:=un.slot b _ e1 (U1.free b o e n<|nx b) (sub b hb)<|nx b;obtain⟨sl3,e3⟩:=frS b (sub b hb) _ e2;exact#[sl3,e3]
 .obtain⟨o1,e1⟩:=U1.there b o e (nx b)
  exact un.free b o1 e1 (U1.free b o e n<|nx b)<|nx b
 .obtain⟨o1,e1⟩:=U1.there b o e (nx b)
  obtain⟨o2,e2⟩:=un.there b o1 e1<|nx b;by_cases hm:b∈frs X.stack
  .obtain⟨sl,e3⟩:=frS b hm o2 e2
   exact#[_,e3]
  .exact#[o2,keep b o2 e2<|old b o1 e1 hm]
 .obtain⟨m1,e1⟩:=U1.tbls b ps e
  obtain⟨m2,e2⟩:=un.tbls b _ e1;exact#[m1++m2,by rw[e2,n6]]
 .refine(hok c o e).stay (λb u hb q=>?_) (λ_ q=>q) λ_ _ q=>q
  rcases hb with rfl|hb
  .exact keep _ u q<|trk _ _ e
  .exact keep _ u q<|trk _ _ hb
 .cases q:X.s₀.heap.get? a with
  |none=>rfl
  |some o=>
   obtain⟨o1,e1⟩:=U1.there a o q<|nx a;rw[na]at e1;cases e1
 .cases q:X.s₀.heap.get? T with
  |none=>rfl
  |some o=>
   obtain⟨o1,e1⟩:=U1.there T o q<|nx T;obtain⟨o2,e2⟩:=un.there T o1 e1<|nx T;rcases hT2 o2 e2 with z|z
   .rw[e1]at z;cases z.2
   .exact z.elim
 .cases q:H' T with
  |none=>rfl
  |some u=>
   obtain⟨o,e⟩:=Z7.there<|hok T u q;rcases hT2 o e with z|z
   .rw[q]at z;cases z.1
   .exact z.elim
def Zbz(D:DefX X E):V1 (CX1 X.prog X.w) X E:=by
 rintro pq Z H s e s' I ⟨a,T,C,H',rfl,os,bare,un,hok,fly,na,nT,Ha,HT,hE⟩
 rw[D.xe];have nx:∀b:aE,b∉([]:List aE):=λb=>by simp
 have hfr:X.A.frames=aa (X.env::X.outer):=by rw[<-D.st];exact I.ok.frames
 let hid:=frs X.stack++[a,T]
 have hin:∀b∈frs X.stack,b∈hid:=λb hb=>cX _ hb
 have FF:s'.heap.FunFrames (fv s'.heap hid) (X.env::X.outer):=by
  rw[<-D.st];exact FunFrames.rebase I.stack (λb hb o e=>un.any e (I.stkFree b hb)<|nx b) λb hb=>dq _<|hin b hb
 obtain⟨oe,vs,a0,oT,ts,f1,f2,f3,f4,f5,f6,f7,f8⟩:=fly;refine wpAny_leaves_onW hfr D.fr #[λb o e=>hV _ e,dq _<|bt _<|al ..,FF,oe,vs,T,oT,ts,f1,f2,f3,f4,dq _<|bt _<|ao _<|al ..,f5,f6,f7,f8] λh' fl' up=>?_
 obtain⟨g1,_,_,oe',vs',T',oT',ts',e1,e2,e3,e4,e5,e6,e7,e8,e9⟩:=fl';refine Inv.outside D I un os bare hok na Ha (λb hb=>?_) g1 up #[oe',vs',a0,oT',ts',e1,e2,e3,e4,e6,e7,e8,e9] e5 hE
 rcases bK.mp hb with z|z
 .exact .inl z
 .rcases ay.mp z with rfl|z
  .exact .inr #[na,Ha]
  .rw[aT.mp z];exact .inr #[nT,HT]
end
open Ev (E Sm Fn Bop Cop Ty Bf Mf)
noncomputable abbrev veM:List au:=[.type "ValueError",.type "Exception",.type "BaseException",.type "object"]
structure Cls1(h:cy)(S C:aE):Prop where
 ob:∃bm N nm q bs hdct sn sub ab col dd k0 k1 k2 k3 k5 mN,h.get? C=aa (excClassObj nm q C N bs bm hdct sn sub ab col dd k0 k1 k2 k3 k5 "ValueError.__new__")/\h.Ns N mN/\mN "__init__" = ae/\OwnTail h veM bm
section
variable{X:Cx}{E:XK}{S C:aE}{x:bq}{np cpos pos:gj}{e:Expr}{es:List Expr}{t:TA}
def Zf0(C:aE)(E:XK)(t:TA):TS:=λ_ Z H=>t Z H λvs H'=>vs.length<=bj/\E (.ref C) ae H'
def z7(D:DefX X E)(hc:X.calm=aj)(O:Cls1 X.base S C)(hg:Gl X x)(hm:X.mg x=aa (.ref C))(ha:PA X (e::es) t)(hd:(x == #[9])=ak)
  (he:aB (e::es) X.env=#[20]::aB es X.env)(hpl:(dG cpos<|aB es X.env).any (·.1)=ak) :
  PS X (.Raise (aa<|.Call (.Name x np) (e::es) [] cpos) ae pos) (Zf0 C E t):=by
 intro pq s Z H Dn I h;obtain⟨bm,N,nm,q,bs,hdct,sn,sub,ab,col,dd,k0,k1,k2,k3,k5,mN,hC,hN,hi,tl⟩:=O.ob;refine wpAny_Raise_call_subT (nm:=nm) (q:=q) (N:=N) (bs:=bs) (hdct:=hdct) (sn:=sn) (sub:=sub) (ab:=ab) (col:=col) (dd:=dd) (k0:=k0) (k1:=k1) (k2:=k2) (k3:=k3) (k5:=k5)
  PySem.F.excBase_ValueError (tl.hasType PySem.F.excBase_ValueError.hasBase) #[43] (by rw[he];show(ak||(dG cpos<|aB es X.env).any (·.1))=ak;rw[hpl];rfl) hi (Vv I hg hm #[rfl,?_] hd)
 have ha':=ha cpos pq s Z H _ I h;rw[he]at ha' ⊢;refine Calls.evalArgs_plain<|cW ha' (λus s2 #[vs,H2,I2,r2,hl,hE]=>#[rfl,by rw[<-r2.length];exact hl,I2.bk _ _ hC,hN.keeps I2.bk,tl.keeps I2.bk,λh' a hx=>?_]) λ_ _ y=>y
 rw[D.xe];have hfr:X.A.frames=aa (X.env::X.outer):=by rw[<-D.st];exact I2.ok.frames
 let hid:=frs X.stack
 have FF:s2.heap.FunFrames (fv s2.heap hid) (X.env::X.outer):=by
  rw[<-D.st];exact FunFrames.rebase I2.stack (λb hb o e=>#[o.slots,e]) λb hb=>dq _ hb
 have nx:∀b:aE,b∉([]:List aE):=λb=>by simp
 refine wpAny_leaves_madeW hfr D.fr (λb o e=>hV _ e) FF hx λh2 t fl _ _ up=>?_
 obtain⟨g1,_,_,oe,vs',T,oT,ts,e1,e2,e3,e4,e5,e6,e7,e8,e9⟩:=fl;have na:=hx.new;have Ha:H2 a=ae:=by
  cases q:H2 a with
  |none=>rfl
  |some u=>
   obtain⟨o,e⟩:=Z7.there<|I2.hok a u q;rw[na]at e;cases e
 exact Inv.outside (s':=s2) (H':=H2) D I2 (Un.kept λb o e=>e) rfl I2.bare I2.hok na Ha (λb hb=>.inl hb) g1
  ((cy.UpToSlots.of_keeps hx.keeps).trans up) #[oe,vs',.ref t,oT,ts,e1,e2,e3,e4,e6,e7,e8,e9] e5 hE
abbrev TJ:=L2.St->Hp->(Hp->Prop)->Prop
noncomputable def tJn:TJ:=λ_ H Q=>Q H
def tJf(te:TE)(t:TJ):TJ:=λZ H Q=>te Z H λx H1=>∃i:Int,x=.int i/\Ev.Yt i=aj/\t Z H1 Q
def PJ(X:Cx)(es:List Expr)(m:Nat)(t:TJ):Prop:=
 ∀(out:bq)(pq:List (aE×fW))(s:aA)(Z:L2.St)(H:Hp)(Q:Hp->Prop),L2.Inv X pq Z H s->out.length+m<=bj->t Z H Q->
  bf #[10] X.A (joinParts out<|evalEach es X.env) (λu s'=>∃y H',L2.Inv X pq Z H' s'/\Zy (.str y) u/\Q H') X.xe s
theorem Zfx:PJ X [] 0 tJn:=λout pq s Z H Q I hl h=>joinParts_nil #[out,H,I.tok _,#[_,rfl],h] #[0]
theorem Zia{m:Nat}{y:bq}{j:Nat}{pos:gj}(hr:PJ X es m tj):PJ X (.Constant (.str y) j pos::es) (y.length+m) tj:=λout pq s Z H Q I hl h=>by
 refine joinParts_cons<|Calls.Constant_str ?_;have hz:(out++y).length=out.length+y.length:=strLen_append _ _;exact#[by lia,hr (out++y) pq _ Z H Q (I.tok _) #[0] h]
theorem qp{i:Int}(h:Ev.Yt i=aj):i.natAbs.log2<63:=by
 have:=T6 h;by_cases hz:i.natAbs=0
 .rw[hz];decide
 .exact(pY hz).mpr #[0]
theorem ZhR{m:Nat}{pos:gj}{te:TE}(he:PE X e te)(hr:PJ X es m tj):PJ X (.FormattedValue e (-1) ae pos::es) (64+m) (tJf te tj):=λout pq s Z H Q I hl h=>by
 refine joinParts_cons<|FormattedValue_plain<|thn (he pq s Z H _ I h) λu s1 #[v,H1,I1,r,i,hv,hs,q]=>?_
 subst hv;obtain⟨tk,rfl⟩:=r;have hl63:=qp hs;refine formatField_int_small #[0] ?_
 have hz:(kN<|toString i).length<=64:=by
  have:=int_text_length_le #[0] hl63
  rw[PySem.ofString_length];exact this
 have hz2:(out++kN (toString i)).length=out.length+(kN<|toString i).length:=strLen_append _ _;exact#[by lia,hr _ pq _ Z H1 Q ((I1.tok _).tok _) #[0] q]
theorem ZdS{m:Nat}{v1 v2:Expr}{rest:List Expr}{jp:gj}(h:PJ X #[23] m tj)(hm:m<=bj)(hs:aB [.JoinedStr #[23] jp] X.env=(ak,cu (.JoinedStr #[23] jp) X.env)::aB [] X.env) :
  PA X [.JoinedStr #[23] jp] (λZ H Q=>tj Z H λH'=>∀y,Q [.str y] H'):=λpos pq s Z H Q I q=>by
 rw[hs];refine Calls.spliced_cons<|JoinedStr_many (pos:=jp)<|thn (h bq.empty pq s Z H _ I (by show 0+m<=_;lia) q) λu s1 #[y,H1,I1,r,q1]=>?_
 exact Calls.spliced_nil #[[.str y],H1,I1,.cons r .nil,q1 y]
end
def xwE(cl:List aE)(E:XK):Nat->Hp->Prop:=λc H=>∃C,cl[c]?=aa C/\E (.ref C) ae H
def End.ex_mono{B β:Type}{K:am}{xw xw':Nat->Hp->Prop}{U:Mx}{H:Hp}{rep:Mx->Hp->B->β->Prop}{Q:β->Hp->Prop}{r:R B}(k:∀c H,xw c H->xw' c H)(h:End K xw rep U H Q r):End K xw' rep U H Q r:=by
 cases r with|ok d S=>exact h|ex c S=>exact λρ' H' f st=>k c H'<|h ρ' H' f st|no=>exact h
section
variable{X:Cx}{E:XK}{S C:aE}{x:bq}{np cpos pos jp p:gj}{e v1 v2:Expr}{es rest:List Expr}{xw:Nat->Hp->Prop}{cl:List aE}{Cc:Calls}{fr:Bool}{ns:List Nat}{n m:Nat}{is:List Ev.E}{i:Ev.E}
def ZbH(D:DefX X E)(hc:X.calm=aj)(O:Cls1 X.base S C)(hn:cl[n]?=aa C)(hg:Gl X x)(hm:X.mg x=aa (.ref C))(hd:(x == #[9])=ak)
  (he:aB [.Constant (.str y) j p] X.env=(ak,cu (.Constant (.str y) j p) X.env)::aB [] X.env)(hpl:(dG cpos<|aB [] X.env).any (·.1)=ak) :
  CS X #[28] fr Cc ns (.Raise (aa<|.Call (.Name x np) [.Constant (.str y) j p] [] cpos) ae pos) (.raise n []):=.mk <|
 PS.imp (z7 D hc O hg hm (Zz GC Ym he) hd he hpl)<|by
  rintro Dn Z H ⟨U,H0,W,l,os,S,st,en,h⟩;refine#[by show 1<=bj;decide,?_]
  have h:=h;obtain⟨C',e1,e2⟩:=h H en.fut st;rw[hn]at e1;cases e1;exact e2
structure CJ(X:Cx)(xw:Nat->Hp->Prop)(Cc:Calls)(es:List Expr)(m:Nat)(is:List Ev.E):Prop where
 h:PJ X es m λZ H Q=>∃U l S,St3 X.K U S H/\LocR U H l Z/\End X.K xw Rq U H (λ_ H'=>Q H') (Pv.pvs Cc is l S)
def PJ.imp{t t':TJ}(h:PJ X es m t)(k:∀Z H Q,t' Z H Q->t Z H Q):PJ X es m t':=λout pq s Z H Q I hl q=>h out pq s Z H Q I hl<|k Z H Q q
def Zft:CJ X xw Cc [] 0 []:=.mk <| PJ.imp Zfx<|by left;exact h U H [] (Fut.refl _ _) st Rq.nil
def Zio{y:bq}{j:Nat}(hr:CJ X xw Cc es m is):CJ X xw Cc (.Constant (.str y) j p::es) (y.length+m) is:=.mk <| Zia hr.h
def Zii(he:CE X xw Cc e i)(hr:CJ X xw Cc es m is):CJ X xw Cc (.FormattedValue e (-1) ae p::es) (64+m) (.fi i::is):=.mk <|
 PJ.imp (ZhR he.h hr.h)<|by
  left;have h:End X.K xw Rq U H (λ_ H'=>Q H') (((Pv.pv Cc i l S).bind λx S=>match x with
   |.int i=>if Ev.Yt i=aj then Pv.PR.ok (Pv.V.int i) S else .no
   |_=>.no).bind λx S=>(Pv.pvs Cc is l S).bind λxs S=>.ok (x::xs) S):=by
   have:=h;rw[Pv.pvs,Pv.ZhS]at this;exact this
  refine#[U,l,S,st,lr,?_];cases q:Pv.pv Cc i l S with
  |no=>rw[q]at h;exact h.elim
  |ex c S1=>rw[q]at h;exact h
  |ok d S1=>
   rw[q]at h;intro ρ1 H1 v f1 st1 r1;have h:=End.mono f1 h;cases d with
   |int k=>
    change End X.K xw Rq ρ1 H1 (λ_ H'=>Q H') ((if Ev.Yt k=aj then Pv.PR.ok (Pv.V.int k) S1 else .no).bind _)at h
    by_cases hk:Ev.Yt k=aj
    .rw[T9 hk]at h
     have e1:v=.int k:=by unfold Rep at r1;exact r1
     refine#[k,e1,hk,ρ1,l,S1,st1,lr.mono f1,?_];exact End.bind h λxs S2 ρ2 H2 vs f2 st2 r2 h2=>h2 ρ2 H2 (v::vs) (Fut.refl _ _) st2<|Rq.cons (Rep.mono f2 r1) r2
    .rw[T8 hk]at h
     exact h.elim
   |_=>exact h.elim
def uA(D:DefX X E)(hc:X.calm=aj)(O:Cls1 X.base S C)(hn:cl[n]?=aa C)(hj:CJ X #[28] Cc #[23] m is)(hml:m<=bj)(hg:Gl X x)(hm:X.mg x=aa (.ref C))(hd:(x == #[9])=ak)
  (he:aB [.JoinedStr #[23] jp] X.env=(ak,cu (.JoinedStr #[23] jp) X.env)::aB [] X.env)(hpl:(dG cpos<|aB [] X.env).any (·.1)=ak) :
  CS X #[28] fr Cc ns (.Raise (aa<|.Call (.Name x np) [.JoinedStr #[23] jp] [] cpos) ae pos) (.raise n is):=.mk <|
 PS.imp (z7 D hc O hg hm (ZdS hj.h hml he) hd he hpl)<|by
  rintro Dn Z H ⟨U,H0,W,l,os,S,st,en,h⟩;refine#[U,l,S,st,en.all,?_];have h:=h
  exact ZC.bind en h λxs S1 H1 vs f1 st1 r1 h1 y=>by
   refine#[by show 1<=bj;decide,?_]
   obtain⟨C',e1,e2⟩:=h1 H1 (en.fut.trans f1) st1;rw[hn]at e1;cases e1;exact e2
def spX(K:am)(cl:List aE)(C:Calls)(fr:Bool)(n:Nat):Sp:=λvs H Q E=>∃U ds S,St3 K U S H/\Rq U H ds vs/\End K #[28] (Xx fr H) U H Q (C n ds S)
def yx{kk:Nat}{f:aE}{fd:cQ}{ps:List bq}(F:FnOk X.prog X.w X.K X.mg X.base (CX1 X.prog X.w) kk f fd ps (spX X.K cl Cc fr n))(hr:Room kk X.A)(hx:V1 (CX1 X.prog X.w) X E)(hw:∀c H,xw c H->xwE cl E c H)(hm:X.mg x=aa (.ref f))(hk:fI X.K (.ref f)=aj)(hb:Vl X.K fd ps [])
  (ha:CA X xw Cc (e::es) is)(hg:Gl X x)(hdb:(x == #[9])=ak)(he:aB (e::es) X.env=#[20]::aB es X.env)(hpl:(dG pos<|aB es X.env).any (·.1)=ak) :
  CE X xw Cc #[17] (.call n is):=.mk <|
 PE.imp (GV F hr hg hm hk hb .nil hx ha.h hdb he hpl) λZ H Q #[U,l,S,st,lr,h]=>
  #[U,l,S,st,lr,End.bind (h) λxs S1 ρ1 H1 vs f1 st1 r1 h1=>by
   rw[bO];exact#[ρ1,xs,S1,st1,r1,(End.ex_mono hw h1).fr]]
theorem End.new{K:am}{xw:Nat->Hp->Prop}{U:Mx}{H H1:Hp}{Q:VK}{r:R D}{S0:Zv}(f:Fut U H U H1)(st:St3 K U S0 H1)(h:End K xw (Xx aj H) U H1 Q r):End K xw (Xx aj H1) U H1 Q r:=by
 cases r with|ok d S=>exact λρ' H' v g s r=>h ρ' H' v g s #[r.1,λz ds e=>let #[a,e1,e2]:=r.2 z ds e;#[a,e1,f.new e2 st.xd]]|ex c S=>exact h|no=>exact h
def Zbj{kk:Nat}{f:aE}{fd:cQ}{ps:List bq}(F:FnOk X.prog X.w X.K X.mg X.base (CX1 X.prog X.w) kk f fd ps (spX X.K cl Cc aj n))(hr:Room kk X.A)(hx:V1 (CX1 X.prog X.w) X E)(hm:X.mg x=aa (.ref f))(hk:fI X.K (.ref f)=aj)(hb:Vl X.K fd ps [])
  (ha:CA X #[28] Cc (e::es) is)(hg:Gl X x)(hdb:(x == #[9])=ak)(he:aB (e::es) X.env=#[20]::aB es X.env)(hpl:(dG pos<|aB es X.env).any (·.1)=ak) :
  CF X #[28] Cc #[17] (.callF n is):=.mk <|
 PE.imp (GV F hr hg hm hk hb .nil hx ha.h hdb he hpl) λZ H Q #[U,l,S,st,lr,h]=>
  #[U,l,S,st,lr,End.bind (h) λxs S1 ρ1 H1 vs f1 st1 r1 h1=>by
   rw[bO];cases f1.eq;exact#[U,xs,S1,st1,r1,End.new f1 st1 h1]]
end
section
variable{P:bE}{w:bZ}{K:am}{mg:bq->Option au}{base:cy}{cl:List aE}
def GW{C C':Calls}{n:Nat}{fn:Fn}{fr:Bool}{x qual:bq}{st:fg}{f:aE}{fd:cQ}{N ps:List bq}{k:Nat}(hF:∀U S H ds vs,St3 K U S H->Rq U H ds vs->C' n ds S=.no\/C' n ds S=GA C fn ds S)(hns:fn.ns=N.length)(hps:fn.ps=ps.length)(Fu:Fun K x qual st f fd)(S:FnScope N ps (Zh st))
  (hb:∀(cdv:au)(A:cz)(outer:List Env)(s:aA)(H:Hp)(E:XK),Room k (A.deeper<|ee qual (Zh st) s.heap.objs.size f cdv)->
   CSs (XX (CX1 P w) P w K mg base N qual (Zh st) f cdv A outer s H E) #[28] fr C (Pv.muts fn.body) (ZA st) fn.body) :
  FnOk P w K mg base (CX1 P w) (k+1) f fd ps (spX K cl C' fr n):=by
 have eq:∀{U S H ds vs Q E},St3 K U S H->Rq U H ds vs->End K #[28] (Xx fr H) U H Q (C' n ds S)->End K #[28] (Xx fr H) U H Q (GA C fn ds S):=λ{U S H ds vs Q E} st r h=>by
  rcases hF U S H ds vs st r with e|e
  .rw[e]at h;exact h.elim
  .rw[e]at h;exact h
 obtain⟨oc,od,kV,doc,pm,an,cdv,ct,osl,rfl,lk,hcd⟩:=Fu.ex;refine Zem lk hcd S (λvs H Q E #[U,ds,S,st,r,h]=>?_) λA outer s H vs Q E hr #[U,ds,S',st,r,h]=>#[_,(hb cdv A outer s H E hr).h,U,H,λ_=>ae,Pv.ZL fn.ns ds,[],S',st,Eu.start st r N fn.ns hns,yF (λ_ _ q=>q) (λ_ _ q=>q)<|eq st r h]
 have h:=eq st r h;obtain⟨hl,_⟩:=End.guard h;rw[r.length,hl,hps]
def ju :FnOk P w K mg base (CX1 P w) k f fd ps (spX K cl (Pv.Zl F tk 0) fr n):=
 #[λvs H Q E #[U,ds,S,st,r,h]=>False.elim h,by rintro A outer s H args us vs Q E hr e0 hb r ⟨U,ds,S,st,r',h⟩;exact False.elim h]
def xD{N:List bq}{qual:bq}{sc:dS}{f:aE}{cdv:au}{A:cz}{outer:List Env}{s:aA}{H:Hp}{E:XK}:DefX (XX (CX1 P w) P w K mg base N qual sc f cdv A outer s H E) E:=#[rfl,rfl,rfl,rfl]
def Zhp :V1 (CX1 X.prog X.w) X E0:=by rintro pq Z H s e s' I ⟨_,_,_,_,_,_,_,_,_,_,_,_,_,_,z⟩;exact z.elim
end
end Sd
namespace Sd
open PySem PySem.Spec PyProof.Rows L2 PySem.W
structure ExK(K:Frag)(C:aE):Prop where
 cd:(clsIn K C).isSome=aj
 ga:sk K (.ref C) "__getattribute__" = aa (aa<|.builtin "BaseException.__getattribute__")
 gx:sk K (.ref C) "__getattr__" = aa ae
 gc:sk K (.ref C) "__class__" = aa (aa<|.builtin "object.__class__")
 be:mroIn K C (.type "BaseException")=aa aj
 ob:mroIn K C (.type "object")=aa aj
section
variable{prog:bE}{w:bZ}{A:cz}{E:au->aA->Prop}{h:cy}{g:Array rK}{d:Drawn}{t:Nat}{os:OsState}{a C:aE}{o:fW}{K:Frag}
def ZdJ{R:pc->aA->Prop}(X:K.In h)(k:ExK K C)(hx:h.get? a=aa o)(hc:o.cls=.ref C)(hq:R (.ok<|.ret<|.ref C) #[46]) :
  eT #[8] A (.call (.builtin "getset_descriptor.__get__") #[[.builtin "object.__class__",.ref a,.ref C],[]]) R #[46]:=by
 have hT5:=iV;have L1:Looks #[8] h (pR (.ref C)<|.type<|".".intercalate ("object.__class__".cutAt '.').dropLast) aj:=by
  rw[F.owner_object_class];exact looks_mroIn X k.ob
 refine kn F.slot_gs_get.plain F.entry_gs_get<|F.slot_gs_get.check _ _ _ _ _ _ _ _ hT5 (F.args_gs_get _ _ _) ?_
 repeat(any_goals (first|assumption|(with_reducible refine gB hx ?_;rw[hc])|with_reducible refine L1.at ?_|wp_step))
 refine#[Code.quiet_builtin _ (by decide +kernel),kB F.entry_object_class ?_]
 repeat(any_goals (first|assumption|(with_reducible refine gB hx ?_;rw[hc])|wp_step))
def uX{Q:Unit->aA->Prop}(X:K.In h)(k:ExK K C)(hx:h.get? a=aa o)(hc:o.cls=.ref C)(hq:Q () #[46]) :
  bf M A (checkBuiltinCall "BaseException.__getattribute__" #[[.ref a,nameV],[]]) Q E #[46]:=by
 have hk:builtinKind "BaseException.__getattribute__" = aa .slot:=by decide +kernel
 have hsplit:splitId "BaseException.__getattribute__" = aa ("BaseException","__getattribute__"):=by decide +kernel
 have L1:Looks M h (pR (.ref C)<|.type "BaseException") aj:=looks_mroIn X k.be;have ha:=F.args_bexc_ga (.ref a) nameV;simp only[checkBuiltinCall,hk,hsplit];refine ag ?_;unfold isInstance
 repeat(first|(with_reducible refine gB hx ?_;rw[hc])|with_reducible refine L1.at ?_|wp_step)
 exact hq
def uw{Q:Fin->aA->Prop}(X:K.In h)(k:ExK K C)(hx:h.get? a=aa o)(hc:o.cls=.ref C)(hq:Q (.done<|.ret<|.ref C) #[46]) :
  bf #[8] A (eV.«object.__getattribute__» #[[.ref a,.str "__class__" tk],[]]) Q E #[46]:=by
 have hT5:=iV;have f5:=iV;have f6:=F.slot_gs_get.lookup;have f7:=F.slot_gs_set.lookup;have L1:Looks #[8] h (kY (.ref C) "__class__") (aa<|.builtin "object.__class__"):=oZ X k.gc
 repeat(any_goals (first|assumption|(with_reducible refine gB hx ?_;rw[hc])|with_reducible refine L1.at ?_|wp_step))
 refine ZdJ X k hx hc ?_
 repeat(any_goals (first|assumption|wp_step))
def Ze0{Q:au->aA->Prop}(X:K.In h)(k:ExK K C)(hx:h.get? a=aa o)(hc:o.cls=.ref C)(hq:Q (.ref C) #[46]) :
  bf #[8] A (getAttrBy (.ref a) (.str "__class__" tk) ak) Q E #[46]:=by
 have f3:=PySem.F.excAttr_ValueError.ga.bind<|.ref a;have hx2:(kc "BaseException.__getattribute__" == kc "object.__getattribute__")=ak:=by decide +kernel
 have hx1:(onTheHeap (dZ C)&&kc "BaseException.__getattribute__" == kc "object.__getattribute__")=ak:=by rw[hx2];rfl
 have L1:Looks #[8] h (kY (.ref C) "__getattribute__") (aa<|.builtin "BaseException.__getattribute__"):=oZ X k.ga;have L2:Looks #[8] h (kY (.ref C) "__getattr__") ae:=oZ X k.gx
 repeat(any_goals (first|assumption|(with_reducible refine gB hx ?_;rw[hc])|with_reducible refine L1.at ?_|with_reducible refine L2.at ?_|wp_step))
 refine kn PySem.F.excAttr_ValueError.ga.plain F.entry_bexc_ga<|uX X k hx hc<|uw X k hx hc ?_
 repeat(any_goals (first|assumption|wp_step))
def qr{Q:Option au->aA->Prop}(X:K.In h)(k:ExK K C)(hx:h.get? a=aa o)(hc:o.cls=.ref C)(hq:Q (aa<|.ref C) #[h,g,d,t+1,os]) :
  bf #[8] A (sj (.ref a) "__class__") Q E #[46]:=by
 unfold sj getAttrBy?
 repeat(any_goals (first|assumption|with_reducible apply Ze0 X k hx hc|wp_step))
end
def Zbf{K:Frag}{a C:aE}(k:ExK K C):KitX K (.ref a) (.ref C) (λh=>∃o,h.get? a=aa o/\o.cls=.ref C) where
 ty:=λ_ _ _ #[o,hx,hc]=>hc▸(Looks.ld hx).andThen .now
 it:=λ_ _ X _=>by
  have hcD:=k.cd;unfold clsIn at hcD;split at hcD
  .rename_i c' d' cd' sl' ho
   intro A' Q' E' s' kk q;exact ag<|wpAny_loadPart (kk _ _<|X _ _ ho)<|aD q
  .cases hcD
 ne:=λh tp dd its n sl X htp=>by
  have hcD:=k.cd;refine Bool.eq_false_iff.mpr λq=>?_
  have e:=dZ.inj<|beq_iff_eq.mp q;subst e;unfold clsIn at hcD;split at hcD
  .rename_i c' d' cd' sl' ho
   have z:=(X _ _ ho).symm.trans htp;cases z
  .cases hcD
 ca:=λ{_ _ _ _ _ s} X #[o,hx,hc] q=>by obtain⟨h,g,d,t,os⟩:=s;exact qr X k hx hc q
end Sd
namespace Sd
open PySem PySem.Spec PyProof.Rows L2
section
def Inv.slots(D:DefX X E)(I:L2.Inv X pq Z H s)(hh:∀b∈hid,b∈frs X.stack\/(X.s₀.heap.get? b=ae/\H b=ae/\∀p∈X.pn++pq,p.1≠b))
  (st:(fv s.heap hid).StaysIn h')(up:s.heap.UpToSlots h'):L2.Inv X pq Z H {s with heap:=h' }:=by
 have keep:=λb u e n=>st b u<|gV _ e n
 have nof:∀b∈frs X.stack,∀o,s.heap.get? b=aa o->∀vs,o.data≠.fields vs:=λb hb o e=>by
  obtain⟨_,o1,ho,hd⟩:=I.stack.mem hb;rw[e]at ho;cases ho;exact hd
 have frS:=λb hb o e=>up b o e<|nof b hb o e
 have frH:=I.stkFree;have sub:∀b∈X.fs,b∈frs X.stack:=λb hb=>by
  change b∈frs X.outer at hb
  rw[D.st];unfold frs at hb ⊢;rw[cD,D.fr];exact ao _ hb
 have own:∀b o,X.s₀.heap.get? b=aa o->b∈frs X.stack->b∈X.fs:=λb o e hb=>by
  rw[D.st]at hb;show b∈frs X.outer;unfold frs at hb ⊢;rw[cD,D.fr]at hb;rcases ay.mp hb with z|z
  .exact T7 (aQ e) (by rw[z];exact mn I.ok.above)
  .exact z
 have hidN:=λb hb=>(hh b hb).elim (frH b) λz=>z.2.1
 have old:∀b o,X.s₀.heap.get? b=aa o->b∉X.fs->b∉hid:=λb o e hb hm=>by
  rcases hh b hm with z|z
  .exact hb<|own b o e z
  .rw[e]at z;cases z.1
 have U:=I.base;refine#[I.ok,I.os,I.bare,#[λb o e n hb hx=>keep b o (U.keep b o e n hb hx)<|old b o e hb,λb o e n hb hx=>?_,U.free,λb o e hx=>?_,U.tups,U.frzs,U.tbls],?_,λy c e=>?_,I.free,I.freeC,λp hp=>?_,λc o e=>?_,I.len]
 .obtain⟨sl,e1⟩:=U.slot b o e n hb hx
  obtain⟨sl2,e2⟩:=frS b (sub b hb) _ e1;exact#[sl2,e2]
 .obtain⟨o1,e1⟩:=U.there b o e hx
  by_cases hm:b∈frs X.stack
  .obtain⟨sl,e2⟩:=frS b hm o1 e1
   exact#[_,e2]
  .refine#[o1,keep b o1 e1 λz=>?_]
   rcases hh b z with q|q
   .exact hm q
   .rw[e]at q;cases q.1
 .obtain⟨m,hn,hl⟩:=I.loc
  refine#[m,up.ns hn,λi x v e1 e2 e3=>?_]
  obtain⟨u,r,q⟩:=hl i x v e1 e2 e3;refine#[u,r,?_];rcases q with q|⟨k,c,e,z⟩
  .exact .inl q
  .refine .inr #[k,c,e,?_]
   obtain⟨o,ho,hd⟩:=z;obtain⟨sl,e2⟩:=up c o ho λvs q=>by rw[hd]at q;cases q
   exact#[_,e2,hd]
 .obtain⟨v,o,ho,hd⟩:=I.cell y c e
  obtain⟨sl,e2⟩:=up c o ho λvs q=>by rw[hd]at q;cases q
  exact#[v,_,e2,hd]
 .obtain⟨e,n,ne,nf,d⟩:=I.pin p hp
  refine#[keep _ _ e λz=>?_,n,ne,nf,d]
  rcases hh p.1 z with q|q
  .rw[D.st]at q;unfold frs at q;rw[cD,D.fr]at q
   rcases ay.mp q with q|q
   .exact ne q
   .exact nf q
  .exact q.2.2 p hp rfl
 .refine(I.hok c o e).stay (λb u hb q=>?_) (λ_ q=>q) λ_ _ q=>q
  have nh:∀b u,H b=aa u->b∉hid:=λb u e hm=>by rw[hidN b hm]at e;cases e
  rcases hb with rfl|hb
  .exact keep _ u q<|nh _ _ e
  .exact keep _ u q<|nh _ _ hb
def Inv.freeze(I:L2.Inv X pq Z H s)(ha:s.heap.get? a=aa o)(Ha:H a=ae)(n0:X.s₀.heap.get? a=ae)(hl:a≠X.env.locals)(hc:∀x c,X.env.cells.lookup x=aa c->c≠a)(hp:∀p∈X.pn++pq,p.1≠a) :
  L2.Inv X pq Z (upd H a<|.frz o<|.own a) s:=by
 have nu:∀b u,H b=aa u->upd H a (.frz o<|.own a) b=aa u:=λb u e=>by rw[Zj λz=>by rw[z,Ha]at e;cases e];exact e
 have nn:∀b,b≠a->H b=ae->upd H a (.frz o<|.own a) b=ae:=λb z e=>by rw[Zj z];exact e
 have U:=I.base;refine#[I.ok,I.os,I.bare,#[U.keep,U.slot,λb o e n hx=>nn b (λz=>by rw[z,n0]at e;cases e)<|U.free b o e n hx,U.there,λb xs e=>nu _ _<|U.tups b xs e,λb o u e=>nu _ _<|U.frzs b o u e,λb ps e=>?_],I.loc,I.cell,nn _ (Ne.symm hl) I.free,λx c e=>nn _ (hc x c e)<|I.freeC x c e,λp hp'=>?_,λc u e=>?_,I.len]
 .obtain⟨more,e1⟩:=U.tbls b ps e
  exact#[more,nu _ _ e1]
 .obtain⟨e,n,r⟩:=I.pin p hp'
  exact#[e,nn _ (hp p hp') n,r]
 .by_cases z:c=a
  .subst z
   rw[Zn]at e;cases e;exact#[ha,_,ha]
  .rw[Zj z]at e
   exact(I.hok c u e).stay (λb v hb q=>q) (λ_ q=>nu _ _ q) λ_ _ q=>nu _ _ q
def Zco{E:au->aA->Prop}{Q:Unit->aA->Prop}(I:L2.Inv X pq Z H s)(hN:X.N.Nodup)(hi:X.N[i]?=aa n)(hk:X.env.kindOf n=aa .local)
  (h:∀s',L2.Inv X pq (Z.set i ae) H s'->Q () s'):bf M A (do bindName X.env n .none;unbindBehindTheSuite X.env n pos) Q E s:=by
 obtain⟨m,hn,hl⟩:=id I.loc;have hcls:(X.env.scope.kind == .class||(X.env.scope.kind == .module&&X.env.locals != X.env.globals))=ak:=by rw[I.ok.kind];rfl
 have hiσ:i<Z.length:=by rw[I.len];exact(aH.mp hi).1
 refine wpAny_nameGoes_keeps hk hn hcls λh' v hn' hs=>?_
 obtain⟨oL,_,_,hoL,_⟩:=id hn;have ab:∀b o,X.s₀.heap.get? b=aa o->b≠X.env.locals:=λb o e=>bv<|br (aQ e) I.ok.above
 have U:=I.base;refine h _ #[I.ok,I.os,I.bare,#[λb o e n hb hx=>(hs.2 b<|ab b o e).trans<|U.keep b o e n hb hx,λb o e n hb hx=>?_,U.free,λb o e hx=>?_,U.tups,U.frzs,U.tbls],#[_,hn',λj y v' e1 e2 e3=>?_],λy c e=>?_,I.free,I.freeC,λp hp=>?_,λc o e=>?_,by simpa using I.len]
 .obtain⟨sl,e1⟩:=U.slot b o e n hb hx
  exact#[sl,(hs.2 b<|ab b o e).trans e1]
 .obtain⟨o',e1⟩:=U.there b o e hx
  exact#[o',(hs.2 b<|ab b o e).trans e1]
 .by_cases hj:j=i
  .subst hj
   rw[bn hiσ]at e2;cases e2
  .rw[bg<|Ne.symm hj]at e2
   obtain⟨u',r',q⟩:=hl j y v' e1 e2 e3;refine#[u',r',?_];rcases q with⟨k,e⟩|⟨k,c,e,z⟩
   .refine .inl #[k,?_]
    have:y≠n:=λe=>hj<|UO hN e1<|e▸hi
    simp[this,e]
   .exact .inr #[k,c,e,z.sameBut hs<|I.cne y c e]
 .obtain⟨w',z⟩:=I.cell y c e
  exact#[w',z.sameBut hs<|I.cne y c e]
 .obtain⟨e,n,ne,nf,d⟩:=I.pin p hp
  exact#[(hs.2 p.1 ne).trans e,n,ne,nf,d]
 .refine(I.hok c o e).stay (λb u hb q=>(hs.2 b λz=>?_).trans q) (λ_ q=>q) λ_ _ q=>q
  subst z;rcases hb with rfl|hb
  .rw[I.free]at e;cases e
  .rw[I.free]at hb;cases hb
noncomputable abbrev Cx.held(X:Cx)(a:aE):Cx:={X with A:=X.A.mark<|aa<|.ref a,calm:=ak,xe:=λ_ _=>False}
theorem Inv.held(I:L2.Inv X pq Z H s):L2.Inv (Cx.held X a) pq Z H s:=
 #[#[I.ok.mod,I.ok.kind,I.ok.glob,I.ok.blt,I.ok.above,I.ok.inj,I.ok.has,I.ok.cab,(λz=>by cases z),I.ok.frames,I.ok.stk,I.ok.exf,I.ok.bs,I.ok.bsz,I.ok.noex,I.ok.exfs,I.ok.funs,I.ok.frf],I.os,I.bare,I.base,I.loc,I.cell,I.free,I.freeC,I.pin,I.hok,I.len]
def Inv.unheld(ok:X.Ok)(I:L2.Inv (Cx.held X a) pq Z H s):L2.Inv X pq Z H s:=
 #[ok,I.os,I.bare,I.base,I.loc,I.cell,I.free,I.freeC,I.pin,I.hok,I.len]
def Zgy{M:Model}{A:cz}{E:au->aA->Prop}{i:Nat}{x:bq}{pos:gj}{v:V}{Q:au->aA->Prop}(I:L2.Inv X pq Z H s)(hi:X.N[i]?=aa x)(hv:Vis X.env.scope x)(e:Z[i]?=aa (aa v))(h:∀u,Zy v u->Q u s)
  (hd:(x == #[9])=ak)(hcd:(x == #[15])=ak):bf M A (cu (.Name x pos) X.env) Q E s:=by
 obtain⟨m,hn,hl⟩:=I.loc;obtain⟨u,r,l⟩:=hl i x v hi e hv;rcases l with⟨hk,hm⟩|⟨hk,c,hc,hcell⟩
 .exact kP (m8 I.ok.kind hk hn hm<|h u r) hd
 .rcases hk with hk|hk
  .exact kP (nF I.ok.kind hk hc hcell<|h u r) hd
  .exact kP (nG I.ok.kind hk hc hcell (h u r) hcd) hd
def Zdd{Dn:Ends}{E1:XK}{g S:aE}{ic ie ir:Nat}{xc n xr xS:bq}{p1 p2 p3 p4 p5 p6 p7 p8 p9:gj}(D:DefX X E)(I:L2.Inv X pq Z H s)(hN:X.N.Nodup)
  (hic:X.N[ic]?=aa xc)(hvc:Vis X.env.scope xc)(hsc:Z[ic]?=aa (aa<|.ref g))(hie:X.N[ie]?=aa n)(hke:X.env.scope.names.lookup n=aa .local)(hir:X.N[ir]?=aa xr)(hlr:X.env.scope.names.lookup xr=aa .local)
  (hgS:Gl X xS)(hmS:X.mg xS=aa (.ref S))(hg:PySem.W.FnAt g s.heap)
  (run:eT #[10] X.A (.call (.ref g) #[[],[]]) (CR (CX1 X.prog X.w) X.stack X.prog X.w H s (λ_ H'=>Dn.nx Z H') E1) s)
  (hE1:∀C H',E1 (.ref C) ae H'->sm X.K (.ref C) (.ref S)=aa aj/\∀a oe,H' a=ae->oe.cls=.ref C->Dn.nx (((Z.set ie<|aa<|.ref a).set ir<|aa<|.ref a).set ie ae) (upd H' a<|.frz oe<|.own a))
  (hd1:(xc == #[9])=ak)(hd2:(xc == #[15])=ak)(hd3:(n == #[9])=ak)(hd4:(n == #[15])=ak)(hd5:(xS == #[9])=ak)
  (hs1:eZ (.Call (.Name xc p1) [] [] p2) ae p3.line X.env=cF ak)(hs2:eZ (.Name n p6) (aa<|.Name xr p5) p7.line X.env=cF ak) :
  bf #[10] X.A (exec (.Try [.Expr (.Call (.Name xc p1) [] [] p2) p3] [.ExceptHandler (aa<|.Name xS p4) (aa n) [.Assign [.Name xr p5] (.Name n p6) p7] p8] [] [] p9) X.env) (SP X pq Dn) X.xe s:=by
 refine wpAny_Try_except<|gK<|wpAny_Expr_any ?_ I.quiet hs1;refine fO ?_;refine Zgy I hic hvc hsc (λu r=>?_) hd1 hd2
 obtain rfl:u=dZ g:=r;refine PySem.W.callWith_F0 hg<|rO<|kK run λr s' hq=>?_
 cases r with
 |ok fl=>
  cases fl with
  |ret u=>
   obtain⟨v,H',I',r',q'⟩:=I.after hq;exact g8<|g8 #[Z,H',I',q']
  |next=>exact False.elim hq
  |brk=>exact False.elim hq
  |cont=>exact False.elim hq
 |error e=>
  obtain⟨a,T,C,H',rfl,os,bare,un,hok,fly,na,nT,Ha,HT,hE⟩:=hq;obtain⟨exm,fin⟩:=hE1 C H' hE;have nx:∀b:aE,b∉([]:List aE):=λb=>by simp
  have hfr:X.A.frames=aa (X.env::X.outer):=by rw[<-D.st];exact I.ok.frames
  have I1:L2.Inv X pq Z H' s':=by
   obtain⟨hh,gg,d,t,os'⟩:=s';obtain rfl:os'=s.os:=os;exact I.call (h':=hh) (g':=gg) (d':=d) (t':=t) un hok bare (λb z=>T7 z #[2])
  let hid:=frs X.stack++[a,T]
  have hin:∀b∈frs X.stack,b∈hid:=λb hb=>cX _ hb
  have old0:∀b,s.heap.get? b=ae->X.s₀.heap.get? b=ae:=λb e=>by
   cases q:X.s₀.heap.get? b with
   |none=>rfl
   |some o=>
    have U1:=I.base;rw[D.ex]at U1;obtain⟨o1,e1⟩:=U1.there b o q<|nx b;rw[e]at e1;cases e1
  have pn:∀b,s.heap.get? b=ae->∀p∈X.pn++pq,p.1≠b:=λb e p hp z=>by
   have:=(I.pin p hp).1;rw[z,e]at this;cases this
  have hhid:∀b∈hid,b∈frs X.stack\/(X.s₀.heap.get? b=ae/\H' b=ae/\∀p∈X.pn++pq,p.1≠b):=λb hb=>by
   rcases bK.mp hb with z|z
   .exact .inl z
   .rcases ay.mp z with rfl|z
    .exact .inr #[old0 _ na,Ha,pn _ na]
    .rw[aT.mp z];exact .inr #[old0 _ nT,HT,pn _ nT]
  have FF:s'.heap.FunFrames (fv s'.heap hid) (X.env::X.outer):=by
   rw[<-D.st];exact FunFrames.rebase I1.stack (λb hb o e=>#[o.slots,e]) λb hb=>dq _<|hin b hb
  obtain⟨oe,vs,a0,oT,ts,f1,f2,f3,f4,f5,f6,f7,f8⟩:=fly;refine wpAny_looks_onW hfr D.fr #[λb o e=>hV _ e,dq _<|bt _<|al ..,FF,oe,vs,T,oT,ts,f1,f2,f3,f4,dq _<|bt _<|ao _<|al ..,f5,f6,f7,f8] λh1 held up1=>?_
  refine wpAny_landsW held λh2 fly2 up2=>?_
  have I2:=Inv.slots D I1 hhid fly2.1<|up1.trans up2
  obtain⟨oe2,ge2,ce2⟩:=fly2.there;have K2:=I2.kIn;refine wpAny_handleBy_cons (codeAny_handlers_test<|Vv (Inv.held I2) hgS hmS ?_ hd5) (by intro q;cases q)
  refine(PySem.W.exm_one K2 (ce2▸(PySem.W.Looks.ld ge2).andThen .now) exm).here ?_;refine codeAny_handlers_suite_as ?_;obtain⟨k1,k2,k3,k4⟩:=fly2;refine wpAny_setFlight_noneW k1 k3 k4 λh3 m1 m2 m3 m4=>?_
  have I3:=Inv.slots D I1 hhid m1<|(up1.trans up2).trans λb o e hn=>#[o.slots,m4 b o e hn]
  obtain⟨oe3,vs3,T3,oT3,ts3,ge3,⟨ce3,_⟩,de3,_⟩:=m3;have I4:=Inv.freeze I3 ge3 Ha (old0 _ na)
   (λz=>by
    obtain⟨m,⟨o,es,ep,ho,hd,_⟩,_⟩:=I3.loc;have e1:=ho;rw[<-z,ge3]at e1;cases e1;rw[de3]at hd;cases hd)
   (λx c e z=>by
    obtain⟨v,o,ho,hd⟩:=I3.cell x c e;have e1:=ho;rw[z,ge3]at e1;cases e1;rw[de3]at hd;cases hd) (pn _ na)
  refine X3 I4 hN hie (.inl hke) (v:=.ref a) rfl (λs4 I5=>?_)<|.inr hke
  have hiσ:ie<Z.length:=by rw[I.len];exact(aH.mp hie).1
  refine cW ((Vz<|VL (X:=Cx.held X a) (pos':=p5) hN hir (.inl hlr) (Yn hie (.inl hke) hd3 hd4) hs2<|.inr hlr) pq s4 _ _
   {nx:=λσ' H1=>σ'=(Z.set ie<|aa<|.ref a).set ir (aa<|.ref a)/\H1=upd H' a (.frz oe3<|.own a),rt:=λ_ _=>False} (Inv.held I5) #[.ref a,bn hiσ,rfl,rfl]) (λf s5 hsp=>?_) λ_ _ z=>False.elim z
  cases f with
  |next=>
   obtain⟨σ',H1,J,rfl,rfl⟩:=hsp;exact Zco (Inv.unheld I.ok J) hN hie hke λs6 I6=>#[_,_,I6,fin a oe3 Ha ce3]
  |ret u=>obtain⟨_,_,_,_,_,z⟩:=hsp;exact z.elim
  |brk=>obtain⟨_,_,_,z⟩:=hsp;exact False.elim z
  |cont=>obtain⟨_,_,_,z⟩:=hsp;exact False.elim z
open Ev (E Sm Fn Bop Cop Ty Bf Mf)
structure Gr(H H':Hp):Prop where
 k:∀b u,H b=aa u->(∀ps,u≠.tbl ps)->H' b=aa u
 t:∀b ps,H b=aa (.tbl ps)->∃qs,H' b=aa (.tbl qs)
def Gr.fut(g:Gr H H'):Fut U H U H':=#[rfl,λa o e=>by
 cases o with
 |tbl ps=>exact .inr<|.inr #[#[ps,rfl],g.t a ps e]
 |_=>exact .inl<|g.k a _ e λps z=>by cases z]
def St3.grow{K:am}{U:Mx}{S:Zv}{H H':Hp}(st:St3 K U S H)(g:Gr H H')(tb:Tb H'):St3 K U S H':=
 #[st.hk,λa x=>by
  obtain⟨o,e⟩:=k7.mp<|st.xd a x;rcases(g.fut).keep a o e with q|⟨h,_⟩|⟨_,_,q⟩
  .rw[q];intro z;cases z
  .rw[g.k a _ (st.dw a h).1 λps z=>by cases z];intro z;cases z
  .rw[q];exact Option.some_ne_none _,λa h=>#[g.k a _ (st.dw a h).1 λps z=>(by cases z),(st.dw a h).2],tb]
def y9(l:List au)(h:pz l)(e:kO q (l++[hZ a,hZ b,c])=aa cv):kO q l=aa cv\/cv=c:=by
 fun_induction pz l with
 |case1=>
  simp only[eN,kO,hZ]at e;split at e
  .cases e;exact .inr rfl
  .cases e
 |case2 a' t b' u x rest ih=>
  simp only[pS,kO]at e ⊢;split at e
  .rename_i z;rw[T9 z];exact .inl e
  .rename_i z;rw[T8 z];exact ih h e
 |case3 l h1 h2=>exact h.elim
section
variable{X:Cx}{E:au->aA->Prop}{pq:List (aE×fW)}{Z:L2.St}{H:Hp}{s:aA}
theorem Inv.grow(I:L2.Inv X pq Z H s){h':cy}{tk:rJ}{P:aE}{ps more:Array au}(hP:H P=aa (.tbl ps))(hx:iq P s.heap h')(hT:h'.get? P=aa {cls:=.none,data:=.fields (ps++more)}){new:List (aE×fW)}
  (hn:∀p∈new,s.heap.objs.size<=p.1/\h'.get? p.1=aa p.2)(nd:(new.map (·.1)).Nodup) :
  let H':=new.foldl (λG p=>upd G p.1<|.frz p.2<|.own p.1)<|upd H P<|.tbl<|ps++more
  L2.Inv X pq Z H' {s with heap:=h',toks:=tk}/\Gr H H'/\(∀p∈new,H' p.1=aa (.frz p.2<|.own p.1))/\H' P=aa (.tbl<|ps++more)/\∀b qs,H' b=aa (.tbl qs)->(b=P/\qs=ps++more)\/H b=aa (.tbl qs):=by
 intro H';have hPs:=Z7.lt<|I.hok P _ hP;have H0:∀b,(∀p∈new,p.1≠b)->H' b=upd H P (.tbl<|ps++more) b:=by
  have gen:∀(l:List (aE×fW))(G:Hp)(b:aE),(∀p∈l,p.1≠b)->l.foldl (λG p=>upd G p.1<|.frz p.2<|.own p.1) G b=G b:=by
   intro l
   induction l with
   |nil=>intro G b _;rfl
   |cons p l ih=>
    intro G b h;rw[dM,ih _ b λq hq=>h q<|ao _ hq,Zj<|Ne.symm<|h p<|al ..]
  exact λb h=>gen new _ b h
 have H1:∀p∈new,H' p.1=aa (.frz p.2<|.own p.1):=by
  have gen:∀(l:List (aE×fW))(G:Hp),(l.map (·.1)).Nodup->∀p∈l,l.foldl (λG p=>upd G p.1<|.frz p.2<|.own p.1) G p.1=aa (.frz p.2<|.own p.1):=by
   intro l
   induction l with
   |nil=>intro G _ p hp;simp at hp
   |cons q l ih=>
    intro G hd p hp;rw[aX,dz]at hd;rw[dM];rcases ay.mp hp with rfl|hp
    .have rest:∀(l:List (aE×fW))(G:Hp)(b:aE),b∉l.map (·.1)->l.foldl (λG p=>upd G p.1<|.frz p.2<|.own p.1) G b=G b:=by
      intro l
      induction l with
      |nil=>intro G b _;rfl
      |cons p l ih=>
       intro G b h;rw[aX,ay,not_or]at h;rw[dM,ih _ b h.2,Zj h.1]
     rw[rest l _ _ hd.1,Zn]
    .exact ih _ hd.2 p hp
  exact gen new _ nd
 have new0:∀b,b<s.heap.objs.size->∀p∈new,p.1≠b:=λb hb p hp z=>by have q:=(hn p hp).1;rw[z]at q;lia
 have old:∀b u,H b=aa u->b≠P->H' b=aa u:=λb u e z=>by
  rw[H0 b<|new0 b<|Z7.lt<|I.hok b u e,Zj z];exact e
 have HP:H' P=aa (.tbl<|ps++more):=by rw[H0 P<|new0 P hPs,Zn]
 have cases':∀b u,H' b=aa u->(∃p∈new,p.1=b/\u=.frz p.2 (.own p.1))\/(b=P/\u=.tbl (ps++more))\/(b≠P/\H b=aa u):=λb u e=>by
  by_cases q:∃p∈new,p.1=b
  .obtain⟨p,hp,rfl⟩:=q
   rw[H1 p hp]at e;cases e;exact .inl #[p,hp,rfl,rfl]
  .rw[H0 b λp hp z=>q #[p,hp,z]]at e
   by_cases z:b=P
   .subst z;rw[Zn]at e;cases e;exact .inr<|.inl #[rfl,rfl]
   .rw[Zj z]at e;exact .inr<|.inr #[z,e]
 have gr:Gr H H':=#[λb u e n=>old b u e λz=>(by rw[z,hP]at e;cases e;exact n ps rfl),λb qs e=>by
  by_cases z:b=P
  .subst z;exact#[_,HP]
  .exact#[qs,old b _ e z]]
 refine#[I.un #[λb o e n _ _=>hx b o (λz=>by rw[z,hP]at n;cases n) e,λb o e n _ _=>#[o.slots,hx b o (λz=>by rw[z,hP]at n;cases n) e],λb o e n _=>?_,λb o e _=>?_,λb xs e=>gr.k b _ e (λps z=>by cases z),λb o u e=>gr.k b _ e (λps z=>by cases z),λb qs e=>?_] λb u e=>?_,gr,H1,HP,λb qs e=>?_]
 .rw[H0 b<|new0 b<|aQ e,Zj λz=>by rw[z,hP]at n;cases n];exact n
 .by_cases z:b=P
  .subst z;exact#[_,hT]
  .exact#[o,hx b o z e]
 .by_cases z:b=P
  .subst z;rw[hP]at e;cases e;exact#[more,HP]
  .exact#[#[],by rw[old b _ e z];simp]
 .rcases cases' b u e with⟨p,hp,rfl,rfl⟩|⟨rfl,rfl⟩|⟨z,e0⟩
  .exact#[(hn p hp).2,_,(hn p hp).2]
  .exact hT
  .refine(I.hok b u e0).stay (λc v hc q=>hx c v ?_ q) (λc q=>gr.k c _ q λps z=>by cases z) λc xs q=>gr.k c _ q λps z=>by cases z
   rcases hc with rfl|hc
   .exact z
   .intro y;rw[y,hP]at hc;cases hc
 .rcases cases' b _ e with⟨p,hp,rfl,z⟩|⟨rfl,z⟩|⟨z,e0⟩
  .cases z
  .cases z;exact .inl #[rfl,rfl]
  .exact .inr e0
def Tb.grow(tb:Tb H)(g:Gr H H')(hb:∀b rs,H' b=aa (.tbl rs)->(b=P/\rs=qs)\/H b=aa (.tbl rs))(ht:pz qs.toList)
  (hc:∀pos cv,kO pos qs.toList=aa cv->∃(c:aE)(oc:fW)(vs:Array au)(t:rJ),cv=.ref c/\H' c=aa (.frz oc<|.own c)/\oc.data=.fields vs/\vs[1]?=aa (.str YO t)):Tb H':=λb rs e=>by
 rcases hb b rs e with⟨_,rfl⟩|e0
 .exact#[ht,hc]
 .obtain⟨h1,h2⟩:=tb b rs e0
  refine#[h1,λpos cv q=>?_]
  obtain⟨c,oc,vs,t,e1,e2,e3⟩:=h2 pos cv q;exact#[c,oc,vs,t,e1,g.k c _ e2 (λps z=>by cases z),e3]
def Zay{P c:aE}{ps:Array au}{params:pe}{body:Expr}{scope:dS}{pos:gj}{clos:List (bq×aE)}{Q:au->aA->Prop}(I:L2.Inv X pq Z H s)(tb:Tb H)(hP:H P=aa (.tbl ps))(hcode:X.env.code=.ref c)(C:dH X.base c P)(hB:X.base.BuiltinsAt X.mg P)(hgP:bB≠P)
  (hq:X.env.qual++"<lambda>" = YO)(hcl:iY scope X.env=cF clos)(hdef:defaultsOf params X.env=([],[]))
  (h:∀(g c':aE)(oc:fW)(vs:Array au)(t:rJ)(pm ctv:au)(H':Hp)(s':aA),L2.Inv X pq Z H' s'->Gr H H'->Tb H'->(∃ps',H' P=aa (.tbl ps'))->H' g=aa (.frz (gf "<lambda>" YO params body scope clos pm c' ctv)<|.own g)->
   H' c'=aa (.frz oc<|.own c')->oc.data=.fields vs->vs[1]?=aa (.str YO t)->Q (.ref g) s') :
  bf #[10] X.A (cu (.Lambda params body scope pos) X.env) Q E s:=by
 refine PySem.W.kla_eval hdef ?_;rw[hq];have hPo:=I.hok P _ hP;obtain⟨ht,hcs⟩:=tb P ps hP;have hg:=I.ok.mod.glob.keeps I.bk;have hBs:s.heap.BuiltinsAt X.mg P:=by
  obtain⟨bm,o,b1,b2,b3,b4,b5,b6⟩:=hB;exact#[bm,o,b1,b2,b3,b4,I.bk _ _ b5,b6]
 cases q:kO pos ps.toList with
 |some cv=>
  obtain⟨c',oc,vs,t,rfl,e2,e3,e4⟩:=hcs pos cv q;refine PySem.W.kla_makeFunctionHit hcl I.ok.glob hg hcode (C.keeps I.bk) hPo ht q hBs λctv h' tk hk hz=>?_
  have kp:∀b o,s.heap.get? b=aa o->(h'.push<|gf "<lambda>" YO params body scope clos ((X.mg "__name__").getD .none) c' ctv).get? b=aa o:=λb o e=>aw _<|hk b o e
  obtain⟨I',gr,n1,hP',tbs⟩:=Inv.grow I hP (λb o _ e=>kp b o e) (by rw[lw];exact kp _ _ hPo)
   (new:=[(h'.objs.size,gf "<lambda>" YO params body scope clos ((X.mg "__name__").getD .none) c' ctv)]) (λp hp=>by
    rw[aT.mp hp];exact#[hz,aR _ rfl]) #[2]
  refine h _ c' oc vs t _ ctv _ _ I' gr (tb.grow gr tbs (by rw[lw];exact ht) λpos' cv' q'=>?_) #[_,hP'] (n1 _<|al ..) (gr.k _ _ e2 λps z=>by cases z) e3 e4
  rw[lw]at q';obtain⟨c2,oc2,vs2,t2,f1,f2,f3⟩:=hcs pos' cv' q';exact#[c2,oc2,vs2,t2,f1,gr.k _ _ f2 (λps z=>by cases z),f3]
 |none=>
  refine PySem.W.kla_makeFunction hcl I.ok.glob hg hcode (C.keeps I.bk) hPo ht q hgP hBs λc' ctv h' tk hx hge hlt hrec htb=>?_
  obtain⟨c2,oc,vs,t,e2,hoc,hd,hv⟩:=hrec;cases e2;have kp:iq P s.heap (h'.push<|gf "<lambda>" YO params body scope clos ((X.mg "__name__").getD .none) c' ctv):=λb o hb e=>aw _<|hx b o hb e
  have hsz:=bW hge<|kJ hlt;obtain⟨I',gr,n1,hP',tbs⟩:=Inv.grow I hP kp (aw _ htb)
   (new:=[(c',oc),(h'.objs.size,gf "<lambda>" YO params body scope clos ((X.mg "__name__").getD .none) c' ctv)]) (λp hp=>by
    rcases ay.mp hp with rfl|hp
    .exact#[hge,aw _ hoc]
    .rw[aT.mp hp];exact#[hsz,aR _ rfl]) (dz.mpr #[λz=>T7 (aT.mp z)<|bv hlt,dz.mpr #[by simp,sr]])
  refine h _ c' oc vs t _ ctv _ _ I' gr (tb.grow gr tbs (by rw[cr];exact TriplesOk_snoc _ _ _ _ ht) λpos' cv' q'=>?_) #[_,hP'] (n1 _<|ao _<|al ..) (n1 _<|al ..) hd hv
  rw[cr]at q';rcases y9 _ ht q' with z|rfl
  .obtain⟨c2,oc2,vs2,t2,f1,f2,f3⟩:=hcs pos' cv' z
   exact#[c2,oc2,vs2,t2,f1,gr.k _ _ f2 (λps z=>by cases z),f3]
  .exact#[c',oc,vs,t,rfl,n1 _<|al ..,hd,hv]
end
end
section
def cxL(P:bE)(w:bZ)(K:am)(mg:bq->Option au)(base:cy)(N:List bq)(scope:dS)(g:aE)(cd:au)(clos:List (bq×aE))(A:cz)(outer:List Env)(s:aA)(H:Hp)(E:XK):Cx where
 prog:=P
 w:=w
 K:=K
 mg:=mg
 base:=base
 A:=A.deeper<|fU YO scope s.heap.objs.size g cd clos
 N:=N
 s₀:=s
 H₀:=H
 env:=fU YO scope s.heap.objs.size g cd clos
 outer:=outer
 stack:=fU YO scope s.heap.objs.size g cd clos::outer
 ex:=[]
 calm:=aj
 fn:=λ_=>ak
 pn:=[]
 xe:=λe s'=>bf (aV P w) (A.deeper<|fU YO scope s.heap.objs.size g cd clos) (leaving (fU YO scope s.heap.objs.size g cd clos) e) (λ_ s''=>CX1 P w outer H s E e s'') (λe' s''=>CX1 P w outer H s E e' s'') s'
section
variable{P:bE}{w:bZ}{K:am}{mg:bq->Option au}{base:cy}{N:List bq}{scope:dS}{g c':aE}{clos:List (bq×aE)}{A:cz}{outer:List Env}{s:aA}{H:Hp}{E:XK}
def ZhN :DefX (cxL P w K mg base N scope g cd clos A outer s H E) E:=#[rfl,rfl,rfl,rfl]
structure LamS(scope:dS)(clos:List (bq×aE)):Prop where
 kind:scope.kind=.function
 co:scope.isCoroutine=ak
 gen:scope.isGenerator=ak
 nc:∀x∈scope.names,x.2≠.cell
 vis:∀x,Vis scope x->scope.names.lookup x=aa .free
 has:∀x,scope.names.lookup x=aa .free->∃c,clos.lookup x=aa c
 inj:∀x y c,clos.lookup x=aa c->clos.lookup y=aa c->x=y
def jd(hr:Room (k+1) A)(e0:Env0 P w K mg base A outer s H)(L:LamS scope clos)
  (hg:s.heap.get? g=aa (gf "<lambda>" YO params body scope clos pm c' ctv))(hcd:s.heap.CodeRec (.ref c') YO)(hbind:m9 (sw "<lambda>" YO params body scope clos pm (.ref c') ctv) #[[],[]]=cF [])
  (hcell:∀x c,clos.lookup x=aa c->(∃v,s.heap.IsCell c v)/\H c=ae)(hlen:Z.length=N.length)
  (hval:∀(i:Nat)(x:bq)(v:V),N[i]?=aa x->Z[i]?=aa (aa v)->scope.names.lookup x=aa .free->∃u c,Zy v u/\clos.lookup x=aa c/\s.heap.IsCell c (aa u))
  (hb:PE (cxL P w K mg base N scope g (.ref c') clos A outer s H E) body t)(ht:t Z H Q) :
  eT (aV P w) A (.call (.ref g) #[[],[]]) (CR (CX1 P w) outer P w H s Q E) s:=by
 have lim:=e0.mod.nolimit.keeps λb o e=>(e0.bs b o e).1
 refine PySem.W.kla_callFunE hr.depth hg rfl L.co L.gen rfl hcd ?_;rw[hbind];refine aD<|wpAny_newFunctionEnv L.nc (λx hx=>by simp at hx) (λh1 hns hsb=>?_) L.kind
 have hk1:=λb o e=>hsb.extBut b o (bv<|aQ e)<|aw _ e
 refine#[lim.keeps hk1,?_];have noA:∀b:aE,b∉(cxL P w K mg base N scope g (.ref c') clos A outer s H E).ex:=λb z=>T7 (show b∈([]:List aE)from z) #[2]
 have I:L2.Inv (cxL P w K mg base N scope g (.ref c') clos A outer s H E) [] Z H {s with heap:=h1,toks:=s.toks+([]:List (bq×au)).length}:=by
  refine#[#[e0.mod,L.kind,rfl,rfl,aI _,L.inj,λx hx=>?_,λx c z=>(by cases z),λ_=>hr.hd,ng e0.frames,.inr #[rfl,rfl],λb z=>T7 z<|noA b,e0.bs,e0.bsz,λb _ _=>noA b,λb z=>T7 z<|noA b,e0.funs,e0.frf],
   rfl,e0.bare,Un.kept hk1,#[_,hns,λi x v e1 e2 e3=>?_],λx c e=>?_,e0.hok.fresh<|aI _,λx c e=>(hcell x c e).2,λp hp=>T7 (show p∈([]:List (aE×fW))from hp) #[2],e0.hok.kept hk1,hlen]
  .have hx:=hx
   rcases hx with z|z
   .exact T7 rfl<|L.nc _<|d3 z
   .exact L.has x z
  .have fr:=L.vis x e3
   obtain⟨u,c,r,e,z⟩:=hval i x v e1 e2 fr;refine#[u,r,.inr #[.inr fr,c,e,?_]];obtain⟨o,ho,hd⟩:=z;exact#[o,hk1 _ _ ho,hd]
  .obtain⟨⟨v,o,ho,hd⟩,_⟩:=hcell x c e
   exact#[v,o,hk1 _ _ ho,hd]
 exact PySem.W.kla_codeExpr<|cW (hb [] _ Z H Q I ht) (by rintro u s' ⟨v,H',J,r,q⟩;exact #[v,H',J.os,J.bare,J.base,J.hok,r,q]) λ_ _ y=>y
end
def Zhl(K:am):List V->Hp->VK->Prop:=λvs H Q=>∃a oe C Dv u b,vs=[.ref a,Dv]/\Zy Dv u/\(∀u',Zy Dv u'->u'=u)/\H a=aa (.frz oe<|.own a)/\oe.cls=.ref C/\ExK K C/\gD K (.ref C) u=aa b/\Q (.bl b) H
def zm:ZB X (.builtin "isinstance") (Zhl X.K):=by
 intro pq s Z H xs us Q I r h;obtain⟨a,oe,C,Dv,u,b,rfl,ru,uq,Ha,ce,k,e,q⟩:=h;cases r with
 |cons ra r=>
  cases r with
  |cons rD r=>
   cases r;cases ra;obtain rfl:=uq _ rD;obtain⟨ge,_⟩:=I.hok a _ Ha;exact dL (Zbf k) I.kIn #[oe,ge,ce] e (by intro q;cases q) λtk=>#[.bl b,H,I.tok tk,rfl,q]
def JU:V->List V->Hp->VK->Prop:=λx vs H Q=>∃(l:aE)(bs:List Bool)(j:Nat),x=.ref l/\vs=[.bl aj]/\H l=aa (.lst<|bs.map .bl)/\bs[j]?=aa aj/\(∀m,m<j->bs[m]?=aa ak)/\Q (.int j) H
theorem wY:∀{bs:List Bool}{us:List au},Vals (bs.map V.bl) us->us=bs.map bH
 |[],_,.nil=>rfl
 |b::bs,_,.cons r t=>by cases r;rw[wY t];rfl
def z9:MtM X "list.index" JU:=by
 intro pq s Z H x vs v us Q I rx rv h;obtain⟨l,bs,j,rfl,rfl,hH,hj,hno,q⟩:=h;cases rx;obtain⟨u,rfl,ru⟩:=rv.one;cases ru;obtain⟨z,its,n,r,hl,e⟩:=I.lstM hH;obtain rfl:=wY r;have hjl:=(aH.mp hj).1;have hsz:(bs.map bH).toArray.size=bs.length:=by simp
 have get:∀m (hm:m<(bs.map bH).toArray.size),(bs.map bH).toArray[m]=bH (bs[m]'(by rw[hsz]at hm;exact hm)):=λm hm=>by simp
 refine gF F.slot_list_index #[_,e,rfl] F.entry_list_index (F.args_list_index_2 _ _) (PySem.SeqAt.list_indexAt l (bs.map bH).toArray n ae #[] (.bool aj) (λy=>y == .bool aj) j (by rw[hsz];exact hjl) (by
  rw[ax]at z;have:bj=16777216:=rfl;lia) (by rw[get];rw[(aH.mp hj).2];rfl) λm hm hmj=>by
   rw[get];have:=aH.mp<|hno m hmj;rw[this.2];rfl) #[e,λy hy=>?_,?_]
 .obtain⟨b,_,rfl⟩:=aO.mp (List.mem_toArray.mp hy)
  cases b
  .exact lx ak aj
  .exact lx aj aj
 .exact#[.int j,H,I.tok _,#[_,rfl],q]
def ZhB{CX:CXT}{P:bE}{w:bZ}{K:am}{mg:bq->Option au}{base:cy}{k:Nat}{f:aE}{x qual:bq}{st:fg}{fd:cQ}{N ps:List bq}{A:cz}{outer:List Env}{s:aA}{H:Hp}{args:Args}{us:List au}{vs:List V}{Q:VK}{E:XK}
  (Fu:Fun K x qual st f fd)(S:FnScope N ps (Zh st))(hr:Room (k+1) A)(e0:Env0 P w K mg base A outer s H)(hb:nC s fd args (ps.zip us))(r:Vals vs us)(hl:vs.length=ps.length)
  (hbody:∀(cdv:au)(s1:aA),Room k (A.deeper<|ee qual (Zh st) s.heap.objs.size f cdv)->L2.Inv (XX CX P w K mg base N qual (Zh st) f cdv A outer s H E) [] (start N vs) H s1->
   bf (aV P w) (A.deeper<|ee qual (Zh st) s.heap.objs.size f cdv) (execs (ZA st)<|ee qual (Zh st) s.heap.objs.size f cdv) (SP (XX CX P w K mg base N qual (Zh st) f cdv A outer s H E) [] {nx:=λ_ H'=>Q .non H',rt:=Q}) (XX CX P w K mg base N qual (Zh st) f cdv A outer s H E).xe s1) :
  eT (aV P w) A (.call (.ref f) args) (CR CX outer P w H s Q E) s:=by
 obtain⟨oc,od,kV,doc,pm,an,cdv,ct,osl,rfl,lk,hcd⟩:=Fu.ex;have KX:=e0.mod.kin.keeps λb o e=>(e0.bs b o e).1
 have lim:=e0.mod.nolimit.keeps λb o e=>(e0.bs b o e).1
 have hkind:∀y∈ps.zip us,(Zh st).names.lookup y.1=aa .local\/((Zh st).names.lookup y.1=aa .cell/\((dE (s.heap.objs.size+1) (Zh st).names []).lookup y.1).isSome=aj):=by
  rintro ⟨n,v⟩ hy;rcases S.par n (fX hy).1 with q|q
  .exact .inl q
  .exact .inr #[q,iB _ _ _<|.inl q]
 refine mV hr.depth (KX _ _ lk) rfl S.co S.gen rfl (oo KX hcd)<|hb _ _ _ _ ?_;refine kS S.kind hkind λenv he s1 x=>?_
 subst he;refine#[lim.keeps x.toInCall.keep,codeAny_func ?_];have I:=JF (CX:=CX) (E:=E) S hr.hd e0 hl r x;refine cW (hbody cdv s1 (hr.deeper _) I) (λfl s' hs=>?_) λe s' hs=>hs
 cases fl with
 |ret u=>
  obtain⟨v,σ',H',J,rv,q⟩:=hs;exact#[v,H',J.os,J.bare,J.base,J.hok,rv,q]
 |next=>
  obtain⟨σ',H',J,q⟩:=hs;exact#[.non,H',J.os,J.bare,J.base,J.hok,rfl,q]
 |brk=>
  obtain⟨_,_,_,q⟩:=hs;exact False.elim q
 |cont=>
  obtain⟨_,_,_,q⟩:=hs;exact False.elim q
def vH(Pt:aE)(H:Hp):Prop:=H Pt=aa (.tbl #[])/\∀b,b≠Pt->H b=ae\/∃o xs,H b=aa (.frz o<|.lst xs)
def qb{P:bE}{w:bZ}{K:am}{mg mb:bq->Option au}{CX:CXT}{k:Nat}{fa a c Pt:aE}{fd:cQ}{x:bq}{sp:Sp}{s₁:aA}{vs:List au}{ns:List Int}
  (KX:K.In s₁.heap)(hns:s₁.heap.Ns bB mg)(hb:s₁.heap.Ns n5 mb)(hbb:∀x:bq,x≠"__name__"->mb x=dJ x)(hlim:s₁.heap.NoLimit)(hg:s₁.gens = #[])
  (hC:dH s₁.heap c Pt)(hPt:s₁.heap.get? Pt=aa (sA #[]))(hK:ny K=aj)(hB:s₁.heap.BuiltinsAt mg Pt)
  (ha:s₁.heap.get? a=aa {cls:=.type "list",data:=.seq vs.toArray})(hi:rF vs ns)(hl:ns.length<=bj)(hr:Room k nD)
  (F:∀base:cy,K.In base->base.Ns bB mg->dH base c Pt->base.BuiltinsAt mg Pt->bB≠Pt->FnOk P w K mg base CX k fa fd [x] sp)(hbind:∀(s:aA)(u:au),nC s fd #[[u],[]] [(x,u)])
  (hsp:∀H:Hp,vH Pt H->SqL K H a (ns.map V.int)->sp [.ref a] H (λv _=>v=.bl aj) λ_ _ _=>False)
  (hCX:∀H e s',CX [] H s₁ (λ_ _ _=>False) e s'->False) :
  eT (aV P w) nD (.call (.ref fa) #[[.ref a],[]]) (λr s'=>r=.ok (.ret<|.bool aj)/\OldK s₁.heap s'.heap/\s'.os=s₁.os/\i7 s'.gens) s₁:=by
 have rv:=JI hi;have lenV:=hi.length;have hPa:Pt≠a:=λz=>by rw[z,ha]at hPt;cases hPt
 have hKP:K.lookup Pt=ae:=by
  cases q:K.lookup Pt with
  |none=>rfl
  |some o=>
   have e:=KX Pt o q;rw[hPt]at e;cases e;have h2:=aY.mp hK (Pt,sA #[])<|PySem.W.mem_of_lookupK q;exact T7 (h2) aS
 have core:∀H:Hp,vH Pt H->SqL K H a (ns.map V.int)->HOk P w H s₁.heap->(∀b,H b≠ae->b=a\/b=Pt)->(H a≠ae->K.lookup a=ae)->
   eT (aV P w) nD (.call (.ref fa) #[[.ref a],[]]) (λr s'=>r=.ok (.ret<|.bool aj)/\OldK s₁.heap s'.heap/\s'.os=s₁.os/\i7 s'.gens) s₁:=by
  intro H hO hS hok hA hK;have base_of:∀{b:aE}{o:fW},s₁.heap.get? b=aa o->H b=ae->(Q2 s₁.heap H).get? b=aa o:=λe n=>jg e n
  have noT:∀{b:aE}{o:fW},s₁.heap.get? b=aa o->b≠a->b≠Pt->H b=ae:=λ{b o} e z1 z2=>by
   cases q:H b with|none=>rfl|some u=>exact((hA b<|by rw[q];simp).elim z1 z2).elim
  have noA:∀{b:aE}{o:fW}{es:Array l9}{ep:Nat},s₁.heap.get? b=aa o->o.data=.dict es ep->H b=ae:=λ{b o es ep} e d=>
   noT e (λz=>by subst z;rw[ha]at e;cases e;cases d) λz=>by subst z;rw[hPt]at e;cases e;cases d
  have nsK:∀{b:aE}{m:bq->Option au},s₁.heap.Ns b m->(Q2 s₁.heap H).Ns b m:=λ{b m} #[o,es,ep,e,d,r]=>#[o,es,ep,base_of e<|noA e d,d,r]
  have hKb:=λb o e=>base_of (KX b o e) (by
   cases q:H b with
   |none=>rfl
   |some u=>
    rcases hA b (by rw[q];simp)with z|z
    .subst z;rw[hK<|by rw[q];simp]at e;cases e
    .subst z;rw[hKP]at e;cases e)
  have hM:Mod K mg (Q2 s₁.heap H):=#[hKb,nsK hns,#[mb,nsK hb,hbb],let #[mc,h1,h2]:=hlim;#[mc,nsK h1,h2]];have e0:Env0 P w K mg (Q2 s₁.heap H) nD [] s₁ H:=#[rfl,hM,λb o e=>ZcF e,mI<|uf _ _,trivial,λb hb=>T7 (show b∈([]:List aE)from hb) #[2],hok,.of_eq hg]
  have hCb:dH (Q2 s₁.heap H) c Pt:=by
   obtain⟨o,vs',file,tf,flags,tg,inF,text,tt,e1,r1,r⟩:=hC;refine#[o,vs',file,tf,flags,tg,inF,text,tt,base_of e1<|noT e1 (λz=>?_) λz=>?_,r1,r]
   .subst z;rw[ha]at e1;cases e1;exact T7 (sB r1) #[1]
   .subst z;rw[hPt]at e1;cases e1;cases r1
  have hBb:(Q2 s₁.heap H).BuiltinsAt mg Pt:=by
   obtain⟨bm,o,b1,b2,b3,b4,b5,b6,b7,b8⟩:=hB;refine#[bm,o,b1,b2,b3,b4,base_of b5<|noT b5 (λz=>?_) b4,b6,b7,b8]
   subst z;rw[ha]at b5;cases b5;exact T7 (sB b6) #[1]
  have hgP:bB≠Pt:=λz=>by
   obtain⟨o,es,ep,e,d,_⟩:=hns;rw[z,hPt]at e;cases e;cases d
  refine kK ((F _ hKb (nsK hns) hCb hBb hgP).run nD [] s₁ H #[[.ref a],[]] [.ref a] [.ref a] _ _ hr e0 (hbind s₁<|.ref a) (.cons rfl .nil)<|hsp H hO hS) λr s' h=>?_
  cases r with
  |error e=>exact(hCX H e s' h).elim
  |ok fl=>
   cases fl with
   |next=>exact False.elim h
   |brk=>exact False.elim h
   |cont=>exact False.elim h
   |ret u=>
    obtain⟨v,H',os,bare,un,hok',r',q⟩:=h;have q':=q;subst q';obtain rfl:u=bH aj:=r';have keep:=λb o z e=>by
     cases q:H b with
     |none=>exact un.keep b o e q (by intro z;exact T7 (show b∈([]:List aE)from z)<|by simp) #[2]
     |some u=>
      rcases hO.2 b z with z|⟨ob,xs,z⟩
      .rw[q]at z;cases z
      .have z2:=un.frzs b ob _ z
       obtain⟨e1,_⟩:=hok b _ z;obtain⟨e2,_⟩:=hok' b _ z2;rw[e]at e1;cases e1;exact e2
    obtain⟨more,hm⟩:=un.tbls Pt #[] hO.1;have hT':=hok' Pt _ hm;refine#[rfl,#[λb o e=>?_,λb o e=>?_],os,bare]
    .by_cases z:b=Pt
     .subst z
      rw[hPt]at e;cases e;exact .inr<|.inl #[(hC.tab hPt).isCodeTable,rfl,#[],more,rfl,hT']
     .exact .inl<|keep b o z e
    .by_cases z:b=Pt
     .subst z;exact#[_,hT']
     .exact#[o,keep b o z e]
 have tbOk:=hPt
 cases hk:K.lookup a with
 |some o=>
  have e:=KX a o hk;rw[ha]at e;cases e;refine core (upd (λ_=>ae) Pt<|.tbl #[]) #[Zn,λb z=>.inl<|Zj z] (.inr #[_,vs.toArray,_,hk,rfl,rfl,rfl,by rw[az,lenV];exact hl,by simpa using rv]) (λb u z=>?_) (λb z=>?_) λz=>T7 (Zj<|Ne.symm hPa) z
  .by_cases q:b=Pt
   .subst q;rw[Zn]at z;cases z;exact hPt
   .rw[Zj q]at z;cases z
  .by_cases q:b=Pt
   .exact .inr q
   .exact T7 (Zj q) z
 |none=>
  refine core (upd (λb=>if b=a then aa (.frz {cls:=.type "list",data:=.seq vs.toArray}<|.lst<|ns.map V.int)else ae) Pt<|.tbl #[]) #[Zn,λb z=>?_] (.inl<|.inr #[{cls:=.type "list",data:=.seq vs.toArray},by rw[Zj<|Ne.symm hPa];exact T9 rfl]) (λb u z=>?_) (λb z=>?_) λ_=>hk
  .rw[Zj z]
   by_cases hb:b=a
   .exact .inr #[_,_,T9 hb]
   .exact .inl<|T8 hb
  .by_cases q:b=Pt
   .subst q;rw[Zn]at z;cases z;exact hPt
   .rw[Zj q]at z
    by_cases hb:b=a
    .have z':=(T9 hb).symm.trans z
     cases z';subst hb;exact#[ha,by rw[ax];exact hl,vs,_,rv,ha]
    .have z':=(T8 hb).symm.trans z
     cases z'
  .by_cases q:b=Pt
   .exact .inr q
   .rw[Zj q]at z
    by_cases hb:b=a
    .exact .inl hb
    .exact T7 (T8 hb) z
def Zat{l:mS}{n k:Nat}{q:bE}{loose:List bq}{XP:(bq->Option au)->cy->Prop}{YP:bZ->cy->Prop}{d:sT}{K:Params->am}{CX:bZ->CXT}{sp:bZ->aE->Sp}{x:bq}{c Pt:aE}{dr:sT}
  (hn:l.most=aa n)(hn2:n<=bj)(hdf:d.params.defaults=[])(hr:Room k nD)
  (hY:∀(w:bZ)(h:cy),YP w h->(K w.params).In h)(hrec:(recsOf q).find? (λe=>e.name == d.name)=aa dr)(ht:∀w:bZ,sH (K w.params) d.name=aa (c,Pt))(hK:∀w:bZ,ny (K w.params)=aj)
  (F:∀(w:bZ)(mg:bq->Option au)(fa:aE)(h:cy),(K w.params).In h->h.Ns bB mg->mg d.name=aa (.ref fa)->
   ∃fd:cQ,(∀(s:aA)(u:au),nC s fd #[[u],[]] [(x,u)])/\
    ∀base:cy,(K w.params).In base->base.Ns bB mg->dH base c Pt->base.BuiltinsAt mg Pt->bB≠Pt->FnOk l.prog w (K w.params) mg base (CX w) k fa fd [x] (sp w Pt))
  (hsp:∀(w:bZ)(H:Hp)(a:aE)(ns:List Int),ns.length<=n->vH Pt H->SqL (K w.params) H a (ns.map V.int)->sp w Pt [.ref a] H (λv _=>v=.bl aj) λ_ _ _=>False)
  (hCX:∀(w:bZ)(H:Hp)(s:aA)(e:au)(s':aA),CX w [] H s (λ_ _ _=>False) e s'->False) :
  sI q loose XP YP l.row.toRowW d [] (λf vs=>rR f vs):=by
 refine Att.zr hn hdf λw s₀ s₁ mg mb fa o pm cd doc a vs ns G Y ho hd hcd hmg hobj hints hlen hg=>?_
 have KX:=hY w _ Y;obtain⟨fd,hb,hF⟩:=F w mg fa _ KX G.T.g hmg;obtain⟨hC,hPt⟩:=PySem.W.tab_of G.T KX hrec<|ht w;obtain⟨bm,ob,b1,b2,b3,b4,b5,b6⟩:=G.T.bmain;have hbP:bm≠Pt:=λz=>by rw[z,hPt]at b3;cases b3;cases b4
 have hbG:bm≠bB:=λz=>by
  obtain⟨o,es,ep,e,hd,_⟩:=G.T.g;rw[z,e]at b3;cases b3;rw[hd]at b6;cases b6
 exact qb KX G.T.g G.T.b G.T.builtins G.T.nolimit hg hC hPt (hK w) #[bm,ob,b1,b2,hbG,hbP,b3,b4,b5,b6] hobj hints (bW hlen hn2) hr hF hb (λH hO hS=>hsp w H a ns hlen hO hS) λH e s'=>hCX w H s₁ e s'
open Ev (E Sm Fn Bop Cop Ty Bf Mf)
noncomputable def YE:List bq:=["SpaceError","NoRow","NoPart","NoNumber","NoHeads","NotBeside","NotIn","NoTurn","NoLot","TooMany","BadNote"]
structure Errs(K:am)(mg:bq->Option au)(cl:List aE):Prop where
 len:cl.length=11
 nm:∀(j:Nat)(C:aE)(x:bq),cl[j]?=aa C->YE[j]?=aa x->mg x=aa (.ref C)
 exk:∀(j:Nat)(C:aE),cl[j+1]?=aa C->ExK K C
 one:∀(i j:Nat)(C D:aE),cl[i+1]?=aa C->cl[j+1]?=aa D->gD K (.ref C) (.ref D)=aa (af<|i=j)
 ve:∀(i:Nat)(C:aE),cl[i+1]?=aa C->gD K (.ref C) (.type "ValueError")=aa aj
 exm:∀(i:Nat)(C S:aE),cl[i+1]?=aa C->cl[0]?=aa S->sm K (.ref C) (.ref S)=aa aj
def tIs(K:am)(ir:Nat)(Dv:V):TE:=tCB (Zhl K)<|YJ (JN ir)<|YJ (tC Dv) Gb
structure ErAt(K:am)(cl:List aE)(ir c:Nat)(Z:L2.St)(H:Hp):Prop where
 ex:∃a oe C,Z[ir]?=aa (aa<|.ref a)/\H a=aa (.frz oe<|.own a)/\oe.cls=.ref C/\cl[c+1]?=aa C
theorem ErAt.upd{K:am}{c:Nat}{q:aE}{o:HO}(e:ErAt K cl ir c Z H)(hq:H q=ae):ErAt K cl ir c Z (L2.upd H q o):=by
 obtain⟨a,oe,C,h1,h2,h3⟩:=e.ex;exact#[a,oe,C,h1,by rw[Zj λz=>by rw[z,hq]at h2;cases h2];exact h2,h3]
def ErAt.wr{K:am}{c:Nat}{q:aE}{xs:List V}{o:HO}(e:ErAt K cl ir c Z H)(hq:H q=aa #[35]):ErAt K cl ir c Z (L2.upd H q o):=by
 obtain⟨a,oe,C,h1,h2,h3⟩:=e.ex;exact#[a,oe,C,h1,by rw[Zj λz=>by rw[z,hq]at h2;cases h2];exact h2,h3]
theorem ErAt.set{K:am}{c j:Nat}{v:V}(e:ErAt K cl ir c Z H)(hj:ir≠j):ErAt K cl ir c (Z.set j<|aa v) H:=by
 obtain⟨a,oe,C,h1,h2⟩:=e.ex;exact#[a,oe,C,by rw[bg<|Ne.symm hj];exact h1,h2]
def Xo{K:am}{mg:bq->Option au}{c j:Nat}{Dj:aE}(R:Errs K mg cl)(e:ErAt K cl ir c Z H)(hj:cl[j+1]?=aa Dj)(q:Q (.bl<|af<|c=j) H):tIs K ir (.ref Dj) Z H Q:=by
 obtain⟨a,oe,C,h1,h2,h3,h4⟩:=e.ex;exact#[.ref a,h1,a,oe,C,.ref Dj,.ref Dj,af<|c=j,rfl,rfl,λu' r=>r,h2,h3,R.exk c C h4,R.one c j C Dj h4 hj,q]
def Zf8{K:am}{mg:bq->Option au}{c:Nat}(R:Errs K mg cl)(e:ErAt K cl ir c Z H)(q:Q (.bl aj) H):tIs K ir (.ty "ValueError") Z H Q:=by
 obtain⟨a,oe,C,h1,h2,h3,h4⟩:=e.ex;exact#[.ref a,h1,a,oe,C,.ty "ValueError",.type "ValueError",aj,rfl,rfl,λu' r=>r,h2,h3,R.exk c C h4,R.ve c C h4,q]
def Zhf(hi:X.N[ir]?=aa xr)(hv:Vis X.env.scope xr)(hg0:Gl X "isinstance")(hm0:X.mg "isinstance" = ae)(hg:Gl X x)(hm:X.mg x=aa (.ref Dj))(hd1:(xr == #[9])=ak)(hd2:(xr == #[15])=ak)(hd3:(x == #[9])=ak)
  (hs:aB [.Name xr p1,.Name x p2] X.env=(ak,cu (.Name xr p1) X.env)::aB [.Name x p2] X.env:=by rfl)(hs2:aB [.Name x p2] X.env=(ak,cu (.Name x p2) X.env)::aB [] X.env:=by rfl)(hpl:(dG pos<|aB [.Name x p2] X.env).any (·.1)=ak:=by rfl) :
  PE X (.Call (.Name "isinstance" p) [.Name xr p1,.Name x p2] [] pos) (tIs X.K ir<|.ref Dj):=
 Xv zm hg0 hm0 rfl (Zz (Yn hi hv hd1 hd2) (Zz (ZcQ hg hm rfl hd3) Ym hs2) hs) #[1] #[1] hs hpl
def Ze8(hi:X.N[ir]?=aa xr)(hv:Vis X.env.scope xr)(hg0:Gl X "isinstance")(hm0:X.mg "isinstance" = ae)(hg:Gl X "ValueError")(hm:X.mg "ValueError" = ae)(hd1:(xr == #[9])=ak)(hd2:(xr == #[15])=ak)
  (hs:aB [.Name xr p1,.Name "ValueError" p2] X.env=(ak,cu (.Name xr p1) X.env)::aB [.Name "ValueError" p2] X.env:=by rfl)(hs2:aB [.Name "ValueError" p2] X.env=(ak,cu (.Name "ValueError" p2) X.env)::aB [] X.env:=by rfl)(hpl:(dG pos<|aB [.Name "ValueError" p2] X.env).any (·.1)=ak:=by rfl) :
  PE X (.Call (.Name "isinstance" p) [.Name xr p1,.Name "ValueError" p2] [] pos) (tIs X.K ir<|.ty "ValueError"):=
 Xv zm hg0 hm0 rfl (Zz (Yn hi hv hd1 hd2) (Zz (UC hg hm rfl rfl) Ym hs2) hs) #[1] #[1] hs hpl
def Vy(K:am)(ir is:Nat)(cl:List aE)(ts:TT)(rb:TE)(fin:TS):TS:=
 let I:=λj=>tIs K ir<|.ref<|cl.getD (j+1) 0
 JW (ZfB (tB<|Zhd<|JN ir) (Za8<|tC .non) qI) (JW (yT (v4<|YJ (I 0)<|YJ (I 1)<|YJ (I 2) Gb)<|Qq is)
  (JW (yT (tOp Zdx (JN is)<|v4<|YJ (I 3)<|YJ (I 4)<|YJ (I 5) Gb)<|Qq is) (JW (yT (tOp Zdx (JN is)<|v4<|YJ (I 6)<|YJ (I 7)<|YJ (I 8) Gb)<|Qq is)
   (JW (Zex<|tBM K "list" wH (JN is)<|YJ (I 9) Gb)<|JW (ZfB (tOr (Zg6<|tB<|tIs K ir<|.ty "ValueError") ts) (Za8 rb) qI) fin))))
def xV{K:am}{ts:TT}{rb:TE}{fin:TS}{Dn:Ends}(h:Z[ir]?=aa (aa .non))(q:Dn.rt .non H):Vy K ir is cl ts rb fin Dn Z H:=by
 refine#[.non,h,aj,rfl,?_]
 change (if aj=aj then _ else _)
 rw[T9 rfl];exact q
def Jl(xs:List V):∀ps,HO.lst xs≠.tbl ps:=λ_ z=>by cases z
noncomputable def Z1(c:Nat):List Bool:=(aM 10).map λj=>af<|c=j
def Zau:∀c,c<10->(Z1 c)[c]?=aa aj:=by decide
def jW:∀c,c<10->∀m,m<c->(Z1 c)[m]?=aa ak:=by decide
theorem wC :∀(bs:List Bool),Rq U H (bs.map Pv.V.bl) (bs.map V.bl)
 |[]=>Rq.nil
 |b::bs=>Rq.cons (Yg b)<|wC bs
def upd2{H:Hp}{p:aE}{o u:HO}:upd (upd H p o) p u=upd H p u:=by
 funext b
 by_cases z:b=p
 .subst z;rw[Zn,Zn]
 .rw[Zj z,Zj z,Zj z]
def uz{K:am}{mg:bq->Option au}{ts:TT}{rb:TE}{fi:TS}{Dn:Ends}{c:Nat}{U:Mx}{S:Zv}(R:Errs K mg cl)(hc:c<10)(e:ErAt K cl ir c Z H)(hne:ir≠is)(hsl:is<Z.length)(st:St3 K U S H)
  (hts:∀(σ':L2.St)(H':Hp)(p:aE)(Q':Bool->Hp->Prop),σ'[is]?=aa (aa<|.ref p)->H' p=aa (.lst<|(Z1 c).map .bl)->¬U.X p->St3 K U S H'->(∀H2,Fut U H' U H2->St3 K U S H2->Q' ak H2)->ts σ' H' Q')
  (fin:∀(σ':L2.St)(H':Hp)(q:aE),σ'[is]?=aa (aa<|.ref q)->σ'.length=Z.length->H' q=aa (.lst<|(Z1 c).map .bl)->Fut U H U H'->St3 K U S H'->fi Dn σ' H'):Vy K ir is cl ts rb fi Dn Z H:=by
 have cj:∀j,j<10->cl[j+1]?=aa (cl.getD (j+1) 0):=λj hj=>by
  have hl:j+1<cl.length:=by rw[R.len];lia
  rw[ai hl,aF,ai hl];rfl
 obtain⟨a,oe,C,h1,h2,h3,h4⟩:=id e.ex;refine#[.ref a,h1,ak,rfl,?_]
 change (if ak=aj then _ else _)
 rw[T8 aS]
 let A1:HO:=.lst [.bl<|af<|c=0,.bl<|af<|c=1,.bl<|af<|c=2]
 let A2:HO:=.lst [.bl<|af<|c=3,.bl<|af<|c=4,.bl<|af<|c=5]
 let A3:HO:=.lst [.bl<|af<|c=0,.bl<|af<|c=1,.bl<|af<|c=2,.bl<|af<|c=3,.bl<|af<|c=4,.bl<|af<|c=5]
 let A4:HO:=.lst [.bl<|af<|c=6,.bl<|af<|c=7,.bl<|af<|c=8]
 let L5:List Bool:=[af<|c=0,af<|c=1,af<|c=2,af<|c=3,af<|c=4,af<|c=5,af<|c=6,af<|c=7,af<|c=8]
 let A5:HO:=.lst<|L5.map .bl
 let A6:HO:=.lst<|(Z1 c).map .bl
 have neq:∀{G:Hp}{b d:aE}{u:HO},G b=aa u->G d=ae->b≠d:=λh1 h2 z=>by rw[z,h2]at h1;cases h1
 refine Xo R e (cj 0<|by lia)<|Xo R e (cj 1<|by lia)<|Xo R e (cj 2<|by lia) #[by show 3<=bj;decide,λq1 hq1=>?_]
 have e1:=(e.upd (o:=A1) hq1).set (v:=.ref q1) hne;have st1:=st.fresh (o:=A1) hq1<|Jl _;have f1:Fut U H U (upd H q1 A1):=Zu hq1;have g1:upd H q1 A1 q1=aa A1:=Zn;have l1:(Z.set is<|aa<|.ref q1).length=Z.length:=bC;refine#[.ref q1,bn hsl,?_];refine Xo R e1 (cj 3<|by lia)<|Xo R e1 (cj 4<|by lia)<|Xo R e1 (cj 5<|by lia) #[by show 3<=bj;decide,λq2 hq2=>?_]
 have g2:upd (upd H q1 A1) q2 A2 q1=aa A1:=by rw[Zj<|neq g1 hq2];exact g1
 have st2:=st1.fresh (o:=A2) hq2<|Jl _;have f2:Fut U H U (upd (upd H q1 A1) q2 A2):=f1.trans<|Zu hq2;refine#[q1,q2,_,_,rfl,rfl,g2,Zn,by show 6<=bj;decide,λq3 hq3=>?_]
 let H3:=upd (upd (upd H q1 A1) q2 A2) q3 A3
 have e3:=((e1.upd hq2).upd (o:=A3) hq3).set (v:=.ref q3) hne;have st3:=st2.fresh (o:=A3) hq3<|Jl _;have f3:Fut U H U H3:=f2.trans<|Zu hq3;have g3:H3 q3=aa A3:=Zn;have l3:((Z.set is<|aa<|.ref q1).set is<|aa<|.ref q3).length=Z.length:=by rw[bC,l1]
 refine#[.ref q3,bn (by rw[l1];exact hsl),?_]
 refine Xo R e3 (cj 6<|by lia)<|Xo R e3 (cj 7<|by lia)<|Xo R e3 (cj 8<|by lia) #[by show 3<=bj;decide,λq4 hq4=>?_]
 have g4:upd H3 q4 A4 q3=aa A3:=by rw[Zj<|neq g3 hq4];exact g3
 have st4:=st3.fresh (o:=A4) hq4<|Jl _;have f4:Fut U H U (upd H3 q4 A4):=f3.trans<|Zu hq4;refine#[q3,q4,_,_,rfl,rfl,g4,Zn,by show 9<=bj;decide,λq5 hq5=>?_]
 let H5:=upd (upd H3 q4 A4) q5 A5
 let σ5:=((Z.set is<|aa<|.ref q1).set is<|aa<|.ref q3).set is<|aa<|.ref q5
 have e5:=((e3.upd (o:=A4) hq4).upd (o:=A5) hq5).set (j:=is) (v:=.ref q5) hne;have l5:σ5.length=Z.length:=by rw[bC,l3]
 have v5:σ5[is]?=aa (aa<|.ref q5):=bn (by rw[l3];exact hsl)
 have g5:H5 q5=aa A5:=Zn;refine#[.ref q5,v5,.inl #[rfl,_,SqL.of g5],?_];refine Xo R e5 (cj 9<|by lia) #[q5,_,_,rfl,rfl,g5,by show 9<bj;decide,?_]
 let H6:=upd H5 q5 A6
 have h6:H6=upd (upd H3 q4 A4) q5 A6:=upd2;have st6:St3 K U S H6:=by rw[h6];exact st4.fresh (o:=A6) hq5<|Jl _
 have f6:Fut U H U H6:=by rw[h6];exact f4.trans<|Zu hq5
 have e6:ErAt K cl ir c σ5 H6:=e5.wr g5;have g6:H6 q5=aa A6:=Zn;have nx5:=st4.nx hq5;refine Zf8 R e6 #[aj,rfl,?_]
 change (if ak=aj then _ else _)
 rw[T8 aS];refine hts σ5 H6 q5 _ v5 g6 nx5 st6 λH7 f7 st7=>?_
 change (if ak=aj then _ else _)
 rw[T8 aS];exact fin σ5 H7 q5 v5 l5 (Za0 f7 nx5 g6) (f6.trans f7) st7
def rbI:TE:=tUn (rU λi=>.int<|-i)<|tC<|.int 1
def ZfW(K:am)(is:Nat):TS:=Za8<|tBM K "list" JU (JN is)<|YJ (tC<|.bl aj) Gb
def ZcA{K:am}{c:Nat}{Dn:Ends}{q:aE}(hc:c<10)(v:Z[is]?=aa (aa<|.ref q))(h:H q=aa (.lst<|(Z1 c).map .bl))(k:Dn.rt (.int c) H):ZfW K is Dn Z H:=
 #[.ref q,v,.inl #[rfl,_,SqL.of h],q,Z1 c,c,rfl,rfl,h,Zau c hc,jW c hc,k]
noncomputable def tWs:List bq->TA
 |[]=>Gb
 |w::ws=>YJ (tC<|.str w)<|tWs ws
theorem ZbC{Q:List V->Hp->Prop}:∀{ws:List bq} ,Q (ws.map .str) H->tWs ws Z H Q
 |[],h=>h
 |w::ws,h=>ZbC (ws:=ws) h
def ZeZ(K:am)(is iw:Nat):TS:=JW (yT (v4<|tWs Ev.Wd)<|Qq iw)<|Za8<|tOp (Zhj K) (JN iw)<|tBM K "list" JU (JN is)<|YJ (tC<|.bl aj) Gb
def jJ:∀c:Nat,c<10->atI (Ev.Wd.map V.str) (c:Int)=aa (.str<|Ev.Wd.getD c ""):=by decide +kernel
def Zc6{K:am}{c iw:Nat}{Dn:Ends}{q:aE}{U:Mx}{S:Zv}(hc:c<10)(v:Z[is]?=aa (aa<|.ref q))(hw:iw<Z.length)(hne:iw≠is)(h:H q=aa (.lst<|(Z1 c).map .bl))(st:St3 K U S H)(k:∀H',Fut U H U H'->St3 K U S H'->Dn.rt (.str<|Ev.Wd.getD c "") H'):ZeZ K is iw Dn Z H:=by
 refine ZbC #[by decide,λp hp=>?_]
 have hqp:q≠p:=λz=>by rw[z,hp]at h;cases h
 have h1:upd H p (.lst<|Ev.Wd.map V.str) q=aa (.lst<|(Z1 c).map .bl):=by rw[Zj hqp];exact h
 refine#[.ref p,bn hw,.ref q,by rw[bg hne];exact v,.inl #[rfl,_,SqL.of h1],q,Z1 c,c,rfl,rfl,h1,Zau c hc,jW c hc,p,_,_,_,rfl,rfl,SqL.of Zn,jJ c hc,?_]
 exact k _ (Zu hp)<|st.fresh hp<|Jl _
structure LamIn(X:Cx)(scope:dS)(clos:List (bq×aE)):Prop where
 S:LamS scope clos
 cl:∀x c,clos.lookup x=aa c->X.env.cells.lookup x=aa c
 kd:∀x,scope.names.lookup x=aa .free->X.env.scope.names.lookup x=aa .cell
section
variable{X:Cx}{E:XK}{cl:List aE}{Cc:Calls}{i:Ev.E}{xw:Nat->Hp->Prop}
def vR(w:Bool)(c:Nat):V:=if w then .str (Ev.Wd.getD c "")else .int c
def Zfp(w:Bool)(c:Nat):Rep U H (Pv.qa w c) (vR w c):=by
 cases w
 .exact ZR _
 .exact wA _
theorem Zc8{wd:Bool}{rb:TE}{fi:TS}{k:Nat}{f P c S0:aE}{fd:cQ}{xf xc xr n xS:bq}{st:fg}{Nr:List bq}{ic ie ir is:Nat}{params:pe}{body:Expr}{scope:dS}{lp p pos p0 p1 p2 p3 p4 p5 p6 p7 p8 p9 q0 q1:gj}{j0:Nat}{clos:List (bq×aE)}{rest:List fg}{ts:Cx->TT}
  (D:DefX X E)(hfn:∀x,X.fn x=aj)(hr:Room (k+2) X.A)(R:Errs X.K X.mg cl)(hS0:cl[0]?=aa S0)
  (hP:∃ps,X.H₀ P=aa (.tbl ps))(hcode:X.env.code=.ref c)(C:dH X.base c P)(hB:X.base.BuiltinsAt X.mg P)(hgP:bB≠P)(hq:X.env.qual++"<lambda>" = YO)(hcl:iY scope X.env=cF clos)(hdef:defaultsOf params X.env=([],[]))(L:LamIn X scope clos)
  (hbind0:∀pm c' ctv,m9 (sw "<lambda>" YO params body scope clos pm (.ref c') ctv) #[[],[]]=cF [])
  (hbody:∀(g:aE)(c':aE)(A:cz)(outer:List Env)(s:aA)(H:Hp)(E1:XK),Room k (A.deeper<|fU YO scope s.heap.objs.size g (.ref c') clos)->CE (cxL X.prog X.w X.K X.mg X.base X.N scope g (.ref c') clos A outer s H E1) (xwE cl E1) Cc body i)
  (hg:Gl X xf)(hm:X.mg xf=aa (.ref f))(hk:fI X.K (.ref f)=aj)(Fu:Fun X.K xf xf st f fd)(Sc:FnScope Nr [xc] (Zh st))(hb:Vl X.K fd [xc] [])(hdb:(xf == #[9])=ak)
  (he:aB [.Lambda params body scope lp] X.env=(ak,cu (.Lambda params body scope lp) X.env)::aB [] X.env)(hpl:(dG pos<|aB [] X.env).any (·.1)=ak)
  (hst:ZA st=.Assign [.Name xr p0] (.Constant .none j0 q0) q1 :: .Try [.Expr (.Call (.Name xc p1) [] [] p2) p3] [.ExceptHandler (aa<|.Name xS p4) (aa n) [.Assign [.Name xr p5] (.Name n p6) p7] p8] [] [] p9::rest)
  (hN:Nr.Nodup)(hic:Nr[ic]?=aa xc)(hic0:ic=0)(hie:Nr[ie]?=aa n)(hir:Nr[ir]?=aa xr)(his:is<Nr.length)(hne:ir≠is)(hne2:ir≠ie)(hne3:ir≠0)
  (hkc:(Zh st).names.lookup xc=aa .local)(hke:(Zh st).names.lookup n=aa .local)(hkr:(Zh st).names.lookup xr=aa .local)(hkS:∀L f cdv,(ee xf (Zh st) L f cdv).kindOf xS=aa .globalImplicit)(hmS:X.mg xS=aa (.ref S0))
  (hd1:(xc == #[9])=ak)(hd2:(xc == #[15])=ak)(hd3:(n == #[9])=ak)(hd4:(n == #[15])=ak)(hd5:(xS == #[9])=ak)
  (hs0:∀L f cdv,eZ (.Constant .none j0 q0) (aa<|.Name xr p0) q1.line (ee xf (Zh st) L f cdv)=cF ak)(hs1:∀L f cdv,eZ (.Call (.Name xc p1) [] [] p2) ae p3.line (ee xf (Zh st) L f cdv)=cF ak)
  (hs2:∀L f cdv,eZ (.Name n p6) (aa<|.Name xr p5) p7.line (ee xf (Zh st) L f cdv)=cF ak)
  (hrest:∀(cdv:au)(A:cz)(outer:List Env)(s:aA)(H:Hp),Room (k+1) (A.deeper<|ee xf (Zh st) s.heap.objs.size f cdv)->
   PSs (XX (CX1 X.prog X.w) X.prog X.w X.K X.mg X.base Nr xf (Zh st) f cdv A outer s H E0) rest (Vy X.K ir is cl (ts<|XX (CX1 X.prog X.w) X.prog X.w X.K X.mg X.base Nr xf (Zh st) f cdv A outer s H E0) rb fi))
  (hts:∀(Y:Cx)(U:Mx)(S:Zv)(e:Nat)(σ':L2.St)(H':Hp)(q:aE)(Q':Bool->Hp->Prop),Y.K=X.K->e<10->σ'[is]?=aa (aa<|.ref q)->H' q=aa (.lst<|(Z1 e).map .bl)->¬U.X q->St3 X.K U S H'->(∀H2,Fut U H' U H2->St3 X.K U S H2->Q' ak H2)->ts Y σ' H' Q')
  (hfi:∀(Dn:Ends)(σ':L2.St)(U:Mx)(H':Hp)(S:Zv)(e:Nat)(q:aE),e<10->σ'[is]?=aa (aa<|.ref q)->σ'.length=Nr.length->H' q=aa (.lst<|(Z1 e).map .bl)->St3 X.K U S H'->(∀H2,Fut U H' U H2->St3 X.K U S H2->Dn.rt (vR wd e) H2)->fi Dn σ' H') :
  CE X xw Cc (.Call (.Name xf p) [.Lambda params body scope lp] [] pos) (.refu wd i):=.mk <| by
 rintro pq s Z H Q I ⟨U,l,S,st0,lr,h⟩
 obtain⟨ps0,hP0⟩:=hP;obtain⟨more,hPH⟩:=I.base.tbls P ps0 hP0;refine fO<|Vv I hg hm ?_ hdb;refine on (h₀:=X.base) I.ok.mod.kin hk ?_ he hpl;rw[he];refine Calls.spliced_cons<|Zay I st0.tb hPH hcode C hB hgP hq hcl hdef λg c' oc vs t pm ctv H1 s1 I1 gr tb1 _ hg1 hc1 d1 v1=>Calls.spliced_nil #[I1.kIn,?_]
 have nx:∀b:aE,b∉([]:List aE):=λb=>by simp
 have hbd:=hb s1 [.ref g] I1.kIn rfl;have st1:=st0.grow gr tb1;have f1:Fut U H U H1:=gr.fut;refine rO<|kK (ZhB (CX:=CX1 X.prog X.w) (k:=k+1) (Q:=Q) (E:=E0) (us:=[.ref g]) (vs:=[.ref g]) Fu Sc hr I1.env0 (by simpa using hbd) (.cons rfl .nil) rfl λcdv s2 hrm I2=>?_) λr s' hq=>?_
 rotate_left
 .cases r with
  |error e=>obtain⟨_,_,_,_,_,_,_,_,_,_,_,_,_,_,z⟩:=hq;exact z.elim
  |ok fl=>
   cases fl with|ret u=>exact I1.after hq|next=>exact False.elim hq|brk=>exact False.elim hq|cont=>exact False.elim hq
 rw[hst]
 let Xr:=XX (CX1 X.prog X.w) X.prog X.w X.K X.mg X.base Nr xf (Zh st) f cdv X.A X.stack s1 H1 E0
 let D0:Ends:={nx:=λ_ H'=>Q .non H',rt:=Q}
 let σ2:L2.St:=(start Nr [.ref g]).set ir<|aa .non
 have b0:=VL (X:=Xr) (pos:=q1) (pos':=p0) hN hir (.inl hkr) (xy (j:=j0) (pos:=q0)) (hs0 _ _ _)<|.inr hkr;refine gK<|thn (b0 [] s2 _ H1 {nx:=λσ' H'=>σ'=σ2/\H'=H1,rt:=λ_ _=>False} I2 #[rfl,rfl]) λfl s3 hq3=>?_
 cases fl with
 |ret v=>obtain⟨_,_,_,_,_,z⟩:=hq3;exact z.elim
 |brk=>obtain⟨_,_,_,z⟩:=hq3;exact False.elim z
 |cont=>obtain⟨_,_,_,z⟩:=hq3;exact False.elim z
 |next=>
 obtain⟨σx,Hx,I3,z1,z2⟩:=hq3;rw[z1,z2]at I3
 let E1:XK:=λCv _ H'=>∃e Ce S' ρ',Cv=.ref Ce/\cl[e]?=aa Ce/\Pv.pv Cc i l S=.ex e S'/\Fut U H1 ρ' H'/\St3 X.K ρ' S' H'
 have hl0:0<Nr.length:=by have:=(aH.mp hic).1;lia
 have hσl:σ2.length=Nr.length:=I3.len;have hirl:ir<σ2.length:=by rw[hσl];exact(aH.mp hir).1
 have hσ0:σ2[ic]?=aa (aa<|.ref g):=by
  rw[hic0,bg hne3];rfl
 have hσr:σ2[ir]?=aa (aa .non):=bn (by simpa[σ2]using hirl)
 have og:=(I3.hok g _ hg1).1;have oc':=(I3.hok c' _ hc1).1;have notin:∀x c0,X.env.cells.lookup x=aa c0->c0∉frs X.stack:=λx c0 hx hb=>by
  rw[D.st]at hb;unfold frs at hb;rw[cD,D.fr]at hb;rcases ay.mp hb with z|z
  .exact I1.cne x c0 hx z
  .obtain⟨_,o,ho,_⟩:=I1.ok.funs.mem z
   exact T7 (aQ ho)<|mn<|I1.ok.cab x c0 (hfn x) hx
 have cellKeep:∀x c0 v,X.env.cells.lookup x=aa c0->s1.heap.IsCell c0 v->s3.heap.IsCell c0 v:=λx c0 v hx #[o,ho,hd]=>
  #[o,I3.base.keep c0 o ho (I1.freeC x c0 hx) (notin x c0 hx)<|nx c0,hd]
 have hEnd:End X.K (xwE cl E1) Rep U H1 (λ_ H'=>Vy X.K ir is cl (ts Xr) rb fi D0 σ2 H') (Pv.pv Cc i l S):=by
  have h:End X.K xw Rep U H Q (match Pv.pv Cc i l S with
   |.ok _ S=>.ok .non S
   |.ex c S=>if 1<=c/\c<=10 then .ok (Pv.qa wd<|c-1) S else .no
   |.no=>.no):=by
   have h0:=h;rw[Pv.Zfj]at h0;exact h0
  cases q:Pv.pv Cc i l S with
  |no=>rw[q]at h;exact h.elim
  |ok d S'=>
   rw[q]at h;exact λρ' H' v f st' r=>xV hσr<|h ρ' H' .non (f1.trans f) st' UI
  |ex e S'=>
   rw[q]at h;have hg:=(End.guard h).1;intro ρ' H' f st';have he:e<cl.length:=by rw[R.len];lia
   exact#[cl[e],ai he,e,cl[e],S',ρ',rfl,ai he,q,f,st']
 refine gK<|thn (Zdd (X:=Xr) (E:=E0) (Dn:={nx:=λσ' H'=>Vy X.K ir is cl (ts Xr) rb fi D0 σ' H',rt:=λ_ _=>False}) (E1:=E1) (S:=S0) (ic:=ic) (ie:=ie) (ir:=ir) xD I3 hN hic (.inl hkc) hσ0 hie hke hir hkr (hkS _ _ _) hmS #[_,_,_,_,og] ?run ?e1 hd1 hd2 hd3 hd4 hd5 (hs1 _ _ _)<|hs2 _ _ _) λfl s4 hq4=>?_
 case run=>
  exact jd (k:=k) (N:=X.N) (Z:=Z) hrm I3.env0 L.S og #[c',oc,vs,t,rfl,oc',d1,v1] (hbind0 pm c' ctv) (λx c0 e=>#[let #[v,z]:=I1.cell x c0<|L.cl x c0 e;#[v,cellKeep x c0 v (L.cl x c0 e) z],I1.freeC x c0<|L.cl x c0 e]) I1.len
   (λj x v e1 e2 fr=>by
    obtain⟨m,hn,hl⟩:=I1.loc;obtain⟨u,r,lk⟩:=hl j x v e1 e2<|.inr<|.inl<|L.kd x fr;obtain⟨c1,hc1⟩:=L.S.has x fr;rcases lk with⟨k1,_⟩|⟨_,c0,hc0,z⟩
    .have k1:X.env.scope.names.lookup x=aa .local:=k1
     rw[L.kd x fr]at k1;cases k1
    .have:=L.cl x c1 hc1
     rw[hc0]at this;cases this;exact#[u,c1,r,hc1,cellKeep x c1 _ hc0 z])
   (hbody g c' Xr.A Xr.stack s3 H1 E1<|hrm.deeper _).h #[U,l,S,st1,lr.mono f1,hEnd]
 case e1=>
  rintro Ce H' ⟨e,Ce',S',ρ',z,hce,hev,f,st'⟩
  cases z;have h2:End X.K xw Rep U H Q (if 1<=e/\e<=10 then .ok (Pv.qa wd<|e-1) S' else .no):=by
   have h0:=h;rw[Pv.Zfj,hev]at h0;exact h0
  obtain⟨hge,h3⟩:=End.guard h2;obtain⟨e',rfl⟩:∃e',e=e'+1:=#[e-1,by lia]
  refine#[R.exm e' Ce S0 hce hS0,λa oe Ha ce=>?_]
  have stA:St3 X.K ρ' S' (upd H' a<|.frz oe<|.own a):=st'.fresh (o:=.frz oe<|.own a) Ha;have er:ErAt X.K cl ir e' (((σ2.set ie<|aa<|.ref a).set ir<|aa<|.ref a).set ie ae) (upd H' a<|.frz oe<|.own a):=
   #[a,oe,Ce,by rw[bg<|Ne.symm hne2,bn (by rw[bC];exact hirl)],Zn,ce,hce]
  have len':(((σ2.set ie<|aa<|.ref a).set ir<|aa<|.ref a).set ie ae).length=Nr.length:=by rw[bC,bC,bC];exact hσl
  refine uz R #[0] er hne (by rw[len'];exact his) stA (λσ' H2 q Q' a1 a2 a3 a4 a5=>hts Xr ρ' S' e' σ' H2 q Q' rfl #[0] a1 a2 a3 a4 a5) λσ' H2 q b1 b2 b3 f2 st2=>?_
  refine hfi D0 σ' ρ' H2 S' e' q #[0] b1 (b2.trans len') b3 st2 λH3 f3 st3=>?_
  exact h3 ρ' H3 (vR wd e') (f1.trans<|f.trans<|(Zu Ha).trans<|f2.trans f3) st3 (by rw[oA];exact Zfp wd e')
 cases fl with
 |ret v=>obtain⟨_,_,_,_,_,z⟩:=hq4;exact z.elim
 |brk=>obtain⟨_,_,_,z⟩:=hq4;exact False.elim z
 |cont=>obtain⟨_,_,_,z⟩:=hq4;exact False.elim z
 |next=>
  obtain⟨σ4,H4,I4,q4⟩:=hq4;exact hrest cdv X.A X.stack s1 H1 hrm [] s4 σ4 H4 D0 I4 q4
end
noncomputable def ksum(is:Nat):Ev.E:=.cmp .ne (.blt .sum [.comp1 [] 1 [0] (.of<|.v is) []<|.blt .toInt [.v 0]])<|.n 1
theorem va:∀(bs:List Bool),Pv.mapP (λx s=>(Pv.po (Pv.Zo [0] x<|Pv.Z8 [] 1 l) s).bind λZ s=>(Pv.pvt Cc [] Z s).bind λb s=>if b then(Pv.pv Cc (.blt .toInt [.v 0]) Z s).bind λy s=>.ok [y] s else .ok [] s) (bs.map .bl) S=.ok (bs.map λb=>.int<|Ev.b2i b) S
 |[]=>rfl
 |b::bs=>by
  rw[aX,Pv.mapP,show((Pv.po (Pv.Zo [0] (Pv.V.bl b)<|Pv.Z8 [] 1 l) S).bind λZ s=>(Pv.pvt Cc [] Z s).bind λb s=>if b then(Pv.pv Cc (.blt .toInt [.v 0]) Z s).bind λy s=>.ok [y] s else .ok [] s)=Pv.PR.ok [Pv.V.int<|Ev.b2i b] S from rfl]
  dsimp only
  rw[va bs];rfl
theorem zU:∀(bs:List Bool),Pv.intsV (bs.map λb=>Pv.V.int<|Ev.b2i b)=aa (bs.map Ev.b2i)
 |[]=>rfl
 |b::bs=>by rw[aX,Pv.intsV,zU bs];rfl
def vt:∀e,e<10->((Z1 e).map Ev.b2i).sum=1/\Ev.Zbw ((Z1 e).map Ev.b2i)=aj:=by decide
def Zck{e:Nat}(he:e<10)(hl:l[is]?=aa (aa<|.lst<|(Z1 e).map .bl)):Pv.Y2 Cc (ksum is) l S=.ok ak S:=by
 have w:Pv.pvw Cc (.of<|.v is) l S=.ok ((Z1 e).map .bl) S:=by
  rw[Pv.wE7,Pv.pE2,hl];rfl
 have c1:Pv.pv Cc (.comp1 [] 1 [0] (.of<|.v is) []<|.blt .toInt [.v 0]) l S=.ok (.lst<|(Z1 e).map λb=>.int<|Ev.b2i b) S:=by
  rw[Pv.jV,T9 (show Pv.own 1 [0]=aj from rfl),w]
  rw[show ∀(a:List Pv.V)(s:Pv.DS)(f:List Pv.V->Pv.DS->Pv.PR Pv.V),(Pv.PR.ok a s).bind f=f a s from λ_ _ _=>rfl,va]
  rfl
 have c2:Pv.pv Cc (.blt .sum [.comp1 [] 1 [0] (.of<|.v is) []<|.blt .toInt [.v 0]]) l S=.ok (.int 1) S:=by
  rw[Pv.YM,Pv.pvs,c1];show Pv.po (Pv.XW .sum [.lst<|(Z1 e).map λb=>.int<|Ev.b2i b]) S=_
  unfold Pv.XW Pv.blt1;simp only[zU,Option.bind,(vt e he).2,if_true,(vt e he).1];rfl
 unfold Pv.Y2 ksum;rw[Pv.Y9,c2];rfl
def Zgk{Q':Bool->Hp->Prop}{xw:Nat->Hp->Prop}(he:e<10)(h1:σ'[is]?=aa (aa<|.ref q))(h2:H' q=aa (.lst<|(Z1 e).map .bl))(h3:¬U.X q)(st:St3 Y.K U S H')
  (hQ:∀H2,Fut U H' U H2->St3 Y.K U S H2->Q' ak H2):tB3 Y xw (Pv.Y2 Cc<|ksum is) σ' H' Q':=by
 have hl:=(aH.mp h1).1;refine#[U,(aJ σ'.length ae).set is<|aa<|.lst<|(Z1 e).map .bl,S,st,#[by simp,λi d e1=>?_],?_]
 .by_cases z:i=is
  .subst z
   rw[bn<|by simpa using hl]at e1
   cases e1;exact#[.ref q,h1,Xb h2 h3<|wC _]
  .rw[bg<|Ne.symm z,cB]at e1
   split at e1<;>cases e1
 .rw[Zck he<|bn (by simpa using hl)]
  exact λρ2 H2 v f s2 r=>by
   have r:=r;subst r;obtain rfl:=f.eq;exact hQ H2 f s2
def ZcG{xr xs:bq}{ts:TT}{rb:TE}{fi:TS}{badE:Expr}{last:List fg}{sumE:Expr}{P:Nat->gj}{J:Nat->Nat}(R:Errs X.K X.mg cl)(hN:X.N.Nodup)(hi:X.N[ir]?=aa xr)(hv:X.env.scope.names.lookup xr=aa .local)(hj:X.N[is]?=aa xs)(hw:X.env.scope.names.lookup xs=aa .local)
  (g0:Gl X "isinstance")(m0:X.mg "isinstance" = ae)(g1:Gl X "ValueError")(m1:X.mg "ValueError" = ae)(gc:∀x∈YE,Gl X x)
  (r1:(xr == #[9])=ak)(r2:(xr == #[15])=ak)(s1:(xs == #[9])=ak)(s2:(xs == #[15])=ak)(hs:PT X sumE ts)
  (l1:((P 30).endLine == (P 31).line)=aj)(hbad:PE X badE rb)(hlast:PSs X last fi) :
  PSs X (.If (.Compare (.Name xr<|P 0) [.Is] [.Constant .none (J 0)<|P 1]<|P 2) [.Return (aa<|.Constant .none (J 1)<|P 3)<|P 4] [] (P 5) ::
   .Assign [.Name xs<|P 6] (.List [.Call (.Name "isinstance"<|P 40) [.Name xr<|P 41,.Name "NoRow"<|P 42] []<|P 43,.Call (.Name "isinstance"<|P 44) [.Name xr<|P 45,.Name "NoPart"<|P 46] []<|P 47,.Call (.Name "isinstance"<|P 48) [.Name xr<|P 49,.Name "NoNumber"<|P 50] []<|P 51]<|P 7) (P 8) ::
   .Assign [.Name xs<|P 9] (.BinOp (.Name xs<|P 10) .Add (.List [.Call (.Name "isinstance"<|P 52) [.Name xr<|P 53,.Name "NoHeads"<|P 54] []<|P 55,.Call (.Name "isinstance"<|P 56) [.Name xr<|P 57,.Name "NotBeside"<|P 58] []<|P 59,.Call (.Name "isinstance"<|P 60) [.Name xr<|P 61,.Name "NotIn"<|P 62] []<|P 63]<|P 11)<|P 12) (P 13) ::
   .Assign [.Name xs<|P 14] (.BinOp (.Name xs<|P 15) .Add (.List [.Call (.Name "isinstance"<|P 64) [.Name xr<|P 65,.Name "NoTurn"<|P 66] []<|P 67,.Call (.Name "isinstance"<|P 68) [.Name xr<|P 69,.Name "NoLot"<|P 70] []<|P 71,.Call (.Name "isinstance"<|P 72) [.Name xr<|P 73,.Name "TooMany"<|P 74] []<|P 75]<|P 16)<|P 17) (P 18) ::
   .Expr (.Call (.Attribute (.Name xs<|P 19) "append"<|P 30) [.Call (.Name "isinstance"<|P 76) [.Name xr<|P 77,.Name "BadNote"<|P 78] []<|P 79] []<|P 31) (P 20) ::
   .If (.BoolOp .Or [.UnaryOp .Not (.Call (.Name "isinstance"<|P 80) [.Name xr<|P 81,.Name "ValueError"<|P 82] []<|P 83)<|P 21,sumE]<|P 22) [.Return (aa badE)<|P 25] [] (P 26) ::
   last) (Vy X.K ir is cl ts rb fi):=by
 have cj:∀j (x:bq),j<11->YE[j]?=aa x->X.mg x=aa (.ref<|cl.getD j 0):=λj x hj e=>by
  have hl:j<cl.length:=by rw[R.len];exact hj
  exact R.nm j _ x (by rw[ai hl,aF,ai hl];rfl) e
 have vr:Vis X.env.scope xr:=.inl hv;have vs:Vis X.env.scope xs:=.inl hw;have is:∀{a b c d:gj}(j:Nat)(x:bq),j<11->YE[j]?=aa x->(x == #[9])=ak->PE X (.Call (.Name "isinstance" a) [.Name xr b,.Name x c] [] d) (tIs X.K ir<|.ref<|cl.getD j 0):=λj x h e hd=>
  Zhf hi vr g0 m0 (gc x<|cY e) (cj j x h e) r1 r2 hd
 unfold Vy
 dsimp only
 refine Yw (ZbL (Zgn<|Zfl<|Yn hi vr r1 r2) (Vz<|WS xy) Gh) ?_;refine Yw (VL hN hj (.inl hw) (U4<|Zz (is 1 "NoRow" #[1] rfl<|by decide)<|Zz (is 2 "NoPart" #[1] rfl<|by decide)<|Zz (is 3 "NoNumber" #[1] rfl<|by decide) Ym) rfl<|.inr hw) ?_
 refine Yw (VL hN hj (.inl hw) (Uj wc (Yn hj vs s1 s2)<|U4<|Zz (is 4 "NoHeads" #[1] rfl<|by decide)<|Zz (is 5 "NotBeside" #[1] rfl<|by decide)<|Zz (is 6 "NotIn" #[1] rfl<|by decide) Ym) rfl<|.inr hw) ?_
 refine Yw (VL hN hj (.inl hw) (Uj wc (Yn hj vs s1 s2)<|U4<|Zz (is 7 "NoTurn" #[1] rfl<|by decide)<|Zz (is 8 "NoLot" #[1] rfl<|by decide)<|Zz (is 9 "TooMany" #[1] rfl<|by decide) Ym) rfl<|.inr hw) ?_
 refine Yw (UL (yk eK lQ lR VM (Yn hj vs s1 s2) (Zz (is 10 "BadNote" #[1] rfl<|by decide) Ym) rfl rfl l1 rfl rfl) rfl) ?_
 exact Yw (ZbL (PW.pt<|Zee (Za5<|ZfS<|Ze8 hi vr g0 m0 g1 m1 r1 r2)<|jD hs) (Vz<|WS hbad) Gh) hlast
def ZgM{xs:bq}{P:Nat->gj}{J:Nat->Nat}(hj:X.N[is]?=aa xs)(hw:X.env.scope.names.lookup xs=aa .local)(s1:(xs == #[9])=ak)(s2:(xs == #[15])=ak)(l2:((P 32).endLine == (P 33).line)=aj) :
  PSs X [.Return (aa<|.Call (.Attribute (.Name xs<|P 27) "index"<|P 32) [.Constant (.bool aj) (J 3)<|P 28] []<|P 33)<|P 29] (ZfW X.K is):=
 Vz (WS<|yk eK mq mr z9 (Yn hj (.inl hw) s1 s2) (Zz jA Ym) rfl rfl l2 rfl rfl)
def Zh9{P:Nat->gj}{J:Nat->Nat}:PE X (.UnaryOp .USub (.Constant (.int 1) (J 2)<|P 23)<|P 24) rbI:=Zel Zbp WW
structure BS(X:Cx)(s:fg)(t:TS):Prop where
 h:PS X s t
structure BSs(X:Cx)(s:List fg)(t:TS):Prop where
 h:PSs X s t
def ZdY(hN:X.N.Nodup)(hk:X.N[iw]?=aa xw)(hv:X.env.scope.names.lookup xw=aa .local)(h:PA X es ta):BS X (.Assign [.Name xw p1] (.List es p2) p3) (yT (v4 ta)<|Qq iw):=
 ⟨VL hN hk (.inl hv) (U4 h) rfl<|.inr hv⟩
def ZcX(h1:BS X s1 t1)(h2:BS X s2 t2):BSs X [s1,s2] (JW t1 t2):=⟨Yw h1.h<|Vz h2.h⟩
structure BA(X:Cx)(es:List Expr)(ws:List bq):Prop where
 h:PA X es (tWs ws)
def paW(h:BA X es ws):BA X (.Constant (.str x) 0 p::es) (x::ws):=⟨Zz GC h.h⟩
def ZhZ:BA X [] []:=⟨Ym⟩
def Zfz{P:Nat->gj}:BA X [.Constant (.str "row") 0<|P 102,.Constant (.str "part") 0<|P 103,.Constant (.str "number") 0<|P 104,.Constant (.str "heads") 0<|P 105,.Constant (.str "not beside") 0<|P 106,.Constant (.str "not in") 0<|P 107,.Constant (.str "turn") 0<|P 108,.Constant (.str "lot") 0<|P 109,.Constant (.str "many") 0<|P 110,.Constant (.str "note") 0<|P 111] Ev.Wd:=
 paW (paW<|paW<|paW<|paW<|paW<|paW<|paW<|paW<|paW ZhZ)
def ZhJ{xs xw:bq}{iw:Nat}{P:Nat->gj}(hN:X.N.Nodup)(hj:X.N[is]?=aa xs)(hw:X.env.scope.names.lookup xs=aa .local)(s1:(xs == #[9])=ak)(s2:(xs == #[15])=ak)(hk:X.N[iw]?=aa xw)(hv:X.env.scope.names.lookup xw=aa .local)(t1:(xw == #[9])=ak)(t2:(xw == #[15])=ak)(l2:((P 32).endLine == (P 33).line)=aj) :
  BSs X [.Assign [.Name xw<|P 34] (.List [.Constant (.str "row") 0<|P 102,.Constant (.str "part") 0<|P 103,.Constant (.str "number") 0<|P 104,.Constant (.str "heads") 0<|P 105,.Constant (.str "not beside") 0<|P 106,.Constant (.str "not in") 0<|P 107,.Constant (.str "turn") 0<|P 108,.Constant (.str "lot") 0<|P 109,.Constant (.str "many") 0<|P 110,.Constant (.str "note") 0<|P 111]<|P 35)<|P 36,
   .Return (aa<|.Subscript (.Name xw<|P 37) (.Call (.Attribute (.Name xs<|P 27) "index"<|P 32) [.Constant (.bool aj) 0<|P 28] []<|P 33)<|P 38) (P 29)] (ZeZ X.K is iw):=by
 refine ZcX (ZdY hN hk hv Zfz.h) ⟨?_⟩;refine WS<|vP Uv (Yn hk (.inl hv) t1 t2) (yk eK mq mr z9 (Yn hj (.inl hw) s1 s2) (Zz jA Ym) rfl rfl l2 rfl rfl) ?_;intro _ _;with_unfolding_all rfl
end
end Sd
namespace Gn
open PySem PySem.Spec PyProof.Rows L2
section
open Ev (E Sm Fn Bop Cop Ty Bf Mf)
open Sd (hu7 Calls CX1 spX xwE Errs Cls1 DefX)
structure Cls(K:am)(mg:bq->Option au)(base:cy)(cl:List aE):Prop where
 er:Errs K mg cl
 rs:∀(c:Nat)(S C:aE),cl[0]?=aa S->cl[c+1]?=aa C->Cls1 base S C
def zR(P:bE)(w:bZ)(K:am)(mg:bq->Option au)(base:cy)(cl:List aE)(fs:List FR)(F:List Fn)(tk:Nat)(sn:List Nat)(f:Nat->aE)(fd:Nat->cQ)(d:Nat):Prop:=
 ∀i r,fs[i]?=aa r->FnOk P w K mg base (CX1 P w) d (f i) (fd i) r.ps (spX K cl #[27] (sn.contains i) i)
def BdX(fs:List FR)(zs:List bq)(gs:List (bq×Gv))(F:List Fn)(tk:Nat)(sn:List Nat)(i:Nat)(r:FR)(fn:Fn):Prop:=
 ∀(P:bE)(w:bZ)(K:am)(mg:bq->Option au)(base:cy)(cl:List aE)(f:Nat->aE)(fd:Nat->cQ)(d:Nat),Top K mg fs zs gs f fd->Cls K mg base cl->zR P w K mg base cl fs F tk sn f fd d->r.N.Nodup->
  ∀(cdv:au)(A:cz)(outer:List Env)(s:aA)(H:Hp)(E:XK),Room d (A.deeper<|ee r.x (Zh r.st) s.heap.objs.size (f i) cdv)->(A.deeper<|ee r.x (Zh r.st) s.heap.objs.size (f i) cdv).units+7<dN->
   Sd.CSs (XX (CX1 P w) P w K mg base r.N r.x (Zh r.st) (f i) cdv A outer s H E) #[28] (sn.contains i) #[27] (Pv.muts fn.body) (ZA r.st) fn.body
def OkX(fs:List FR)(zs:List bq)(gs:List (bq×Gv))(F:List Fn)(tk:Nat)(sn:List Nat):Nat->List FR->List Fn->Prop
 |_,[],[]=>True
 |i,r::rs,fn::fns=>(fn.ns=r.N.length/\fn.ps=r.ps.length/\scB r.N r.k (Zh r.st)=aj/\BdX fs zs gs F tk sn i r fn)/\OkX fs zs gs F tk sn (i+1) rs fns
 |_,_,_=>False
theorem OkX.get{fs:List FR}{zs:List bq}{gs:List (bq×Gv)}{F:List Fn}{tk:Nat}{sn:List Nat}:∀{rs:List FR}{fns:List Fn}{i0:Nat},OkX fs zs gs F tk sn i0 rs fns->∀i r,rs[i]?=aa r->∃fn,fns[i]?=aa fn/\fn.ns=r.N.length/\fn.ps=r.ps.length/\scB r.N r.k (Zh r.st)=aj/\BdX fs zs gs F tk sn (i0+i) r fn
 |[],_,_,_,i,r,e=>by simp at e
 |_::_,[],_,h,_,_,_=>h.elim
 |r::rs,fn::fns,i0,h,0,r',e=>by
  simp at e;subst e;exact#[fn,rfl,h.1.1,h.1.2.1,h.1.2.2.1,h.1.2.2.2]
 |r::rs,fn::fns,i0,h,i+1,r',e=>by
  obtain⟨g,a,b,c,d,q⟩:=OkX.get h.2 i r' (by simpa using e)
  exact#[g,by simpa using a,b,c,d,by rw[eD,iD 1 i]at q;exact q]
theorem wN{P:bE}{w:bZ}{K:am}{mg:bq->Option au}{base:cy}{cl:List aE}{fs:List FR}{zs:List bq}{gs:List (bq×Gv)}{F G:List Fn}{tk:Nat}{sn:List Nat}{f:Nat->aE}{fd:Nat->cQ}(O:OkX fs zs gs F tk sn 0 fs G)(hG:∀(i:Nat)(fn:Fn),G[i]?=aa fn->F[i]?=aa fn)(hT:F[tk]?=aa Sd.WT)(T:Top K mg fs zs gs f fd)(L:Cls K mg base cl):∀d,zR P w K mg base cl fs F tk sn f fd d
 |0=>λi r h=>Sd.ju
 |d+1=>λi r h=>by
  obtain⟨fn,a,b,c,e,q⟩:=O.get i r h;rw[oY]at q;have S:=VI e;have a:=hG i fn a;have hb:=λcdv A outer s H E hr=>(q P w K mg base cl f fd d T L (wN O hG hT T L d) S.nd cdv A outer s H E hr<|hu7 hr)
  by_cases ht:i=tk
  .subst ht
   rw[hT]at a;cases a;exact Sd.GW Sd.Zcn b c (T.d i r h) S hb
  .exact Sd.GW (Sd.wM ht a) b c (T.d i r h) S hb
def jX{n:Nat}{x:bq}{E:XK}(D:DefX X E)(T:Top X.K X.mg fs zs gs f fd)(h:zR X.prog X.w X.K X.mg X.base cl fs F tk sn f fd d)(hr:Room d X.A)(ha:Sd.CA X #[28] #[27] (e::es) is)(hx:(fs[n]?).map FR.x=aa x)(hg:Gl X x)(hdb:(x == #[9])=ak)
  (he:aB (e::es) X.env=#[20]::aB es X.env)(hpl:(dG pos<|aB es X.env).any (·.1)=ak):Sd.CE X #[28] #[27] #[17] (.call n is):=by
 cases e0:fs[n]? with
 |none=>rw[e0]at hx;cases hx
 |some r=>
  rw[e0]at hx;obtain rfl:r.x=x:=aq hx;exact Sd.yx (h n r e0) hr (Sd.Zbz D) (λ_ _ z=>z) (T.m n r e0) (T.d n r e0).kp (T.b n r e0) ha hg hdb he hpl
def ZeF{n:Nat}{x:bq}{E:XK}(D:DefX X E)(T:Top X.K X.mg fs zs gs f fd)(h:zR X.prog X.w X.K X.mg X.base cl fs F tk sn f fd d)(hr:Room d X.A)(ha:Sd.CA X #[28] #[27] (e::es) is)(hx:(fs[n]?).map FR.x=aa x)(hk:sn.contains n=aj)(hg:Gl X x)(hdb:(x == #[9])=ak)
  (he:aB (e::es) X.env=#[20]::aB es X.env)(hpl:(dG pos<|aB es X.env).any (·.1)=ak):Sd.CF X #[28] #[27] #[17] (.callF n is):=by
 cases e0:fs[n]? with
 |none=>rw[e0]at hx;cases hx
 |some r=>
  rw[e0]at hx;obtain rfl:r.x=x:=aq hx;have q:=h n r e0;rw[hk]at q;exact Sd.Zbj q hr (Sd.Zbz D) (T.m n r e0) (T.d n r e0).kp (T.b n r e0) ha hg hdb he hpl
def ZfK(T:Top X.K X.mg fs zs gs f fd)(h:zR X.prog X.w X.K X.mg X.base cl fs F tk sn f fd d)(hr:Room d X.A)(ha:Sd.CA X Sd.nx #[27] (e::es) is)(hx:(fs[n]?).map FR.x=aa x)(hg:Gl X x)(hdb:(x == #[9])=ak)
  (he:aB (e::es) X.env=#[20]::aB es X.env)(hpl:(dG pos<|aB es X.env).any (·.1)=ak):Sd.CE X Sd.nx #[27] #[17] (.call n is):=by
 cases e0:fs[n]? with
 |none=>rw[e0]at hx;cases hx
 |some r=>
  rw[e0]at hx;obtain rfl:r.x=x:=aq hx;exact Sd.yx (h n r e0) hr Sd.Zhp (λ_ _ z=>z.elim) (T.m n r e0) (T.d n r e0).kp (T.b n r e0) ha hg hdb he hpl
def Zf7{x y:bq}{n k:Nat}{px p':gj}{ss:List fg}{B:List Sm}{E:XK}(D:DefX X E)(T:Top X.K X.mg fs zs gs f fd)(h:zR X.prog X.w X.K X.mg X.base cl fs F tk sn f fd d)(hr:Room d X.A)(ha:Sd.CA X #[28] #[27] (e::es) is)(hB:Sd.CSs X #[28] fr #[27] ns ss B)(hN:X.N.Nodup)(hx:(fs[k]?).map FR.x=aa y)(hk:sn.contains k=aj)
  (hg:Gl X y)(hdb:(y == #[9])=ak)(he:aB (e::es) X.env=#[20]::aB es X.env)(hpl:(dG p<|aB es X.env).any (·.1)=ak)(hi:X.N[n]?=aa x)(hl:L2.Loc X.env.scope x)(hf:X.fn x=aj\/X.env.scope.names.lookup x=aa .local)
  (hs:eA [.Name x px] #[42] pos.line X.env=cF ak)(hw:eB [.Name x px] #[42] X.env=cF ae)(h1:(cJ [.Name x px] X.env).map (·.2)=[eW (.Name x px) X.env]) :
  Sd.CSs X #[28] fr #[27] ns (.Assign [.Name x px] #[42] pos::ss) [.cel n k is B]:=by
 cases e0:fs[k]? with
 |none=>rw[e0]at hx;cases hx
 |some r=>
  rw[e0]at hx;obtain rfl:r.x=y:=aq hx;have q:=h k r e0;rw[hk]at q;refine Sd.ZfQ (Sd.PE.imp (GV q hr hg (T.m k r e0) (T.d k r e0).kp (T.b k r e0) .nil (Sd.Zbz D) ha.h hdb he hpl) λZ H Q z=>?_) hB hN hi hl hf hs hw h1
  unfold Zei;simp only[bO];exact z
def Zg1{c:Nat}{x y:bq}{k:Nat}{E:XK}(D:DefX X E)(hc:X.calm=aj)(L:Cls X.K X.mg X.base cl)(hx:Sd.YE[c+1]?=aa x)(hg:Gl X x)(hd:(x == #[9])=ak)
  (he:aB [.Constant (.str y) k p] X.env=(ak,cu (.Constant (.str y) k p) X.env)::aB [] X.env)(hpl:(dG cpos<|aB [] X.env).any (·.1)=ak) :
  Sd.CS X #[28] fr C ns (.Raise (aa<|.Call (.Name x np) [.Constant (.str y) k p] [] cpos) ae pos) (.raise (c+1) []):=by
 have hl:c+1<cl.length:=by rw[L.er.len];have:=(aH.mp hx).1;exact this
 have h0:0<cl.length:=by lia
 exact Sd.ZbH D hc (L.rs c _ _ (ai h0)<|ai hl) (ai hl) hg (L.er.nm (c+1) _ x (ai hl) hx) hd he hpl
def Zfr{c m:Nat}{x:bq}{E:XK}{v1 v2:Expr}{rest:List Expr}(D:DefX X E)(hc:X.calm=aj)(L:Cls X.K X.mg X.base cl)(hj:Sd.CJ X #[28] C #[23] m is)(hml:m<=bj)(hx:Sd.YE[c+1]?=aa x)(hg:Gl X x)(hd:(x == #[9])=ak)
  (he:aB [.JoinedStr #[23] jp] X.env=(ak,cu (.JoinedStr #[23] jp) X.env)::aB [] X.env)(hpl:(dG cpos<|aB [] X.env).any (·.1)=ak) :
  Sd.CS X #[28] fr C ns (.Raise (aa<|.Call (.Name x np) [.JoinedStr #[23] jp] [] cpos) ae pos) (.raise (c+1) is):=by
 have hl:c+1<cl.length:=by rw[L.er.len];have:=(aH.mp hx).1;exact this
 have h0:0<cl.length:=by lia
 exact Sd.uA D hc (L.rs c _ _ (ai h0)<|ai hl) (ai hl) hj hml hg (L.er.nm (c+1) _ x (ai hl) hx) hd he hpl
open Sd (St3 End Rep Rq LocR UI)
def spL(Pt:aE)(K:am)(cl:List aE)(C:Calls)(n:Nat):Sp:=λvs H Q E=>(∃ps,H Pt=aa (.tbl ps))/\spX K cl C ak n vs H Q E
section
variable{P:bE}{w:bZ}{K:am}{mg:bq->Option au}{base:cy}{cl:List aE}
def Zbd{C C':Calls}{n:Nat}{fn:Fn}{x qual:bq}{st:fg}{f c Pt:aE}{fd:cQ}{N ps:List bq}{k:Nat}(hF:∀U S H ds vs,St3 K U S H->Rq U H ds vs->C' n ds S=.no\/C' n ds S=Sd.GA C fn ds S)(hns:fn.ns=N.length)(hps:fn.ps=ps.length)(Fu:Fun K x qual st f fd)(S:FnScope N ps (Zh st))(hcd:fd.code=.ref c)
  (hb:∀(A:cz)(outer:List Env)(s:aA)(H:Hp)(E:XK),(∃ps,H Pt=aa (.tbl ps))->Room k (A.deeper<|ee qual (Zh st) s.heap.objs.size f<|.ref c)->
   Sd.CSs (XX (CX1 P w) P w K mg base N qual (Zh st) f (.ref c) A outer s H E) #[28] ak C (Pv.muts fn.body) (ZA st) fn.body) :
  FnOk P w K mg base (CX1 P w) (k+1) f fd ps (spL Pt K cl C' n):=by
 have eq:∀{U S H ds vs Q E},St3 K U S H->Rq U H ds vs->End K #[28] (Sd.Xx ak H) U H Q (C' n ds S)->End K #[28] (Sd.Xx ak H) U H Q (Sd.GA C fn ds S):=λ{U S H ds vs Q E} st r h=>by
  rcases hF U S H ds vs st r with e|e
  .rw[e]at h;exact h.elim
  .rw[e]at h;exact h
 obtain⟨oc,od,kV,doc,pm,an,cdv,ct,osl,rfl,lk,hcode⟩:=Fu.ex;obtain rfl:cdv=.ref c:=hcd;refine Zem lk hcode S (λvs H Q E #[_,U,ds,S,st,r,h]=>?_) λA outer s H vs Q E hr #[hP,U,ds,S',st,r,h]=>#[_,(hb A outer s H E hP hr).h,U,H,λ_=>ae,Pv.ZL fn.ns ds,[],S',st,Sd.Eu.start st r N fn.ns hns,Sd.yF (λ_ _ q=>q) (λ_ _ q=>q)<|eq st r h]
 have h:=eq st r h;obtain⟨hl,_⟩:=Sd.End.guard h;rw[r.length,hl,hps]
def ZcR(hO:Sd.vH Pt H)(hS:SqL K H a (ns.map V.int))(h:∀s,∃S',C n [.scr ns] s=.ok (.bl aj) S'):spL Pt K cl C n [.ref a] H (λv _=>v=.bl aj) λ_ _ _=>False:=by
 obtain⟨S',e⟩:=h (0,ak);have sc:Sd.Scr K H a ns:=by
  rcases hS with(hS|hS)|hS
  .by_cases z:a=Pt
   .rw[z,hO.1]at hS;cases hS
   .rcases hO.2 a z with z|⟨o,xs,z⟩
    .rw[z]at hS;cases hS
    .rw[z]at hS;cases hS
  .exact .inl hS
  .exact .inr hS
 refine#[#[_,hO.1],#[K,ae,λ_=>False,λ_ h=>by cases h],[.scr ns],(0,ak),#[rfl,λ_ h=>h.elim,λ_ h=>(by cases h),λQ ps e=>?_],Sd.Rq.cons (by exact#[a,rfl,sc]) Sd.Rq.nil,?_]
 .by_cases z:Q=Pt
  .subst z
   rw[hO.1]at e;cases e;exact#[trivial,λpos cv q=>by cases q]
  .rcases hO.2 Q z with z|⟨_,_,z⟩<;>(rw[z]at e;cases e)
 .rw[e]
  exact λρ' H' v _ _ r=>r.1.bl'
end
def BdL(fs:List FR)(zs:List bq)(gs:List (bq×Gv))(F:List Fn)(tk:Nat)(sn:List Nat)(r:FR)(fn:Fn):Prop:=
 ∀(P:bE)(w:bZ)(K:am)(mg:bq->Option au)(base:cy)(cl:List aE)(f:Nat->aE)(fd:Nat->cQ)(fL c Pt:aE)(d:Nat),Top K mg fs zs gs f fd->Cls K mg base cl->zR P w K mg base cl fs F tk sn f fd d->r.N.Nodup->
  dH base c Pt->base.BuiltinsAt mg Pt->bB≠Pt->
  ∀(A:cz)(outer:List Env)(s:aA)(H:Hp)(E:XK),(∃ps,H Pt=aa (.tbl ps))->Room (d+2) (A.deeper<|ee r.x (Zh r.st) s.heap.objs.size fL<|.ref c)->(A.deeper<|ee r.x (Zh r.st) s.heap.objs.size fL<|.ref c).units+7<dN->
   Sd.CSs (XX (CX1 P w) P w K mg base r.N r.x (Zh r.st) fL (.ref c) A outer s H E) #[28] ak #[27] (Pv.muts fn.body) (ZA r.st) fn.body
open PySem.W
open Sd (ExK YE veM)
def Zcz(K:Frag)(cl:List aE)(i:Nat)(C:aE):Bool:=
 excIn K C veM "ValueError.__new__" && ((clsIn K C).isSome&&(sk K (.ref C) "__getattribute__" == aa (aa<|.builtin "BaseException.__getattribute__")&&(sk K (.ref C) "__getattr__" == aa ae &&
  (sk K (.ref C) "__class__" == aa (aa<|.builtin "object.__class__")&&(mroIn K C (.type "BaseException") == aa aj&&(mroIn K C (.type "object") == aa aj&&(kitOne K (.ref C) (.type "ValueError") == aa aj &&
   (exmOne K (.ref C) (.ref<|cl.getD 0 0) == aa aj&&(cl.drop 1).zipIdx.all λq=>kitOne K (.ref C) (.ref q.1) == aa (af<|i=q.2)))))))))
def JB(K:Frag)(cl:List aE):Bool:=
 decide (cl.length=11)&&((cl.zip YE).all (λq=>nsIn K bB q.2 == aa (aa<|.ref q.1))&&(cl.drop 1).zipIdx.all λq=>Zcz K cl q.2 q.1)
def Qh{B:Type}{l:List B}{f:B×Nat->Bool}(h:l.zipIdx.all f=aj){i:Nat}{a:B}(e:l[i]?=aa a):f (a,i)=aj:=by
 refine aY.mp h (a,i) ?_;rw[ku];exact e
section
variable{K:Frag}{cl:List aE}
def yo(h:JB K cl=aj){i:Nat}{C:aE}(e:cl[i+1]?=aa C):Zcz K cl i C=aj:=by
 unfold JB at h;rw[aC,aC]at h;have e1:(cl.drop 1)[i]?=aa C:=by rw[fq,iD];exact e
 exact Qh h.2.2 e1
def Zcu{hh:cy}{mg:bq->Option au}(X:K.In hh)(G:hh.Ns bB mg)(h:JB K cl=aj):Errs K mg cl:=by
 have h0:=h;unfold JB at h0;rw[aC,aC,T0]at h0;obtain⟨hl,hn,_⟩:=h0;have parts:∀{i:Nat}{C:aE},cl[i+1]?=aa C->_:=λ{i C} e=>by
  have:=yo h e;unfold Zcz at this;simp only[aC,beq_iff_eq]at this;exact this
 refine#[hl,λj C x e1 e2=>?_,λj C e=>?_,λi j C D e1 e2=>?_,λi C e=>?_,λi C S e1 e2=>?_]
 .have:=aY.mp hn (C,x) (cY (by rw[gR];exact#[e1,e2]))
  exact mg_of X G<|beq_iff_eq.mp this
 .obtain⟨_,a,b,c,d,e5,e6,_⟩:=parts e
  exact#[a,b,c,d,e5,e6]
 .obtain⟨_,_,_,_,_,_,_,_,_,z⟩:=parts e1
  have e3:(cl.drop 1)[j]?=aa D:=by rw[fq,iD];exact e2
  exact beq_iff_eq.mp<|Qh z e3
 .obtain⟨_,_,_,_,_,_,_,z,_⟩:=parts e
  exact z
 .obtain⟨_,_,_,_,_,_,_,_,z,_⟩:=parts e1
  have:cl.getD 0 0=S:=by rw[aF,e2];rfl
  rw[this]at z;exact z
def Zfi(X:K.In base)(q:excIn K C veM "ValueError.__new__" = aj):Cls1 base S C:=by
 unfold excIn at q;split at q
 case h_2=>cases q
 case h_1 d0 k sl lk=>
  split at q
  case h_2=>cases q
  case h_1 c0 rest s0 s1 s2 s3 made s5 em es=>
   repeat rw[aC]at q
   obtain⟨⟨⟨⟨⟨y1,y2⟩,y3⟩,y4⟩,y5⟩,y6⟩:=q;cases beq_iff_eq.mp y1;cases beq_iff_eq.mp y2;have y3:k.hasDel=ak:=by simpa using y3
   cases k;cases em;cases y3;have es:=mi.mp es;cases es;exact#[rest,_,_,_,_,_,_,_,_,_,d0,s0,s1,s2,s3,s5,_,X _ _ lk,.of_isNs<|isNs_of_in X y5,nsMap_none_of_in X y5<|beq_iff_eq.mp y6,tail_of_in X y4]
def ZbU(X:K.In hh)(G:hh.Ns bB mg)(XB:K.In base)(h:JB K cl=aj):Cls K mg base cl:=by
 refine#[Zcu X G h,λc S C e0 e1=>Zfi XB ?_]
 have:=yo h e1;unfold Zcz at this;rw[aC]at this;exact this.1
end
end
section
open Ev (E Sm Fn Bop Cop Ty Bf Mf)
open Sd (Calls CX1)
def Zdh{l:mS}{w:bZ}{K:am}{h:cy}{mg:bq->Option au}{fa c Pt aL:aE}{fs:List FR}{zs:List bq}{gs:List (bq×Gv)}{F G:List Fn}{tk L:Nat}{sn:List Nat}{fnL:Fn}{fdL:cQ}{st:fg}{N:List bq}{as cl:List aE}{fds:List cQ}
  (X:K.In h)(Gs:h.Ns bB mg)(hfa:mg "law" = aa (.ref fa))(O:OkX fs zs gs F tk sn 0 fs G)(hG:∀(i:Nat)(fn:Fn),G[i]?=aa fn->F[i]?=aa fn)(hT:F[tk]?=aa Sd.WT)(hLt:L≠tk)(A:FnsAt K fs as fds)(Z:ZsAt K zs)(Y:GsAt K gs)(Er:JB K cl=aj)
  (AL:FnsAt K [#["law",st,"_law_script" :: N,1]] [aL] [fdL])(hFL:F[L]?=aa fnL)(h1:fnL.ns=N.length+1)(h2:fnL.ps=1)(hsc:scB ("_law_script" :: N) 1 (Zh st)=aj)(B:BdL fs zs gs F tk sn #["law",st,"_law_script" :: N,1] fnL)(hcode:fdL.code=.ref c) :
  ∃fd:cQ,(∀(s:aA)(v:au),nC s fd #[[v],[]] [("_law_script",v)])/\∀base:cy,K.In base->base.Ns bB mg->dH base c Pt->base.BuiltinsAt mg Pt->bB≠Pt->FnOk l.prog w K mg base (CX1 l.prog w) 65 fa fd ["_law_script"] (spL Pt K cl (Pv.Zl F tk 63) L):=by
 have T:Top K mg fs zs gs (λi=>as.getD i 0) (λi=>fds.getD i fdL):=
  #[λi r e=>(A.get i r e).2.1,λi r e=>by
   obtain⟨_,F,B⟩:=A.get i r e;exact F.binds B,λi r e=>ke X Gs (A.get (fd0:=fdL) i r e).1,λx hx=>PySem.W.mg_none_of X Gs<|Z.get x hx,λy hy=>Y.get X Gs y hy]
 obtain⟨hn,Fu,Bn⟩:=AL.get (fd0:=fdL) 0 _ rfl;have e:=hfa.symm.trans<|ke X Gs hn;cases e;have S:=VI hsc;refine#[fdL,λs v=>?_,λbase XB GB hC hB hP=>?_]
 .obtain⟨oc,od,kV,doc,pm,an,cdv,ct,osl,e,lk,hcd⟩:=Fu.ex
  have e:fdL=_:=e;rw[e];exact .of_eq<|Bn kV doc pm an cdv ct [v] rfl
 .have Lc:=ZbU X Gs XB Er
  exact Zbd (N:="_law_script" :: N) (Sd.wM hLt hFL) h1 h2 Fu S hcode λA outer s H E hp hr=>(B l.prog w K mg base cl _ _ _ c Pt 62 T Lc (wN O hG hT T Lc 62) S.nd hC hB hP A outer s H E hp hr<|Sd.hu7 hr)
theorem Zat{l:mS}{q:bE}{loose:List bq}{XP:(bq->Option au)->cy->Prop}{YP:bZ->cy->Prop}{d:sT}{K:Params->am}{F:List Fn}{tk L:Nat}{c Pt:aE}{dr:sT}{cl:bZ->List aE}(hok:∀(ns:List Int) s,∃S,Pv.Zl F tk 63 L [.scr ns] s=.ok (.bl aj) S)(hn:l.most=aa 63)(hdf:d.params.defaults=[])
  (hY:∀(w:bZ)(h:cy),YP w h->(K w.params).In h)(hrec:(recsOf q).find? (λe=>e.name == d.name)=aa dr)(ht:∀w:bZ,sH (K w.params) d.name=aa (c,Pt))(hK:∀w:bZ,ny (K w.params)=aj)
  (hF:∀(w:bZ)(mg:bq->Option au)(fa:aE)(h:cy),(K w.params).In h->h.Ns bB mg->mg d.name=aa (.ref fa)->
   ∃fd:cQ,(∀(s:aA)(u:au),nC s fd #[[u],[]] [("_law_script",u)])/\∀base:cy,(K w.params).In base->base.Ns bB mg->dH base c Pt->base.BuiltinsAt mg Pt->bB≠Pt->FnOk l.prog w (K w.params) mg base (CX1 l.prog w) 65 fa fd ["_law_script"] (spL Pt (K w.params) (cl w) (Pv.Zl F tk 63) L)) :
  sI q loose XP YP l.row.toRowW d [] (λf vs=>rR f vs):=
 Sd.Zat (n:=63) (k:=65) (x:="_law_script") (CX:=λw=>CX1 l.prog w) (sp:=λw Pt=>spL Pt (K w.params) (cl w) (Pv.Zl F tk 63) L) hn #[1] hdf #[rfl,by decide,by decide,rfl] hY hrec ht hK hF (λw H a ns hl hO hS=>ZcR hO hS<|hok ns)<|by rintro _ _ _ _ _ ⟨_,_,_,_,_,_,_,_,_,_,_,_,_,_,z⟩;exact z
end
end Gn
namespace Sd
open PySem PySem.Spec PyProof.Rows L2
open Ev (E Sm Fn Bop Cop Ty Bf Mf)
def ZhI{i j:Int}{a b:Nat}{p1 p2 pos:gj}:CE X xw C (.Dict [aa<|.Constant (.int i) a p1] [.Constant (.int j) b p2] pos) (.dput1 (.c<|.int i)<|.c<|.int j):=.mk <|
 PE.imp (ZcZ (qT WW WW ZcU) rfl rfl #[2]<|by show 1<=15;lia) λZ H Q #[U,l,S,st,lr,h]=>λp hp=>
  #[Zn,[(ej i,.int j)],rfl,by show 1<=15;lia,by
   rw[Zdv];have h:End X.K xw Rep U H Q (.ok (.dct<|.inl [(i,j)]) S):=h;exact h U _ _ (Zu hp) (st.fresh hp) (by unfold Rep;exact#[p,rfl,Zn])]
end Sd
namespace Gn
open PySem PySem.Spec PyProof.Rows L2
open Ev (E Sm Fn Bop Cop Ty Bf Mf)
open Sd (Calls CX1 spX xwE Errs Cls1 DefX LamS LamIn Vy tB3 ksum YO YE)
theorem WV :∀(l:List (bq×eQ))(acc:List (bq×aE)),(∀y∈l,y.2=.free->(env.cells.lookup y.1).isSome=aj)->(∀x c,(x,c)∈acc->env.cells.lookup x=aa c)->
  ∃cs,(nU l acc (λy r=>if y.2 == .free then do let a <-cellOf env y.1;cF (kr ((y.1,a)::r))else cF (kr r)):oD _)=cF cs/\(∀x c,(x,c)∈cs->env.cells.lookup x=aa c)/\(∀x c,(x,c)∈acc->(x,c)∈cs)/\∀x,(x,bI)∈l->∃c,(x,c)∈cs
 |[],acc,_,ha=>#[acc,rfl,ha,λ_ _ h=>h,λx h=>by simp at h]
 |(x,k)::l,acc,hl,ha=>by
  by_cases e:k=.free
  .subst e
   have h0:=hl (x,.free) #[2] rfl
   obtain⟨c,hc⟩:=c7.mp h0;obtain⟨cs,e1,h1,h2,h3⟩:=WV l ((x,c)::acc) (λy hy=>hl y<|by simp[hy]) (λy d hd=>by
    rcases ay.mp hd with z|z
    .cases z;exact hc
    .exact ha y d z)
   refine#[cs,?_,h1,λy d hd=>h2 y d (by simp[hd]),λy hy=>?_]
   .rw[<-e1]
    unfold cellOf;have hc:=hc;simp[hc]
   .rcases ay.mp hy with z|z
    .cases z;exact#[c,h2 x c #[2]]
    .exact h3 y z
  .obtain⟨cs,e1,h1,h2,h3⟩:=WV l acc (λy hy=>hl y<|by simp[hy]) ha
   refine#[cs,?_,h1,h2,λy hy=>?_]
   .rw[<-e1]
    simp[e]
   .rcases ay.mp hy with z|z
    .cases z;exact T7 rfl e
    .exact h3 y z
def WJ(hl:∀y∈scope.names,y.2=.free->(env.cells.lookup y.1).isSome=aj):∃cs,iY scope env=cF cs/\(∀x c,(x,c)∈cs->env.cells.lookup x=aa c)/\∀x,(x,bI)∈scope.names->∃c,(x,c)∈cs:=by
 obtain⟨cs,e,h1,_,h3⟩:=WV scope.names [] hl (λx c h=>by simp at h)
 refine#[cs,?_,h1,h3];rw[<-e];unfold iY;simp
theorem X7:∀(names:List (bq×eQ))(n:Nat)(acc:List (bq×aE)),(acc.Pairwise λx y=>x.2≠y.2)->(∀y∈acc,y.2<n)->(dE n names acc).Pairwise λx y=>x.2≠y.2
 |[],_,_,h,_=>h
 |(x,k)::r,n,acc,h,hn=>by
  unfold dE;split
  .refine X7 r (n+1) _ (aZ.mpr #[λy hy z=>?_,h]) λy hy=>?_
   .have:=hn y hy
    exact T7 (z)<|gL this
   .rcases ay.mp hy with rfl|hy
    .exact iZ n
    .exact dW<|hn y hy
  .exact X7 r n acc h hn
def Yp{B:Type}{l:List (bq×B)}{x:bq}{a:B}(h:l.lookup x=aa a):(x,a)∈l:=d3 h
def qB{l:List (bq×aE)}(h:l.Pairwise λx y=>x.2≠y.2){x y:bq}{c:aE}(h1:(x,c)∈l)(h2:(y,c)∈l):x=y:=by
 induction h with
 |nil=>simp at h1
 |cons hd _ ih=>
  rcases ay.mp h1 with z1|z1<;>rcases ay.mp h2 with z2|z2
  .exact congrArg Prod.fst<|z1.trans z2.symm
  .rw[<-z1]at hd;exact T7 rfl<|hd (y,c) z2
  .rw[<-z2]at hd;exact T7 rfl<|hd (x,c) z1
  .exact ih z1 z2
def Q0{l:List (bq×aE)}{x:bq}{c:aE}(h:(x,c)∈l):∃d,l.lookup x=aa d:=by
 induction l with
 |nil=>simp at h
 |cons p l ih=>
  obtain⟨y,d⟩:=p;rw[bR];by_cases e:x=y
  .subst e;exact#[d,by simp]
  .rcases ay.mp h with z|z
   .cases z;exact T7 rfl e
   .have:(x == y)=ak:=by simpa using e
    rw[this];exact ih z
noncomputable def ZfN(sc scope:dS):Bool:=
 (match scope.kind with|.function=>aj|_=>ak)&&(!scope.isCoroutine&&(!scope.isGenerator&&scope.names.all λy=>af (y.2≠.cell)&&(af (y.2≠.local)&&(!decide (y.2=.free)||decide (sc.names.lookup y.1=aa .cell)))))
def ZfI{X:Cx}{sc scope:dS}{n:Nat}(hs:X.env.scope=sc)(hc:X.env.cells=dE n sc.names [])(h:ZfN sc scope=aj):∃clos,iY scope X.env=cF clos/\LamIn X scope clos:=by
 unfold ZfN at h;simp only[aC,lN,T0,aY,fY,decide_eq_false_iff_not]at h;obtain⟨h1,h2,h3,h4⟩:=h;have fr:∀x,(x,bI)∈scope.names->sc.names.lookup x=aa .cell:=λx hx=>by
  rcases(h4 _ hx).2.2 with z|z
  .exact T7 rfl z
  .exact z
 obtain⟨cs,e,c1,c2⟩:=WJ λy hy z=>by
  obtain⟨x,k⟩:=y;cases z;obtain⟨c,q⟩:=L2.UT<|fr x hy;rw[hc,q];rfl
 have ap:=X7 sc.names n [] #[2] #[2]
 have lk:=λx c q=>c1 x c<|Yp q
 refine#[cs,e,#[?_,h2,h3,λy hy=>(h4 y hy).1,λx v=>?_,λx q=>?_,λx y c q1 q2=>?_],lk,λx q=>?_]
 .cases e:scope.kind<;>rw[e]at h1<;>first|rfl|cases h1
 .rcases v with v|v|v
  .exact T7 rfl (h4 _<|Yp v).2.1
  .exact T7 rfl (h4 _<|Yp v).1
  .exact v
 .obtain⟨c,q⟩:=c2 x (Yp q)
  exact Q0 q
 .have a1:=Yp (lk x c q1)
  have a2:=Yp<|lk y c q2;rw[hc]at a1 a2;exact qB ap a1 a2
 .rw[hs]
  exact fr x<|Yp q
noncomputable abbrev rN(wd:Bool):List bq:=if wd then["_law_call","_law_error","e","_law_sorts","_law_words"]else["_law_call","_law_error","e","_law_sorts"]
noncomputable def ZgN(wd:Bool)(P:Nat->gj):Expr:=if wd then .Constant (.str "none of these") 0 (P 24)else .UnaryOp .USub (.Constant (.int 1) 0<|P 23) (P 24)
noncomputable def Zew(wd:Bool)(P:Nat->gj):List fg:=if wd then[.Assign [.Name "_law_words"<|P 34] (.List [.Constant (.str "row") 0<|P 102,.Constant (.str "part") 0<|P 103,.Constant (.str "number") 0<|P 104,.Constant (.str "heads") 0<|P 105,.Constant (.str "not beside") 0<|P 106,.Constant (.str "not in") 0<|P 107,.Constant (.str "turn") 0<|P 108,.Constant (.str "lot") 0<|P 109,.Constant (.str "many") 0<|P 110,.Constant (.str "note") 0<|P 111]<|P 35)<|P 36,
   .Return (aa<|.Subscript (.Name "_law_words"<|P 37) (.Call (.Attribute (.Name "_law_sorts"<|P 27) "index"<|P 32) [.Constant (.bool aj) 0<|P 28] []<|P 33)<|P 38) (P 29)]
 else[.Return (aa<|.Call (.Attribute (.Name "_law_sorts"<|P 27) "index"<|P 32) [.Constant (.bool aj) 0<|P 28] []<|P 33)<|P 29]
def rbR(wd:Bool):TE:=if wd then tC (.str "none of these")else Sd.rbI
def fiR(K:am)(wd:Bool):TS:=if wd then Sd.ZeZ K 3 4 else Sd.ZfW K 3
def vb(wd:Bool)(P:Nat->gj)(sumE:Expr):List fg:=
 let n:="_law_error"
 let s:="_law_sorts"
 let i:=λ(x:bq) (k:Nat)=>Expr.Call (.Name "isinstance"<|P k) [.Name n<|P<|k+1,.Name x<|P<|k+2] []<|P<|k+3
 .If (.Compare (.Name n<|P 0) [.Is] [.Constant .none 0<|P 1]<|P 2) [.Return (aa<|.Constant .none 0<|P 3)<|P 4] [] (P 5) ::
   .Assign [.Name s<|P 6] (.List [i "NoRow" 40,i "NoPart" 44,i "NoNumber" 48]<|P 7) (P 8) ::
   .Assign [.Name s<|P 9] (.BinOp (.Name s<|P 10) .Add (.List [i "NoHeads" 52,i "NotBeside" 56,i "NotIn" 60]<|P 11)<|P 12) (P 13) ::
   .Assign [.Name s<|P 14] (.BinOp (.Name s<|P 15) .Add (.List [i "NoTurn" 64,i "NoLot" 68,i "TooMany" 72]<|P 16)<|P 17) (P 18) ::
   .Expr (.Call (.Attribute (.Name s<|P 19) "append"<|P 30) [i "BadNote" 76] []<|P 31) (P 20) ::
   .If (.BoolOp .Or [.UnaryOp .Not (i "ValueError" 80)<|P 21,sumE]<|P 22) [.Return (aa<|ZgN wd P)<|P 25] [] (P 26)::Zew wd P
noncomputable def wW(P:Nat->gj):List fg:=
 [.Assign [.Name "_law_error"<|P 90] (.Constant .none 0<|P 91)<|P 92,.Try [.Expr (.Call (.Name "_law_call"<|P 93) [] []<|P 94)<|P 95] [.ExceptHandler (aa<|.Name "SpaceError"<|P 96) (aa "e") [.Assign [.Name "_law_error"<|P 97] (.Name "e"<|P 98)<|P 99]<|P 100] [] []<|P 101]
noncomputable def vD(b:List fg):Expr:=match b.getD 7 (.Pass #[0,0,0,0])with
 |.If (.BoolOp _ [_,e] _) _ _ _=>e
 |_=>.Constant .none 0 #[0,0,0,0]
def ZaN(wd:Bool)(P:Nat->gj)(sc:dS):Bool:=
 (rN wd).all (λx=>af<|sc.names.lookup x=aa .local)&&(((["isinstance","ValueError"]:List bq)++YE).all (λx=>af<|sc.names.lookup x=aa .globalImplicit)&&((P 30).endLine == (P 31).line&&(P 32).endLine == (P 33).line))
abbrev cxR(wd:Bool)(P:bE)(w:bZ)(K:am)(mg:bq->Option au)(base:cy)(st:fg)(f:aE)(cdv:au)(A:cz)(outer:List Env)(s:aA)(H:Hp):Cx:=XX (CX1 P w) P w K mg base (rN wd) "_law_refused" (Zh st) f cdv A outer s H E0
def ZbN(wd:Bool)(P:bE)(w:bZ)(K:am)(mg:bq->Option au)(base:cy)(cl:List aE)(C:Calls)(d:Nat)(st:fg)(f:aE):Prop:=
 ∀(cdv:au)(A:cz)(outer:List Env)(s:aA)(H:Hp),Room (d+1) (A.deeper<|ee "_law_refused" (Zh st) s.heap.objs.size f cdv)->
  PSs (cxR wd P w K mg base st f cdv A outer s H) ((ZA st).drop 2) (Vy K 1 3 cl (tB3 (cxR wd P w K mg base st f cdv A outer s H) Sd.nx<|Pv.Y2 C<|ksum 3) (rbR wd)<|fiR K wd)
section
variable{wd:Bool}{P:bE}{w:bZ}{K:am}{mg:bq->Option au}{base:cy}{cl:List aE}{fs:List FR}{zs:List bq}{gs:List (bq×Gv)}{F:List Fn}{f:Nat->aE}{fd:Nat->cQ}{d nR:Nat}{st:fg}{Pp:Nat->gj}{C:Calls}
def wR(h:ZaN wd Pp sc=aj):(∀x∈rN wd,sc.names.lookup x=aa .local)/\(∀x∈(["isinstance","ValueError"]:List bq)++YE,sc.names.lookup x=aa .globalImplicit)/\((Pp 30).endLine == (Pp 31).line)=aj/\((Pp 32).endLine == (Pp 33).line)=aj:=by
 unfold ZaN at h;simp only[aC,aY,T0]at h;exact#[h.1,h.2.1,h.2.2.1,h.2.2.2]
def Zfm(T:Top K mg fs zs gs f fd)(L:Cls K mg base cl)(hst:(ZA st).drop 2=vb wd Pp (vD<|ZA st))(hB:ZaN wd Pp (Zh st)=aj)(hsc:scB (rN wd) 1 (Zh st)=aj)(hz:zs.contains "isinstance" = aj)(hz2:zs.contains "ValueError" = aj)
  (hsum:∀(cdv:au)(A:cz)(outer:List Env)(s:aA)(H:Hp),(A.deeper<|ee "_law_refused" (Zh st) s.heap.objs.size (f nR) cdv).units+7<dN->Sd.CT (cxR wd P w K mg base st (f nR) cdv A outer s H) Sd.nx C (vD<|ZA st) (ksum 3)) :
  ZbN wd P w K mg base cl C d st (f nR):=by
 intro cdv A outer s H hr;obtain⟨b1,b2,b3,b4⟩:=wR hB;rw[hst];have gl:=λx hx=>b2 x hx
 have nd:=(VI hsc).nd;have hs:=(hsum cdv A outer s H<|Sd.hu7 hr).h;have hl:Sd.BSs (cxR wd P w K mg base st (f nR) cdv A outer s H) (Zew wd Pp) (fiR K wd):=by
  cases wd with|false=>exact⟨Sd.ZgM (J:=λ_=>0) rfl (b1 _<|by simp[rN]) rfl rfl b4⟩|true=>exact Sd.ZhJ nd rfl (b1 _<|by simp[rN]) rfl rfl rfl (b1 _<|by simp[rN]) rfl rfl b4
 have hb:PE (cxR wd P w K mg base st (f nR) cdv A outer s H) (ZgN wd Pp) (rbR wd):=by
  cases wd with|false=>exact Sd.Zh9 (J:=λ_=>0)|true=>exact GC
 have hir:(rN wd)[1]?=aa ("_law_error" : bq):=by cases wd<;>rfl
 have his:(rN wd)[3]?=aa ("_law_sorts" : bq):=by cases wd<;>rfl
 have mem:∀x∈[("_law_error" : bq),"_law_sorts"],x∈rN wd:=by cases wd<;>simp[rN]
 exact Sd.ZcG (J:=λ_=>0) L.er nd hir (b1 _<|mem _<|by simp) his (b1 _<|mem _<|by simp) (gl _<|by simp) (T.no hz) (gl _<|by simp) (T.no hz2) (λx hx=>gl x<|by simp[hx]) rfl rfl rfl rfl hs b3 hb hl.h
def ZfG(he:e<10)(v:σ'[3]?=aa (aa<|.ref q))(hl:σ'.length=(rN wd).length)(h:H' q=aa (.lst<|(Sd.Z1 e).map .bl))(st:Sd.St3 K U S H')(k:∀H2,Sd.Fut U H' U H2->Sd.St3 K U S H2->Dn.rt (Sd.vR wd e) H2):fiR K wd Dn σ' H':=by
 cases wd with|false=>exact Sd.ZcA he v h<|k H' (Sd.Fut.refl _ _) st|true=>exact Sd.Zc6 he v (by rw[hl];decide) #[1] h st k
def ZgR{X:Cx}{E:XK}{sc:dS}{n:Nat}{c Pt:aE}{i:Ev.E}{xw:Nat->Hp->Prop}{body:Expr}{scope:dS}{lp p pos:gj}
  (D:DefX X E)(hr:Room (d+2) X.A)(T:Top X.K X.mg fs zs gs f fd)(L:Cls X.K X.mg X.base cl)(RA:ZbN wd X.prog X.w X.K X.mg X.base cl C d st (f nR))(hx:fs[nR]?=aa #["_law_refused",st,rN wd,1])
  (hst:(ZA st).take 2=wW Pp)(hB:ZaN wd Pp (Zh st)=aj)(hsc:scB (rN wd) 1 (Zh st)=aj)
  (hP:∃ps,X.H₀ Pt=aa (.tbl ps))(CH:dH X.base c Pt)(hBi:X.base.BuiltinsAt X.mg Pt)(hgP:bB≠Pt)
  (hfn:X.fn=λ_=>aj)(hcode:X.env.code=.ref c)(hs:X.env.scope=sc)(hc:X.env.cells=dE n sc.names [])(hq:X.env.qual++"<lambda>" = YO)(hl:ZfN sc scope=aj)(hg:Gl X "_law_refused")
  (hbody:∀(g:aE)(c':aE)(clos:List (bq×aE))(A:cz)(outer:List Env)(s:aA)(H:Hp)(E1:XK),LamS scope clos->Room d (A.deeper<|fU YO scope s.heap.objs.size g (.ref c') clos)->(A.deeper<|fU YO scope s.heap.objs.size g (.ref c') clos).units+7<dN->Sd.CE (Sd.cxL X.prog X.w X.K X.mg X.base X.N scope g (.ref c') clos A outer s H E1) (xwE cl E1) C body i) :
  Sd.CE X xw C (.Call (.Name "_law_refused" p) [.Lambda #[[],[],ae,[],[],ae,[]] body scope lp] [] pos) (.refu wd i):=by
 obtain⟨b1,b2,b3,b4⟩:=wR hB;obtain⟨clos,hcl,LI⟩:=ZfI hs hc hl;have hl0:0<cl.length:=by rw[L.er.len];decide
 have h0:=ai hl0;have hst:ZA st=wW Pp++(ZA st).drop 2:=by rw[<-hst,cU]
 have hic:(rN wd)[0]?=aa ("_law_call" : bq):=by cases wd<;>rfl
 have hie:(rN wd)[2]?=aa ("e" : bq):=by cases wd<;>rfl
 have hir:(rN wd)[1]?=aa ("_law_error" : bq):=by cases wd<;>rfl
 have hil:3<(rN wd).length:=by cases wd<;>decide
 have mem:∀x∈[("_law_call" : bq),"_law_error","e"],x∈rN wd:=by cases wd<;>simp[rN]
 have pr:(#["_law_refused",st,rN wd,1]:FR).ps=[("_law_call" : bq)]:=by cases wd<;>rfl
 have hbn:=T.b nR _ hx;rw[pr]at hbn;have hsc1:=VI hsc;have tk:(rN wd).take 1=[("_law_call" : bq)]:=by cases wd<;>rfl
 rw[tk]at hsc1;exact Sd.Zc8 (ts:=λY=>tB3 Y Sd.nx<|Pv.Y2 C<|ksum 3) D (λx=>by rw[hfn]) hr L.er h0 hP hcode CH hBi hgP hq hcl rfl LI (λpm c' ctv=>rfl)
  (λg c' A outer s H E1 hr=>(hbody g c' clos A outer s H E1 LI.S hr<|Sd.hu7 hr)) hg (T.m nR _ hx) (T.d nR _ hx).kp (T.d nR _ hx) hsc1 hbn rfl rfl rfl hst (VI hsc).nd hic rfl hie hir hil #[1] #[1] #[1]
  (b1 _<|mem _<|by simp) (b1 _<|mem _<|by simp) (b1 _<|mem _<|by simp) (λ_ _ _=>b2 _<|by simp[YE]) (L.er.nm 0 _ _ h0 rfl) rfl rfl rfl rfl rfl (λ_ _ _=>rfl) (λ_ _ _=>rfl) (λ_ _ _=>rfl) RA
  (λY U S e σ' H' q Q' hK he h1 h2 h3 st' hQ=>Sd.Zgk he h1 h2 h3 (hK▸st') λH2 f2 s2=>hQ H2 f2<|hK▸s2)
  (λDn σ' ρ' H' S e q he v hl h st k=>ZfG he v hl h st k)
end
noncomputable def cjm:List Expr->Nat
 |[]=>0
 |.Constant (.str y) _ _::es=>y.length+cjm es
 |_::es=>64+cjm es
def Zez:Sd.CJ X xw C [] (cjm []) []:=Sd.Zft
def Zid(hr:Sd.CJ X xw C es (cjm es) is):Sd.CJ X xw C (.Constant (.str y) j p::es) (cjm (.Constant (.str y) j p::es)) is:=Sd.Zio hr
def ZhY(he:Sd.CE X xw C e i)(hr:Sd.CJ X xw C es (cjm es) is):Sd.CJ X xw C (.FormattedValue e (-1) ae p::es) (cjm (.FormattedValue e (-1) ae p::es)) (.fi i::is):=Sd.Zii he hr
def Zfu{c:Nat}{x:bq}{E:XK}{v1 v2:Expr}{rest:List Expr}{cl:List aE}{jp np cpos pos:gj}(D:DefX X E)(hc:X.calm=aj)(L:Cls X.K X.mg X.base cl)(hj:Sd.CJ X #[28] C #[23] (cjm #[23]) is)(hml:Nat.ble (cjm #[23]) 100000=aj)(hx:Sd.YE[c+1]?=aa x)(hg:Gl X x)(hd:(x == #[9])=ak)
  (he:aB [.JoinedStr #[23] jp] X.env=(ak,cu (.JoinedStr #[23] jp) X.env)::aB [] X.env)(hpl:(dG cpos<|aB [] X.env).any (·.1)=ak) :
  Sd.CS X #[28] fr C ns (.Raise (aa<|.Call (.Name x np) [.JoinedStr #[23] jp] [] cpos) ae pos) (.raise (c+1) is):=
 Zfr D hc L hj (bW (Nat.le_of_ble_eq_true hml)<|by decide) hx hg hd he hpl
def qL{fs:List FR}{zs:List bq}{gs:List (bq×Gv)}{F:List Fn}{tk:Nat}{sn:List Nat}{i:Nat}{r:FR}{a b:Nat}:BdX fs zs gs F tk sn i r #[a,b,[.asg []<|.c .non]]:=λP w K mg base cl f fd d T L h hn cdv A outer s H E hr hu=>
 ⟨by
  rintro pq s Z H D I ⟨U,H0,W,l,os,S,st,en,h⟩;cases os<;>exact False.elim h⟩
def ZgS(wd:Bool)(fs:List FR)(zs:List bq)(gs:List (bq×Gv))(F:List Fn)(tk nR:Nat)(st:fg):Prop:=
 ∀(P:bE)(w:bZ)(K:am)(mg:bq->Option au)(base:cy)(f:Nat->aE)(fd:Nat->cQ)(d:Nat),Top K mg fs zs gs f fd->(rN wd).Nodup->∀(cdv:au)(A:cz)(outer:List Env)(s:aA)(H:Hp),(A.deeper<|ee "_law_refused" (Zh st) s.heap.objs.size (f nR) cdv).units+7<dN->Sd.CT (cxR wd P w K mg base st (f nR) cdv A outer s H) Sd.nx #[27] (vD<|ZA st) (ksum 3)
def BdR(wd:Bool)(fs:List FR)(zs:List bq)(gs:List (bq×Gv))(F:List Fn)(tk:Nat)(sn:List Nat)(nR:Nat)(st:fg)(r:FR)(fn:Fn):Prop:=
 ∀(P:bE)(w:bZ)(K:am)(mg:bq->Option au)(base:cy)(cl:List aE)(f:Nat->aE)(fd:Nat->cQ)(fL c Pt:aE)(d:Nat),Top K mg fs zs gs f fd->Cls K mg base cl->zR P w K mg base cl fs F tk sn f fd d->ZbN wd P w K mg base cl #[27] d st (f nR)->r.N.Nodup->
  dH base c Pt->base.BuiltinsAt mg Pt->bB≠Pt->
  ∀(A:cz)(outer:List Env)(s:aA)(H:Hp)(E:XK),(∃ps,H Pt=aa (.tbl ps))->Room (d+2) (A.deeper<|ee r.x (Zh r.st) s.heap.objs.size fL<|.ref c)->Room d (A.deeper<|ee r.x (Zh r.st) s.heap.objs.size fL<|.ref c)->(A.deeper<|ee r.x (Zh r.st) s.heap.objs.size fL<|.ref c).units+7<dN->
   Sd.CSs (XX (CX1 P w) P w K mg base r.N r.x (Zh r.st) fL (.ref c) A outer s H E) #[28] ak #[27] (Pv.muts fn.body) (ZA r.st) fn.body
def Zgi{wd:Bool}{fs:List FR}{zs:List bq}{gs:List (bq×Gv)}{F:List Fn}{tk nR:Nat}{sn:List Nat}{st:fg}{r:FR}{fn:Fn}{Pp:Nat->gj}(S:ZgS wd fs zs gs F tk nR st)(B:BdR wd fs zs gs F tk sn nR st r fn)(hst:(ZA st).drop 2=vb wd Pp (vD<|ZA st))(hB:ZaN wd Pp (Zh st)=aj)(hsc:scB (rN wd) 1 (Zh st)=aj)(hz:zs.contains "isinstance" = aj)(hz2:zs.contains "ValueError" = aj):BdL fs zs gs F tk sn r fn:=
 λP w K mg base cl f fd fL c Pt d T L h hn hC hBi hP A outer s H E hp hr hu=>
  B P w K mg base cl f fd fL c Pt d T L h (Zfm T L hst hB hsc hz hz2<|S P w K mg base f fd d T (VI hsc).nd) hn hC hBi hP A outer s H E hp hr (hr.mono<|by lia) hu
end Gn
namespace K63
open Ev
noncomputable def UR:Fn:=#[2,2,
 [.ite (.cmp .lt (.v 1)<|.blt .len [(.v 0)]) [.ret<|.ix (.v 0)<|.v 1] [],
  .ret (.n 0)]]
noncomputable def JZ:Fn:=#[2,3,
 [.asg [2]<|.call 0 #[26],
  .ite (.cmp .ge (.v 2)<|.bin .pow (.n 10)<|.n 18) [.ret<|.lst [(.bin .sub (.v 2)<|.bin .pow (.n 10)<|.n 18),(.c<|.bl aj)]] [],
  .ret (.lst [(.bin .mod (.v 2)<|.n 2147483647),(.c<|.bl ak)])]]
noncomputable def zC:Fn:=#[2,4,
 [.ite (.dix (.v 0) aj) [.asg [2]<|.bin .mod (.dix (.v 0) ak)<|.v 1,
  .dset 0 (.bin .fdiv (.dix (.v 0) ak)<|.v 1),
  .ret (.v 2)] [],
  .dset 0 (.bin .mod (.bin .add (.bin .mul (.dix (.v 0) ak)<|.n 48271)<|.n 29)<|.n 2147483647),
  .asg [3] (.bin .mod (.bin .add (.bin .add (.bin .mul (.dix (.v 0) ak)<|.dix (.v 0) ak)<|.bin .mul (.n 39373)<|.dix (.v 0) ak)<|.n 7)<|.n 2147483629),
  .asg [3] (.bin .mod (.bin .add (.bin .mul (.v 3)<|.v 3)<|.bin .mul (.n 16807)<|.v 3)<|.n 2147483587),
  .ret (.bin .mod (.bin .fdiv (.v 3)<|.n 8)<|.v 1)]]
noncomputable def GM:Fn:=#[2,3,
 [.asg [2]<|.lst [(.tup [(.n 2),(.tup [(.n 2),(.n 1)])]),(.tup [(.n 4),(.tup [(.n 2),(.n 2)])]),(.tup [(.n 8),(.tup [(.n 2),(.n 3)])]),(.tup [(.n 16),(.tup [(.n 2),(.n 4)])]),(.tup [(.n 32),(.tup [(.n 2),(.n 5)])]),(.tup [(.n 64),(.tup [(.n 2),(.n 6)])]),(.tup [(.n 3),(.tup [(.n 3),(.n 1)])]),(.tup [(.n 9),(.tup [(.n 3),(.n 2)])])],
  .asg [2] (.bin .add (.v 2)<|.lst [(.tup [(.n 27),(.tup [(.n 3),(.n 3)])]),(.tup [(.n 81),(.tup [(.n 3),(.n 4)])]),(.tup [(.n 5),(.tup [(.n 5),(.n 1)])]),(.tup [(.n 25),(.tup [(.n 5),(.n 2)])]),(.tup [(.n 125),(.tup [(.n 5),(.n 3)])])]),
  .asg [2] (.comp1 [1] 2 [0,1] (.of<|.v 2) [(.cmp .le (.v 0)<|.v 2)]<|.v 1),
  .ret (.ix (.v 2)<|.call 2 [(.v 0),(.blt .len [(.v 2)])])]]
noncomputable def zO:Fn:=#[4,4,
 [.ret<|.blt .tuple [(.comp1 [3,0] 2 [0,1] (.zip (.v 1)<|.v 2) []<|.bin .mod #[45]<|.ix (.v 3)<|.n 0)]]]
noncomputable def Qz:Fn:=#[2,8,
 [.asg [2]<|.blt .list [(.v 1)],
  .asg [3] (.lst []),
  .forr [4] (.rng1<|.ix (.v 0)<|.n 1) [.asg [5]<|.comp1 [4] 1 [0] (.of<|.v 2) [(.cmp .ne (.ix (.v 0)<|.v 1)<|.n 0)]<|.v 0,
  .ite (.cmp .ne (.v 5)<|.lst []) [.asg [6]<|.ix (.comp1 [5,4,0] 1 [0] (.rng1<|.ix (.v 0)<|.n 0) [(.cmp .eq (.bin .mod (.bin .mul (.v 0)<|.ix #[34]<|.v 2)<|.ix (.v 3)<|.n 0)<|.n 1)]<|.v 0)<|.n 0,
  .asg [7] (.blt .tuple [(.comp1 [6,0] 1 [0] (.of<|.ix (.v 5)<|.n 0) []<|.bin .mod (.bin .mul (.v 1)<|.v 0)<|.ix (.v 2)<|.n 0)]),
  .asg [2] (.comp1 [0,7,4] 1 [0] (.of<|.v 2) []<|.call 4 #[39]),
  .asg [3] (.bin .add (.comp1 [0,7,4] 1 [0] (.of<|.v 3) []<|.call 4 #[39])<|.lst [(.v 7)])] []],
  .ret (.blt .tuple [(.v 3)])]]
noncomputable def QY:Fn:=#[2,2,
 [.ret<|.blt .tuple [(.comp1 [0,1] 1 [0] (.rng1<|.ix (.v 1)<|.n 1) []<|.call 2 [(.v 1),(.ix (.v 2)<|.n 0)])]]]
noncomputable def zM:Fn:=#[2,3,
 [.asg [2]<|.call 2 [(.v 0),(.bin .add (.ix (.v 1)<|.n 1)<|.n 1)],
  .ret (.call 5 [(.v 1),(.comp1 [0,1] 1 [0] (.rng1<|.v 2) []<|.call 6 [(.v 1),(.v 2)])])]]
def yy:Fn:=#[2,6,
 [.asg [2]<|.lst [(.bin .mul (.tup [(.n 0)])<|.ix (.v 0)<|.n 1)],
  .forr [3] (.of<|.v 1) [.asg [4]<|.lst [],
  .forr [5] (.rng1<|.ix (.v 0)<|.n 0) [.ex<|.mt .extend (.v 4) [(.comp1 [0,3,5] 1 [0] (.of<|.v 2) []<|.call 4 [(.v 1),(.v 0),(.v 2),(.v 3)])]],
  .mov 2 4],
  .ret (.blt .dictP [(.comp1 [] 1 [0] (.of<|.v 2) []<|.tup [(.v 0),(.c<|.bl aj)])])]]
def Gf:Fn:=#[2,15,
 [.asg [2,3]<|.v 0,
  .asg [4] (.lst [(.tup [])]),
  .forr [5] (.rng1<|.v 3) [.asg [4]<|.bin .add (.v 4)<|.comp1 [5] 1 [0] (.of<|.v 4) []<|.bin .add (.v 0)<|.tup [(.v 1)]],
  .asg [6] (.lst []),
  .forr [7] (.of<|.comp1 [1] 1 [0] (.of<|.v 4) [(.cmp .eq (.blt .len [(.v 0)])<|.v 1)]<|.v 0) [.asg [8]<|.lst [(.tup [])],
  .forr [9] (.of<|.v 7) [.asg [10]<|.lst [(.tup [])],
  .forr [5] (.rng1<|.v 3) [.asg [11]<|.lst [(.n 0)],
  .ite (.cmp .eq (.v 5)<|.v 9) [.asg [11]<|.lst [(.n 1)]] [.ite (.and (.cmp .gt (.v 5)<|.v 9)<|.cmp .nin (.v 5)<|.v 7) [.asg [11]<|.blt .rangeL [(.v 2)]] []],
  .asg [12] (.lst []),
  .forr [13] (.of<|.v 10) [.ex<|.mt .extend (.v 12) [(.comp1 [13] 1 [0] (.of<|.v 11) []<|.bin .add (.v 1)<|.tup [(.v 0)])]],
  .mov 10 12],
  .asg [12] (.lst []),
  .forr [14] (.of<|.v 8) [.ex<|.mt .extend (.v 12) [(.comp1 [14] 1 [0] (.of<|.v 10) []<|.bin .add (.v 1)<|.tup [(.v 0)])]],
  .mov 8 12],
  .ex (.mt .extend (.v 6) [(.v 8)])],
  .ret (.blt .sorted [(.v 6)])]]
noncomputable def Ud:Fn:=#[3,4,
 [.asg [3]<|.call 8 [(.v 0),(.v 2)],
  .ret (.blt .all [(.comp1 [3] 1 [0] (.of<|.v 1) []<|.cmp .inn (.v 0)<|.v 1)])]]
def WK:Fn:=#[3,7,
 [.asg [3]<|.call 8 [(.v 0),(.v 2)],
  .asg [4] (.lst []),
  .forr [5] (.rng2 (.blt .len [(.v 1)])<|.bin .add (.blt .len [(.v 2)])<|.n 1) [.forr [6] (.of<|.call 9 [(.v 0),(.v 5)]) [.ite (.and (.blt .all [(.comp1 [3] 1 [0] (.of<|.v 6) []<|.cmp .inn (.v 0)<|.v 1)])<|.call 10 [(.v 0),(.v 1),(.v 6)]) [.ex<|.mt .append (.v 4) [(.v 6)]] []]],
  .ret (.v 4)]]
noncomputable def Yh:Fn:=#[3,11,
 [.ite (.cmp .eq (.v 2)<|.tup []) [.ret<|.ix (.lst [(.lst []),(.c .non),(.tup [(.tup [])]),(.tup [(.bin .mul (.tup [(.n 0)])<|.ix (.v 1)<|.n 1)]),(.tup [(.bin .mul (.tup [(.n 1)])<|.bin .add (.ix (.v 1)<|.n 1)<|.n 1)]),.dnew,(.c<|.str<|bL "none")])<|.call 2 [(.v 0),(.n 7)]] [],
  .asg [3] (.call 2 [(.v 0),(.blt .len [(.v 2)])]),
  .asg [4] (.ix (.v 2)<|.v 3),
  .asg [5] (.call 2 [(.v 0),(.ix (.v 1)<|.n 1)]),
  .asg [6] (.ix (.lst [(.n 0),(.n 1),#[34],(.bin .sub #[34]<|.n 1),(.neg<|.n 1),(.c<|.bl aj),(.c .non),(.c<|.str<|bL "1"),(.tup [(.n 1)]),(.bin .pow (.n 10)<|.n 29)])<|.call 2 [(.v 0),(.n 10)]),
  .asg [7] (.lst [(.bin .add (.bin .add (.sl (.v 4) ae<|aa<|.v 5)<|.tup [(.v 6)])<|.sl (.v 4) (aa<|.bin .add (.v 5)<|.n 1) ae),(.bin .add (.bin .add (.sl (.v 4) ae<|aa<|.v 5)<|.tup [(.v 6)])<|.sl (.v 4) (aa<|.v 5) ae),(.bin .add (.sl (.v 4) ae<|aa<|.v 5)<|.sl (.v 4) (aa<|.bin .add (.v 5)<|.n 1) ae),(.blt .list [(.v 4)]),(.c .non)]),
  .asg [7] (.bin .add (.v 7)<|.lst [(.blt .tuple [(.comp1 [1] 1 [0] (.of<|.v 4) []<|.bin .mod (.bin .mul (.n 2)<|.v 0)<|.ix (.v 1)<|.n 0)]),(.bin .mul (.tup [(.n 0)])<|.ix (.v 1)<|.n 1),(.call 6 #[26])]),
  .asg [8] (.ix (.v 7)<|.ix (.lst [(.n 0),(.n 0),(.n 0),(.n 0),(.n 1),(.n 2),(.n 3),(.n 4),(.n 5),(.n 6),(.n 7)])<|.call 2 [(.v 0),(.n 11)]),
  .asg [9] (.call 2 [(.v 0),(.n 8)]),
  .ite (.cmp .lt (.v 9)<|.n 4) [.ret<|.bin .add (.bin .add (.sl (.v 2) ae<|aa<|.v 3)<|.tup [(.v 8)])<|.sl (.v 2) (aa<|.bin .add (.v 3)<|.n 1) ae] [],
  .ite (.cmp .lt (.v 9)<|.n 6) [.ret<|.bin .add (.bin .add (.sl (.v 2) ae<|aa<|.v 3)<|.tup [(.v 8)])<|.sl (.v 2) (aa<|.v 3) ae] [],
  .asg [10] (.lst [(.bin .add (.sl (.v 2) ae<|aa<|.v 3)<|.sl (.v 2) (aa<|.bin .add (.v 3)<|.n 1) ae),(.rev<|.v 2),(.blt .list [(.v 2)]),(.tup [(.v 2)]),(.bin .add (.v 2)<|.sl (.v 2) (aa<|.neg<|.n 1) ae),(.bin .add (.sl (.v 2) (aa<|.v 3) ae)<|.sl (.v 2) ae<|aa<|.v 3)]),
  .ret (.ix (.v 10)<|.call 2 [(.v 0),(.n 6)])]]
noncomputable def uV:Fn:=#[1,3,
 [.forr [1,2] (.enum<|.v 0) [.ite (.cmp .ne (.v 2)<|.n 0) [.ret<|.v 1] []],
  .ret (.c .non)]]
noncomputable def V9:Fn:=#[1,1,
 [.ret<|.blt .all [(.comp1 [] 2 [0,1] (.zip (.v 0)<|.sl (.v 0) (aa<|.n 1) ae) []<|.cmp .lt (.v 0)<|.v 1)]]]
noncomputable def XC:Fn:=#[2,2,
 [.ret<|.blt .all [(.comp1 [1] 1 [0] (.of<|.v 0) []<|.cmp .eq (.ix (.v 0)<|.v 1)<|.n 0)]]]
noncomputable def Wc:Fn:=#[3,3,
 [.ret<|.and (.cmp .eq (.ix (.ix (.v 0)<|.v 1)<|.v 2)<|.n 1)<|.call 15 [(.bin .add (.sl (.v 0) ae<|aa<|.v 1)<|.sl (.v 0) (aa<|.bin .add (.v 1)<|.n 1) ae),(.v 2)]]]
noncomputable def YV:Fn:=#[3,3,
 [.ret<|.and (.isi (.v 0) [.int])<|.and (.not<|.isi (.v 0) [.bool])<|.chain .le .le (.v 1) (.v 0)<|.v 2]]
noncomputable def zJ:Fn:=#[2,4,
 [.asg [2,3]<|.v 0,
  .ite (.or (.not<|.isi (.v 1) [.tuple])<|.cmp .ne (.blt .len [(.v 1)])<|.v 3) #[19] [],
  .ret (.blt .all [(.comp1 [2] 1 [0] (.of<|.v 1) []<|.call 17 [(.v 0),(.n 0),(.bin .sub (.v 1)<|.n 1)])])]]
noncomputable def VY:Fn:=#[2,3,
 [.ite (.or (.not<|.isi (.v 1) [.tuple])<|.not<|.blt .all [(.comp1 [0] 1 [0] (.of<|.v 1) []<|.call 18 [(.v 1),(.v 0)])]) #[19] [],
  .asg [2] (.comp1 [] 1 [0] (.of<|.v 1) []<|.call 13 [(.v 0)]),
  .ite (.or (.cmp .inn (.c .non)<|.v 2)<|.not<|.call 14 [(.v 2)]) #[19] [],
  .ret (.blt .all [(.comp1 [1] 2 [0,1] (.enum<|.v 2) []<|.call 16 [(.v 2),(.v 0),(.v 1)])])]]
noncomputable def X4:Fn:=#[2,2,
 [.ite (.not<|.call 19 #[26]) [.raise 2 []] []]]
def Yk:Fn:=#[3,3,
 [.ex<|.call 20 #[26],
  .ex (.call 20 [(.v 0),(.v 2)])]]
noncomputable def Va:Fn:=#[4,4,
 [.ret<|.blt .tuple [(.comp1 [3,0] 2 [0,1] (.zip (.v 1)<|.v 2) []<|.bin .mod #[45]<|.v 3)]]]
noncomputable def Js:Fn:=#[4,4,
 [.ret<|.call 22 [(.v 0),(.v 1),(.v 2),(.neg<|.ix (.v 1)<|.v 3)]]]
noncomputable def zE:Fn:=#[3,7,
 [.asg [3,4]<|.v 0,
  .asg [5] (.v 2),
  .forr [6] (.of<|.v 1) [.asg [5]<|.call 23 [(.v 3),(.v 5),(.v 6),(.call 13 [(.v 6)])]],
  .ret (.v 5)]]
noncomputable def uU:Fn:=#[3,3,
 [.ret<|.cmp .is (.call 13 [(.call 24 [(.v 0),(.v 1),(.v 2)])])<|.c .non]]
noncomputable def yQ:Fn:=#[3,3,
 [.ret<|.blt .all [(.comp1 [0,2] 1 [0] (.of<|.v 1) []<|.call 25 [(.v 1),(.v 2),(.v 0)])]]]
noncomputable def Vu:Fn:=#[3,3,
 [.ite (.not<|.call 17 [(.v 0),(.v 1),(.v 2)]) [.raise 3 [(.fi<|.v 1),(.fi<|.v 2)]] []]]
noncomputable def QZ:Fn:=#[2,6,
 [.asg [2,3]<|.v 0,
  .asg [4] (.lst [(.bin .add (.bin .mul (.tup [(.n 0)])<|.v 1)<|.tup [(.n 1)])]),
  .forr [5] (.rng2 (.bin .add (.v 1)<|.n 1)<|.v 3) [.asg [4]<|.comp2 [2] 2 [0] (.of<|.v 4) [] [1] (.rng1<|.v 2) []<|.bin .add (.v 0)<|.tup [(.v 1)]],
  .ret (.v 4)]]
def QR:Fn:=#[2,5,
 [.asg [2]<|.ite (.v 1) (.bin .add (.call 13 [(.ix (.v 1)<|.neg<|.n 1)])<|.n 1)<|.n 0,
  .asg [3] (.lst []),
  .forr [4] (.rrng (.v 2)<|.blt .len [(.v 0)]) [.ite (.call 15 [(.v 1),(.v 4)]) [.ex<|.mt .extend (.v 3) [(.ix (.v 0)<|.v 4)]] []],
  .ret (.v 3)]]
def yD:Fn:=#[2,7,
 [.asg [2,3]<|.v 0,
  .ex (.call 27 [(.v 1),(.n 0),(.v 3)]),
  .asg [4] (.comp1 [0] 1 [0] (.rng1<|.v 3) []<|.call 28 [(.v 1),(.v 0)]),
  .asg [5] (.lst [(.tup [])]),
  .forr [6] (.rng1<|.v 1) [.asg [5]<|.comp2 [4] 2 [0] (.of<|.v 5) [] [1] (.of<|.call 29 [(.v 2),(.v 0)]) []<|.bin .add (.v 0)<|.tup [(.v 1)]],
  .ret (.v 5)]]
def Wj:Fn:=#[3,6,
 [.ex<|.call 21 [(.v 0),(.v 1),(.v 2)],
  .ite (.not<|.call 26 [(.v 0),(.v 1),(.v 2)]) [.raise 6 []] [],
  .asg [3] (.lst []),
  .forr [4] (.rng2 (.blt .len [(.v 1)])<|.bin .add (.blt .len [(.v 2)])<|.n 1) [.asg [5]<|.comp1 [0,1] 1 [0] (.of<|.call 30 [(.v 0),(.v 4)]) [(.call 26 [(.v 1),(.v 2),(.v 0)])]<|.v 0,
  .ex (.mt .extend (.v 3) [(.comp1 [0,2] 1 [0] (.of<|.v 5) [(.call 26 [(.v 1),(.v 0),(.v 2)])]<|.v 0)])],
  .retO 3]]
noncomputable def YL:Fn:=#[1,1,
 [.ret<|.and (.isi (.v 0) [.int])<|.not<|.isi (.v 0) [.bool]]]
noncomputable def Xl:Fn:=#[2,2,
 [.ite (.or (.not<|.isi (.v 1) [.tuple])<|.cmp .ne (.blt .len [(.v 1)])<|.ix (.v 0)<|.n 1) #[19] [],
  .ret (.blt .all [(.comp1 [0] 1 [0] (.of<|.v 1) []<|.and (.call 32 [(.v 0)])<|.chain .le .lt (.n 0) (.v 0)<|.ix (.v 1)<|.n 0)])]]
noncomputable def YW:Fn:=#[2,3,
 [.ite (.not<|.isi (.v 1) [.tuple]) #[19] [],
  .forr [2] (.of<|.v 1) [.ite (.or (.not<|.call 33 [(.v 0),(.v 2)])<|.not<|.blt .any [(.v 2)]) #[19] []],
  .ret (.cmp .eq (.call 5 #[26])<|.v 1)]]
noncomputable def Xe:Fn:=#[2,2,
 [.ite (.isi (.v 1) [.tuple,.list]) [.ite (.or (.cmp .ne (.isi (.v 0) [.tuple])<|.isi (.v 1) [.tuple])<|.cmp .ne (.isi (.v 0) [.list])<|.isi (.v 1) [.list]) #[19] [],
  .ret (.and (.cmp .eq (.blt .len [(.v 0)])<|.blt .len [(.v 1)])<|.blt .all [(.comp1 [] 2 [0,1] (.zip (.v 0)<|.v 1) []<|.call 35 #[26])])] [],
  .ret (.and (.cmp .eq (.v 0)<|.v 1)<|.cmp .eq (.isi (.v 0) [.bool])<|.isi (.v 1) [.bool])]]
noncomputable def WE:Fn:=#[1,2,
 [.asg [1]<|.lst [(.c .non),(.c<|.bl aj),(.c<|.bl ak),(.neg<|.n 1),(.n 0),(.n 1),(.c<|.str<|bL ""),(.c<|.str<|bL "1"),(.tup []),(.lst []),(.tup [(.tup [])]),(.tup [(.tup [(.n 0)])]),(.tup [(.tup [(.n 1)])]),(.lst [(.tup [(.n 1)])]),(.dput1 (.n 0)<|.n 1),(.tup [(.c .non)]),(.bin .pow (.n 10)<|.n 29)],
  .ret (.ix (.bin .add (.v 1)<|.lst [(.tup [(.tup [(.n 1),(.n 0)]),(.tup [(.n 0),(.n 1)])]),(.tup [(.tup [(.c<|.bl aj)])]),(.tup [(.tup [(.tup [(.n 1)])])])])<|.call 2 [(.v 0),(.n 20)])]]
noncomputable def UP:Fn:=#[1,5,
 [.asg []<|.c .non]]
def Zed:Fn:=#[1,16,
 [.forr [1] (.rng1<|.blt .max2 [(.n 1),(.blt .min2 [(.blt .len [(.v 0)]),(.n 5)])]) [.cel 2 1 #[26]
  [.asg [3]<|.call 3 [(.v 2),(.ix (.lst [(.n 27),(.n 32)])<|.blt .toInt [(.cmp .eq (.v 1)<|.n 0)])],
  .par [4,5] [(.call 7 [(.v 2),(.v 3)]),(.call 7 [(.v 2),(.v 3)])],
  .asg [6] (.call 2 [(.v 2),(.bin .add (.blt .len [(.v 4)])<|.n 1)]),
  .asg [7] (.call 5 [(.v 3),(.bin .add (.v 4)<|.v 5)]),
  .forr [8,9] (.of<|.lst [(.tup [(.v 4),(.v 7)]),(.tup [(.sl (.v 4) ae<|aa<|.v 6),(.v 4)]),(.tup [(.v 4),(.v 5)]),(.tup [(.v 5),(.v 4)]),(.tup [(.tup []),(.v 7)])]) [.ite (.not<|.call 10 #[21]) [.ite (.cmp .ne (.refu aj<|.call 31 #[21])<|.c<|.str<|bL "not in") #[19] [],
  .cnt] [],
  .asg [10] (.call 11 #[21]),
  .forr [11] (.rng1<|.n 2) [.asg [12]<|.callF 31 #[21],
  .ite (.not<|.call 35 [(.v 12),(.v 10)]) #[19] [],
  .ex (.mt .append (.v 12) [(.tup [])])]],
  .par [13,14] [(.call 12 [(.v 2),(.v 3),(.v 4)]),(.ix (.lst [(.call 12 [(.v 2),(.v 3),(.v 7)]),(.call 36 [(.v 2)])])<|.call 2 [(.v 2),(.n 2)])],
  .forr [8,9] (.of<|.lst [(.tup [(.v 13),(.v 7)]),(.tup [(.v 4),(.v 14)]),(.tup [(.v 13),(.v 14)]),(.tup [(.v 14),(.v 13)])]) [.asg [15]<|.and (.call 34 [(.v 3),(.v 8)])<|.call 34 [(.v 3),(.v 9)],
  .ite (.and (.not<|.v 15)<|.cmp .ne (.refu aj<|.call 31 #[21])<|.c<|.str<|bL "part") #[19] []]]],
  .ret (.c<|.bl aj)]]
def fns:List Fn:=[UR,JZ,zC,GM,zO,Qz,QY,zM,yy,Gf,Ud,WK,Yh,uV,V9,XC,Wc,YV,zJ,VY,X4,Yk,Va,Js,zE,uU,yQ,Vu,QZ,QR,yD,Wj,YL,Xl,YW,Xe,WE,UP,Zed]
noncomputable abbrev tk:Nat:=2
noncomputable abbrev sn:List Nat:=[1,31]
end K63
namespace La
variable{F:Type}[kH F]
noncomputable abbrev Vec(F:Type):=Nat->F
abbrev Pt(F:Type):=List<|Nat×Vec F
def pr:Pt F->Vec F->Vec F
 |[],_,_=>0
 |a::P,v,j=>v a.1*a.2 j+pr P v j
structure Rf(P:Pt F):Prop where
 inc:P.Pairwise λa b=>a.1<b.1
 low:∀a∈P,∀j,j<a.1->a.2 j=0
 one:∀a∈P,a.2 a.1=1
 zer:∀a∈P,∀b∈P,a.1≠b.1->b.2 a.1=0
def Mem(P:Pt F)(v:Vec F):Prop:=∀j,v j=pr P v j
theorem ZfT(P:Pt F)(u v:Vec F)(c:F)(j:Nat):pr P (λj=>u j+c*v j) j=pr P u j+c*pr P v j:=by
 induction P with|nil=>show(0:F)=0+c*0;grind|cons a P ih=>show(u a.1+c*v a.1)*a.2 j+pr P _ j=(u a.1*a.2 j+pr P u j)+c*(v a.1*a.2 j+pr P v j);grind
theorem J7(P:Pt F)(u v:Vec F)(c:F)(j:Nat):pr P (λj=>u j-c*v j) j=pr P u j-c*pr P v j:=by
 induction P with|nil=>show(0:F)=0-c*0;grind|cons a P ih=>show(u a.1-c*v a.1)*a.2 j+pr P _ j=(u a.1*a.2 j+pr P u j)-c*(v a.1*a.2 j+pr P v j);grind
def ZaA{P:Pt F}{u v:Vec F}(h:∀b∈P,u b.1=v b.1)(j:Nat):pr P u j=pr P v j:=by
 induction P with
 |nil=>rfl
 |cons a P ih=>
  show u a.1*a.2 j+pr P u j=v a.1*a.2 j+pr P v j;rw[h a<|al ..,ih λb hb=>h b<|ao _ hb]
theorem XO{P:Pt F}{v:Vec F}{j:Nat}(h:∀b∈P,v b.1*b.2 j=0):pr P v j=0:=by
 induction P with
 |nil=>rfl
 |cons a P ih=>
  show v a.1*a.2 j+pr P v j=0;rw[h a<|al ..,ih λb hb=>h b<|ao _ hb];grind
theorem wL{P:Pt F}{v:Vec F}{j:Nat}{a:Nat×Vec F}(inc:P.Pairwise λa b=>a.1<b.1)(ha:a∈P)(h:∀b∈P,b.1≠a.1->v b.1*b.2 j=0):pr P v j=v a.1*a.2 j:=by
 induction P with
 |nil=>cases ha
 |cons b P ih=>
  rw[aZ]at inc;show v b.1*b.2 j+pr P v j=_;rcases ay.mp ha with e|hm
  .subst e
   rw[XO λc hc=>h c (ao _ hc) (by have:=inc.1 c hc;lia)];grind
  .rw[ih inc.2 hm λc hc=>h c<|ao _ hc,h b (al ..) (by have:=inc.1 a hm;lia)];grind
def Rf.tail{a:Nat×Vec F}{P:Pt F}(h:Rf (a::P)):Rf P:=
 #[(aZ.mp h.inc).2,λb hb=>h.low b<|ao _ hb,λb hb=>h.one b<|ao _ hb,λb hb c hc=>h.zer b (ao _ hb) c<|ao _ hc]
def Rf.nil:Rf ([]:Pt F):=#[iE,λ_ h=>(by cases h),λ_ h=>(by cases h),λ_ h=>(by cases h)]
theorem wJ{P:Pt F}(h:Rf P){a:Nat×Vec F}(ha:a∈P)(v:Vec F):pr P v a.1=v a.1:=by
 rw[wL h.inc ha λb hb ne=>by rw[h.zer a ha b hb<|Ne.symm ne];grind,h.one a ha];grind
theorem W3{P:Pt F}(h:Rf P){a:Nat×Vec F}(ha:a∈P):Mem P a.2:=λj=>by
 rw[wL h.inc ha λb hb ne=>by rw[h.zer b hb a ha ne];grind,h.one a ha];grind
def Wq(c:F)(hu:Mem P u)(hv:Mem P v):Mem P λj=>u j+c*v j:=λj=>by
 rw[ZfT,<-hu j,<-hv j]
def Ut(c:F)(hu:Mem P u)(hv:Mem P v):Mem P λj=>u j-c*v j:=λj=>by
 rw[J7,<-hu j,<-hv j]
theorem QL{P:Pt F}:Mem P λ_=>0:=λj=>(XO λb _=>by grind).symm
def Zbh{P:Pt F}(h:Rf P)(v:Vec F):Mem P (pr P v):=λj=>ZaA (λb hb=>(wJ h hb v).symm) j
theorem jK{P:Pt F}{v:Vec F}(h:Mem P v)(z:∀b∈P,v b.1=0)(j:Nat):v j=0:=by
 rw[h j];exact XO λb hb=>by rw[z b hb];grind
theorem ZbP{P:Pt F}(h:Rf P){v:Vec F}(hv:Mem P v){k:Nat}(hk:v k≠0)(hl:∀j,j<k->v j=0):∃a∈P,a.1=k:=by
 have inc:=h.inc;have low:=h.low;have gen:∀Q:Pt F,Q.Pairwise (λa b=>a.1<b.1)->(∀a∈Q,∀j,j<a.1->a.2 j=0)->(∀j,v j=pr Q v j)->∃a∈Q,v a.1≠0/\∀j,j<a.1->v j=0:=by
  intro Q
  induction Q with
  |nil=>intro _ _ e;exact T7 (e k) hk
  |cons a Q ih=>
   intro inc low e;rw[aZ]at inc;by_cases c:v a.1=0
   .obtain⟨b,hb,r⟩:=ih inc.2 (λb hb=>low b<|ao _ hb) λj=>by
     have:v j=v a.1*a.2 j+pr Q v j:=e j;rw[c]at this;grind
    exact#[b,ao _ hb,r]
   .refine#[a,al ..,c,λj hj=>?_]
    have e1:v j=v a.1*a.2 j+pr Q v j:=e j;have e2:pr Q v j=0:=XO λb hb=>by rw[low b (ao _ hb) j (by have:=inc.1 b hb;lia)];grind
    rw[e1,e2,low a (al ..) j hj];grind
 obtain⟨a,ha,h1,h2⟩:=gen P inc low hv;refine#[a,ha,?_];by_cases c:a.1<k
 .exact T7 (hl _ c) h1
 .by_cases c2:k<a.1
  .exact T7 (h2 _ c2) hk
  .lia
def JG{P Q:Pt F}(one0:(1:F)≠0)(hP:Rf P)(hQ:Rf Q)(h:∀v,Mem P v->Mem Q v):∀a∈P,∃b∈Q,b.1=a.1:=λa ha=>
 ZbP hQ (h _<|W3 hP ha) (by rw[hP.one a ha];exact one0) (hP.low a ha)
theorem yY:∀{a b:List Nat},a.Pairwise (· < ·)->b.Pairwise (· < ·)->(∀x,x∈a↔x∈b)->a=b
 |[],[],_,_,_=>rfl
 |[],y::b,_,_,h=>by have:=(h y).mpr<|al ..;cases this
 |x::a,[],_,_,h=>by have:=(h x).mp<|al ..;cases this
 |x::a,y::b,ha,hb,h=>by
  rw[aZ]at ha hb;have e:x=y:=by
   rcases ay.mp ((h x).mp<|al ..)with e|e
   .exact e
   .rcases ay.mp ((h y).mpr<|al ..)with e'|e'
    .exact e'.symm
    .have:=hb.1 x e;have:=ha.1 y e';lia
  subst e;rw[yY ha.2 hb.2 λz=>?_]
  constructor
  .intro hz
   rcases ay.mp ((h z).mp<|ao _ hz)with e|e
   .have:=ha.1 z hz;lia
   .exact e
  .intro hz
   rcases ay.mp ((h z).mpr<|ao _ hz)with e|e
   .have:=hb.1 z hz;lia
   .exact e
def Rf.heads{P:Pt F}(h:Rf P):(P.map (·.1)).Pairwise (· < ·):=dk.mpr h.inc
theorem uniq{P Q:Pt F}(one0:(1:F)≠0)(hP:Rf P)(hQ:Rf Q)(h:∀v,Mem P v↔Mem Q v):P=Q:=by
 have eh:=yY hP.heads hQ.heads λx=>by
  constructor
  .intro hx
   obtain⟨a,ha,rfl⟩:=aO.mp hx;obtain⟨b,hb,e⟩:=JG one0 hP hQ (λv=>(h v).mp) a ha
   exact aO.mpr #[b,hb,e]
  .intro hx
   obtain⟨a,ha,rfl⟩:=aO.mp hx;obtain⟨b,hb,e⟩:=JG one0 hQ hP (λv=>(h v).mpr) a ha
   exact aO.mpr #[b,hb,e]
 have ev:∀a∈P,∀b∈Q,a.1=b.1->a.2=b.2:=by
  intro a ha b hb e;have hd:=Ut 1 (W3 hP ha)<|(h _).mpr<|W3 hQ hb
  funext j
  have:=jK hd (λc hc=>by
   have:c.1∈Q.map (·.1):=by rw[<-eh];exact aO.mpr #[c,hc,rfl]
   obtain⟨c',hc',ec⟩:=aO.mp this;by_cases z:c.1=a.1
   .rw[z,hP.one a ha,e,hQ.one b hb];grind
   .rw[hP.zer c hc a ha z,<-ec,hQ.zer c' hc' b hb #[0]];grind) j
  grind
 clear h hP hQ
 induction P generalizing Q with
 |nil=>cases Q with|nil=>rfl|cons b Q=>cases eh
 |cons a P ih=>cases Q with
  |nil=>cases eh
  |cons b Q=>
   rw[aX,aX]at eh;injection eh with e1 e2
   have e3:=ev a (al ..) b (al ..) e1;rw[ih e2 λx hx y hy=>ev x (ao _ hx) y<|ao _ hy]
   rw[Prod.ext e1 e3]
def ins(x:Nat×Vec F):Pt F->Pt F
 |[]=>[x]
 |y::P=>if x.1<y.1 then x::y::P else y::ins x P
theorem Xp(x:Nat×Vec F):∀P:Pt F,(ins x P).Perm (x::P)
 |[]=>cI _
 |y::P=>by
  unfold ins;split
  .exact cI _
  .exact((Xp x P).cons y).trans<|nr x y P
theorem wU(x:Nat×Vec F):∀{P:Pt F},P.Pairwise (λa b=>a.1<b.1)->(∀a∈P,a.1≠x.1)->(ins x P).Pairwise λa b=>a.1<b.1
 |[],_,_=>by exact fM ..
 |y::P,h,hn=>by
  have h':=aZ.mp h;unfold ins;split
  .rename_i c
   refine aZ.mpr #[λz hz=>?_,h]
   rcases ay.mp hz with rfl|hz
   .exact c
   .have:=h'.1 z hz;lia
  .rename_i c
   refine aZ.mpr #[λz hz=>?_,wU x h'.2 λa ha=>hn a<|ao _ ha]
   rcases ay.mp ((Xp x P).mem_iff.mp hz)with rfl|hz
   .have:=hn y<|al ..;lia
   .exact h'.1 z hz
theorem j4(x:Nat×Vec F)(v:Vec F)(j:Nat):∀P:Pt F,pr (ins x P) v j=v x.1*x.2 j+pr P v j
 |[]=>rfl
 |y::P=>by
  unfold ins;split
  .rfl
  .show v y.1*y.2 j+pr (ins x P) v j=v x.1*x.2 j+(v y.1*y.2 j+pr P v j)
   rw[j4 x v j P];grind
noncomputable def off(h:Nat)(l:Vec F)(a:Nat×Vec F):Nat×Vec F:=(a.1,λj=>a.2 j-a.2 h*l j)
def wid(P:Pt F)(h:Nat)(l:Vec F):Pt F:=ins (h,l)<|P.map<|off h l
theorem qQ(h:Nat)(l v:Vec F)(j:Nat):∀P:Pt F,pr (P.map<|off h l) v j=pr P v j-pr P v h*l j
 |[]=>by show(0:F)=0-0*l j;grind
 |a::P=>by
  show v a.1*(a.2 j-a.2 h*l j)+pr (P.map<|off h l) v j=(v a.1*a.2 j+pr P v j)-(v a.1*a.2 h+pr P v h)*l j;rw[qQ h l v j P];grind
structure Lead(P:Pt F)(h:Nat)(l:Vec F):Prop where
 one:l h=1
 low:∀j,j<h->l j=0
 zer:∀a∈P,l a.1=0
def Lead.ne{P:Pt F}{h:Nat}{l:Vec F}(one0:(1:F)≠0)(L:Lead P h l){a:Nat×Vec F}(ha:a∈P):a.1≠h:=λe=>by
 have:=L.zer a ha;rw[e,L.one]at this;exact one0 this
theorem Za9{P:Pt F}{h:Nat}{l:Vec F}(one0:(1:F)≠0)(hP:Rf P)(L:Lead P h l):Rf (wid P h l):=by
 have mem:∀{x},x∈wid P h l->x=(h,l)\/∃a∈P,x=off h l a:=λ{x} hx=>by
  rcases ay.mp ((Xp _ _).mem_iff.mp hx)with e|e
  .exact .inl e
  .obtain⟨a,ha,e⟩:=aO.mp e
   exact .inr #[a,ha,e.symm]
 refine#[wU _ ?_ ?_,λx hx j hj=>?_,λx hx=>?_,λx hx y hy ne=>?_]
 .exact dk.mpr hP.inc
 .intro a ha
  obtain⟨b,hb,rfl⟩:=aO.mp ha;exact L.ne (a:=b) one0 hb
 .rcases mem hx with rfl|⟨a,ha,rfl⟩
  .exact L.low j hj
  .show a.2 j-a.2 h*l j=0
   rw[hP.low a ha j hj];by_cases c:h<a.1
   .rw[hP.low a ha h c];grind
   .have:j<a.1:=hj
    rw[L.low j (by have:=L.ne one0 ha;lia)];grind
 .rcases mem hx with rfl|⟨a,ha,rfl⟩
  .exact L.one
  .show a.2 a.1-a.2 h*l a.1=1
   rw[hP.one a ha,L.zer a ha];grind
 .rcases mem hx with rfl|⟨a,ha,rfl⟩
  .rcases mem hy with rfl|⟨b,hb,rfl⟩
   .exact T7 rfl ne
   .show b.2 h-b.2 h*l h=0
    rw[L.one];grind
  .rcases mem hy with rfl|⟨b,hb,rfl⟩
   .exact L.zer a ha
   .show b.2 a.1-b.2 h*l a.1=0
    rw[hP.zer a ha b hb ne,L.zer a ha];grind
def Zdo(P:Pt F)(h:Nat)(l:Vec F):(wid P h l).length=P.length+1:=by
 have:=(Xp (h,l)<|P.map<|off h l).length_eq;rw[aG,ax]at this;exact this
theorem ZcO{P:Pt F}{h:Nat}{l:Vec F}(hP:Rf P)(L:Lead P h l)(u:Vec F):Mem (wid P h l) u↔∃c,Mem P λj=>u j-c*l j:=by
 have e:∀j,pr (wid P h l) u j=u h*l j+(pr P u j-pr P u h*l j):=λj=>by
  unfold wid;rw[j4,qQ]
 have pl:∀j,pr P l j=0:=λj=>XO λb hb=>by rw[L.zer b hb];grind
 constructor
 .intro hu
  refine#[u h-pr P u h,λj=>?_]
  rw[J7,pl];have:=hu j;rw[e j]at this;show u j-(u h-pr P u h)*l j=_
  grind
 .rintro ⟨c,hc⟩ j
  rw[e j];have h1:=hc j;have h2:u h-c*l h=_:=hc h;rw[J7,pl]at h1 h2;rw[L.one]at h2
  grind
def rest(P:Pt F)(v:Vec F):Vec F:=λj=>v j-pr P v j
theorem jm(hP:Rf P)(v:Vec F)(ha:a∈P):rest P v a.1=0:=by
 unfold rest;rw[wJ hP ha];grind
theorem Qe{P:Pt F}{v:Vec F}:(∀j,rest P v j=0)↔Mem P v:=by
 constructor
 .intro h j;have:=h j;unfold rest at this;grind
 .intro h j;have:=h j;unfold rest;grind
theorem vB{P:Pt F}(hP:Rf P){v:Vec F}{h:Nat}{i:F}(hi:i*rest P v h=1)(hl:∀j,j<h->rest P v j=0):Lead P h λj=>i*rest P v j:=
 #[hi,λj hj=>by rw[hl j hj];grind,λa ha=>by rw[jm hP v ha];grind]
theorem Zas{P:Pt F}(hP:Rf P){v:Vec F}{h:Nat}{i:F}(hi:i*rest P v h=1)(hl:∀j,j<h->rest P v j=0)(u:Vec F) :
  Mem (wid P h λj=>i*rest P v j) u↔∃c,Mem P λj=>u j-c*v j:=by
 rw[ZcO hP<|vB hP hi hl]
 constructor
 .rintro ⟨c,hc⟩
  refine#[c*i,?_];have:=Ut (c*i) hc<|Zbh hP v;have e:(λj=>(u j-c*(i*rest P v j))-c*i*pr P v j)=λj=>u j-c*i*v j:=by funext j;unfold rest;grind
  rw[e]at this;exact this
 .rintro ⟨c,hc⟩
  refine#[c*rest P v h,?_];have:=Wq c hc<|Zbh hP v;have e:(λj=>(u j-c*v j)+c*pr P v j)=λj=>u j-c*rest P v h*(i*rest P v j):=by funext j;unfold rest at hi ⊢;grind
  rw[e]at this;exact this
theorem jh(hv:Mem P v)(u:Vec F):Mem P u↔∃c,Mem P λj=>u j-c*v j:=by
 constructor
 .intro h;exact#[0,by have:=Ut 0 h hv;exact this]
 .rintro ⟨c,hc⟩
  have:=Wq c hc hv;have e:(λj=>(u j-c*v j)+c*v j)=u:=by funext j;grind
  rw[e]at this;exact this
variable{F:Type}[kH F][DecidableEq F]
def Supp(n:Nat)(v:Vec F):Prop:=∀j,n<=j->v j=0
structure Pn(n:Nat)(P:Pt F):Prop where
 rf:Rf P
 lt:∀a∈P,a.1<n
 sp:∀a∈P,Supp n a.2
theorem Pn.nil{n:Nat}:Pn n ([]:Pt F):=#[Rf.nil,λ_ h=>(by cases h),λ_ h=>(by cases h)]
theorem ZdM(h:Pn n P)(v:Vec F):Supp n (pr P v):=λj hj=>XO λb hb=>by rw[h.sp b hb j hj];grind
noncomputable def hdV(n:Nat)(v:Vec F):Option Nat:=(aM n).find? λj=>af<|v j≠0
theorem j5{n:Nat}{v:Vec F}(hs:Supp n v)(h:hdV n v=ae)(j:Nat):v j=0:=by
 by_cases c:j<n
 .have:=oB.mp h j (bc.mpr c)
  simpa using this
 .exact hs j #[0]
def GX{n:Nat}{v:Vec F}{k:Nat}(h:hdV n v=aa k):k<n/\v k≠0/\∀j,j<k->v j=0:=by
 unfold hdV at h;rw[lZ]at h;obtain⟨h1,h2,h3⟩:=h;refine#[bc.mp h2,by simpa using h1,λj hj=>?_]
 have:=h3 j hj
 simpa using this
def ZbM{n:Nat}{v:Vec F}{k:Nat}(hk:k<n)(h1:v k≠0)(h2:∀j,j<k->v j=0):hdV n v=aa k:=by
 unfold hdV;rw[lZ];exact#[by simpa using h1,bc.mpr hk,λj hj=>by simpa using h2 j hj]
structure Fld(inv:F->F):Prop where
 inv:∀a,a≠0->inv a*a=1
 one0:(1:F)≠0
section
variable{inv:F->F}{n:Nat}
def more(inv:F->F)(n:Nat)(P:Pt F)(v:Vec F):Pt F:=match hdV n (rest P v)with
 |none=>P
 |some h=>wid P h λj=>inv (rest P v h)*rest P v j
structure Grow(n:Nat)(P:Pt F)(v:Vec F)(P':Pt F):Prop where
 pn:Pn n P'
 mem:∀u,Mem P' u↔∃c,Mem P λj=>u j-c*v j
 same:Mem P v->P'=P
 len:¬Mem P v->P'.length=P.length+1
theorem ZcT(f:Fld inv){P:Pt F}{v:Vec F}(hP:Pn n P)(hv:Supp n v):Grow n P v (more inv n P v):=by
 have hs:Supp n (rest P v):=λj hj=>by unfold rest;rw[hv j hj,ZdM hP v j hj];grind
 cases q:hdV n (rest P v)with
 |none=>
  have e:more inv n P v=P:=by unfold more;rw[q]
  have hm:=Qe.mp<|j5 hs q;rw[e];exact#[hP,jh hm,λ_=>rfl,λh=>T7 hm h]
 |some h=>
  have e:more inv n P v=wid P h λj=>inv (rest P v h)*rest P v j:=by unfold more;rw[q]
  obtain⟨h1,h2,h3⟩:=GX q;have hi:=f.inv _ h2;have L:=vB hP.rf hi h3;rw[e];refine#[#[Za9 f.one0 hP.rf L,λa ha=>?_,λa ha=>?_],Zas hP.rf hi h3,λhm=>T7 (Qe.mpr hm h) h2,λ_=>Zdo ..]
  .rcases ay.mp ((Xp _ _).mem_iff.mp ha)with e|e
   .rw[e];exact h1
   .obtain⟨b,hb,rfl⟩:=aO.mp e
    exact hP.lt b hb
  .rcases ay.mp ((Xp _ _).mem_iff.mp ha)with e|e
   .rw[e];intro j hj
    show inv (rest P v h)*rest P v j=0;rw[hs j hj];grind
   .obtain⟨b,hb,rfl⟩:=aO.mp e
    intro j hj;show b.2 j-b.2 h*(inv (rest P v h)*rest P v j)=0;rw[hP.sp b hb j hj,hs j hj];grind
def qU(inv:F->F)(n:Nat)(P:Pt F)(vs:List (Vec F)):Pt F:=vs.foldl (more inv n) P
def Zhi(f:Fld inv){P Q:Pt F}(hP:Pn n P)(hQ:Pn n Q)(h:∀v,Mem P v↔Mem Q v):P=Q:=uniq f.one0 hP.rf hQ.rf h
noncomputable def YS(P:Pt F)(j:Nat):Bool:=(P.map (·.1)).contains j
def free(n:Nat)(P:Pt F):List Nat:=(aM n).filter λj=>!YS P j
def av:Pt F->Nat->Vec F
 |[],f,j=>if j=f then 1 else 0
 |a::P,f,j=>if j=a.1 then-a.2 f else av P f j
def Xz :YS P j=aj↔∃a∈P,a.1=j:=by
 unfold YS;rw[gn,aO]
def xE{P:Pt F}{f j:Nat}(h:YS P j=ak):av P f j=if j=f then 1 else 0:=by
 induction P with
 |nil=>rfl
 |cons a P ih=>
  have h1:¬∃b∈a::P,b.1=j:=λz=>by rw[Xz.mpr z]at h;cases h
  show(if j=a.1 then-a.2 f else av P f j)=_
  rw[T8 λz=>h1 #[a,al ..,z.symm]]
  exact ih (by
   cases q:YS P j with
   |false=>rfl
   |true=>obtain⟨b,hb,e⟩:=Xz.mp q;exact T7 #[b,ao _ hb,e] h1)
def QM :j∈free n P↔j<n/\YS P j=ak:=by
 unfold free;rw[dy,bc];simp
theorem ZdI{P:Pt F}(hP:Pn n P){f:Nat}(hf:f<n):Supp n (av P f):=λj hj=>by
 rw[xE (by
  cases q:YS P j with
  |false=>rfl
  |true=>obtain⟨b,hb,e⟩:=Xz.mp q;have:=hP.lt b hb;lia),T8 #[0]]
def perp(inv:F->F)(n:Nat)(P:Pt F):Pt F:=qU inv n []<|(free n P).map<|av P
theorem uc(f:Fld inv){P:Pt F}(hP:Pn n P):(perp inv n P).length+P.length=n:=by
 have gen:∀(L:List Nat)(A:Pt F)(D:List Nat),Pn n A->(∀k∈L,k∈free n P)->L.Nodup->(∀k∈L,k∉D)->(∀u,Mem A u->∀k∈free n P,k∉D->u k=0)->(qU inv n A<|L.map<|av P).length=A.length+L.length:=by
  intro L
  induction L with
  |nil=>intro A D _ _ _ _ _;rfl
  |cons k L ih=>
   intro A D hA hL hn hD hz;rw[dz]at hn;have hk:=hL k<|al ..;have g:=ZcT f hA<|ZdI hP (QM.mp hk).1;have nm:¬Mem A (av P k):=λh=>by
    have:=hz _ h k hk<|hD k<|al ..;rw[xE (QM.mp hk).2,T9 rfl]at this;exact f.one0 this
   have:=ih (more inv n A<|av P k) (k::D) g.pn (λj hj=>hL j<|ao _ hj) hn.2 (λj hj=>by
    rw[ay]
    rintro (z|z)
    .exact hn.1<|z▸hj
    .exact hD j (ao _ hj) z) λu hu j hj hjD=>by
     obtain⟨c,hc⟩:=(g.mem u).mp hu;rw[ay]at hjD;have h1:=hz _ hc j hj λz=>hjD<|.inr z
     rw[xE (QM.mp hj).2,T8 λz=>hjD<|.inl z]at h1
     grind
   show(qU inv n (more inv n A<|av P k)<|L.map<|av P).length=_;rw[this,g.len nm,aG];lia
 have h1:=gen (free n P) [] [] Pn.nil (λ_ h=>h) (nz _ pK) (λ_ _ h=>by cases h) λu hu k _ _=>hu k
 have h2:=yY (nz _ List.pairwise_lt_range) hP.rf.heads λx=>by
  rw[dy,bc,Xz,aO]
  constructor
  .rintro ⟨_,a,ha,e⟩;exact#[a,ha,e]
  .rintro ⟨a,ha,e⟩;exact#[by rw[<-e];exact hP.lt a ha,a,ha,e]
 have h3:((aM n).filter<|YS P).length+(free n P).length=n:=by
  have gen:∀L:List Nat,(L.filter<|YS P).length+(L.filter λj=>!YS P j).length=L.length:=by
   intro L
   induction L with
   |nil=>rfl
   |cons k L ih=>
    rw[mv,mv];cases YS P k<;>simp<;>lia
  have:=gen<|aM n;rw[bi]at this;exact this
 rw[h2,ax]at h3;have h4:(perp inv n P).length=(free n P).length:=by
  have e:(perp inv n P).length=0+(free n P).length:=h1;lia
 lia
end
end La
namespace Rw
open La
open Ev (ltI XI Yb)
section
variable{p:Nat}[NeZero p]
noncomputable def ph(p:Nat)[NeZero p](a:Int):Fin p:=Fin.ofNat p (a%p).toNat
theorem ppos:(0:Int)<p:=by have:=NeZero.ne p;lia
theorem Xm(a:Int):((ph p a).val:Int)=a%p:=by
 have h:=ppos (p:=p);have h0:=hU a (by lia:(p:Int)≠0)
 have h1:=fV a h;show((((a%p).toNat)%p:Nat):Int)=a%p;rw[Nat.mod_eq_of_lt<|(Int.toNat_lt h0).mpr h1];exact nK h0
theorem UF{x y:Fin p}(h:(x.val:Int)=y.val):x=y:=Fin.ext #[0]
def ZaH(a b:Int):ph p (a+b)=ph p a+ph p b:=UF (by
 rw[Xm,Fin.val_add];show(a+b)%p=(((ph p a).val+(ph p b).val:Nat):Int)%p;rw[mQ,Xm,Xm,<-Int.add_emod])
def Zak(a b:Int):ph p (a*b)=ph p a*ph p b:=UF (by
 rw[Xm,Fin.val_mul];show(a*b)%p=(((ph p a).val*(ph p b).val:Nat):Int)%p;rw[Int.natCast_mul,Xm,Xm,<-Int.mul_emod])
def jY(a:Int):ph p (a%p)=ph p a:=UF (by rw[Xm,Xm,Int.emod_emod])
def Ux:ph p 0=0:=UF (by rw[Xm];simp)
theorem xT(a:Int):ph p (-a) = - ph p a:=by
 have h:ph p (-a+a)=ph p (-a)+ph p a:=ZaH _ _;rw[show -a+a=0 by lia,Ux]at h
 grind
def wp{a b:Int}(ha:0<=a/\a<p)(hb:0<=b/\b<p)(h:ph p a=ph p b):a=b:=by
 have:=congrArg (λx:Fin p=>(x.val:Int)) h
 simp only[Xm]at this;rw[iO ha.1 ha.2,iO hb.1 hb.2]at this;exact this
theorem Zhx{a:Int}(ha:0<=a/\a<p):ph p a=0↔a=0:=by
 constructor
 .intro h;exact wp ha #[by lia,ppos] (by rw[h,Ux])
 .rintro rfl;exact Ux
end
abbrev Row:=List Int
def Zk(p n:Nat)(r:Row):Prop:=r.length=n/\∀a∈r,0<=a/\a<(p:Int)
noncomputable def gt(r:Row)(j:Nat):Int:=r.getD j 0
def WA{p n:Nat}(h0:(0:Int)<p){r:Row}(h:Zk p n r)(j:Nat):0<=gt r j/\gt r j<p:=by
 unfold gt;rw[aF];cases q:r[j]? with|none=>exact#[Int.le_refl _,h0]|some a=>exact h.2 a<|cY q
def xi(h:r.length<=j):gt r j=0:=by unfold gt;rw[aF,dF h];rfl
def ZaL(hl:r.length=s.length)(h:∀j,gt r j=gt s j):r=s:=by
 apply i5 hl;intro j h1 h2;have:=h j;unfold gt at this;rw[aF,aF,ai h1,ai h2]at this;exact this
noncomputable def hdI:Row->Option Nat
 |[]=>ae
 |a::r=>if a≠0 then aa 0 else(hdI r).map (· + 1)
theorem Y4:∀{r:Row}{k:Nat},hdI r=aa k->gt r k≠0/\k<r.length/\∀j,j<k->gt r j=0
 |[],k,h=>by cases h
 |a::r,k,h=>by
  unfold hdI at h;by_cases c:a≠0
  .rw[T9 c]at h;cases h;exact#[c,by simp,λj hj=>by lia]
  .rw[T8 c]at h
   cases q:hdI r with
   |none=>rw[q]at h;cases h
   |some m=>
    rw[q]at h;have e:m+1=k:=aq h;subst e;obtain⟨h1,h2,h3⟩:=Y4 q;refine#[h1,by simp;lia,λj hj=>?_]
    cases j with|zero=>exact o4.mp c|succ j=>exact h3 j #[0]
theorem Xs:∀{r:Row},hdI r=ae->∀j,gt r j=0
 |[],_,j=>xi<|eE _
 |a::r,h,j=>by
  unfold hdI at h;by_cases c:a≠0
  .rw[T9 c]at h;cases h
  .rw[T8 c]at h
   have h':=mL.mp h;cases j with|zero=>exact o4.mp c|succ j=>exact Xs h' j
def ZfH(h1:gt r k≠0)(h2:∀j,j<k->gt r j=0):hdI r=aa k:=by
 cases q:hdI r with
 |none=>exact T7 (Xs q k) h1
 |some m=>
  obtain⟨a,_,c⟩:=Y4 q;have:¬k<m:=λz=>h1<|c k z
  have:¬m<k:=λz=>a<|h2 m z
  rw[show m=k by lia]
section
variable{p n:Nat}[NeZero p]
def toV(p:Nat)[NeZero p](r:Row):Vec (Fin p):=λj=>ph p<|gt r j
def Vq{r s:Row}(hr:Zk p n r)(hs:Zk p n s)(h:toV p r=toV p s):r=s:=
 ZaL (by rw[hr.1,hs.1]) λj=>wp (WA ppos hr j) (WA ppos hs j)<|congrFun h j
def yS(hr:Zk p n r):Supp n (toV p r):=λj hj=>by unfold toV;rw[xi (by rw[hr.1];exact hj),Ux]
def Yq{r:Row}(hr:Zk p n r){j:Nat}:toV p r j=0↔gt r j=0:=Zhx<|WA ppos hr j
def ZeW(hr:Zk p n r):hdV n (toV p r)=hdI r:=by
 cases q:hdI r with
 |none=>
  cases q2:hdV n (toV p r)with|none=>rfl|some k=>exact T7 ((Yq hr).mpr<|Xs q k) (GX q2).2.1
 |some k=>
  obtain⟨a,b,c⟩:=Y4 q;exact ZbM (by rw[<-hr.1];exact b) (λz=>a<|(Yq hr).mp z) λj hj=>(Yq hr).mpr<|c j hj
noncomputable def ZQ(p:Nat)(r o:Row)(k:Int):Row:=List.zipWith (λa b=>(a+k*b)%p) r o
noncomputable def XZ(p:Nat)(r:Row)(k:Int):Row:=r.map λa=>k*a%p
theorem Zgw(hl:r.length=o.length)(h0:f 0 0=0)(j:Nat):gt (List.zipWith f r o) j=f (gt r j) (gt o j):=by
 unfold gt;simp only[aF];rw[List.getElem?_zipWith];by_cases c:j<r.length
 .rw[ai c,ai #[0]];rfl
 .rw[dF #[0],dF #[0]];exact h0.symm
theorem ZH(hr:Zk p n r)(ho:Zk p n o):Zk p n (ZQ p r o k):=by
 refine#[by unfold ZQ;rw[List.length_zipWith,hr.1,ho.1];simp,λa ha=>?_]
 unfold ZQ at ha;rw[<-fG]at ha;obtain⟨⟨x,y⟩,_,rfl⟩:=aO.mp ha;exact#[hU _ (by have:=ppos (p:=p);lia),fV _ ppos]
def W8(hr:Zk p n r)(ho:Zk p n o)(j:Nat):gt (ZQ p r o k) j=(gt r j+k*gt o j)%p:=by
 unfold ZQ;rw[Zgw (by rw[hr.1,ho.1]) #[2]]
def Yu(hr:Zk p n r)(ho:Zk p n o):toV p (ZQ p r o k)=λj=>toV p r j+ph p k*toV p o j:=by
 funext j
 unfold toV;rw[W8 hr ho,jY,ZaH,Zak]
def Qc(j:Nat):gt (XZ p r k) j=k*gt r j%p:=by
 unfold XZ gt;simp only[aF,aU];cases r[j]?<;>simp
theorem Wr{r:Row}{k:Int}(hr:Zk p n r):Zk p n (XZ p r k):=by
 refine#[by unfold XZ;rw[ax,hr.1],λa ha=>?_]
 obtain⟨x,_,rfl⟩:=aO.mp ha;exact#[hU _ (by have:=ppos (p:=p);lia),fV _ ppos]
def qc :toV p (XZ p r k)=λj=>ph p k*toV p r j:=by
 funext j
 unfold toV;rw[Qc,jY,Zak]
def toP(p:Nat)[NeZero p](P:List Row):Pt (Fin p):=P.map λr=>((hdI r).getD 0,toV p r)
structure pZ(p n:Nat)[NeZero p](P:List Row):Prop where
 row:∀r∈P,Zk p n r
 pn:Pn n (toP p P)
theorem pZ.nil:pZ p n []:=#[λ_ h=>(by cases h),Pn.nil]
def Yj(h:r∈P):((hdI r).getD 0,toV p r)∈toP p P:=aO.mpr #[r,h,rfl]
def pZ.head(one0:(1:Fin p)≠0)(h:pZ p n P)(hr:r∈P):∃k,hdI r=aa k/\k<n/\toV p r k=1:=by
 have h1:=h.pn.rf.one _<|Yj hr;cases q:hdI r with
 |none=>
  rw[q]at h1;have:toV p r 0=1:=h1;have z:=(Yq<|h.row r hr).mpr<|Xs q 0;rw[z]at this;exact T7 this.symm one0
 |some k=>
  rw[q]at h1;have h2:=h.pn.lt _<|Yj hr;rw[q]at h2;exact#[k,rfl,h2,h1]
def Zb1(hP:∀r∈P,Zk p n r)(hQ:∀r∈Q,Zk p n r)(h:toP p P=toP p Q):P=Q:=by
 induction P generalizing Q with
 |nil=>cases Q with|nil=>rfl|cons b Q=>cases h
 |cons a P ih=>cases Q with
  |nil=>cases h
  |cons b Q=>
   have h':=h;injection h' with e1 e2
   have e3:=congrArg Prod.snd e1;rw[Vq (hP a<|al ..) (hQ b<|al ..) e3,ih (λr hr=>hP r<|ao _ hr) (λr hr=>hQ r<|ao _ hr) e2]
def ZdL(P:List Row):(toP p P).length=P.length:=by unfold toP;rw[ax]
def clr(p:Nat)(r o:Row)(h:Nat):Row:=ZQ p r o<|-(gt r h)
def XT(p:Nat)(P:List Row)(r:Row):Row:=P.foldl (λs o=>clr p s o<|(hdI o).getD 0) r
theorem Wp(hr:Zk p n r)(ho:Zk p n o):toV p (clr p r o h)=λj=>toV p r j-toV p r h*toV p o j:=by
 unfold clr;rw[Yu hr ho]
 funext j
 rw[xT];show toV p r j+(- toV p r h)*toV p o j=_
 grind
theorem wD:∀{P:List Row}{r:Row},(∀o∈P,Zk p n o)->Rf (toP p P)->Zk p n r->Zk p n (XT p P r)/\toV p (XT p P r)=rest (toP p P) (toV p r)
 |[],r,_,_,hr=>#[hr,by funext j;show toV p r j=toV p r j-0;grind]
 |o::P,r,hP,hf,hr=>by
  have ho:=hP o<|al ..;have hc:Zk p n (clr p r o<|(hdI o).getD 0):=ZH hr ho;obtain⟨a,b⟩:=wD (λo h=>hP o<|ao _ h) hf.tail hc
  refine#[a,?_];show toV p (XT p P<|clr p r o<|(hdI o).getD 0)=_;rw[b,Wp hr ho];have z:∀j,pr (toP p P) (toV p o) j=0:=λj=>XO λc hc=>by
   have:toV p o c.1=0:=by
    have h1:c∈toP p (o::P):=ao _ hc;have h2:((hdI o).getD 0,toV p o)∈toP p (o::P):=al ..;have h3:=(aZ.mp hf.inc).1 c hc;exact hf.zer c h1 _ h2 (by simp only at h3 ⊢;lia)
   rw[this];grind
  funext j
  unfold rest;rw[J7,z];show toV p r j-toV p r ((hdI o).getD 0)*toV p o j-(pr (toP p P) (toV p r) j-_*0)=toV p r j-(toV p r ((hdI o).getD 0)*toV p o j+pr (toP p P) (toV p r) j)
  grind
def Zbo(hP:pZ p n P)(hr:Zk p n r):hdI (XT p P r)=ae↔Mem (toP p P) (toV p r):=by
 obtain⟨a,b⟩:=wD hP.row hP.pn.rf hr;rw[<-Qe,<-b]
 constructor
 .intro h j;exact(Yq a).mpr<|Xs h j
 .intro h
  cases q:hdI (XT p P r)with|none=>rfl|some k=>exact T7 ((Yq a).mp<|h k) (Y4 q).1
end
noncomputable def Y8(p:Nat)(a:Int):Int:=if a=1 then 1 else if p=3 then 2 else if a=2 then 3 else if a=3 then 2 else 4
def ZdB(p:Nat)[NeZero p](x:Fin p):Fin p:=ph p<|Y8 p x.val
class Base(p:Nat):Prop where
 b:p=2\/p=3\/p=5
instance(p:Nat)[h:Base p]:NeZero p:=⟨by rcases h.b with e|e|e<;>lia⟩
section
variable{p n:Nat}[Base p]
def fld2:∀a:Fin 2,a≠0->ZdB 2 a*a=1:=by decide
def fld3:∀a:Fin 3,a≠0->ZdB 3 a*a=1:=by decide
def fld5:∀a:Fin 5,a≠0->ZdB 5 a*a=1:=by decide
def one2:(1:Fin 2)≠0:=by decide
def one3:(1:Fin 3)≠0:=by decide
def one5:(1:Fin 5)≠0:=by decide
def fld:Fld (ZdB p):=by
 rcases(inferInstance:Base p).b with e|e|e<;>subst e
 .exact#[fld2,one2]
 .exact#[fld3,one3]
 .exact#[fld5,one5]
def lead(p:Nat)(s:Row)(h:Nat):Row:=XZ p s<|Y8 p<|gt s h
def ZJ(P:List Row):List Nat:=P.map λr=>(hdI r).getD 0
def V3(P:List Row):(toP p P).map (·.1)=ZJ P:=by unfold toP ZJ;rw[bY];rfl
abbrev Mm(p:Nat)[NeZero p](P:List Row)(u:Vec (Fin p)):Prop:=Mem (toP p P) u
def eqP(hA:pZ p n A)(hB:pZ p n B)(h:∀u,Mm p A u↔Mm p B u):A=B:=Zb1 hA.row hB.row<|Zhi fld hA.pn hB.pn h
def ZM(p:Nat)(P:List Row)(r:Row):Bool:=(hdI<|XT p P r).isNone
def ZT(hP:pZ p n P)(hr:Zk p n r):ZM p P r=aj↔Mm p P (toV p r):=by
 unfold Mm;rw[<-Zbo hP hr];unfold ZM;cases hdI (XT p P r)<;>simp
theorem zH(hP:pZ p n P)(hQ:pZ p n Q):P.all (ZM p Q)=aj↔∀u,Mm p P u->Mm p Q u:=by
 rw[aY]
 constructor
 .intro h u hu
  have gen:∀R:Pt (Fin p),(∀a∈R,Mm p Q a.2)->Mm p Q (pr R u):=by
   intro R
   induction R with
   |nil=>intro _;exact QL
   |cons a R ih=>
    intro hR;have:=Wq (u a.1) (ih λb hb=>hR b<|ao _ hb)<|hR a<|al ..
    have e:(λj=>pr R u j+u a.1*a.2 j)=pr (a::R) u:=by funext j;show _=u a.1*a.2 j+pr R u j;grind
    rw[e]at this;exact this
  have:=gen (toP p P) λa ha=>by
   obtain⟨r,hr,rfl⟩:=aO.mp ha;exact(ZT hQ<|hP.row r hr).mp<|h r hr
  have e:=funext λj=>(hu j).symm
  rw[e]at this;exact this
 .intro h r hr
  exact(ZT hQ<|hP.row r hr).mpr<|h _<|W3 hP.pn.rf<|Yj hr
theorem vX{F:Type}[kH F]{x:Nat×Vec F}:∀{P:Pt F},(∀a∈P,a.1<x.1)->ins x P=P++[x]
 |[],_=>rfl
 |y::P,h=>by
  unfold ins;rw[T8 (by have:=h y<|al ..;lia),vX λa ha=>h a<|ao _ ha];rfl
theorem JK{P:List Row}{l:Row}{j:Nat}(hP:pZ p n P)(hl:Zk p n l)(hj:j<n)(h1:gt l j=1)(h0:∀i,i<j->gt l i=0)(hh:∀r∈P,(hdI r).getD 0<j):pZ p n (P.map (λo=>clr p o l j)++[l])/\∀r∈P.map (λo=>clr p o l j)++[l],(hdI r).getD 0<j+1:=by
 have one:ph p 1=1:=by rcases(inferInstance:Base p).b with e|e|e<;>subst e<;>rfl
 have hlt:∀a∈toP p P,a.1<j:=λa ha=>by
  obtain⟨r,hr,rfl⟩:=aO.mp ha;exact hh r hr
 have L:Lead (toP p P) j (toV p l):=#[by unfold toV;rw[h1,one],λi hi=>(Yq hl).mpr<|h0 i hi,λa ha=>(Yq hl).mpr<|h0 _<|hlt a ha]
 have rf:=Za9 fld.one0 hP.pn.rf L;have ew:wid (toP p P) j (toV p l)=(toP p P).map (off j<|toV p l)++[(j,toV p l)]:=vX λa ha=>by
  obtain⟨b,hb,rfl⟩:=aO.mp ha;exact hlt b hb
 have hx:=ZfH (by rw[h1];decide) h0
 have hmem:∀o∈P,off j (toV p l) ((hdI o).getD 0,toV p o)∈wid (toP p P) j (toV p l):=λo ho=>by
  rw[ew];exact cX _<|aO.mpr #[_,Yj ho,rfl]
 have eh:∀o∈P,hdI (clr p o l j)=aa ((hdI o).getD 0):=λo ho=>by
  have ho':=hP.row o ho;have hc:Zk p n (clr p o l j):=ZH ho' hl;have ev:toV p (clr p o l j)=(off j (toV p l) ((hdI o).getD 0,toV p o)).2:=Wp ho' hl;rw[<-ZeW hc,ev];exact ZbM (hP.pn.lt _<|Yj ho) (λz=>fld.one0<|(rf.one _<|hmem o ho).symm.trans z)<|rf.low _<|hmem o ho
 have eP:toP p (P.map (λo=>clr p o l j)++[l])=wid (toP p P) j (toV p l):=by
  rw[ew];unfold toP;rw[bw,bY,bY]
  congr 1
  .refine eS λo ho=>?_
   show((hdI<|clr p o l j).getD 0,toV p<|clr p o l j)=off j _ ((hdI o).getD 0,toV p o);rw[eh o ho,Wp (hP.row o ho) hl];rfl
  .show[((hdI l).getD 0,toV p l)]=_
   rw[hx];rfl
 have hrow:∀r∈P.map (λo=>clr p o l j)++[l],Zk p n r:=λr hr=>by
  rcases bK.mp hr with z|z
  .obtain⟨o,ho,rfl⟩:=aO.mp z
   exact ZH (hP.row o ho) hl
  .rw[aT.mp z];exact hl
 refine#[#[hrow,#[by rw[eP];exact rf,λa ha=>?_,λa ha=>?_]],λr hr=>?_]
 .unfold toP at ha
  obtain⟨r,hr,rfl⟩:=aO.mp ha;rcases bK.mp hr with z|z
  .obtain⟨o,ho,rfl⟩:=aO.mp z
   show(hdI _).getD 0<n;rw[eh o ho];exact hP.pn.lt _<|Yj ho
  .rw[aT.mp z];rw[hx];exact hj
 .unfold toP at ha
  obtain⟨r,hr,rfl⟩:=aO.mp ha;exact yS<|hrow r hr
 .rcases bK.mp hr with z|z
  .obtain⟨o,ho,rfl⟩:=aO.mp z
   rw[eh o ho];have:=hh o ho;show(hdI o).getD 0<j+1;lia
  .rw[aT.mp z,hx];show j<j+1;lia
theorem low3{a:Int}(h0:0<a)(h1:a<(3:Nat)):a=1\/a=2:=by lia
theorem low5{a:Int}(h0:0<a)(h1:a<(5:Nat)):a=1\/a=2\/a=3\/a=4:=by lia
theorem Zb4{a:Int}(h0:0<a)(h1:a<p):Y8 p a*a%p=1:=by
 rcases(inferInstance:Base p).b with e|e|e<;>subst e
 .have:a=1:=by lia
  subst this;rfl
 .rcases low3 h0 h1 with e|e<;>subst e<;>rfl
 .rcases low5 h0 h1 with e|e|e|e<;>subst e<;>rfl
theorem jr{a:Int}(h0:0<a)(h1:a<p):(aM p).filter (λk:Nat=>af<|(k:Int)*a%p=1)=[(Y8 p a).toNat]/\((Y8 p a).toNat:Int)=Y8 p a:=by
 rcases(inferInstance:Base p).b with e|e|e<;>subst e
 .have:a=1:=by lia
  subst this;exact#[rfl,rfl]
 .rcases low3 h0 h1 with e|e<;>subst e<;>exact#[rfl,rfl]
 .rcases low5 h0 h1 with e|e|e|e<;>subst e<;>exact#[rfl,rfl]
structure Red(p n:Nat)[NeZero p](j:Nat)(rest found:List Row):Prop where
 row:∀r∈rest,Zk p n r
 low:∀r∈rest,∀i,i<j->gt r i=0
 part:pZ p n found
 head:∀r∈found,(hdI r).getD 0<j
theorem ZbE{j:Nat}{rest found:List Row}(h:Red p n j rest found)(hz:∀r∈rest,gt r j=0):Red p n (j+1) rest found:=
 #[h.row,λr hr i hi=>by
   by_cases c:i=j
   .rw[c];exact hz r hr
   .exact h.low r hr i #[0],h.part,λr hr=>by have:=h.head r hr;lia]
theorem jw{j:Nat}{rest found:List Row}{f:Row}(h:Red p n j rest found)(hj:j<n)(hf:f∈rest)(hz:gt f j≠0):Red p n (j+1) (rest.map λr=>clr p r #[38] j) (found.map (λr=>clr p r #[38] j)++[lead p f j]):=by
 have hfr:=h.row f hf;have hg:=WA ppos hfr j;have hl:Zk p n #[38]:=Wr hfr;have h1:gt #[38] j=1:=by unfold lead;rw[Qc];exact Zb4 #[0] hg.2
 have h0:∀i,i<j->gt #[38] i=0:=λi hi=>by unfold lead;rw[Qc,h.low f hf i hi];simp
 obtain⟨a,b⟩:=JK h.part hl hj h1 h0 h.head;refine#[λr hr=>?_,λr hr i hi=>?_,a,b]
 .obtain⟨o,ho,rfl⟩:=aO.mp hr
  exact ZH (h.row o ho) hl
 .obtain⟨o,ho,rfl⟩:=aO.mp hr
  unfold clr;rw[W8 (h.row o ho) hl];by_cases c:i=j
  .rw[c,h1]
   rw[show gt o j + -(gt o j)*1=0 by lia];rfl
  .rw[h.low o ho i #[0],h0 i #[0]];simp
end
end Rw
namespace Pv
open Ev
open Rw
def Za{B β:Type}{a:B}{s:DS}{f:B->DS->PR β}:(PR.ok a s).bind f=f a s:=rfl
def Jp(hf:F[f]?=aa fn)(hne:f≠tk)(hl:vs.length=fn.ps):Zl F tk (d+1) f vs s=(rvs (Zl F tk d) (muts fn.body) fn.body (ZL fn.ns vs) [] s).bind λg s=>match g with
  |.ret v=>.ok v s
  |.nx _ _=>.ok .non s
  |_=>.no:=by
 rw[Zl,T8 hne,hf];show(if vs.length=fn.ps then _ else _)=_
 rw[T9 hl]
 all_goals rfl
def ZbB(s:DS)(h:0<m):0<=(X9 s m).1/\(X9 s m).1<m:=by
 unfold X9;split
 .exact#[hU _ #[0],fV _ h]
 .exact#[hU _ #[0],fV _ h]
def wq(s:DS)(h0:0<m)(h1:m<1073741824):∃v s',Zl F tk (d+1) tk [.drw,.int m] s=.ok (.int v) s'/\0<=v/\v<m:=by
 refine#[(X9 s m).1,(X9 s m).2,?_,ZbB s h0];rw[Zl,T9 rfl];show(if 0<m/\m<1073741824 then _ else _)=_
 rw[T9 #[h0,h1]]
theorem UX{B:Type}{f:V->DS->PR (List V)}{s:DS}{e:B->V}{g:B->V}:∀{l:List B},(∀x∈l,f (e x) s=.ok [g x] s)->mapP f (l.map e) s=.ok (l.map g) s
 |[],_=>rfl
 |x::l,h=>by
  rw[aX,mapP,h x<|al ..];show(match mapP f (l.map e) s with|.ok zs s=>PR.ok ([g x]++zs) s|_=>.no)=_
  rw[UX λy hy=>h y<|ao _ hy];rfl
theorem Uk{B:Type}{f:V->DS->PR (List V)}{s:DS}{e:B->V}{g:B->V}{q:B->Bool}:∀{l:List B},(∀x∈l,f (e x) s=.ok (if q x=aj then[g x]else[]) s)->mapP f (l.map e) s=.ok ((l.filter q).map g) s
 |[],_=>rfl
 |x::l,h=>by
  rw[aX,mapP,h x<|al ..];show(match mapP f (l.map e) s with|.ok zs s=>PR.ok ((if q x=aj then[g x]else[])++zs) s|_=>.no)=_
  rw[Uk λy hy=>h y<|ao _ hy,mv]
  cases q x<;>rfl
theorem Jc{B:Type}{f:V->DS->PR (List V)}{s:DS}{e:B->V}{g:B->List V}:∀{l:List B},(∀x∈l,f (e x) s=.ok (g x) s)->mapP f (l.map e) s=.ok (l.flatMap g) s
 |[],_=>rfl
 |x::l,h=>by
  rw[aX,mapP,h x<|al ..];show(match mapP f (l.map e) s with|.ok zs s=>PR.ok (g x++zs) s|_=>.no)=_
  rw[Jc λy hy=>h y<|ao _ hy];rfl
theorem JE{Q:V->Prop}(h:∀x s,∃y s',f x s=.ok [y] s'/\Q y):∀(l:List V)(s:DS),∃ys s',mapP f l s=.ok ys s'/\ys.length=l.length/\∀y∈ys,Q y
 |[],s=>#[[],s,rfl,rfl,λ_ h=>by cases h]
 |x::l,s=>by
  obtain⟨y,s1,e1,q1⟩:=h x s;obtain⟨ys,s2,e2,l2,q2⟩:=JE h l s1;refine#[y::ys,s2,?_,by rw[aG,aG,l2],λz hz=>?_]
  .rw[mapP,e1]
   show(match mapP f l s1 with|.ok zs s=>PR.ok ([y]++zs) s|_=>.no)=_
   rw[e2];rfl
  .rcases ay.mp hz with rfl|hz
   .exact q1
   .exact q2 z hz
theorem Ji{Z B:Type}{body:V->Env->List Nat->DS->PR FlV}{s:DS}{os:List Nat}{U:Z->Option V->Env}{step:Z->B->Z}{e:B->V}(I:Z->Prop):∀{l:List B}{st:Z}{o:Option V},I st->(∀x∈l,∀st o,I st->I (step st x)/\∃o',body (e x) (U st o) os s=.ok (.nx (U (step st x) o') os) s)->∃o',I (l.foldl step st)/\Y5 body (l.map e) (U st o) os s=.ok (.nx (U (l.foldl step st) o') os) s
 |[],st,o,hI,_=>#[o,hI,rfl]
 |x::l,st,o,hI,h=>by
  obtain⟨h1,o1,e1⟩:=h x (al ..) st o hI;obtain⟨o2,h2,e2⟩:=Ji I h1 λy hy=>h y<|ao _ hy
  refine#[o2,h2,?_];rw[aX,Y5,e1];exact e2
noncomputable def V2:Option Nat->V
 |none=>.non
 |some k=>.int k
noncomputable def spV(p n:Nat):V:=.tup [.int p,.int n]
def Z0{a:Int}(h:-4294967296<a)(h':a<4294967296):fits a=aj:=by
 refine T5 ?_;have h1:a.natAbs<2^32:=by lia
 exact br h1<|cZ #[1] #[1]
def VO{B:Type}{xs:List B}{k:Nat}{x:B}(h:xs[k]?=aa x):at' xs (k:Int)=aa x:=by
 have hk:k<xs.length:=(aH.mp h).1;unfold at' ixN;rw[T9<|ly k,T9<|Int.ofNat_lt.mpr hk];exact h
def WN{r:Row}{k:Nat}(hk:k<r.length):at' (r.map V.int) (k:Int)=aa (.int<|gt r k):=by
 refine VO ?_;rw[aU,ai hk];unfold gt;rw[aF,ai hk];rfl
theorem ZW{B:Type}{g:B->Bool}:∀l:List B,ZY (l.map λx=>.bl<|g x)=aa (l.map g)
 |[]=>rfl
 |x::l=>by rw[aX,ZY,ZW l];rfl
theorem Ql{B:Type}{f:V->V->Option Bool}{e:B->V}{d:B->B->Bool}(hd:∀a b,d a b=aj↔a=b)(h:∀a b,f (e a) (e b)=aa (d a b)):∀a b:List B,∃c,Yz f (a.map e) (b.map e)=aa c/\(c=aj↔a=b)
 |[],[]=>#[aj,rfl,by simp]
 |[],_::_=>#[ak,rfl,by simp]
 |_::_,[]=>#[ak,rfl,by simp]
 |x::a,y::b=>by
  obtain⟨c,e1,e2⟩:=Ql hd h a b;refine#[d x y&&c,?_,?_]
  .rw[aX,aX,Yz,h,e1]
  .rw[aC,hd,e2];simp
def Zdb(k:Nat)(a b:Row):eqV (k+2) (Zd a) (Zd b)=aa (af<|a=b):=by
 show Yz (eqV<|k+1) (a.map .int) (b.map .int)=_;obtain⟨c,e1,e2⟩:=Ql (f:=eqV<|k+1) (e:=V.int) (λa b=>by simp) (λa b=>rfl) a b
 rw[e1,show c=af (a=b) by rw[cA,e2];simp]
def ZaD(k:Nat)(a b:List Row):eqV (k+3) (Zc a) (Zc b)=aa (af<|a=b):=by
 show Yz (eqV<|k+2) (a.map Zd) (b.map Zd)=_;obtain⟨c,e1,e2⟩:=Ql (λa b=>by simp) (λa b=>Zdb k a b) a b
 rw[e1,show c=af (a=b) by rw[cA,e2];simp]
theorem Qu:∀(r o:Row),((r.map V.int).zip<|o.map V.int).map (λq=>V.tup [q.1,q.2])=(r.zip o).map λq=>V.tup [.int q.1,.int q.2]
 |[],_=>rfl
 |_::_,[]=>rfl
 |a::r,b::o=>by rw[aX,aX,bV,aX,bV,aX,Qu r o]
theorem YR:∀r:Row,intsV (r.map V.int)=aa r
 |[]=>rfl
 |a::r=>by show(intsV<|r.map V.int).map (a :: ·)=_;rw[YR r];rfl
theorem YD:∀P:List Row,Ye (P.map Zd)=aa P
 |[]=>rfl
 |r::P=>by
  show(match intsV (r.map V.int),Ye (P.map Zd)with|some a,aa b=>aa (a::b)|_,_=>ae)=_
  rw[YR,YD P]
theorem XR:∀r:Row,ZP (r.map V.int)=aj
 |[]=>rfl
 |a::r=>XR r
def ZdR(n:Nat):ZV 0 n=(aM n).map λ(k:Nat)=>V.int (k:Int):=by
 refine eS λk _=>?_
 simp
def Z2{B:Type}{a:B}{s:DS}:po (aa a) s=.ok a s:=rfl
section
variable{C:Zq}{cap:List Nat}{nl:Nat}{t:List Nat}{it:W}{elt tst:E}{U:Env}{s:DS}{B:Type}
def Zw{l:List B}{e g:B->V}(hw:pvw C it U s=.ok (l.map e) s)(hl:l.length<=lim)(h:∀x∈l,∃Z,Zo t (e x) (Z8 cap nl U)=aa Z/\pv C elt Z s=.ok (g x) s)(ho:own nl t=aj:=by rfl):pv C (.comp1 cap nl t it [] elt) U s=.ok (.lst<|l.map g) s:=by
 rw[jV,T9 ho,hw,Za,UX (g:=g) λx hx=>by
  obtain⟨Z,e1,e2⟩:=h x hx;rw[e1,Z2,Za,pvt,Za];show(pv C elt Z s).bind _=_;rw[e2];rfl]
 rw[Za,T9 (by rw[ax];exact hl)];rfl
def Yr{l:List B}{e g:B->V}{q:B->Bool}(hw:pvw C it U s=.ok (l.map e) s)(hl:l.length<=lim)(h:∀x∈l,∃Z v,Zo t (e x) (Z8 cap nl U)=aa Z/\pv C tst Z s=.ok v s/\Zs v=aa (q x)/\(q x=aj->pv C elt Z s=.ok (g x) s))(ho:own nl t=aj:=by rfl):pv C (.comp1 cap nl t it [tst] elt) U s=.ok (.lst<|(l.filter q).map g) s:=by
 rw[jV,T9 ho,hw,Za,Uk (g:=g) (q:=q) λx hx=>by
  obtain⟨Z,v,e1,e2,e3,e4⟩:=h x hx;rw[e1,Z2,Za,pvt,e2,Za,e3,Z2,Za];cases c:q x with
  |true=>
   rw[T9 rfl,pvt,Za,T9 rfl,T9 rfl,e4 c];rfl
  |false=>rw[T8 #[2],Za,T8 #[2],T8 #[2]]]
 rw[Za,T9 (by rw[ax];exact bW (gq ..) hl)];rfl
def yf{β:Type}{u:List Nat}{jt:W}{l:List B}{e:B->V}{m:B->List β}{e2:β->V}{g:B->β->V}(hw:pvw C it U s=.ok (l.map e) s)(hl:(l.flatMap λx=>(m x).map<|g x).length<=lim)
  (h:∀x∈l,∃Z,Zo t (e x) (Z8 cap nl U)=aa Z/\pvw C jt Z s=.ok ((m x).map e2) s/\∀y∈m x,∃σ',Zo u (e2 y) Z=aa σ'/\pv C elt σ' s=.ok (g x y) s)(ho:own2 nl t u=aj:=by rfl):pv C (.comp2 cap nl t it [] u jt [] elt) U s=.ok (.lst<|l.flatMap λx=>(m x).map<|g x) s:=by
 rw[Zg5,T9 ho,hw,Za,Jc (g:=λx=>(m x).map<|g x) λx hx=>by
  obtain⟨Z,e1,e3,e4⟩:=h x hx;rw[e1,Z2,Za,pvt,Za,T9 rfl,e3,Za];exact UX λy hy=>by
   obtain⟨σ',f1,f2⟩:=e4 y hy;rw[f1,Z2,Za,pvt,Za];show(pv C elt σ' s).bind _=_;rw[f2];rfl]
 rw[Za,T9 hl];rfl
def Q9{k:Nat}{Q:V->Prop}(hw:pvw C it U s=.ok (ZV 0 k) s)(hl:k<=lim)(h:∀(x:V)(s:DS),∃Z y s',Zo t x (Z8 cap nl U)=aa Z/\pv C elt Z s=.ok y s'/\Q y)(ho:own nl t=aj:=by rfl) :
  ∃ys s',pv C (.comp1 cap nl t it [] elt) U s=.ok (.lst ys) s'/\ys.length=k/\∀y∈ys,Q y:=by
 obtain⟨ys,s',e1,e2,e3⟩:=JE (Q:=Q) (f:=λx s=>(po (Zo t x<|Z8 cap nl U) s).bind λZ s=>(pvt C [] Z s).bind λb s=>if b then(pv C elt Z s).bind λy s=>.ok [y] s else .ok [] s) (λx s=>by
  obtain⟨Z,y,s',f1,f2,f3⟩:=h x s;refine#[y,s',?_,f3];rw[f1,Z2,Za,pvt,Za];show(pv C elt Z s).bind _=_;rw[f2];rfl) (ZV 0 k) s
 have hk:(ZV 0 k).length=k:=by unfold ZV;simp
 refine#[ys,s',?_,by rw[e2,hk],e3]
 rw[jV,T9 ho,hw,Za,e1,Za,T9 (by rw[e2,hk];exact hl)];rfl
end
def Zaz{xs:List V}{k:Nat}(h:k<=xs.length):YF xs ae (aa (k:Int))=xs.take k:=by
 show(xs.drop 0).take ((if(k:Int)<0 then((k:Int)+xs.length).toNat else sD (k:Int).toNat xs.length)-0)=_
 rw[T8<|Int.not_lt.mpr<|ly k,show sD (k:Int).toNat xs.length-0=k from hJ h];rfl
def zt{xs:List V}{i:Int}{k:Nat}(hi:i=k)(h:k<=xs.length):YF xs (aa i) ae=xs.drop k:=by
 subst hi;show(xs.drop<|if(k:Int)<0 then((k:Int)+xs.length).toNat else sD (k:Int).toNat xs.length).take (xs.length-(if(k:Int)<0 then((k:Int)+xs.length).toNat else sD (k:Int).toNat xs.length))=_
 rw[T8<|Int.not_lt.mpr<|ly k,show sD (k:Int).toNat xs.length=k from hJ h]
 exact cG<|mI bF
def ZaE{xs:List V}:YF xs (aa 1) ae=xs.tail:=by
 cases xs with|nil=>rfl|cons x xs=>exact zt rfl #[2]
noncomputable def Zi(k:Nat):V:=.int k
def J8(n:Nat):ZV 0 n=(aM n).map Zi:=by rw[ZdR];rfl
def Wf(h0:0<=i)(h1:i<1000000):Yt i=aj:=by
 unfold Yt;have e:(2:Int)^62=4611686018427387904:=by decide
 rw[e];exact T5 #[by lia,by lia]
def Zp(hf:F[f]?=aa fn)(hne:f≠tk)(hl:vs.length=fn.ps)(h:rvs (Zl F tk d) (muts fn.body) fn.body (ZL fn.ns vs) [] s=.ok (.ret v) s'):Zl F tk (d+1) f vs s=.ok v s':=by
 rw[Jp hf hne hl,h];rfl
def Us(hf:F[f]?=aa fn)(hne:f≠tk)(hl:vs.length=fn.ps)(h:rvs (Zl F tk d) (muts fn.body) fn.body (ZL fn.ns vs) [] s=.ok (.nx U os) s'):Zl F tk (d+1) f vs s=.ok .non s':=by
 rw[Jp hf hne hl,h];rfl
def Zf(h:rv C ms m U os s=.ok (.nx ρ' os') s'):rvs C ms (m::l) U os s=rvs C ms l ρ' os' s':=by rw[rvs,h];rfl
def Zm(h:rv C ms m U os s=.ok (.ret v) s'):rvs C ms (m::l) U os s=.ok (.ret v) s':=by rw[rvs,h];rfl
def ZI{v:V}{e:E}(h:pv C e U s=.ok v s'):rv C ms (.ret e) U os s=.ok (.ret v) s':=by rw[rE9,h];rfl
def Zbs{v:V}{f:Nat}{as:List E}(h:pv C (.call f as) U s=.ok v s'):rv C ms (.ex<|.call f as) U os s=.ok (.nx U os) s':=by
 have:rv C ms (.ex<|.call f as) U os s=(pv C (.call f as) U s).bind λ_ s=>.ok (.nx U os) s:=by
  rw[ZdQ]
  all_goals(intro _ _ z;cases z)
 rw[this,h];rfl
def Ys{b:Bool}{t:E}{x y:List Sm}(h:Y2 C t U s=.ok b s'):rv C ms (.ite t x y) U os s=if b=aj then rvs C ms x U os s' else rvs C ms y U os s':=by rw[Gg,h];rfl
def Yf{v:V}{b:Bool}{t:E}(h:pv C t U s=.ok v s')(hb:Zs v=aa b):Y2 C t U s=.ok b s':=by unfold Y2;rw[h,Za,hb];rfl
def Zr{f:Nat}{as:List E}{vs:List V}{v:V}{s1:DS}(h:pvs C as U s=.ok vs s1)(hc:C f vs s1=.ok v s'):pv C (.call f as) U s=.ok v s':=by rw[Zaw,h];exact hc
def Zg:pvs C [] U s=.ok [] s:=by rw[pvs]
def Zb{e:E}{es:List E}{v:V}{vs:List V}{s1:DS}(h:pv C e U s=.ok v s1)(h2:pvs C es U s1=.ok vs s'):pvs C (e::es) U s=.ok (v::vs) s':=by rw[pvs,h,Za,h2];rfl
def Ze{i:Nat}{v:V}(h:U[i]?=aa (aa v)):pv C (.v i) U s=.ok v s:=by rw[pE2,h];rfl
def ZE{i:Nat}{e:E}{v:V}(h:pv C e U s=.ok v s')(hm:(ms.contains i&&fresh e)=ak):rv C ms (.asg [i] e) U [] s=.ok (.nx (U.set i<|aa v) []) s':=by
 rw[rE1];show(pv C e U s).bind _=_;rw[h,Za,T8 (by rw[hm];simp)];rfl
def Zfb{Z B:Type}{t:List Nat}{it:W}{b:List Sm}{L:List B}{e:B->V}{step:Z->B->Z}{U:Z->Option V->Env}{st:Z}{o:Option V}(I:Z->Prop)(hw:pvw C it (hide os<|U st o) s=.ok (L.map e) s)(hI:I st)(ht:(t.any os.contains)=ak)
  (h:∀x∈L,∀st o,I st->I (step st x)/\(os.isEmpty||(e x).flat)=aj/\∃ρ1 o',Zo t (e x) (U st o)=aa ρ1/\rvs C ms b ρ1 os s=.ok (.nx (U (step st x) o') os) s) :
  ∃o',I (L.foldl step st)/\rv C ms (.forr t it b) (U st o) os s=.ok (.nx (U (L.foldl step st) o') os) s:=by
 obtain⟨o',h1,h2⟩:=Ji (body:=λx U os s=>if(t.any os.contains)=aj then .no else(po (Zo t x U) s).bind λU s=>rvs C ms b U os s) (s:=s) (os:=os) (U:=U) (step:=step) (e:=e) I (l:=L) (st:=st) (o:=o) hI (λx hx st o hI=>by
  obtain⟨a,f,ρ1,o',b1,b2⟩:=h x hx st o hI;refine#[a,o',?_];rw[T8 (by rw[ht];simp),b1,Z2,Za,b2])
 refine#[o',h1,?_];rw[QX,hw,Za];exact h2
def Yx{e:E}{n:Nat}(h:pv C e U s=.ok (.int n) s')(hn:n<1000000):pvw C (.rng1 e) U s=.ok ((aM n).map Zi) s':=by
 rw[wE1,h,Za];show(if Yt (n:Int)=aj then PR.ok (ZV 0 (n:Int).toNat) s' else .no)=_
 rw[T9 (Wf #[0] #[0]),fC,J8]
def Xf{B:Type}{t:List Nat}{it:W}{b:List Sm}{L:List B}{e:B->V}(I:List B->Env->Prop)(hw:pvw C it (hide os U) s=.ok (L.map e) s)(hI:I L U)(ht:(t.any os.contains)=ak)
  (h:∀x l U,I (x::l) U->(os.isEmpty||(e x).flat)=aj/\∃ρ1 ρ',Zo t (e x) U=aa ρ1/\rvs C ms b ρ1 os s=.ok (.nx ρ' os) s/\I l ρ') :
  ∃ρ',I [] ρ'/\rv C ms (.forr t it b) U os s=.ok (.nx ρ' os) s:=by
 rw[QX,hw,Za];clear hw
 induction L generalizing U with
 |nil=>exact#[U,hI,rfl]
 |cons x L ih=>
  obtain⟨f,ρ1,ρ',b1,b2,b3⟩:=h x L U hI;obtain⟨ρ2,c1,c2⟩:=ih b3;refine#[ρ2,c1,?_];rw[aX,Y5,T8 (by rw[ht];simp),b1,Z2,Za,b2,Za]
  exact c2
def Vg{Z B:Type}{t:List Nat}{it:W}{b:List Sm}{L:List B}{e:B->V}{step:Z->B->Z}{U:Z->Option V->Env}{st:Z}{o:Option V}(I:List B->Z->Prop)(hw:pvw C it (hide os<|U st o) s=.ok (L.map e) s)(hI:I L st)(ht:(t.any os.contains)=ak)
  (h:∀x l st o,I (x::l) st->I l (step st x)/\(os.isEmpty||(e x).flat)=aj/\∃ρ1 o',Zo t (e x) (U st o)=aa ρ1/\rvs C ms b ρ1 os s=.ok (.nx (U (step st x) o') os) s) :
  ∃o',I [] (L.foldl step st)/\rv C ms (.forr t it b) (U st o) os s=.ok (.nx (U (L.foldl step st) o') os) s:=by
 rw[QX,hw,Za];clear hw
 induction L generalizing st o with
 |nil=>exact#[o,hI,rfl]
 |cons x L ih=>
  obtain⟨a,f,ρ1,o',b1,b2⟩:=h x L st o hI;obtain⟨o2,c1,c2⟩:=ih (st:=step st x) (o:=o') a;refine#[o2,c1,?_];rw[aX,Y5,T8 (by rw[ht];simp),b1,Z2,Za,b2,Za]
  exact c2
def pvF:(∀a,fresh (.lst a)=aj)/\(∀a b,fresh (.bin .mul (.lst a) b)=aj)/\(∀b,Zs (.bl b)=aa b)/\(∀i,Zs (.int i)=aa (af<|i≠0))/\(∀xs,Zs (.tup xs)=aa (!xs.isEmpty))/\(∀xs,Zs #[35]=aa (!xs.isEmpty))/\(Zs .non=aa ak)/\(∀xs i,ixV (.tup xs) (.int i)=at' xs i)/\(∀xs i,ixV #[35] (.int i)=at' xs i)/\(∀xs,YG (.tup xs)=aa xs)/\(∀xs,YG #[35]=aa xs)/\(∀x,XW .len [x]=(YG x).map λxs=>.int xs.length)/\(∀x,XW .tuple [x]=(YG x).map .tup)/\(∀x,XW .list [x]=(YG x).map .lst)/\(∀xs,XW .all [.lst xs]=(ZY xs).map λbs=>.bl<|bs.all id)/\(∀a b,XW .max2 [.int a,.int b]=aa (.int (if b>a then b else a)))/\(∀a b,XW .min2 [.int a,.int b]=aa (.int (if b<a then b else a)))/\(∀a,XW .toInt [.int a]=aa (.int a))/\(∀a,XW .toInt [.bl a]=aa (.int<|b2i a))/\(∀a b s,Wu .add (.int a) (.int b) s=.ok (.int<|a+b) s)/\(∀a b s,Wu .sub (.int a) (.int b) s=.ok (.int<|a-b) s)/\(∀a b s,Wu .mul (.int a) (.int b) s=if(fits a&&fits b)=aj then .ok (.int<|a*b) s else .no)/\(∀a b s,Wu .mod (.int a) (.int b) s=if 0<b then .ok (.int<|a%b) s else .no)/\(∀a b s,Wu .add (.tup a) (.tup b) s=if a.length+b.length<=lim then .ok (.tup<|a++b) s else .no)/\(∀a b s,Wu .mul (.tup a) (.int b) s=if 0<=b/\b<1000/\a.length<=1000 then .ok (.tup (aJ b.toNat a).flatten) s else .no)/\(∀a b s,Wu .mul (.lst a) (.int b) s=if 0<=b/\b<1000/\a.length<=1000 then .ok (.lst (aJ b.toNat a).flatten) s else .no)/\(∀a b s,Wu .add (.lst a) (.lst b) s=if a.length+b.length<=lim then .ok (.lst<|a++b) s else .no)/\(∀x y,YH .eq x y=(eqV Zt x y).map .bl)/\(∀x y,YH .ne x y=(eqV Zt x y).map λb=>.bl !b)/\(∀a b,YH .lt (.int a) (.int b)=aa (.bl<|af<|a<b))/\(∀a b,YH .gt (.int a) (.int b)=aa (.bl<|af<|b<a))/\(∀a b,YH .le (.int a) (.int b)=aa (.bl<|af<|a<=b))/\(∀a b,YH .ge (.int a) (.int b)=aa (.bl<|af<|b<=a))/\(∀x,YH .is x .non=aa (.bl<|QC x))/\(∀a b,YH .is (.bl a) (.bl b)=aa (.bl<|af<|a=b))/\(∀x y,YH .inn x y=(Ue x y).map .bl)/\(∀x y,YH .nin x y=(Ue x y).map λb=>.bl !b)/\(QC .non=aj)/\(∀b,QC (.bl b)=ak)/\(∀b,QC (.int b)=ak)/\(∀b,QC (.tup b)=ak)/\(∀b,QC (.lst b)=ak)/\(ofD .non=aa .non)/\(∀b,ofD (.bl b)=aa (.bl b))/\(∀b,ofD (.int b)=aa (.int b))/\(∀U,Y6 [] [] U=aa U)/\(∀i t x xs U,Y6 (i::t) (x::xs) U=Y6 t xs (U.set i<|aa x))/\(∀i x U,Zo [i] x U=aa (U.set i<|aa x))/\(∀i j t xs U,Zo (i::j::t) (.tup xs) U=Y6 (i::j::t) xs U)/\(∀i j t xs U,Zo (i::j::t) #[35] U=Y6 (i::j::t) xs U)/\(∀k a b,eqV (k+1) (.int a) (.int b)=aa (af<|a=b))/\(∀k a b,eqV (k+1) (.bl a) (.bl b)=aa (af<|a=b))/\(∀k a b,eqV (k+1) (.tup a) (.tup b)=Yz (eqV k) a b)/\(∀k a b,eqV (k+1) (.lst a) (.lst b)=if a.length=b.length then Yz (eqV k) a b else aa ak):=
 #[λ_=>rfl,λ_ _=>rfl,λ_=>rfl,λ_=>rfl,λ_=>rfl,λ_=>rfl,rfl,λ_ _=>rfl,λ_ _=>rfl,λ_=>rfl,λ_=>rfl,λ_=>rfl,λ_=>rfl,λ_=>rfl,λ_=>rfl,λ_ _=>rfl,λ_ _=>rfl,λ_=>rfl,λ_=>rfl,λ_ _ _=>rfl,λ_ _ _=>rfl,λ_ _ _=>rfl,λ_ _ _=>rfl,λ_ _ _=>rfl,λ_ _ _=>rfl,λ_ _ _=>rfl,λ_ _ _=>rfl,λ_ _=>rfl,λ_ _=>rfl,λ_ _=>rfl,λ_ _=>rfl,λ_ _=>rfl,λ_ _=>rfl,λ_=>rfl,λ_ _=>rfl,λ_ _=>rfl,λ_ _=>rfl,rfl,λ_=>rfl,λ_=>rfl,λ_=>rfl,λ_=>rfl,rfl,λ_=>rfl,λ_=>rfl,λ_=>rfl,λ_ _ _ _ _=>rfl,λ_ _ _=>rfl,λ_ _ _ _ _=>rfl,λ_ _ _ _ _=>rfl,λ_ _ _=>rfl,λ_ _ _=>rfl,λ_ _ _=>rfl,λ_ _ _=>rfl]
def pvE:=bh (bh (bh (bh (bh pvF<|bh @Za @Z2)<|bh @Y2.eq_1<|bh @ZL.eq_1 @hide.eq_1)<|bh (bh @Z8.eq_1<|bh @Option.join.eq_1.{0} @lim.eq_1)<|bh (bh @rvs.eq_1 @rvs.eq_2)<|bh @pvA.eq_1 @pvA.eq_2)<|bh (bh (bh @pvs.eq_1<|bh @pvs.eq_2 @pvo.eq_1)<|bh (bh @pvo.eq_2 @pvt.eq_1)<|bh @pvt.eq_2 @pE1)<|bh (bh @pE2<|bh @pE3 @pE4)<|bh (bh @pE5 @pE6)<|bh @pE7 @pE8)<|bh (bh (bh (bh @pE9<|bh @jG @Zdc)<|bh (bh @Zho @Y9)<|bh @ZgY @Vf)<|bh (bh @Zgr<|bh @Zha @Zaw)<|bh (bh @YM @Zib)<|bh @rE1 @rE2)<|bh (bh (bh @rE3<|bh @rE9 @Zf9)<|bh (bh @wm @ZdQ)<|bh @Gg @QX)<|bh (bh @ZhH<|bh @wE1 @wE2)<|bh (bh @wE3 @wE5)<|bh @wE6 @wE7
end Pv
namespace K63
open Ev Pv Rw La
abbrev CV(d:Nat):Zq:=Zl fns 2 d
theorem Jw(C:Zq)(s:DS)(v:V):∀(r:Row)(k:Nat)(a b:Option V),∃a' b',Y5 (λx U os s=>if(([1,2]:List Nat).any os.contains)=aj then .no else(po (Zo [1,2] x U) s).bind λU s=>rvs C [] [.ite (.cmp .ne (.v 2)<|.n 0) [.ret<|.v 1] []] U os s)
   (((ZV k r.length).zip<|r.map V.int).map λp=>V.tup [p.1,p.2]) [aa v,a,b] [] s=match hdI r with
    |some m=>.ok (.ret<|.int (k+m:Nat)) s
    |none=>.ok (.nx [aa v,a',b'] []) s
 |[],k,a,b=>#[a,b,rfl]
 |x::r,k,a,b=>by
  have er:ZV k (x::r).length=.int k::ZV (k+1:Nat) r.length:=by
   unfold ZV;rw[aG,iG,aX,bY];refine List.cons_eq_cons.mpr #[by simp,?_]
   .refine eS λj _=>?_
    show V.int ((k:Int)+((j+1:Nat):Int))=V.int (((k+1:Nat):Int)+(j:Int))
    congr 1
    lia
  obtain⟨a',b',ih⟩:=Jw C s v r (k+1) (aa<|.int k)<|aa<|.int x;refine#[a',b',?_];rw[er,aX,bV,aX,Y5];by_cases c:x=0
  .subst c
   have e0:hdI (0::r)=(hdI r).map (· + 1):=by rw[hdI,T8 #[2]]
   have e1:(if(([1,2]:List Nat).any ([]:List Nat).contains)=aj then(.no:PR FlV)else(po (Zo [1,2] (V.tup [.int k,.int 0]) [aa v,a,b]) s).bind λU s=>rvs C [] [.ite (.cmp .ne (.v 2)<|.n 0) [.ret<|.v 1] []] U [] s)=.ok (.nx [aa v,aa<|.int k,aa<|.int 0] []) s:=by
    simp[pvE,Zt]
   rw[e1,Za,e0];show Y5 _ _ [aa v,aa<|.int k,aa<|.int 0] [] s=_;rw[ih];cases hdI r with|none=>rfl|some m=>show PR.ok (FlV.ret<|.int ((k+1+m:Nat):Int)) s=PR.ok (FlV.ret<|.int ((k+(m+1):Nat):Int)) s;congr 3;lia
  .have e0:hdI (x::r)=aa 0:=by rw[hdI,T9 c]
   have e1:(if(([1,2]:List Nat).any ([]:List Nat).contains)=aj then(.no:PR FlV)else(po (Zo [1,2] (V.tup [.int k,.int x]) [aa v,a,b]) s).bind λU s=>rvs C [] [.ite (.cmp .ne (.v 2)<|.n 0) [.ret<|.v 1] []] U [] s)=.ok (.ret<|.int k) s:=by
    simp[pvE,Zt,c]
   rw[e1,Za,e0];rfl
def Uu(d:Nat)(r:Row)(s:DS):CV (d+1) 13 [Zd r] s=.ok (V2<|hdI r) s:=by
 rw[CV,Jp rfl #[1] rfl]
 obtain⟨a,b,e⟩:=Jw (Zl fns 2 d) s (Zd r) r 0 ae ae;show((rv _ [] (.forr [1,2] (.enum<|.v 0) _) [aa<|Zd r,ae,ae] [] s).bind _).bind _=_;have e2:rv (Zl fns 2 d) [] (.forr [1,2] (.enum<|.v 0) [.ite (.cmp .ne (.v 2)<|.n 0) [.ret<|.v 1] []]) [aa<|Zd r,ae,ae] [] s=match hdI r with
    |some m=>.ok (.ret<|.int (m:Nat)) s
    |none=>.ok (.nx [aa<|Zd r,a,b] []) s:=by
  rw[QX];have ew:pvw (Zl fns 2 d) (.enum<|.v 0) (hide [] [aa<|Zd r,ae,ae]) s=.ok (((ZV 0 r.length).zip<|r.map V.int).map λp=>V.tup [p.1,p.2]) s:=by
   simp[pvE,Zd]
  rw[ew,Za];simp only[oY,Int.natCast_zero]at e;exact e
 rw[e2];cases hdI r with|none=>rfl|some m=>rfl
section
variable{p n:Nat}[Base p]
def Uo:(p:Int)<=5/\(2:Int)<=p:=by rcases(inferInstance:Base p).b with e|e|e<;>subst e<;>decide
theorem yZ(d:Nat){r o:Row}{k:Int}(s:DS)(hn:n<=6)(hr:Zk p n r)(ho:Zk p n o)(hk:-1000<k/\k<1000):CV (d+1) 22 [.int p,Zd r,Zd o,.int k] s=.ok (Zd<|ZQ p r o k) s:=by
 rw[CV,Jp rfl #[1] rfl]
 have hp:=Uo (p:=p);have hc:=Zw (C:=Zl fns 2 d) (cap:=[3,0]) (nl:=2) (t:=[0,1]) (it:=.zip (.v 1)<|.v 2) (elt:=.bin .mod #[45]<|.v 3) (U:=[aa<|.int p,aa<|Zd r,aa<|Zd o,aa<|.int k]) (s:=s) (l:=r.zip o) (e:=λq=>V.tup [.int q.1,.int q.2]) (g:=λq=>V.int<|(q.1+k*q.2)%p)
  (by simp[pvE,Zd,Qu]) (by rw[fZ,hr.1,ho.1];unfold lim;lia) (λq hq=>by
   have h2:=ho.2 q.2 (fX hq).2;refine#[_,rfl,?_];have f1:=Z0 (a:=k) #[0] #[0]
   have f2:=Z0 (a:=q.2) #[0] #[0]
   have hp0:0<p:=by lia
   simp[pvE,f1,f2,hp0])
 have e:(r.zip o).map (λq=>V.int<|(q.1+k*q.2)%p)=(ZQ p r o k).map V.int:=by
  unfold ZQ;rw[<-fG,bY];rfl
 simp[Va,pvE,hc,e];rfl
theorem Zcg(d:Nat){r o:Row}{h:Nat}(s:DS)(hn:n<=6)(hr:Zk p n r)(ho:Zk p n o)(hh:h<n):CV (d+2) 23 [.int p,Zd r,Zd o,.int h] s=.ok (Zd<|clr p r o h) s:=by
 rw[CV,Jp rfl #[1] rfl]
 have hg:=WA ppos hr h;have hp:=Uo (p:=p);have e:=yZ d (k:=-(gt r h)) s hn hr ho #[by lia,by lia]
 have e2:=WN (by rw[hr.1];exact hh)
 simp only[CV]at e;simp[Js,pvE,Zd,e2];simp only[Zd]at e;rw[e];simp[pvE,clr]
def Xq(C:Zq)(ms:List Nat){i j:Nat}{U:Env}{os:List Nat}{s:DS}{e:E}(h:pvA C e U os s=.ok (spV p n) s)(ho:os.contains i=ak/\os.contains j=ak):rv C ms (.asg [i,j] e) U os s=.ok (.nx ((U.set i<|aa<|.int p).set j<|aa<|.int n) os) s:=by
 rw[rE2,h,Za,T8 (by simpa using ho)]
 .rfl
 .simp
def uQ(d:Nat){P:List Row}{r:Row}(s:DS)(hn:n<=6)(hP:pZ p n P)(hr:Zk p n r):CV (d+3) 24 [spV p n,Zc P,Zd r] s=.ok (Zd<|XT p P r) s:=by
 refine Zp rfl #[1] rfl ?_
 show rvs #[36] [] (.asg [3,4] (.v 0) :: .asg [5] (.v 2) :: .forr [6] (.of<|.v 1) [.asg [5]<|.call 23 [(.v 3),(.v 5),(.v 6),(.call 13 [(.v 6)])]] :: .ret (.v 5)::[]) [aa<|spV p n,aa<|Zc P,aa<|Zd r,ae,ae,ae,ae] [] s=_;rw[Zf<|Xq (p:=p) (n:=n) _ _ (by simp[pvE]) #[2]]
 rw[Zf (ρ':=[aa<|spV p n,aa<|Zc P,aa<|Zd r,aa<|.int p,aa<|.int n,aa<|Zd r,ae]) (os':=[]) (s':=s) (by simp[pvE])]
 obtain⟨o',hI,e⟩:=Zfb (C:=CV<|d+2) (ms:=[]) (t:=[6]) (it:=.of<|.v 1) (b:=[.asg [5]<|.call 23 [(.v 3),(.v 5),(.v 6),(.call 13 [(.v 6)])]]) (L:=P) (e:=Zd) (step:=λst o=>clr p st o<|(hdI o).getD 0) (U:=λst o=>[aa<|spV p n,aa<|Zc P,aa<|Zd r,aa<|.int p,aa<|.int n,aa<|Zd st,o]) (os:=[]) (s:=s) (Zk p n) (by simp[pvE,Zc]) hr rfl (λx hx st o hst=>by
  have hx':=hP.row x hx;obtain⟨k,hk,hkn,_⟩:=hP.head fld.one0 hx;refine#[ZH hst hx',rfl,_,aa<|Zd x,rfl,?_];have e1:=Uu (d+1) x s;have e2:=Zcg d s hn hst hx' hkn;rw[hk]at e1;simp only[V2]at e1;have e3:=e1;simp[pvE,e3,e2,hk])
 rw[Zf e];exact Zm<|ZI (by simp[pvE,XT])
theorem dsum{P:List Row}(hP:pZ p n P):P.length<=n:=by
 have:=uc fld hP.pn;rw[ZdL]at this;lia
end
end K63
namespace Rw
open La
open Ev (ltI XI Yb)
section
variable{p n:Nat}[Base p]
noncomputable def Wz(p:Nat)(rs:List Row):List Row:=rs.flatMap λr=>(aM p).map λ(k:Nat)=>r++[(k:Int)]
def ZZ(p n h:Nat):List Row:=(aM<|n-(h+1)).foldl (λrs _=>Wz p rs) [aJ h 0++[1]]
def Yi(P:List Row):Nat:=match P.getLast? with
 |some r=>(hdI r).getD 0+1
 |none=>0
noncomputable def WG(n f:Nat):List Nat:=((aM<|n-f).map (f + ·)).reverse
def wb(p n:Nat)(P:List Row)(st:List Row)(h:Nat):List Row:=if(P.all λr=>af<|gt r h=0)=aj then st++ZZ p n h else st
def zD(p n:Nat)(P:List Row):List Row:=(WG n<|Yi P).foldl (wb p n P) []
def yA(p n:Nat)(Ps:List #[33]):List #[33]:=Ps.flatMap λP=>(zD p n P).map λr=>P++[r]
def Z6(p n:Nat):Nat->List #[33]
 |0=>[[]]
 |k+1=>yA p n<|Z6 p n k
def Zci(p h m:Nat)(r:Row):Prop:=∃t:Row,r=aJ h 0++1::t/\t.length=m/\∀a∈t,0<=a/\a<(p:Int)
theorem Zdy{h m:Nat}{rs:List Row}(H:∀r∈rs,Zci p h m r):∀r∈Wz p rs,Zci p h (m+1) r:=λr hr=>by
 obtain⟨q,hq,hr⟩:=dD.mp hr;obtain⟨k,hk,rfl⟩:=aO.mp hr;obtain⟨t,rfl,ht,hb⟩:=H q hq;have hk':=bc.mp hk;refine#[t++[(k:Int)],by simp,by simp[ht],λa ha=>?_]
 rcases bK.mp ha with z|z
 .exact hb a z
 .rw[aT.mp z];exact#[by lia,by lia]
def G0(rs:List Row):(Wz p rs).length=rs.length*p:=by
 unfold Wz;rw[kI];simp only[ax,bi];rw[rE,iP]
theorem yd{h:Nat}:∀(L:List Nat){m:Nat}{rs:List Row},(∀r∈rs,Zci p h m r)->(∀r∈L.foldl (λrs _=>Wz p rs) rs,Zci p h (m+L.length) r)/\(L.foldl (λrs _=>Wz p rs) rs).length=rs.length*p^L.length
 |[],m,rs,H=>#[H,by simp]
 |_::L,m,rs,H=>by
  obtain⟨a,b⟩:=yd L<|Zdy H;refine#[λr hr=>?_,?_]
  .have:=a r hr
   rw[show m+1+L.length=m+(L.length+1) by lia]at this
   exact this
  .rw[dM,b,G0,aG,gP,nZ,kL p]
theorem Jn{h:Nat}(hh:h<n):(∀r∈ZZ p n h,Zk p n r/\gt r h=1/\∀i,i<h->gt r i=0)/\(ZZ p n h).length=p^(n-(h+1)):=by
 have hone:(1:Int)<p:=by rcases(inferInstance:Base p).b with e|e|e<;>subst e<;>decide
 obtain⟨a,b⟩:=yd (p:=p) (aM<|n-(h+1)) λr hr=>#[[],by rw[aT.mp hr],rfl,λa ha=>by cases ha]
 refine#[λr hr=>?_,by unfold ZZ;rw[b];simp]
 obtain⟨t,rfl,ht,hb⟩:=a r hr;rw[bi]at ht;refine#[#[by simp[ht];lia,λx hx=>?_],?_,λi hi=>?_]
 .rcases bK.mp hx with z|z
  .rw[(List.mem_replicate.mp z).2];exact#[by lia,by lia]
  .rcases ay.mp z with rfl|z
   .exact#[by lia,hone]
   .exact hb x z
 .unfold gt;rw[aF,bP #[2]];simp
 .unfold gt;rw[aF,cg (by simpa using hi),cB];simp[hi]
theorem za{P:List Row}{r:Row}:∀(L:List Nat)(st:List Row),r∈L.foldl (wb p n P) st->r∈st\/∃h∈L,(∀q∈P,gt q h=0)/\r∈ZZ p n h
 |[],st,hr=>.inl hr
 |h::L,st,hr=>by
  rcases za L (wb p n P st h) hr with z|⟨k,hk,z⟩
  .unfold wb at z
   split at z
   .rename_i c
    rcases bK.mp z with z|z
    .exact .inl z
    .exact .inr #[h,al ..,λq hq=>T6<|aY.mp c q hq,z]
   .exact .inl z
  .exact .inr #[k,ao _ hk,z]
def US{f h:Nat}:h∈WG n f↔f<=h/\h<n:=by
 unfold WG;rw[ei,aO]
 constructor
 .rintro ⟨k,hk,rfl⟩
  exact#[dB ..,m5<|bc.mp hk]
 .rintro ⟨a,b⟩
  exact#[h-f,bc.mpr<|nA a b,kG a]
def qo{P:List Row}{r:Row}(hr:r∈zD p n P):∃h,Yi P<=h/\h<n/\(∀q∈P,gt q h=0)/\r∈ZZ p n h:=by
 rcases za _ _ hr with z|⟨h,hh,a,b⟩
 .cases z
 .obtain⟨x,y⟩:=US.mp hh
  exact#[h,x,y,a,b]
theorem Zaq{P:List Row}(hP:pZ p n P){r:Row}(hr:r∈P):(hdI r).getD 0<Yi P:=by
 have hi:=hP.pn.rf.inc;unfold toP at hi;rw[dk]at hi;unfold Yi;cases e:P.getLast? with
 |none=>rw[lC]at e;rw[e]at hr;cases hr
 |some q=>
  obtain⟨P',rfl⟩:=gU.mp e;show _<(hdI q).getD 0+1;rcases bK.mp hr with z|z
  .have:=(eG.mp hi).2.2 r z q (aT.mpr rfl)
   simp only at this;lia
  .rw[aT.mp z];lia
def jC{o l:Row}{j:Nat}(ho:Zk p n o)(hl:Zk p n l)(h:gt o j=0):clr p o l j=o:=by
 refine ZaL ?_ λk=>?_
 .exact(ZH ho hl).1.trans ho.1.symm
 .unfold clr
  rw[W8 ho hl,h];have:=WA ppos ho k;simp only[Int.neg_zero,Int.zero_mul,Int.add_zero];exact iO this.1 this.2
def Zb2{P:List Row}{r:Row}(hP:pZ p n P)(hr:r∈zD p n P):pZ p n (P++[r]):=by
 obtain⟨h,h1,h2,h3,h4⟩:=qo hr;obtain⟨hrow,hone,hzero⟩:=(Jn h2).1 r h4;have:=JK hP hrow h2 hone hzero λq hq=>br (Zaq hP hq) h1
 have e:P.map (λo=>clr p o r h)=P:=by
  conv=>rhs;rw[<-List.map_id P]
  exact eS λo ho=>jC (hP.row o ho) hrow<|h3 o ho
 rw[e]at this;exact this.1
theorem YX:∀(k:Nat),∀P∈Z6 p n k,pZ p n P/\P.length=k
 |0,P,hP=>by rw[aT.mp hP];exact#[pZ.nil,rfl]
 |k+1,P,hP=>by
  obtain⟨Q,hQ,hP⟩:=dD.mp hP;obtain⟨r,hr,rfl⟩:=aO.mp hP;obtain⟨a,b⟩:=YX k Q hQ;exact#[Zb2 a hr,by simp[b]]
end
end Rw
namespace Rw
open Ev (ltP Yl Z3)
def Zhb(p n:Nat):Bool:=(aM<|n+1).all λk=>af<|(Z6 p n k).length<=1395
noncomputable def QA:List (Nat×Nat):=[(2,1),(2,2),(2,3),(2,4),(3,1),(3,2),(3,3),(5,1),(5,2)]
noncomputable def Qs:List (Nat×Nat):=[(2,5),(2,6),(3,4),(5,3)]
def ZbA:((QA++Qs).all λs=>Zhb s.1 s.2)=aj:=by decide +kernel
open La
section
variable{p n:Nat}[Base p]
theorem yN(hW:pZ p n W)(hr:Zk p n r)(hl:Zk p n l)(h1:ZM p W l=aj)(h2:ZM p W (clr p r l j)=aj):ZM p W r=aj:=by
 rw[ZT hW hr];have a:=(ZT hW hl).mp h1;have b:=(ZT hW<|ZH hr hl).mp h2;rw[show toV p (ZQ p r l<|-gt r j)=_ from Wp hr hl]at b
 have c:=Wq (toV p r j) b a;have e:(λk=>(toV p r k-toV p r j*toV p l k)+toV p r j*toV p l k)=toV p r:=by funext k;grind
 rw[e]at c;exact c
def Zaf(hW:pZ p n W)(hr:Zk p n r)(hl:Zk p n l)(h1:ZM p W l=aj)(h2:ZM p W r=aj):ZM p W (clr p r l j)=aj:=by
 show ZM p W (ZQ p r l<|-gt r j)=aj;rw[ZT hW<|ZH hr hl];rw[show toV p (ZQ p r l<|-gt r j)=_ from Wp hr hl]
 exact Ut (toV p r j) ((ZT hW hr).mp h2)<|(ZT hW hl).mp h1
theorem Zbg(hW:pZ p n W)(hr:Zk p n r)(h:ZM p W r=aj):ZM p W (XZ p r k)=aj:=by
 rw[ZT hW<|Wr hr];rw[qc];have:=Wq (ph p k) (QL)<|(ZT hW hr).mp h;have e:(λj=>(0:Fin p)+ph p k*toV p r j)=λj=>ph p k*toV p r j:=by funext j;grind
 rw[e]at this;exact this
def vE(hW:pZ p n W)(hr:Zk p n r)(h:∀i,gt r i=0):ZM p W r=aj:=by
 rw[ZT hW hr];have e:toV p r=λ_=>0:=by funext k;exact(Yq hr).mpr<|h k
 rw[e];exact QL
def Ga(hW:pZ p n W)(hr:r∈W):ZM p W r=aj:=by
 rw[ZT hW<|hW.row r hr];exact W3 hW.pn.rf<|Yj hr
def Bk(p n:Nat)[NeZero p](R rest found:List Row):Prop:=∀W,pZ p n W->(((∀r∈rest,ZM p W r=aj)/\∀r∈found,ZM p W r=aj)↔∀r∈R,ZM p W r=aj)
def Bk.take{R rest found:List Row}{j:Nat}{f:Row}(B:Bk p n R rest found)(h:Red p n j rest found)(hf:f∈rest):Bk p n R (rest.map λr=>clr p r #[38] j) (found.map (λr=>clr p r #[38] j)++[lead p f j]):=λW hW=>by
 have hl:Zk p n #[38]:=Wr<|h.row f hf;rw[<-B W hW]
 constructor
 .intro#[h1,h2]
  have l1:=h2 _<|bt _<|aT.mpr rfl;exact#[λr hr=>yN hW (h.row r hr) hl l1<|h1 _<|aO.mpr #[r,hr,rfl],λr hr=>yN hW (h.part.row r hr) hl l1<|h2 _<|cX _<|aO.mpr #[r,hr,rfl]]
 .intro#[h1,h2]
  have l1:ZM p W #[38]=aj:=Zbg hW (h.row f hf)<|h1 f hf;refine#[λr hr=>?_,λr hr=>?_]
  .obtain⟨o,ho,rfl⟩:=aO.mp hr
   exact Zaf hW (h.row o ho) hl l1<|h1 o ho
  .rcases bK.mp hr with hr|hr
   .obtain⟨o,ho,rfl⟩:=aO.mp hr
    exact Zaf hW (h.part.row o ho) hl l1<|h2 o ho
   .rw[aT.mp hr];exact l1
def Bk.fin{R rest found:List Row}{j:Nat}(B:Bk p n R rest found)(h:Red p n j rest found)(hj:n<=j):∀r∈R,ZM p found r=aj:=
 (B found h.part).mp #[λr hr=>vE h.part (h.row r hr) λi=>by
  by_cases c:i<j
  .exact h.low r hr i c
  .exact xi (by rw[(h.row r hr).1];omega),λr hr=>Ga h.part hr]
structure Spans(p n:Nat)[NeZero p](R P:List Row):Prop where
 part:pZ p n P
 holds:∀r∈R,ZM p P r=aj
 least:∀W,pZ p n W->(∀r∈R,ZM p W r=aj)->∀r∈P,ZM p W r=aj
def Spans.uniq(hP:Spans p n R P)(hQ:Spans p n R Q):P=Q:=
 eqP hP.part hQ.part λu=>#[(zH hP.part hQ.part).mp (aY.mpr<|hP.least Q hQ.part hQ.holds) u,(zH hQ.part hP.part).mp (aY.mpr<|hQ.least P hP.part hP.holds) u]
def Spans.self(hP:pZ p n P):Spans p n P P:=#[hP,λr hr=>Ga hP hr,λW hW h=>h]
def Bk.spans{R rest found:List Row}{j:Nat}(B:Bk p n R rest found)(h:Red p n j rest found)(hj:n<=j):Spans p n R found:=#[h.part,B.fin h hj,λW hW hR=>((B W hW).mpr hR).2]
end
noncomputable def rise(hs:List Nat):Bool:=(hs.zip hs.tail).all λq=>af<|q.1<q.2
theorem QB:∀{hs:List Nat},rise hs=aj↔hs.Pairwise (· < ·)
 |[]=>by simp[rise]
 |[a]=>by simp[rise]
 |a::b::l=>by
  have ih:=QB (hs:=b::l);unfold rise at ih ⊢;rw[sC,bV,i9,aC,T0];rw[sC]at ih
  constructor
  .intro#[h1,h2]
   have h3:=ih.mp h2;refine aZ.mpr #[λx hx=>?_,h3]
   rcases ay.mp hx with rfl|hx
   .exact h1
   .exact dA h1<|(aZ.mp h3).1 x hx
  .intro h
   obtain⟨h1,h2⟩:=aZ.mp h;exact#[h1 b<|al ..,ih.mpr h2]
def VF(R:List Row)(i k:Nat):Bool:=af (gt (R.getD i []) k=1)&&(R.take i++R.drop (i+1)).all λr=>af<|gt r k=0
def Qi(R:List Row):Bool:=(R.all λr=>(hdI r).isSome)&&(rise (ZJ R)&&(aM R.length).all λi=>VF R i<|(ZJ R).getD i 0)
section
variable{p n:Nat}[Base p]
def JP{R:List Row}{i:Nat}(hi:i<R.length):R.getD i []=R[i]:=by rw[aF,ai hi];rfl
def Qf(hi:i<R.length):(ZJ R).getD i 0=(hdI R[i]).getD 0:=by
 unfold ZJ;rw[aF,aU,ai hi];rfl
def Zff{R:List Row}{i j:Nat}(hj:j<R.length)(h:j≠i):R[j]∈R.take i++R.drop (i+1):=by
 by_cases c:j<i
 .refine cX _ ?_
  have hl:j<(R.take i).length:=by rw[bQ];exact oy.mpr #[c,hj]
  rw[<-gw (h:=hl)];exact ba hl
 .refine bt _ ?_
  have c:=fR (fb c)<|Ne.symm h;have hl:j-(i+1)<(R.drop<|i+1).length:=by rw[bF];exact nA c hj
  have e:(R.drop<|i+1)[j-(i+1)]=R[j]:=by rw[gy];congr 1;exact kG c
  rw[<-e];exact ba hl
def Jx{R:List Row}{i:Nat}{r:Row}(h:r∈R.take i++R.drop (i+1)):∃j,∃(hj:j<R.length),j≠i/\R[j]=r:=by
 rcases bK.mp h with z|z
 .obtain⟨j,hj,e⟩:=cE z
  rw[bQ]at hj;have hj:=oy.mp hj;exact#[j,hj.2,bv hj.1,by rw[<-e,gw]]
 .obtain⟨j,hj,e⟩:=cE z
  rw[bF]at hj;exact#[i+1+j,m5 hj,by omega,by rw[<-e,gy]]
def J3:ph p 1=1:=by
 rcases(inferInstance:Base p).b with e|e|e<;>subst e<;>rfl
def GD(hr:Zk p n r):toV p r k=1↔gt r k=1:=by
 have hb:=(inferInstance:Base p).b
 constructor
 .intro h
  refine wp (WA ppos hr k) #[by omega,by omega] ?_
  rw[J3];exact h
 .intro h
  unfold toV;rw[h,J3]
def Q6{R:List Row}(hR:∀r∈R,Zk p n r):Qi R=aj↔pZ p n R:=by
 unfold Qi;simp only[aC,aY,bc]
 constructor
 .intro#[h1,h2,h3]
  have hd:∀i (hi:i<R.length),∃k,hdI R[i]=aa k/\gt R[i] k=1/\∀j (hj:j<R.length),j≠i->gt R[j] k=0:=λi hi=>by
   obtain⟨k,hk⟩:=c7.mp<|h1 _<|ba hi;have a:=h3 i hi;unfold VF at a;rw[Qf hi,JP hi,hk,aC,T0,aY]at a;exact#[k,hk,a.1,λj hj ne=>T6<|a.2 _<|Zff hj ne]
  have inc:=QB.mp h2;have memP:∀a∈toP p R,∃i,∃(hi:i<R.length),a=((hdI R[i]).getD 0,toV p R[i]):=λa ha=>by
   obtain⟨r,hr,rfl⟩:=aO.mp ha;obtain⟨i,hi,rfl⟩:=cE hr;exact#[i,hi,rfl]
  refine#[hR,#[#[?_,λa ha j hj=>?_,λa ha=>?_,λa ha b hb ne=>?_],λa ha=>?_,λa ha=>?_]]
  .rw[<-V3 (p:=p)]at inc
   exact dk.mp inc
  .obtain⟨i,hi,rfl⟩:=memP a ha
   obtain⟨k,hk,_,_⟩:=hd i hi;rw[hk]at hj;exact(Yq<|hR _<|ba hi).mpr<|(Y4 hk).2.2 j hj
  .obtain⟨i,hi,rfl⟩:=memP a ha
   obtain⟨k,hk,h,_⟩:=hd i hi;rw[hk];exact(GD<|hR _<|ba hi).mpr h
  .obtain⟨i,hi,rfl⟩:=memP a ha
   obtain⟨j,hj,rfl⟩:=memP b hb;obtain⟨k,hk,_,h⟩:=hd i hi;rw[hk];refine(Yq<|hR _<|ba hj).mpr<|h j hj λe=>?_
   subst e;exact ne rfl
  .obtain⟨i,hi,rfl⟩:=memP a ha
   obtain⟨k,hk,_,_⟩:=hd i hi;rw[hk,<-(hR _<|ba hi).1];exact(Y4 hk).2.1
  .obtain⟨i,hi,rfl⟩:=memP a ha
   exact yS<|hR _<|ba hi
 .intro hP
  have hk:∀r∈R,∃k,hdI r=aa k/\k<n/\toV p r k=1:=λr hr=>hP.head fld.one0 hr
  refine#[λr hr=>?_,QB.mpr ?_,λi hi=>?_]
  .obtain⟨k,e,_⟩:=hk r hr
   rw[e];rfl
  .rw[<-V3 (p:=p)];exact hP.pn.rf.heads
  .obtain⟨k,e,_,h1⟩:=hk _ (ba hi)
   unfold VF;rw[Qf hi,JP hi,e,aC,T0,aY];refine#[(GD<|hR _<|ba hi).mp h1,λr hr=>?_]
   obtain⟨j,hj,ne,rfl⟩:=Jx hr;refine T5 ?_;obtain⟨k2,e2,_,_⟩:=hk _<|ba hj;have hh:((hdI R[i]).getD 0,toV p R[i]).1≠((hdI R[j]).getD 0,toV p R[j]).1:=by
    have inc:(ZJ R).Pairwise (· < ·):=by rw[<-V3 (p:=p)];exact hP.pn.rf.heads
    have pw:=cn.mp inc;have li:(ZJ R).length=R.length:=by unfold ZJ;rw[ax]
    have gi:∀m (hm:m<R.length),(ZJ R)[m]'#[3]=(hdI R[m]).getD 0:=λm hm=>by unfold ZJ;rw[List.getElem_map]
    intro z;have z:=z;rcases Nat.lt_or_gt_of_ne ne with c|c
    .have:=pw j i #[3] #[3] c
     rw[gi j hj,gi i hi]at this;omega
    .have:=pw i j #[3] #[3] c
     rw[gi j hj,gi i hi]at this;omega
   have:=hP.pn.rf.zer _ (Yj<|ba hi) _ (Yj<|ba hj) hh;rw[e]at this;exact(Yq<|hR _<|ba hj).mp this
end
end Rw
namespace K63
open Ev Pv Rw La
def Vh{F:List Fn}{tk d f c:Nat}{vs:List V}{s s':DS}{fn:Fn}(hf:F[f]?=aa fn)(hne:f≠tk)(hl:vs.length=fn.ps)(h:rvs (Zl F tk d) (muts fn.body) fn.body (ZL fn.ns vs) [] s=.ex c s'):Zl F tk (d+1) f vs s=.ex c s':=by
 rw[Jp hf hne hl,h];rfl
def U0{C:Zq}{ms:List Nat}{m:Sm}{l:List Sm}{U:Env}{os:List Nat}{s s':DS}{c:Nat}(h:rv C ms m U os s=.ex c s'):rvs C ms (m::l) U os s=.ex c s':=by rw[rvs,h];rfl
def W2{C:Zq}{U:Env}{s s1 s':DS}{f c:Nat}{as:List E}{vs:List V}(h:pvs C as U s=.ok vs s1)(hc:C f vs s1=.ex c s'):pv C (.call f as) U s=.ex c s':=by rw[Zaw,h];exact hc
def xn{C:Zq}{ms:List Nat}{U:Env}{os:List Nat}{s s':DS}{f c:Nat}{as:List E}(h:pv C (.call f as) U s=.ex c s'):rv C ms (.ex<|.call f as) U os s=.ex c s':=by
 rw[ZdQ,h]
 .rfl
 all_goals(intro i e z;cases z)
mutual
noncomputable def okV:V->Bool
 |.tup xs=>YN xs
 |.lst xs=>YN xs
 |.drw=>ak
 |.scr _=>ak
 |.dct (.inr _)=>ak
 |_=>aj
noncomputable def YN:List V->Bool
 |[]=>aj
 |x::xs=>okV x&&YN xs
end
theorem Xj:∀{xs:List V},YN xs=aj->∀x∈xs,okV x=aj
 |[],_,x,h=>by cases h
 |y::xs,h,x,m=>by
  obtain⟨h1,h2⟩:=(aC _ _).mp h;rcases ay.mp m with rfl|m
  .exact h1
  .exact Xj h2 x m
noncomputable def isW(x:V)(lo hi:Int):Bool:=match x with
 |.int i=>af (lo<=i)&&af (i<=hi)
 |_=>ak
def ZeK{x:V}{lo hi:Int}(h:∀i,x≠.int i):isW x lo hi=ak:=by
 cases x with|int i=>exact T7 rfl<|h i|_=>rfl
def ZbG{x:V}(hx:okV x=aj):(∃i,x=.int i)\/(∃b,x=.bl b)\/Z4 x [.int]=aa ak/\∀i,x≠.int i:=by
 cases x with
 |int i=>exact .inl #[i,rfl]
 |bl b=>exact .inr<|.inl #[b,rfl]
 |drw=>cases hx
 |scr _=>cases hx
 |dct o=>cases o with|inl _=>exact .inr<|.inr #[rfl,nofun]|inr _=>cases hx
 |_=>exact .inr<|.inr #[rfl,nofun]
def JQ{x:V}(hx:okV x=aj):(∃xs,x=.tup xs)\/Z4 x [.tuple]=aa ak/\∀xs,x≠.tup xs:=by
 cases x with
 |tup xs=>exact .inl #[xs,rfl]
 |drw=>cases hx
 |scr _=>cases hx
 |dct o=>cases o with|inl _=>exact .inr #[rfl,nofun]|inr _=>cases hx
 |_=>exact .inr #[rfl,nofun]
def zq(d:Nat){x:V}{lo hi:Int}(s:DS)(hx:okV x=aj):CV (d+1) 17 [x,.int lo,.int hi] s=.ok (.bl<|isW x lo hi) s:=by
 refine Zp rfl #[1] rfl ?_
 rcases ZbG hx with⟨i,rfl⟩|⟨b,rfl⟩|⟨ha,no⟩
 .by_cases h:lo<=i
  .simp[YV,pvE,isW,Z4,Yy,h]
  .simp[YV,pvE,isW,Z4,Yy,h]
 .simp[YV,pvE,isW,Z4,Yy]
 .rw[ZeK no]
  simp[YV,pvE,ha]
def Z5(p n:Nat)(x:V):Bool:=match x with
 |.tup xs=>af (xs.length=n)&&xs.all λv=>isW v 0<|(p:Int)-1
 |_=>ak
def qY{p n:Nat}{x:V}(h:∀xs,x≠.tup xs):Z5 p n x=ak:=by
 cases x with|tup xs=>exact T7 rfl<|h xs|_=>rfl
theorem vL{p:Nat}:∀{xs:List V},(xs.all λv=>isW v 0<|(p:Int)-1)=aj->∃r:Row,xs=r.map .int/\∀a∈r,0<=a/\a<(p:Int)
 |[],_=>#[[],rfl,λ_ h=>by cases h]
 |x::xs,h=>by
  rw[i9,aC]at h;obtain⟨r,rfl,hr⟩:=vL h.2;cases x with
  |int i=>
   have:=h.1;simp only[isW,aC,T0]at this;refine#[i::r,rfl,λa ha=>?_]
   rcases ay.mp ha with rfl|ha
   .lia
   .exact hr a ha
  |_=>cases h.1
def j9{p n:Nat}{x:V}(h:Z5 p n x=aj):∃r:Row,x=Zd r/\Zk p n r:=by
 cases x with
 |tup xs=>
  unfold Z5 at h;rw[aC,T0]at h;obtain⟨r,rfl,hr⟩:=vL h.2;exact#[r,rfl,by simpa using h.1,hr]
 |_=>cases h
def Zen{p n:Nat}{r:Row}(hr:Zk p n r):Z5 p n (Zd r)=aj:=by
 unfold Z5 Zd;rw[aC,T0,ax];refine#[hr.1,aY.mpr λv hv=>?_]
 obtain⟨a,ha,rfl⟩:=aO.mp hv;have:=hr.2 a ha;simp only[isW,aC,T0];lia
theorem Gd:∀r:Row,YN (r.map .int)=aj
 |[]=>rfl
 |a::r=>Gd r
def Zby(r:Row):okV (Zd r)=aj:=Gd r
section
variable{p n:Nat}[Base p]
theorem Zdg(d:Nat){x:V}(s:DS)(hn:n<=6)(hx:okV x=aj):CV (d+2) 18 [spV p n,x] s=.ok (.bl<|Z5 p n x) s:=by
 refine Zp rfl #[1] rfl ?_
 dsimp only[zJ]
 rw[Zf<|Xq (p:=p) (n:=n) _ _ (by simp[pvE]) #[2]]
 rcases JQ hx with⟨xs,rfl⟩|⟨ha,no⟩
 ·
  by_cases hl:xs.length=n
  .rw[Zf (ρ':=[aa<|spV p n,aa<|.tup xs,aa<|.int p,aa<|.int n]) (os':=[]) (s':=s) (by simp[pvE,Z4,Yy,Zt,hl])]
   refine Zm<|ZI ?_;have hc:=Zw (C:=CV<|d+1) (cap:=[2]) (nl:=1) (t:=[0]) (it:=.of<|.v 1) (elt:=.call 17 [(.v 0),(.n 0),(.bin .sub (.v 1)<|.n 1)]) (U:=[aa<|spV p n,aa<|.tup xs,aa<|.int p,aa<|.int n]) (s:=s) (l:=xs) (e:=id) (g:=λv=>V.bl<|isW v 0<|(p:Int)-1)
    (by simp[pvE]) #[16] (λv hv=>#[_,rfl,by
     have e:=zq d (lo:=0) (hi:=(p:Int)-1) s<|Xj hx v hv;simp[pvE,e]])
   have ht:=ZW (g:=λv:V=>isW v 0<|(p:Int)-1) xs
   simp[pvE,hc,ht,Z5,hl]
  .refine Zm ?_
   simp[pvE,Z4,Yy,Zt,Z5,hl];lia
 .rw[qY no]
  exact Zm (by simp[pvE,ha])
theorem uF(d:Nat){hs:List Nat}(s:DS)(hl:hs.length<=1000):CV (d+1) 14 [.lst<|hs.map Zi] s=.ok (.bl<|rise hs) s:=by
 refine Zp rfl #[1] rfl ?_
 have ez:∀(a b:List Nat),((a.map Zi).zip<|b.map Zi).map (λq=>V.tup [q.1,q.2])=(a.zip b).map λq=>V.tup [Zi q.1,Zi q.2]:=by
  intro a
  induction a with
  |nil=>intro b;rfl
  |cons x a ih=>intro b;cases b with|nil=>rfl|cons y b=>simp only[aX,bV];rw[ih]
 have hc:=Zw (C:=CV d) (cap:=[]) (nl:=2) (t:=[0,1]) (it:=.zip (.v 0)<|.sl (.v 0) (aa<|.n 1) ae) (elt:=.cmp .lt (.v 0)<|.v 1) (U:=[aa<|.lst<|hs.map Zi]) (s:=s) (l:=hs.zip hs.tail) (g:=λq=>V.bl<|af<|q.1<q.2)
  (by
   have e1:YF (hs.map Zi) (aa 1) ae=hs.tail.map Zi:=by rw[ZaE,sJ]
   simp[pvE,slV,e1];rw[<-sJ,ez]) (by rw[fZ];unfold lim;lia) (λq hq=>#[_,rfl,by simp[pvE,Zi]])
 have ht:=ZW (g:=λq:Nat×Nat=>af<|q.1<q.2)<|hs.zip hs.tail
 simp[V9,pvE,hc,ht,rise]
theorem xX(d:Nat){R:List Row}{k:Nat}(s:DS)(hl:R.length<=1000)(hk:∀r∈R,k<r.length):CV (d+1) 15 [Zc R,.int k] s=.ok (.bl<|R.all λr=>af<|gt r k=0) s:=by
 refine Zp rfl #[1] rfl ?_
 have hc:=Zw (C:=CV d) (cap:=[1]) (nl:=1) (t:=[0]) (it:=.of<|.v 0) (elt:=.cmp .eq (.ix (.v 0)<|.v 1)<|.n 0) (U:=[aa<|Zc R,aa<|.int k]) (s:=s) (l:=R) (e:=Zd) (g:=λr=>V.bl<|af<|gt r k=0)
  (by simp[pvE,Zc]) #[16] (λr hr=>#[_,rfl,by
   have:=WN<|hk r hr;simp[pvE,Zd,this,Zt]])
 have ht:=ZW (g:=λr:Row=>af<|gt r k=0) R
 simp[XC,pvE,hc,ht]
theorem GH(d:Nat){R:List Row}{i k:Nat}(s:DS)(hR:∀r∈R,Zk p n r)(hl:R.length<=1000)(hi:i<R.length)(hk:k<n):CV (d+2) 16 [Zc R,Zi i,Zi k] s=.ok (.bl<|VF R i k) s:=by
 refine Zp rfl #[1] rfl ?_
 show rvs #[13] [] Wc.body [aa<|Zc R,aa<|.int i,aa<|.int k] [] s=_;have hrow:=hR _<|ba hi;have e1:at' (R.map Zd) (i:Int)=aa (Zd R[i]):=VO (by rw[aU,ai hi];rfl)
 have e2:=WN (by rw[hrow.1];exact hk)
 have e3:=xX d (R:=R.take i++R.drop (i+1)) s (by rw[aN,bQ,bF];lia) (λr hr=>by
  obtain⟨j,hj,ne,rfl⟩:=Jx hr;rw[(hR _<|ba hj).1];exact hk)
 have c1:YF (R.map Zd) ae (aa (i:Int))=(R.take i).map Zd:=by rw[Zaz (by rw[ax];lia),sK]
 have c2:YF (R.map Zd) (aa<|(i:Int)+1) ae=(R.drop<|i+1).map Zd:=by rw[zt (k:=i+1) #[0] (by rw[ax];lia),List.map_drop]
 have g0:pv #[13] (.ix (.ix (.v 0)<|.v 1)<|.v 2) [aa<|Zc R,aa<|.int i,aa<|.int k] s=.ok (.int<|gt R[i] k) s:=by
  rw[Vf,Vf,Ze rfl,Za,Ze rfl,Za];show((po (at' (R.map Zd) (i:Int)) s).bind _)=_;rw[e1,Z2,Za,Ze rfl,Za];show po (at' (R[i].map V.int) (k:Int)) s=_;rw[e2];rfl
 have g1:pv #[13] (.cmp .eq (.ix (.ix (.v 0)<|.v 1)<|.v 2)<|.n 1) [aa<|Zc R,aa<|.int i,aa<|.int k] s=.ok (.bl<|af<|gt R[i] k=1) s:=by
  rw[Y9,g0,Za];simp[pvE,ofD,Zt]
 have g2:pv #[13] (.bin .add (.sl (.v 0) ae<|aa<|.v 1)<|.sl (.v 0) (aa<|.bin .add (.v 1)<|.n 1) ae) [aa<|Zc R,aa<|.int i,aa<|.int k] s=.ok (Zc<|R.take i++R.drop (i+1)) s:=by
  have c3:(R.take i).length+(R.drop<|i+1).length<=16777216:=by rw[bQ,bF];lia
  rw[bQ,bF]at c3;simp[pvE,Zc,slV,c1,c2,c3]
 have g3:=Zr (Zb g2<|Zb (Ze (i:=2) rfl) Zg) e3;refine Zm<|ZI ?_;rw[jG,g1,Za];unfold VF;rw[JP hi];cases af (gt R[i] k=1)with|true=>exact g3|false=>rfl
theorem wT:∀R:List Row,XG .non (R.map λr=>V2<|hdI r)=aa (!(R.all λr=>(hdI r).isSome))
 |[]=>rfl
 |r::R=>by
  show(match eqV Zt (V2<|hdI r) .non,XG .non (R.map λr=>V2<|hdI r)with|some a,aa b=>aa (a||b)|_,_=>ae)=_
  rw[wT R,i9];cases hdI r with|none=>simp[V2,Zbu,Zar,Zt]|some k=>simp[V2,Zbu,Zar,Zt]
def qZ{R:List Row}(h:(R.all λr=>(hdI r).isSome)=aj):R.map (λr=>V2<|hdI r)=(ZJ R).map Zi:=by
 unfold ZJ;rw[bY];refine eS λr hr=>?_
 obtain⟨k,hk⟩:=c7.mp<|aY.mp h r hr;show V2 (hdI r)=Zi ((hdI r).getD 0);rw[hk];rfl
theorem qX(d:Nat){R:List Row}(s:DS)(hn:n<=6)(hR:∀r∈R,Zk p n r)(hl:R.length<=1000):rvs #[36] [] (VY.body.drop 1) [aa<|spV p n,aa<|Zc R,ae] [] s=.ok (.ret<|.bl<|Qi R) s:=by
 show rvs _ _ (.asg [2] (.comp1 [] 1 [0] (.of<|.v 1) []<|.call 13 [(.v 0)]) ::
  .ite (.or (.cmp .inn (.c .non)<|.v 2)<|.not<|.call 14 [(.v 2)]) #[19] [] ::
  .ret (.blt .all [(.comp1 [1] 2 [0,1] (.enum<|.v 2) []<|.call 16 [(.v 2),(.v 0),(.v 1)])])::[]) _ _ _=_
 have hc2:=Zw (C:=CV<|d+2) (cap:=[]) (nl:=1) (t:=[0]) (it:=.of<|.v 1) (elt:=.call 13 [(.v 0)]) (U:=[aa<|spV p n,aa<|Zc R,ae]) (s:=s) (l:=R) (e:=Zd) (g:=λr=>V2<|hdI r)
  (by simp[pvE,Zc]) #[16] (λx hx=>#[_,rfl,by
   have e:=Uu (d+1) x s;simp[pvE,e]])
 rw[Zf (ρ':=[aa<|spV p n,aa<|Zc R,aa<|.lst<|R.map λr=>V2<|hdI r]) (os':=[]) (s':=s) (by simp[pvE,hc2])]
 have hin:=wT R;unfold Qi;cases hh:R.all λr=>(hdI r).isSome with
 |false=>
  rw[hh]at hin;exact Zm (by simp[pvE,Ue,hin])
 |true=>
  rw[hh]at hin;rw[qZ hh]at hin ⊢;have hln:(ZJ R).length=R.length:=by unfold ZJ;rw[ax]
  have e3:=uF (d+1) (hs:=ZJ R) s #[0]
  cases hr:rise (ZJ R)with
  |false=>
   rw[hr]at e3;exact Zm (by simp[pvE,Ue,hin,e3])
  |true=>
  rw[hr]at e3;rw[Zf (ρ':=[aa<|spV p n,aa<|Zc R,aa<|.lst<|(ZJ R).map Zi]) (os':=[]) (s':=s) (by simp[pvE,Ue,hin,e3])]
  refine Zm<|ZI ?_;have ew:((ZV 0 (ZJ R).length).zip<|(ZJ R).map Zi).map (λq=>V.tup [q.1,q.2])=(aM R.length).map λi=>V.tup [Zi i,Zi<|(ZJ R).getD i 0]:=by
   apply i5
   .simp[ZV,hln]
   .intro i h1 h2
    have h3:i<R.length:=by simpa using h2
    have h4:i<(ZJ R).length:=by lia
    simp[ZV,Zi,h4]
  have hc3:=Zw (cap:=[1]) (nl:=2) (t:=[0,1]) (elt:=.call 16 [(.v 2),(.v 0),(.v 1)]) (l:=aM R.length)
   (by
    have:pvw #[36] (.enum<|.v 2) [aa<|spV p n,aa<|Zc R,aa<|.lst<|(ZJ R).map Zi] s=.ok (((ZV 0 ((ZJ R).map Zi).length).zip<|(ZJ R).map Zi).map λq=>V.tup [q.1,q.2]) s:=by simp[pvE]
    rw[this,ax,ew]) (by rw[bi];unfold lim;lia) (λi hi=>#[_,rfl,by
    have hi':=bc.mp hi;have hk:(ZJ R).getD i 0<n:=by
     rw[Qf hi'];obtain⟨k,hk⟩:=c7.mp<|aY.mp hh _<|ba hi';rw[hk,<-(hR _<|ba hi').1];exact(Y4 hk).2.1
    exact Zr (Zb #[11]<|Zb #[11]<|Zb #[11] Zg)<|GH d s hR hl hi' hk])
  have ht3:=ZW (g:=λi:Nat=>VF R i<|(ZJ R).getD i 0)<|aM R.length
  rw[YM,Zb hc3 Zg,Za];show po ((ZY _).map λbs=>V.bl<|bs.all id) s=_
  rw[ht3];show PR.ok (V.bl<|(nq _ _).all id) s=_;rw[fQ];rfl
def isP(p n:Nat)(x:V):Bool:=match x with
 |.tup xs=>xs.all (Z5 p n)&&match Ye xs with
  |some R=>Qi R
  |none=>ak
 |_=>ak
theorem Wm:∀{xs:List V},xs.all (Z5 p n)=aj->∃R:List Row,xs=R.map Zd/\∀r∈R,Zk p n r
 |[],_=>#[[],rfl,λ_ h=>by cases h]
 |x::xs,h=>by
  rw[i9,aC]at h;obtain⟨R,rfl,hR⟩:=Wm h.2;obtain⟨r,rfl,hr⟩:=j9 h.1;refine#[r::R,rfl,λa ha=>?_]
  rcases ay.mp ha with rfl|ha
  .exact hr
  .exact hR a ha
def Gj{x:V}:isP p n x=aj↔∃P,x=Zc P/\pZ p n P:=by
 constructor
 .intro h
  cases x with
  |tup xs=>
   unfold isP at h;rw[aC]at h;obtain⟨R,rfl,hR⟩:=Wm h.1;have h2:=h.2;rw[YD]at h2;exact#[R,rfl,(Q6 hR).mp h2]
  |_=>cases h
 .rintro ⟨P,rfl,hP⟩
  show(_&&_)=aj;rw[aC,YD];refine#[aY.mpr λv hv=>?_,(Q6 hP.row).mpr hP]
  obtain⟨r,hr,rfl⟩:=aO.mp hv;exact Zen<|hP.row r hr
def Za4{x:V}(h:∀xs,x≠.tup xs):isP p n x=ak:=by
 cases x with|tup xs=>exact T7 rfl<|h xs|_=>rfl
theorem Zbt(d:Nat){x:V}(s:DS)(hn:n<=6)(hx:okV x=aj)(hl:∀xs,x=.tup xs->xs.length<=1000):CV (d+3) 19 [spV p n,x] s=.ok (.bl<|isP p n x) s:=by
 refine Zp rfl #[1] rfl ?_
 show rvs #[36] [] (.ite (.or (.not<|.isi (.v 1) [.tuple])<|.not<|.blt .all [(.comp1 [0] 1 [0] (.of<|.v 1) []<|.call 18 [(.v 1),(.v 0)])]) #[19] []::VY.body.drop 1) [aa<|spV p n,aa x,ae] [] s=_;rcases JQ hx with⟨xs,rfl⟩|⟨ha,no⟩
 ·
  have hl:=hl xs rfl;have hc1:=Zw (C:=CV<|d+2) (cap:=[0]) (nl:=1) (t:=[0]) (it:=.of<|.v 1) (elt:=.call 18 [(.v 1),(.v 0)]) (U:=[aa<|spV p n,aa<|.tup xs,ae]) (s:=s) (l:=xs) (e:=id) (g:=λv=>V.bl<|Z5 p n v)
   (by simp[pvE]) #[16] (λv hv=>#[_,rfl,by
    have e:=Zdg (p:=p) d s hn<|Xj hx v hv;simp[pvE,e]])
  have ht:=ZW (g:=λv:V=>Z5 p n v) xs
  have hpt:Z4 (.tup xs) [.tuple]=aa aj:=rfl;cases ha:xs.all (Z5 p n)with
  |false=>
   have hf:(xs.map λv=>Z5 p n v).all id=ak:=by rw[fQ];exact ha
   refine Zm ?_;simp[pvE,hpt,hc1,ht,isP,ha,hf]
  |true=>
   have hf:(xs.map λv=>Z5 p n v).all id=aj:=by rw[fQ];exact ha
   rw[Zf (ρ':=[aa<|spV p n,aa<|.tup xs,ae]) (os':=[]) (s':=s) (by simp[pvE,hpt,hc1,ht,hf])]
   obtain⟨R,rfl,hR⟩:=Wm ha;have e:=qX d s hn hR (by simpa using hl)
   have eb:isP p n (.tup<|R.map Zd)=Qi R:=by
    show((R.map Zd).all (Z5 p n)&&match Ye (R.map Zd)with|some R=>Qi R|none=>ak)=_
    rw[ha,YD];rfl
   rw[eb];exact e
 .rw[Za4 no]
  exact Zm (by simp[pvE,ha])
theorem Ge:∀P:List Row,YN (P.map Zd)=aj
 |[]=>rfl
 |r::P=>by
  show(okV (Zd r)&&YN (P.map Zd))=aj;rw[Zby,Ge P];rfl
def Zcs(P:List Row):okV (Zc P)=aj:=Ge P
def wa{P:List Row}(hP:pZ p n P):∀xs,Zc P=.tup xs->xs.length<=n:=λxs e=>by
 cases e;rw[ax];exact dsum hP
def WH(d:Nat){x:V}(s:DS)(hn:n<=6)(hx:okV x=aj)(hl:∀xs,x=.tup xs->xs.length<=1000):CV (d+4) 20 [spV p n,x] s=if isP p n x=aj then .ok .non s else .ex 2 s:=by
 have e:=Zbt (p:=p) d s hn hx hl;cases h:isP p n x with
 |true=>
  rw[h]at e;refine Us (U:=[aa<|spV p n,aa x]) (os:=[]) rfl #[1] rfl ?_
  simp[X4,pvE,e]
 |false=>
  rw[h]at e;refine Vh rfl #[1] rfl ?_
  simp[X4,pvE,e];rfl
theorem JM(d:Nat){P:List Row}(s:DS)(hn:n<=6)(hP:pZ p n P):CV (d+4) 20 [spV p n,Zc P] s=.ok .non s:=by
 have e:=WH (p:=p) d s hn (Zcs P) λxs z=>by have:=wa hP xs z;lia
 rw[T9<|Gj.mpr #[P,rfl,hP]]at e;exact e
def Qv(d:Nat){P Q:List Row}(s:DS)(hn:n<=6)(hP:pZ p n P)(hQ:pZ p n Q):CV (d+5) 21 [spV p n,Zc P,Zc Q] s=.ok .non s:=by
 have e1:=JM d s hn hP;have e2:=JM d s hn hQ;refine Us (U:=[aa<|spV p n,aa<|Zc P,aa<|Zc Q]) (os:=[]) rfl #[1] rfl ?_
 simp[Yk,pvE,e1,e2]
def Zd0(d:Nat){P:List Row}{r:Row}(s:DS)(hn:n<=6)(hP:pZ p n P)(hr:Zk p n r):CV (d+4) 25 [spV p n,Zc P,Zd r] s=.ok (.bl<|ZM p P r) s:=by
 refine Zp rfl #[1] rfl ?_
 show rvs (CV<|d+3) [] (.ret (.cmp .is (.call 13 [(.call 24 [(.v 0),(.v 1),(.v 2)])])<|.c .non)::[]) [aa<|spV p n,aa<|Zc P,aa<|Zd r] [] s=_;have e1:pv (CV<|d+3) (.call 13 [(.call 24 [(.v 0),(.v 1),(.v 2)])]) [aa<|spV p n,aa<|Zc P,aa<|Zd r] s=.ok (V2<|hdI<|XT p P r) s:=
  Zr (Zb (Zr (Zb #[11]<|Zb #[11]<|Zb #[11] Zg)<|uQ d s hn hP hr) Zg) (Uu (d+2) _ s)
 refine Zm<|ZI ?_;rw[Y9,e1,Za];unfold ZM;cases hdI (XT p P r)<;>simp[pvE,V2]
def Wl(d:Nat){P Q:List Row}(s:DS)(hn:n<=6)(hP:pZ p n P)(hQ:pZ p n Q):CV (d+5) 26 [spV p n,Zc P,Zc Q] s=.ok (.bl<|P.all<|ZM p Q) s:=by
 refine Zp rfl #[1] rfl ?_
 show rvs (CV<|d+4) [] (.ret (.blt .all [(.comp1 [0,2] 1 [0] (.of<|.v 1) []<|.call 25 [(.v 1),(.v 2),(.v 0)])])::[]) [aa<|spV p n,aa<|Zc P,aa<|Zc Q] [] s=_;have hd:=dsum hP;have hc:=Zw (cap:=[0,2]) (nl:=1) (t:=[0]) (it:=.of<|.v 1) (elt:=.call 25 [(.v 1),(.v 2),(.v 0)]) (U:=[aa<|spV p n,aa<|Zc P,aa<|Zc Q])
  (by simp[pvE,Zc]) (by unfold lim;omega) (λx hx=>#[_,rfl,Zr (Zb #[11]<|Zb #[11]<|Zb #[11] Zg)<|Zd0 d s hn hQ<|hP.row x hx])
 have ht:=ZW (g:=ZM p Q) P;refine Zm<|ZI ?_;rw[YM,Zb hc Zg,Za];simp[pvE,ht,fQ,sL]
def ix0{C:Zq}{i:Nat}{U:Env}{s:DS}(h:U[i]?=aa (aa<|spV p n)):pv C (.ix (.v i)<|.n 0) U s=.ok (.int p) s:=by
 rw[Vf,Ze h,Za,pE1];rfl
def ix1{C:Zq}{i:Nat}{U:Env}{s:DS}(h:U[i]?=aa (aa<|spV p n)):pv C (.ix (.v i)<|.n 1) U s=.ok (.int n) s:=by
 rw[Vf,Ze h,Za,pE1];rfl
def Uy{C:Zq}{e:E}{x:V}{xs:List V}{U:Env}{s:DS}(h:pv C e U s=.ok (.lst (x::xs)) s):pv C (.ix e<|.n 0) U s=.ok x s:=by
 rw[Vf,h,Za,pE1];show po (at' (x::xs) 0) s=_;simp[at',ixN,po]
theorem G9(d:Nat){r o:Row}{k:Int}(s:DS)(hn:n<=6)(hr:Zk p n r)(ho:Zk p n o)(hk:-1000<k/\k<1000):CV (d+1) 4 [spV p n,Zd r,Zd o,.int k] s=.ok (Zd<|ZQ p r o k) s:=by
 refine Zp rfl #[1] rfl ?_
 show rvs (CV d) [] (.ret (.blt .tuple [(.comp1 [3,0] 2 [0,1] (.zip (.v 1)<|.v 2) []<|.bin .mod #[45]<|.ix (.v 3)<|.n 0)])::[]) [aa<|spV p n,aa<|Zd r,aa<|Zd o,aa<|.int k] [] s=_;have hp:=Uo (p:=p);have hc:=Zw (cap:=[3,0]) (nl:=2) (t:=[0,1]) (it:=.zip (.v 1)<|.v 2) (elt:=.bin .mod #[45]<|.ix (.v 3)<|.n 0) (U:=[aa<|spV p n,aa<|Zd r,aa<|Zd o,aa<|.int k]) (l:=r.zip o) (e:=λq=>V.tup [.int q.1,.int q.2]) (g:=λq=>V.int<|(q.1+k*q.2)%p)
  (by simp[pvE,Zd,Qu]) (by rw[fZ,hr.1,ho.1];unfold lim;lia) (λq hq=>by
   have h2:=ho.2 q.2 (fX hq).2;refine#[_,rfl,?_];have f1:=Z0 (a:=k) #[0] #[0]
   have f2:=Z0 (a:=q.2) #[0] #[0]
   have hp0:0<p:=by lia
   have e0:=ix0 (C:=CV d) (i:=3) (U:=[aa<|.int q.1,aa<|.int q.2,aa<|.int k,aa<|spV p n]) (s:=s) rfl;show pv (CV d) _ [aa<|.int q.1,aa<|.int q.2,aa<|.int k,aa<|spV p n] s=_;have g:pv (CV d) #[45] [aa<|.int q.1,aa<|.int q.2,aa<|.int k,aa<|spV p n] s=.ok (.int<|q.1+k*q.2) s:=by simp[pvE,f1,f2]
   rw[pE7,g,Za,e0,Za];simp[pvF,hp0])
 have e:(r.zip o).map (λq=>V.int<|(q.1+k*q.2)%p)=(ZQ p r o k).map V.int:=by
  unfold ZQ;rw[<-fG,bY];rfl
 refine Zm<|ZI ?_;rw[YM,Zb hc Zg,e];rfl
theorem U8(d:Nat)(s:DS)(hn:n<=6):∃r s',CV (d+2) 6 [.drw,spV p n] s=.ok (Zd r) s'/\Zk p n r:=by
 have hp:=Uo (p:=p);obtain⟨ys,s',e1,e2,e3⟩:=Q9 (C:=CV<|d+1) (cap:=[0,1]) (nl:=1) (t:=[0]) (it:=.rng1<|.ix (.v 1)<|.n 1) (elt:=.call 2 [(.v 1),(.ix (.v 2)<|.n 0)]) (U:=[aa .drw,aa<|spV p n]) (s:=s) (Q:=λy=>∃a:Int,y=.int a/\0<=a/\a<p)
  (by rw[J8];exact Yx (ix1 rfl)<|by lia) #[16] (λx s=>by
   obtain⟨v,s',f1,f2,f3⟩:=wq (m:=p) s #[0] #[0]
   refine#[[aa x,aa .drw,aa<|spV p n],.int v,s',rfl,Zr (Zb #[11]<|Zb (ix0 rfl) Zg) f1,v,rfl,f2,f3])
 have:∃r:Row,ys=r.map V.int/\∀a∈r,0<=a/\a<(p:Int):=by
  clear e1 e2
  induction ys with
  |nil=>exact#[[],rfl,λ_ h=>by cases h]
  |cons y ys ih=>
   obtain⟨r,h1,h2⟩:=ih λz hz=>e3 z<|ao _ hz
   obtain⟨a,rfl,h3⟩:=e3 y<|al ..;refine#[a::r,by rw[h1];rfl,λx hx=>?_]
   rcases ay.mp hx with rfl|hx
   .exact h3
   .exact h2 x hx
 obtain⟨r,rfl,h2⟩:=this;refine#[r,s',Zp rfl #[1] rfl ?_,by simpa using e2,h2]
 show rvs #[13] [] (.ret (.blt .tuple [(.comp1 [0,1] 1 [0] (.rng1<|.ix (.v 1)<|.n 1) []<|.call 2 [(.v 1),(.ix (.v 2)<|.n 0)])])::[]) [aa .drw,aa<|spV p n] [] s=_;refine Zm<|ZI ?_;rw[YM,Zb e1 Zg];rfl
noncomputable def Zb7:List Sm:=[.asg [5]<|.comp1 [4] 1 [0] (.of<|.v 2) [(.cmp .ne (.ix (.v 0)<|.v 1)<|.n 0)]<|.v 0,
  .ite (.cmp .ne (.v 5)<|.lst []) [.asg [6]<|.ix (.comp1 [5,4,0] 1 [0] (.rng1<|.ix (.v 0)<|.n 0) [(.cmp .eq (.bin .mod (.bin .mul (.v 0)<|.ix #[34]<|.v 2)<|.ix (.v 3)<|.n 0)<|.n 1)]<|.v 0)<|.n 0,
  .asg [7] (.blt .tuple [(.comp1 [6,0] 1 [0] (.of<|.ix (.v 5)<|.n 0) []<|.bin .mod (.bin .mul (.v 1)<|.v 0)<|.ix (.v 2)<|.n 0)]),
  .asg [2] (.comp1 [0,7,4] 1 [0] (.of<|.v 2) []<|.call 4 #[39]),
  .asg [3] (.bin .add (.comp1 [0,7,4] 1 [0] (.of<|.v 3) []<|.call 4 #[39])<|.lst [(.v 7)])] []]
theorem jz(d:Nat){rest found:List Row}{j:Nat}{v:V}{a5 a6 a7:Option V}(s:DS)(hn:n<=6)(hj:j<n){R:List Row}(hR:Red p n j rest found)(hB:Bk p n R rest found)(hl:rest.length<=1000)(hl2:found.length<=1000):∃rest' found' b5 b6 b7,rvs #[13] [] Zb7 [aa<|spV p n,aa v,aa<|.lst<|rest.map Zd,aa<|.lst<|found.map Zd,aa<|Zi j,a5,a6,a7] [] s=.ok (.nx [aa<|spV p n,aa v,aa<|.lst<|rest'.map Zd,aa<|.lst<|found'.map Zd,aa<|Zi j,b5,b6,b7] []) s/\Red p n (j+1) rest' found'/\rest'.length=rest.length/\found'.length<=found.length+1/\Bk p n R rest' found':=by
 have hp:=Uo (p:=p);have hatj:=λr hr=>WN (by rw[(hR.row r hr).1];exact hj)
 have hc1:=Yr (C:=CV<|d+1) (cap:=[4]) (nl:=1) (t:=[0]) (it:=.of<|.v 2) (tst:=.cmp .ne (.ix (.v 0)<|.v 1)<|.n 0) (elt:=.v 0) (U:=[aa<|spV p n,aa v,aa<|.lst<|rest.map Zd,aa<|.lst<|found.map Zd,aa<|Zi j,a5,a6,a7]) (s:=s) (l:=rest)
  (by simp[pvE]) #[16] (λr hr=>#[[aa<|Zd r,aa<|Zi j],.bl<|af<|gt r j≠0,rfl,by
   have:=hatj r hr;simp[pvE,Zd,Zi,this,Zt],rfl,λ_=>Ze rfl])
 unfold Zb7;rw[Zf<|ZE hc1 rfl];show ∃rest' found' b5 b6 b7,rvs #[13] [] _ [aa<|spV p n,aa v,aa<|.lst<|rest.map Zd,aa<|.lst<|found.map Zd,aa<|Zi j,aa<|.lst<|(rest.filter λr=>af<|gt r j≠0).map Zd,_,_] [] s=_/\_
 cases q:rest.filter λr=>af (gt r j≠0)with
 |nil=>
  refine#[rest,found,aa<|.lst<|[].map Zd,a6,a7,?_,ZbE hR λr hr=>?_,rfl,by lia,hB]
  .have e1:Y2 #[13] (.cmp .ne (.v 5)<|.lst []) [aa<|spV p n,aa v,aa<|.lst<|rest.map Zd,aa<|.lst<|found.map Zd,aa<|Zi j,aa<|.lst<|[].map Zd,a6,a7] s=.ok ak s:=by
    refine Yf (v:=.bl ak) ?_ rfl;rw[Y9,Ze rfl];simp[pvE,Zt,Yz]
   rw[Zf ((Ys e1).trans (by rw[T8 #[2],rvs])),rvs]
  .have:=List.filter_eq_nil_iff.mp q r hr
   simpa using this
 |cons f fs=>
  have hf:f∈rest/\gt f j≠0:=by
   have:f∈rest.filter λr=>af (gt r j≠0):=by rw[q];exact al ..
   rw[dy]at this;exact#[this.1,by simpa using this.2]
  have hfr:=hR.row f hf.1;have hg:=WA ppos hfr j;obtain⟨io1,io2⟩:=jr (p:=p) #[0] hg.2
  have hl1:Zk p n #[38]:=Wr hfr;have hi:0<=Y8 p (gt f j)/\Y8 p (gt f j)<1000:=by
   unfold Y8
   repeat' split
   all_goals lia
  let ρ0:Env:=[aa<|spV p n,aa v,aa<|.lst<|rest.map Zd,aa<|.lst<|found.map Zd,aa<|Zi j,aa<|.lst<|(f::fs).map Zd,a6,a7]
  have e1:Y2 #[13] (.cmp .ne (.v 5)<|.lst []) ρ0 s=.ok aj s:=by
   refine Yf (v:=.bl aj) ?_ rfl;rw[Y9,Ze rfl];simp[pvE,Zt]
  have ef:pv #[13] (.ix (.v 5)<|.n 0) ρ0 s=.ok (Zd f) s:=by
   exact Uy<|Ze rfl
  have hatf:=WN (r:=f) (k:=j) (by rw[hfr.1];exact hj)
  have hc2:=Yr (cap:=[5,4,0]) (nl:=1) (t:=[0]) (it:=.rng1<|.ix (.v 0)<|.n 0) (tst:=.cmp .eq (.bin .mod (.bin .mul (.v 0)<|.ix #[34]<|.v 2)<|.ix (.v 3)<|.n 0)<|.n 1) (elt:=.v 0) (U:=ρ0) (s:=s)
   (Yx (ix0 rfl)<|by lia) (by rw[bi];unfold lim;lia) (λk hk=>#[[aa<|Zi k,aa<|.lst<|(f::fs).map Zd,aa<|Zi j,aa<|spV p n],.bl<|af<|(k:Int)*gt f j%p=1,rfl,by
    have hk':=bc.mp hk;have f1:=Z0 (a:=(k:Int)) #[0] #[0]
    have f2:=Z0 (a:=gt f j) #[0] #[0]
    have g1:pv #[13] (.ix #[34]<|.v 2) [aa<|Zi k,aa<|.lst<|(f::fs).map Zd,aa<|Zi j,aa<|spV p n] s=.ok (.int<|gt f j) s:=by
     have g0:pv #[13] #[34] [aa<|Zi k,aa<|.lst<|(f::fs).map Zd,aa<|Zi j,aa<|spV p n] s=.ok (Zd f) s:=by
      exact Uy<|Ze rfl
     rw[Vf,g0,Za,Ze rfl,Za];show po (at' (f.map V.int) (j:Int)) s=_;rw[hatf];rfl
    have g2:=ix0 (p:=p) (n:=n) (C:=CV<|d+1) (i:=3) (U:=[aa<|Zi k,aa<|.lst<|(f::fs).map Zd,aa<|Zi j,aa<|spV p n]) (s:=s) rfl;have g3:pv #[13] (.bin .mul (.v 0)<|.ix #[34]<|.v 2) [aa<|Zi k,aa<|.lst<|(f::fs).map Zd,aa<|Zi j,aa<|spV p n] s=.ok (.int<|(k:Int)*gt f j) s:=by
     rw[pE7,Ze rfl,Za,g1,Za];simp[Zi,Xh,QW,f1,f2]
    have hp0:0<p:=by lia
    rw[Y9,pE7,g3,Za,g2,Za];simp[pvE,Zt,hp0],rfl,λ_=>Ze rfl])
  rw[io1]at hc2;have e6:pv #[13] (.ix (.comp1 [5,4,0] 1 [0] (.rng1<|.ix (.v 0)<|.n 0) [(.cmp .eq (.bin .mod (.bin .mul (.v 0)<|.ix #[34]<|.v 2)<|.ix (.v 3)<|.n 0)<|.n 1)]<|.v 0)<|.n 0) ρ0 s=.ok (.int<|Y8 p<|gt f j) s:=by
   have:=Uy hc2;rw[Zi,io2]at this;exact this
  let ρ1:Env:=[aa<|spV p n,aa v,aa<|.lst<|rest.map Zd,aa<|.lst<|found.map Zd,aa<|Zi j,aa<|.lst<|(f::fs).map Zd,aa<|.int<|Y8 p<|gt f j,a7]
  have ef1:pv #[13] (.ix (.v 5)<|.n 0) ρ1 s=.ok (Zd f) s:=by
   exact Uy<|Ze rfl
  have hc3:=Zw (cap:=[6,0]) (nl:=1) (t:=[0]) (it:=.of<|.ix (.v 5)<|.n 0) (elt:=.bin .mod (.bin .mul (.v 1)<|.v 0)<|.ix (.v 2)<|.n 0) (s:=s) (l:=f) (g:=λa=>V.int<|Y8 p (gt f j)*a%p)
   (by rw[wE7,ef1];rfl) (by rw[hfr.1];unfold lim;lia) (λa ha=>#[[aa<|.int a,aa<|.int<|Y8 p<|gt f j,aa<|spV p n],rfl,by
    have h2:=hfr.2 a ha;have f1:=Z0 (a:=Y8 p<|gt f j) #[0] #[0]
    have f2:=Z0 (a:=a) #[0] #[0]
    have g2:=ix0 (p:=p) (n:=n) (C:=CV<|d+1) (i:=2) (U:=[aa<|.int a,aa<|.int<|Y8 p<|gt f j,aa<|spV p n]) (s:=s) rfl;have hp0:0<p:=by lia
    have g:pv #[13] (.bin .mul (.v 1)<|.v 0) [aa<|.int a,aa<|.int<|Y8 p<|gt f j,aa<|spV p n] s=.ok (.int<|Y8 p (gt f j)*a) s:=by simp[pvE,f1,f2]
    rw[pE7,g,Za,g2,Za];simp[pvF,hp0]])
  have el:f.map (λa=>V.int<|Y8 p (gt f j)*a%p)=(lead p f j).map V.int:=by unfold lead XZ;rw[bY];rfl
  rw[el]at hc3;have e7:pv #[13] (.blt .tuple [(.comp1 [6,0] 1 [0] (.of<|.ix (.v 5)<|.n 0) []<|.bin .mod (.bin .mul (.v 1)<|.v 0)<|.ix (.v 2)<|.n 0)]) ρ1 s=.ok (Zd<|lead p f j) s:=by
   rw[YM,Zb hc3 Zg];rfl
  let ρ2:Env:=[aa<|spV p n,aa v,aa<|.lst<|rest.map Zd,aa<|.lst<|found.map Zd,aa<|Zi j,aa<|.lst<|(f::fs).map Zd,aa<|.int<|Y8 p<|gt f j,aa<|Zd<|lead p f j]
  have elt:∀r:Row,Zk p n r->pv #[13] (.call 4 #[39]) [aa<|Zd r,aa<|spV p n,aa<|Zd<|lead p f j,aa<|Zi j] s=.ok (Zd<|clr p r #[38] j) s:=λr hr=>by
   have hgr:=WA ppos hr j;have h3:=WN (r:=r) (k:=j) (by rw[hr.1];exact hj)
   have g1:pv #[13] (.neg<|.ix (.v 0)<|.v 3) [aa<|Zd r,aa<|spV p n,aa<|Zd<|lead p f j,aa<|Zi j] s=.ok (.int<|-(gt r j)) s:=by
    simp[pvE,Zd,Zi,h3]
   exact Zr (Zb #[11]<|Zb #[11]<|Zb #[11]<|Zb g1 Zg)<|G9 d s hn hr hl1 #[by lia,by lia]
  have hc4:=Zw (cap:=[0,7,4]) (nl:=1) (t:=[0]) (it:=.of<|.v 2) (U:=ρ2) (s:=s)
   #[31] #[16] (λr hr=>#[_,rfl,elt r<|hR.row r hr])
  let ρ3:Env:=[aa<|spV p n,aa v,aa<|.lst<|rest.map λr=>Zd<|clr p r #[38] j,aa<|.lst<|found.map Zd,aa<|Zi j,aa<|.lst<|(f::fs).map Zd,aa<|.int<|Y8 p<|gt f j,aa<|Zd<|lead p f j]
  have hc5:=Zw (cap:=[0,7,4]) (nl:=1) (t:=[0]) (it:=.of<|.v 3) (U:=ρ3) (s:=s)
   #[31] #[16] (λr hr=>#[_,rfl,elt r<|hR.part.row r hr])
  have e9:pv #[13] (.bin .add (.comp1 [0,7,4] 1 [0] (.of<|.v 3) []<|.call 4 #[39])<|.lst [(.v 7)]) ρ3 s=.ok (.lst<|(found.map λr=>Zd<|clr p r #[38] j)++[Zd<|lead p f j]) s:=by
   have hll:pv #[13] (.lst [(.v 7)]) ρ3 s=.ok (.lst [Zd<|lead p f j]) s:=by
    rw[pE4,Zb #[11] Zg,Za,T9 (by simp[lim])]
   rw[pE7,hc5,Za,hll,Za];show(if(found.map λr=>Zd<|clr p r #[38] j).length+[Zd<|lead p f j].length<=lim then _ else _)=_
   rw[T9 (by rw[ax,cT];unfold lim;lia)]
  refine#[rest.map λr=>clr p r #[38] j,found.map (λr=>clr p r #[38] j)++[lead p f j],aa<|.lst<|(f::fs).map Zd,aa<|.int<|Y8 p<|gt f j,aa<|Zd<|lead p f j,?_,jw hR hj hf.1 hf.2,by rw[ax],by simp,hB.take hR hf.1]
  rw[Zf (ρ':=[aa<|spV p n,aa v,aa<|.lst<|rest.map λr=>Zd<|clr p r #[38] j,aa<|.lst<|(found.map λr=>Zd<|clr p r #[38] j)++[Zd<|lead p f j],aa<|Zi j,aa<|.lst<|(f::fs).map Zd,aa<|.int<|Y8 p<|gt f j,aa<|Zd<|lead p f j]) (s':=s) ((Ys e1).trans (by
   rw[T9 rfl,Zf<|ZE e6 rfl];show rvs _ _ _ ρ1 [] s=_;rw[Zf<|ZE e7 rfl];show rvs _ _ _ ρ2 [] s=_;rw[Zf<|ZE hc4 rfl];show rvs _ _ _ ρ3 [] s=_;rw[Zf<|ZE e9 rfl,rvs];rfl)),rvs]
  rw[bY,bw,bY];rfl
theorem xW{n j:Nat}{x:Nat}{l:List Nat}(h:x::l=(aM n).drop j):x=j/\j<n/\l=(aM n).drop (j+1):=by
 have hj:j<n:=by
  by_cases c:j<n
  .exact c
  .rw[List.drop_eq_nil_of_le<|by rw[bi];lia]at h;cases h
 rw[ck<|by rw[bi];exact hj]at h
 injection h with h1 h2
 exact#[by rw[h1,List.getElem_range],hj,h2]
theorem Wa(d:Nat){R:List Row}{v:V}(s:DS)(hn:n<=6)(hR:∀r∈R,Zk p n r)(hl:R.length<=1000)(hv:YG v=aa (R.map Zd)):∃P,CV (d+2) 5 [spV p n,v] s=.ok (Zc P) s/\Spans p n R P:=by
 let I:List Nat->Env->Prop:=λl U=>∃rest found j a4 a5 a6 a7,U=[aa<|spV p n,aa v,aa<|.lst<|rest.map Zd,aa<|.lst<|found.map Zd,a4,a5,a6,a7]/\l=(aM n).drop j/\Red p n j rest found/\rest.length<=1000/\found.length<=j/\Bk p n R rest found
 obtain⟨ρ',hI,e⟩:=Xf (t:=[4]) (it:=.rng1<|.ix (.v 0)<|.n 1) (U:=[aa<|spV p n,aa v,aa<|.lst<|R.map Zd,aa<|.lst [],ae,ae,ae,ae]) I
  (Yx (ix1 rfl)<|by lia) #[R,[],0,ae,ae,ae,ae,rfl,rfl,#[hR,λr _ i hi=>by lia,pZ.nil,λr hr=>by cases hr],hl,aI _,λW hW=>#[λh=>h.1,λh=>#[h,λr hr=>by cases hr]]] rfl (λx l U hx=>by
   obtain⟨rest,found,j,a4,a5,a6,a7,rfl,hl',hred,h1,h2,h3⟩:=hx;obtain⟨rfl,hj,hl2⟩:=xW hl';obtain⟨rest',found',b5,b6,b7,e1,e2,e3,e4,e5⟩:=jz d s hn hj hred h3 h1 #[0]
   exact#[rfl,_,_,rfl,e1,rest',found',x+1,_,_,_,_,rfl,hl2,e2,by lia,by lia,e5])
 obtain⟨rest,found,j,a4,a5,a6,a7,rfl,hz,hred,_,_,hB⟩:=hI;have hj:n<=j:=by
  have:=congrArg pV hz;rw[bF,bi,eM]at this;lia
 refine#[found,Zp rfl #[1] rfl ?_,hB.spans hred hj]
 show rvs #[13] [] (.asg [2] (.blt .list [(.v 1)]) :: .asg [3] (.lst []) :: .forr [4] (.rng1<|.ix (.v 0)<|.n 1) Zb7 :: .ret (.blt .tuple [(.v 3)])::[]) [aa<|spV p n,aa v,ae,ae,ae,ae,ae,ae] [] s=_;have hlst:pv #[13] (.blt .list [(.v 1)]) [aa<|spV p n,aa v,ae,ae,ae,ae,ae,ae] s=.ok (.lst<|R.map Zd) s:=by
  rw[YM,Zb #[11] Zg,Za];show po ((YG v).map V.lst) s=_;rw[hv];rfl
 rw[Zf<|ZE hlst rfl];rw[Zf (ρ':=[aa<|spV p n,aa v,aa<|.lst<|R.map Zd,aa<|.lst [],ae,ae,ae,ae]) (os':=[]) (s':=s) (by simp[pvE])]
 show rvs _ _ (.forr [4] (.rng1<|.ix (.v 0)<|.n 1) Zb7::_) _ _ _=_;rw[Zf e];exact Zm<|ZI (by simp[pvE,Zc])
theorem zi(d:Nat)(s:DS)(hn:n<=6):∃P s',CV (d+3) 7 [.drw,spV p n] s=.ok (Zc P) s'/\pZ p n P:=by
 obtain⟨v,s1,f1,f2,f3⟩:=wq (m:=(n:Int)+1) s #[0] #[0]
 obtain⟨k,rfl⟩:∃k:Nat,v=k:=#[v.toNat,by lia]
 obtain⟨ys,s2,e1,e2,e3⟩:=Q9 (C:=CV<|d+2) (cap:=[0,1]) (nl:=1) (t:=[0]) (it:=.rng1<|.v 2) (elt:=.call 6 [(.v 1),(.v 2)]) (U:=[aa .drw,aa<|spV p n,aa<|.int k]) (s:=s1) (Q:=λy=>∃r:Row,y=Zd r/\Zk p n r)
  (by rw[J8];exact Yx #[11]<|by lia) #[16] (λx s=>by
   obtain⟨r,s',g1,g2⟩:=U8 (p:=p) d s hn;exact#[[aa x,aa .drw,aa<|spV p n],Zd r,s',rfl,Zr #[25] g1,r,rfl,g2])
 have:∃R:List Row,ys=R.map Zd/\∀r∈R,Zk p n r:=by
  clear e1 e2
  induction ys with
  |nil=>exact#[[],rfl,λ_ h=>by cases h]
  |cons y ys ih=>
   obtain⟨r,h1,h2⟩:=ih λz hz=>e3 z<|ao _ hz
   obtain⟨a,rfl,h3⟩:=e3 y<|al ..;refine#[a::r,by rw[h1];rfl,λx hx=>?_]
   rcases ay.mp hx with rfl|hx
   .exact h3
   .exact h2 x hx
 obtain⟨R,rfl,hR⟩:=this;rw[ax]at e2;obtain⟨P,e4,hP⟩:=Wa d (v:=.lst<|R.map Zd) s2 hn hR #[0] rfl
 refine#[P,s2,Zp rfl #[1] rfl ?_,hP.part]
 show rvs #[36] [] (.asg [2] (.call 2 [(.v 0),(.bin .add (.ix (.v 1)<|.n 1)<|.n 1)]) :: .ret (.call 5 [(.v 1),(.comp1 [0,1] 1 [0] (.rng1<|.v 2) []<|.call 6 [(.v 1),(.v 2)])])::[]) [aa .drw,aa<|spV p n,ae] [] s=_;have g1:pv #[36] (.bin .add (.ix (.v 1)<|.n 1)<|.n 1) [aa .drw,aa<|spV p n,ae] s=.ok (.int<|(n:Int)+1) s:=by
  rw[pE7,ix1 rfl];simp[pvE]
 rw[Zf<|ZE (Zr (Zb #[11]<|Zb g1 Zg) f1) rfl];exact Zm<|ZI<|Zr (Zb #[11]<|Zb e1 Zg) e4
end
section
variable{C:Zq}{U:Env}{s:DS}{a b:E}
def Zhc{c:Bool}(h1:pv C a U s=.ok (.bl ak) s)(h2:pv C b U s=.ok (.bl c) s):pv C (.or a b) U s=.ok (.bl c) s:=by rw[Zdc,h1];exact h2
def J6{c c':Bool}(h1:pv C a U s=.ok (.bl c) s)(h2:pv C b U s=.ok (.bl c') s):pv C (.and a b) U s=.ok (.bl<|c&&c') s:=by
 rw[jG,h1];cases c
 .rfl
 .exact h2
def X2{c:Bool}(h1:pv C a U s=.ok (.bl c) s):pv C (.not a) U s=.ok (.bl !c) s:=by rw[pE9,h1];rfl
def GR{P Q:List Row}(h1:pv C a U s=.ok (Zc P) s)(h2:pv C b U s=.ok (Zc Q) s):pv C (.cmp .eq a b) U s=.ok (.bl<|af<|P=Q) s:=by
 rw[Y9,h1,Za,h2,Za];show po ((eqV Zt (Zc P)<|Zc Q).map V.bl) s=_;rw[Zt,ZaD];rfl
def Ua{f:Nat}{x y:E}{v w r:V}(h1:pv C x U s=.ok v s)(h2:pv C y U s=.ok w s)(h:C f [v,w] s=.ok r s):pv C (.call f [x,y]) U s=.ok r s:=Zr (Zb h1<|Zb h2 Zg) h
def V6{f:Nat}{x y z:E}{v w u r:V}(h1:pv C x U s=.ok v s)(h2:pv C y U s=.ok w s)(h3:pv C z U s=.ok u s)(h:C f [v,w,u] s=.ok r s):pv C (.call f [x,y,z]) U s=.ok r s:=Zr (Zb h1<|Zb h2<|Zb h3 Zg) h
def guard{ms:List Nat}{t:E}{x l:List Sm}(h:pv C t U s=.ok (.bl ak) s):rvs C ms (.ite t x []::l) U [] s=rvs C ms l U [] s:=by
 rw[Zf<|(Ys<|Yf h rfl).trans (by rw[T8 #[2],rvs])]
def W0{P:List Row}(h1:pv C a U s=.ok (Zc P) s):pv C (.blt .len [a]) U s=.ok (.int P.length) s:=by
 rw[YM,Zb h1 Zg,Za];show po (aa<|V.int (P.map Zd).length) s=_;rw[ax];rfl
def UV{x y:Int}(h1:pv C a U s=.ok (.int x) s)(h2:pv C b U s=.ok (.int y) s):pv C (.bin .add a b) U s=.ok (.int<|x+y) s:=by
 rw[pE7,h1,Za,h2,Za];rfl
def Jf{x y:List V}(h1:pv C a U s=.ok (.lst x) s)(h2:pv C b U s=.ok (.lst y) s)(h:x.length+y.length<=lim):pv C (.bin .add a b) U s=.ok (.lst<|x++y) s:=by
 rw[pE7,h1,Za,h2,Za];show(if x.length+y.length<=lim then _ else _)=_
 rw[T9 h]
end
noncomputable def menu:List (Nat×Nat×Nat):=[(2,2,1),(4,2,2),(8,2,3),(16,2,4),(32,2,5),(64,2,6),(3,3,1),(9,3,2),(27,3,3),(81,3,4),(5,5,1),(25,5,2),(125,5,3)]
def ZdH:∀q∈menu,(q.2.1=2\/q.2.1=3\/q.2.1=5)/\1<=q.2.2/\q.2.2<=6/\q.2∈QA++Qs:=by decide
def uT(d:Nat){m:Int}(s:DS)(hm:2<=m):∃p n s',CV (d+2) 3 [.drw,.int m] s=.ok (spV p n) s'/\(p=2\/p=3\/p=5)/\1<=n/\n<=6/\(p,n)∈QA++Qs:=by
 let L:=menu.filter λq=>af<|(q.1:Int)<=m
 have hL:0<L.length:=List.length_pos_of_mem<|dy.mpr #[al ..,T5 hm];have hL2:L.length<=13:=gq ..;have hc:=Yr (C:=CV<|d+1) (cap:=[1]) (nl:=2) (t:=[0,1]) (it:=.of<|.v 2) (tst:=.cmp .le (.v 0)<|.v 2) (elt:=.v 1) (U:=[aa .drw,aa<|.int m,aa<|.lst<|menu.map λq=>.tup [.int q.1,spV q.2.1 q.2.2]]) (s:=s) (l:=menu)
  #[31] #[1] (λq _=>#[[aa<|.int q.1,aa<|spV q.2.1 q.2.2,aa<|.int m],.bl<|af<|(q.1:Int)<=m,rfl,by
   rw[Y9,Ze rfl,Za,Ze rfl];rfl,rfl,λ_=>Ze rfl])
 obtain⟨v,s',f1,f2,f3⟩:=wq (m:=L.length) s #[3] #[3]
 obtain⟨k,rfl⟩:∃k:Nat,v=k:=#[v.toNat,by omega]
 have hk:k<L.length:=by omega
 have hq:=ZdH _ (dy.mp<|ba hk).1;refine#[L[k].2.1,L[k].2.2,s',Zp rfl #[1] rfl ?_,hq]
 show rvs #[13] [] (.asg [2] (.lst [(.tup [(.n 2),(.tup [(.n 2),(.n 1)])]),(.tup [(.n 4),(.tup [(.n 2),(.n 2)])]),(.tup [(.n 8),(.tup [(.n 2),(.n 3)])]),(.tup [(.n 16),(.tup [(.n 2),(.n 4)])]),(.tup [(.n 32),(.tup [(.n 2),(.n 5)])]),(.tup [(.n 64),(.tup [(.n 2),(.n 6)])]),(.tup [(.n 3),(.tup [(.n 3),(.n 1)])]),(.tup [(.n 9),(.tup [(.n 3),(.n 2)])])]) ::
  .asg [2] (.bin .add (.v 2)<|.lst [(.tup [(.n 27),(.tup [(.n 3),(.n 3)])]),(.tup [(.n 81),(.tup [(.n 3),(.n 4)])]),(.tup [(.n 5),(.tup [(.n 5),(.n 1)])]),(.tup [(.n 25),(.tup [(.n 5),(.n 2)])]),(.tup [(.n 125),(.tup [(.n 5),(.n 3)])])]) ::
  .asg [2] (.comp1 [1] 2 [0,1] (.of<|.v 2) [(.cmp .le (.v 0)<|.v 2)]<|.v 1) ::
  .ret (.ix (.v 2)<|.call 2 [(.v 0),(.blt .len [(.v 2)])])::[]) [aa .drw,aa<|.int m,ae] [] s=_
 rw[Zf (ρ':=[aa .drw,aa<|.int m,aa<|.lst<|(menu.take 8).map λq=>.tup [.int q.1,spV q.2.1 q.2.2]]) (os':=[]) (s':=s) (by simp[pvE,menu,spV])]
 rw[Zf (ρ':=[aa .drw,aa<|.int m,aa<|.lst<|menu.map λq=>.tup [.int q.1,spV q.2.1 q.2.2]]) (os':=[]) (s':=s) (by simp[pvE,menu,spV])]
 rw[Zf<|ZE hc rfl];show rvs _ _ _ [aa .drw,aa<|.int m,aa<|.lst<|L.map λq=>spV q.2.1 q.2.2] _ _=_
 refine Zm<|ZI ?_;have e1:pv #[13] (.blt .len [(.v 2)]) [aa .drw,aa<|.int m,aa<|.lst<|L.map λq=>spV q.2.1 q.2.2] s=.ok (.int L.length) s:=by
  rw[YM,Zb #[11] Zg,Za];show po (aa<|V.int (L.map λq=>spV q.2.1 q.2.2).length) s=_
  rw[ax];rfl
 rw[Vf,Ze rfl,Za,Zr (Zb #[11]<|Zb e1 Zg) f1,Za];show po (at' (L.map λq=>spV q.2.1 q.2.2) (k:Int)) s'=_
 rw[VO (by rw[aU,ai hk];rfl)];rfl
section
variable{C:Zq}{U:Env}{s s1 s2:DS}{a b:E}{x y:V}{xs ys:List V}
def Yc{i:Int}:pv C (.c<|.int i) U s=.ok (.int i) s:=by rw[pE1];rfl
theorem pick{i:E}{v:Int}(h1:pv C a U s=.ok #[35] s1)(h2:pv C i U s1=.ok (.int v) s2)(h0:0<=v)(hv:v<xs.length):∃x,x∈xs/\pv C (.ix a i) U s=.ok x s2:=by
 obtain⟨k,rfl⟩:∃k:Nat,v=k:=#[v.toNat,by lia]
 have hk:k<xs.length:=by lia
 refine#[xs[k],ba hk,?_];rw[Vf,h1,Za,h2,Za];show po (at' xs (k:Int)) s2=_;rw[VO<|ai hk];rfl
theorem Ya(d:Nat)(s:DS){m:Int}{U:Env}{i:Nat}{e:E}(hd:U[i]?=aa (aa .drw))(he:pv #[13] e U s=.ok (.int m) s)(h0:0<m)(h1:m<1000):∃v s',pv #[13] (.call 2 [(.v i),e]) U s=.ok (.int v) s'/\0<=v/\v<m:=by
 obtain⟨v,s',e1,b⟩:=wq s h0 #[0]
 exact#[v,s',Zr (Zb (Ze hd)<|Zb he Zg) e1,b]
theorem Xy(h1:pv C a U s=.ok (.tup xs) s)(h2:pv C b U s=.ok (.tup ys) s)(h:xs.length+ys.length<=1000):pv C (.bin .add a b) U s=.ok (.tup<|xs++ys) s:=by
 rw[pE7,h1,Za,h2,Za];show(if xs.length+ys.length<=lim then _ else _)=_
 rw[T9 #[16]]
def wP(h1:pv C a U s=.ok (.tup xs) s){k:Int}(h2:pv C b U s=.ok (.int k) s):pv C (.sl a ae<|aa b) U s=.ok (.tup<|YF xs ae<|aa k) s:=by
 rw[Zgr,h1,Za,pvo,Za,pvo,h2,Za];rfl
def UH(h1:pv C a U s=.ok (.tup xs) s){k:Int}(h2:pv C b U s=.ok (.int k) s):pv C (.sl a (aa b) ae) U s=.ok (.tup<|YF xs (aa k) ae) s:=by
 rw[Zgr,h1,Za,pvo,h2,Za];rw[Za,pvo,Za];rfl
theorem XS{lo hi:Option Int}:(YF xs lo hi).length<=xs.length:=by
 unfold YF;rw[bQ,bF];lia
def U5(h:∀x∈xs,okV x=aj):YN xs=aj:=by
 induction xs with
 |nil=>rfl
 |cons x xs ih=>
  show(okV x&&YN xs)=aj;rw[h x<|al ..,ih λy hy=>h y<|ao _ hy];rfl
def WR{lo hi:Option Int}(h:YN xs=aj):YN (YF xs lo hi)=aj:=
 U5 λx hx=>Xj h x<|cx<|dv hx
def QD(h:YN xs=aj)(h2:YN ys=aj):YN (xs++ys)=aj:=
 U5 λx hx=>by
  rcases bK.mp hx with z|z
  .exact Xj h x z
  .exact Xj h2 x z
def Xg(h:pv C a U s=.ok x s):pv C (.tup [a]) U s=.ok (.tup [x]) s:=by
 rw[pE3,Zb h Zg];rfl
def ZbS{B:Type}{ms:List Nat}{i:Nat}{it:W}{b:List Sm}{L:List B}{e:B->V}{q:B->Bool}{v:V}{U:Option V->Env}(o:Option V)(hw:pvw C it (hide []<|U o) s=.ok (L.map e) s)(hs:∀o x,(U o).set i (aa x)=U (aa x))(hb:∀x∈L,rvs C ms b (U<|aa<|e x) [] s=if q x=aj then .ok (.ret v) s else .ok (.nx (U<|aa<|e x) []) s) :
  (L.any q=aj->rv C ms (.forr [i] it b) (U o) [] s=.ok (.ret v) s)/\(L.any q=ak->∃o',rv C ms (.forr [i] it b) (U o) [] s=.ok (.nx (U o') []) s):=by
 rw[QX,hw,Za];clear hw
 induction L generalizing o with
 |nil=>exact#[λh=>(by cases h),λ_=>#[o,rfl]]
 |cons x L ih=>
  have ih:=ih (aa<|e x) λy hy=>hb y<|ao _ hy
  have h1:=hb x<|al ..;have step:Y5 (λx U os s=>if(([i]:List Nat).any os.contains)=aj then .no else(po (Zo [i] x U) s).bind λU s=>rvs C ms b U os s) ((x::L).map e) (U o) [] s=if q x=aj then .ok (.ret v) s else Y5 (λx U os s=>if(([i]:List Nat).any os.contains)=aj then .no else(po (Zo [i] x U) s).bind λU s=>rvs C ms b U os s) (L.map e) (U<|aa<|e x) [] s:=by
   rw[aX,Y5,T8 #[2]]
   show((PR.ok ((U o).set i<|aa<|e x) s).bind λU s=>rvs C ms b U [] s).bind _=_
   rw[Za,hs o<|e x,h1];cases q x<;>rfl
  rw[step,gh];cases hq:q x with
  |true=>exact#[λ_=>rfl,λh=>(by cases h)]
  |false=>
   rw[T8 #[2],lO]
   exact ih
def Th(m:Nat)(x:V):Prop:=okV x=aj/\∀xs,x=.tup xs->xs.length<=m
def Y0{m:Nat}(h:YN xs=aj)(hl:xs.length<=m):Th m (.tup xs):=#[h,λys e=>by cases e;exact hl]
theorem wX{Q:V->Prop}:∀{es:List E},(∀e∈es,∃v,pv C e U s=.ok v s/\Q v)->∃vs,pvs C es U s=.ok vs s/\vs.length=es.length/\∀v∈vs,Q v
 |[],_=>#[[],Zg,rfl,λ_ h=>by cases h]
 |e::es,h=>by
  obtain⟨v,e1,q1⟩:=h e<|al ..;obtain⟨vs,e2,l2,q2⟩:=wX λe he=>h e<|ao _ he
  refine#[v::vs,Zb e1 e2,by rw[aG,aG,l2],λu hu=>?_]
  rcases ay.mp hu with rfl|hu
  .exact q1
  .exact q2 u hu
end
section
variable{p n:Nat}[Base p]
noncomputable def isI(x:V):Bool:=match x with
 |.int _=>aj
 |_=>ak
def Zfd{x:V}(h:∀i,x≠.int i):isI x=ak:=by
 cases x with|int i=>exact T7 rfl<|h i|_=>rfl
def uS(d:Nat){x:V}(s:DS)(hx:okV x=aj):CV (d+1) 32 [x] s=.ok (.bl<|isI x) s:=by
 refine Zp rfl #[1] rfl ?_
 rcases ZbG hx with⟨i,rfl⟩|⟨b,rfl⟩|⟨ha,no⟩
 .simp[YL,pvE,Z4,Yy,isI]
 .simp[YL,pvE,Z4,Yy,isI]
 .rw[Zfd no]
  simp[YL,pvE,ha]
theorem xU(d:Nat){x:V}(s:DS)(hn:n<=6)(hx:okV x=aj):CV (d+2) 33 [spV p n,x] s=.ok (.bl<|Z5 p n x) s:=by
 refine Zp rfl #[1] rfl ?_
 show rvs #[13] [] Xl.body [aa<|spV p n,aa x] [] s=_
 dsimp only[Xl]
 have e1:=ix1 (C:=CV<|d+1) (i:=0) (U:=[aa<|spV p n,aa x]) (s:=s) rfl;rcases JQ hx with⟨xs,rfl⟩|⟨ha,no⟩
 ·
  have g:pv #[13] (.or (.not<|.isi (.v 1) [.tuple])<|.cmp .ne (.blt .len [(.v 1)])<|.ix (.v 0)<|.n 1) [aa<|spV p n,aa<|.tup xs] s=.ok (.bl !(af<|xs.length=n)) s:=by
   rw[Zdc];have:pv #[13] (.not<|.isi (.v 1) [.tuple]) [aa<|spV p n,aa<|.tup xs] s=.ok (.bl ak) s:=by simp[pvE,Z4,Yy]
   rw[this,Za];rw[Y9];have:pv #[13] (.blt .len [(.v 1)]) [aa<|spV p n,aa<|.tup xs] s=.ok (.int xs.length) s:=by simp[pvE]
   rw[this,Za,e1,Za];show po (aa<|V.bl !(af<|(xs.length:Int)=n)) s=_;rw[show(af<|(xs.length:Int)=n)=af (xs.length=n) by rw[decide_eq_decide];lia];rfl
  by_cases hl:xs.length=n
  .rw[T5 hl]at g
   rw[guard g];refine Zm<|ZI ?_;have hc:=Zw (cap:=[0]) (nl:=1) (t:=[0]) (it:=.of<|.v 1) (elt:=.and (.call 32 [(.v 0)])<|.chain .le .lt (.n 0) (.v 0)<|.ix (.v 1)<|.n 0) (U:=[aa<|spV p n,aa<|.tup xs]) (l:=xs) (g:=λv=>V.bl<|isW v 0<|(p:Int)-1)
    (by simp[pvE]) #[16] (λv hv=>#[[aa v,aa<|spV p n],rfl,by
     have e:=Zr (Zb (Ze (i:=0) (U:=[aa v,aa<|spV p n]) rfl) Zg)<|uS d s<|Xj hx v hv;have e0:=ix0 (C:=CV<|d+1) (i:=1) (U:=[aa v,aa<|spV p n]) (s:=s) rfl;rw[jG,e,Za];cases v with
     |int i=>
      show pv _ _ _ _=_;rw[ZgY,Yc,Za,Ze rfl,Za];show(po (aa<|V.bl<|af<|0<=i) s).bind _=_;rw[Z2,Za];by_cases c:0<=i
      .rw[T5 c]
       show(if aj=aj then _ else _)=_
       rw[T9 rfl,e0,Za];show po (aa<|V.bl<|af<|i<(p:Int)) s=PR.ok (V.bl<|af (0<=i)&&af (i<=(p:Int)-1)) s;rw[T5 c,sN,show af (i<(p:Int))=af (i<=(p:Int)-1) by rw[decide_eq_decide];lia];rfl
      .rw[T4 c]
       show _=PR.ok (V.bl<|af (0<=i)&&af (i<=(p:Int)-1)) s;rw[T4 c];rfl
     |_=>rfl])
   have ht:=ZW (g:=λv:V=>isW v 0<|(p:Int)-1) xs
   rw[YM,Zb hc Zg,Za];show po ((ZY _).map λbs=>V.bl<|bs.all id) s=_
   rw[ht];show PR.ok (V.bl<|(xs.map _).all id) s=PR.ok (V.bl<|af (xs.length=n)&&_) s;rw[fQ,T5 hl];rfl
  .rw[T4 hl,iN]at g
   refine Zm ?_;rw[Ys<|Yf g rfl,T9 rfl,Zm<|ZI (by rw[pE1];rfl)]
   show _=PR.ok (FlV.ret<|V.bl<|af (xs.length=n)&&_) s;rw[T4 hl];rfl
 .rw[qY no]
  exact Zm (by simp[pvE,ha])
def ZdX(v:V):Bool:=match v with
 |.tup xs=>match intsV xs with
  |some r=>(hdI r).isSome
  |none=>ak
 |_=>ak
theorem Ub:∀r:Row,ZY (r.map V.int)=aa (r.map λa=>af<|a≠0)
 |[]=>rfl
 |a::r=>by rw[aX,ZY,Ub r];rfl
theorem ZaW:∀r:Row,(r.map λa=>af<|a≠0).any id=(hdI r).isSome
 |[]=>rfl
 |a::r=>by
  rw[aX,gh,ZaW r,hdI];by_cases c:a=0
  .subst c
   rw[T8 #[2]]
   cases hdI r<;>rfl
  .rw[T9 c,T5 c];rfl
def Zca{C:Zq}{U:Env}{i:Nat}{r:Row}(s:DS)(h:U[i]?=aa (aa<|Zd r)):pv C (.blt .any [(.v i)]) U s=.ok (.bl (hdI r).isSome) s:=by
 rw[YM,Zb (Ze h) Zg,Za];show po ((ZY<|r.map V.int).map λbs=>V.bl<|bs.any id) s=_
 rw[Ub];show PR.ok (V.bl _) s=_;rw[ZaW]
def Ui(d:Nat){x:V}(s:DS)(hn:n<=6)(hx:okV x=aj)(hl:∀xs,x=.tup xs->xs.length<=1000):CV (d+3) 34 [spV p n,x] s=.ok (.bl<|isP p n x) s:=by
 refine Zp rfl #[1] rfl ?_
 show rvs #[36] [] YW.body [aa<|spV p n,aa x,ae] [] s=_
 dsimp only[YW]
 rcases JQ hx with⟨xs,rfl⟩|⟨ha,no⟩
 ·
  have hl:=hl xs rfl;rw[guard (by simp[pvE,Z4,Yy])]
  obtain⟨f1,f2⟩:=ZbS (C:=CV<|d+2) (ms:=[]) (i:=2) (it:=.of<|.v 1) (b:=[.ite (.or (.not<|.call 33 [(.v 0),(.v 2)])<|.not<|.blt .any [(.v 2)]) #[19] []]) (L:=xs) (q:=λv=>!(Z5 p n v&&ZdX v)) (v:=.bl ak) (U:=λo=>[aa<|spV p n,aa<|.tup xs,o]) ae
   (by rw[List.map_id];simp[pvE]) (λ_ _=>rfl) (λv hv=>by
    have e:=xU (p:=p) d s hn<|Xj hx v hv;have e1:=Zr (Zb (Ze (i:=0) (U:=[aa<|spV p n,aa<|.tup xs,aa v]) rfl)<|Zb (Ze (i:=2) rfl) Zg) e;show rvs _ _ _ [aa<|spV p n,aa<|.tup xs,aa v] _ _=if _ then _ else PR.ok (FlV.nx [aa<|spV p n,aa<|.tup xs,aa v] []) s
    cases hb:Z5 p n v with
    |false=>
     rw[hb]at e1;rw[T9 (by simp[hb])]
     refine Zm ?_;rw[Ys (Yf (by rw[Zdc,X2 e1];rfl) rfl),T9 rfl]
     exact Zm<|ZI (by rw[pE1];rfl)
    |true=>
     rw[hb]at e1;obtain⟨r,rfl,hr⟩:=j9 hb;have e2:=Zca (C:=CV<|d+2) (U:=[aa<|spV p n,aa<|.tup xs,aa<|Zd r]) (i:=2) s rfl;have e3:ZdX (Zd r)=(hdI r).isSome:=by
      show(match intsV (r.map V.int)with|some r=>(hdI r).isSome|none=>ak)=_
      rw[YR]
     have e4:=Yf (Zhc (X2 e1)<|X2 e2) rfl;rw[e3,sN];cases hh:(hdI r).isSome with
     |false=>
      rw[hh,iN]at e4;rw[iN,T9 rfl];refine Zm ?_;rw[Ys e4,T9 rfl];exact Zm<|ZI (by rw[pE1];rfl)
     |true=>
      rw[hh]at e4;rw[T8 #[2],Zf ((Ys e4).trans (by rw[T8 #[2],rvs])),rvs])
  cases ha:xs.any λv=>!(Z5 p n v&&ZdX v)with
  |true=>
   rw[Zm<|f1 ha];have:isP p n (.tup xs)=ak:=by
    cases hp:isP p n (.tup xs)with
    |false=>rfl
    |true=>
     exfalso
     obtain⟨P,e,hP⟩:=Gj.mp hp;cases e;obtain⟨v,hv,hq⟩:=fK.mp ha;obtain⟨r,hr,rfl⟩:=aO.mp hv;obtain⟨k,hk,_⟩:=hP.head fld.one0 hr;have e3:ZdX (Zd r)=(hdI r).isSome:=by
      show(match intsV (r.map V.int)with|some r=>(hdI r).isSome|none=>ak)=_
      rw[YR]
     rw[Zen<|hP.row r hr,e3,hk]at hq;cases hq
   rw[this]
  |false=>
   obtain⟨o,f3⟩:=f2 ha;rw[Zf f3];have hall:=λv hv=>by
    have:=List.any_eq_false.mp ha v hv;simp at this;exact this.1
   obtain⟨R,rfl,hR⟩:=Wm<|aY.mpr hall;obtain⟨P,e4,hS⟩:=Wa d (v:=.tup<|R.map Zd) s hn hR (by simpa using hl) rfl
   refine Zm<|ZI ?_;have e5:=GR (U:=[aa<|spV p n,aa<|Zc R,o]) (Zr (Zb (Ze (i:=0) rfl)<|Zb (Ze (i:=1) rfl) Zg) e4)<|Ze (i:=1) rfl;rw[show af (P=R)=isP p n (.tup<|R.map Zd)from ?_]at e5
   .exact e5
   .rw[cA,T0,Gj]
    constructor
    .rintro rfl
     exact#[P,rfl,hS.part]
    .rintro ⟨Q,e,hQ⟩
     have e:=e;have e:R=Q:=by
      have:=congrArg (λv=>match v with|V.tup ks=>Ye ks|_=>ae) e
      have:Ye (R.map Zd)=Ye (Q.map Zd):=this;rw[YD,YD]at this;exact aq this
     subst e;exact hS.uniq<|Spans.self hQ
 .rw[Za4 no]
  exact Zm (by simp[pvE,ha])
end
noncomputable def GK:List V:=[.non,.bl aj,.bl ak,.int<|-1,.int 0,.int 1,.str<|bL "",.str<|bL "1",.tup [],.lst [],.tup [.tup []],.tup [.tup [.int 0]],.tup [.tup [.int 1]],.lst [.tup [.int 1]],.dct<|.inl [(0,1)],.tup [.non],.int<|10^29]
noncomputable def uK:List V:=[.tup [.tup [.int 1,.int 0],.tup [.int 0,.int 1]],.tup [.tup [.bl aj]],.tup [.tup [.tup [.int 1]]]]
def Zgc:∀v∈GK++uK,okV v=aj:=by
 intro v h;refine Xj ?_ v h;rfl
def uL:∀v∈GK++uK,∀xs,v=.tup xs->xs.length<=1000:=by
 intro v h xs e;subst e;simp only[GK,uK,pS,eN,ay,bG,or_false,reduceCtorEq,false_or,V.tup.injEq]at h;rcases h with rfl|rfl|rfl|rfl|rfl|rfl|rfl|rfl<;>decide
def ZdA(d:Nat)(s:DS):∃x s',CV (d+2) 36 [.drw] s=.ok x s'/\Th 1000 x:=by
 obtain⟨v,s1,t1,t2,t3⟩:=Ya d s (m:=20) (i:=0) (U:=[aa .drw,aa<|.lst GK]) rfl Yc #[1] #[1]
 have e1:pv #[13] (.bin .add (.v 1)<|.lst [(.tup [(.tup [(.n 1),(.n 0)]),(.tup [(.n 0),(.n 1)])]),(.tup [(.tup [(.c<|.bl aj)])]),(.tup [(.tup [(.tup [(.n 1)])])])]) [aa .drw,aa<|.lst GK] s=.ok (.lst<|GK++uK) s:=by
  have g:pv #[13] (.lst [(.tup [(.tup [(.n 1),(.n 0)]),(.tup [(.n 0),(.n 1)])]),(.tup [(.tup [(.c<|.bl aj)])]),(.tup [(.tup [(.tup [(.n 1)])])])]) [aa .drw,aa<|.lst GK] s=.ok (.lst uK) s:=by simp[pvE,ofD,uK]
  exact Jf #[11] g #[1]
 obtain⟨x,hx,e2⟩:=pick e1 t1 t2 t3;refine#[x,s1,Zp rfl #[1] rfl ?_,Zgc x hx,uL x hx]
 show rvs #[13] [] WE.body [aa .drw,ae] [] s=_
 dsimp only[WE]
 rw[Zf (ρ':=[aa .drw,aa<|.lst GK]) (os':=[]) (s':=s) (by simp[pvE,ofD,GK,pE6,Xh,QW])]
 exact Zm<|ZI e2
section
variable{C:Zq}{U:Env}{s:DS}{a b e:E}{x y:V}{xs ys:List V}
theorem Gc{i:Int}{k:Nat}(he:pv C e U s=.ok (.int k) s)(hk:k<1000):∃ys,pv C (.bin .mul (.tup [(.c<|.int i)]) e) U s=.ok (.tup ys) s/\YN ys=aj/\ys.length<=1000:=by
 refine#[(aJ k [V.int i]).flatten,?_,U5 λx hx=>?_,?_]
 .rw[pE7,Xg Yc,Za,he,Za]
  show(if 0<=(k:Int)/\(k:Int)<1000/\[V.int i].length<=1000 then PR.ok (V.tup (aJ (k:Int).toNat [V.int i]).flatten) s else .no)=_
  rw[T9 #[by lia,by lia,by show 1<=1000;lia],fC]
 .obtain⟨l,hl,hx⟩:=List.mem_flatten.mp hx
  rw[g7 hl]at hx;rw[aT.mp hx];rfl
 .rw[List.length_flatten,oC]
  simp;lia
theorem UA{Q:V->Prop}{es:List E}(hl:es.length<=1000)(h:∀e∈es,∃v,pv C e U s=.ok v s/\Q v):∃vs,pv C (.lst es) U s=.ok (.lst vs) s/\vs.length=es.length/\∀v∈vs,Q v:=by
 obtain⟨vs,e,l,q⟩:=wX h;refine#[vs,?_,l,q];rw[pE4,e,Za,T9 #[16]]
def Vw{k:Int}(h:pv C a U s=.ok (.int k) s):pv C (.bin .add a<|.n 1) U s=.ok (.int<|k+1) s:=UV h Yc
def x6{ms:List Nat}{t:E}{z l:List Sm}(h:pv C t U s=.ok (.bl ak) s):rvs C ms (.ite t z []::l) U [] s=rvs C ms l U [] s:=guard h
theorem GJ{lo hi:E}{j k:Int}(ha:pv C a U s=.ok (.tup xs) s)(hlo:pv C lo U s=.ok (.int j) s)(hhi:pv C hi U s=.ok (.int k) s)(hb:pv C b U s=.ok x s)(hl:xs.length<=400)(ho:YN xs=aj)(hx:okV x=aj):∃ys,pv C (.bin .add (.bin .add (.sl a ae<|aa lo)<|.tup [b])<|.sl a (aa hi) ae) U s=.ok (.tup ys) s/\YN ys=aj/\ys.length<=1000:=by
 have l1:=XS (xs:=xs) (lo:=ae) (hi:=aa j);have l2:=XS (xs:=xs) (lo:=aa k) (hi:=ae);refine#[(YF xs ae (aa j)++[x])++YF xs (aa k) ae,Xy (Xy (wP ha hlo) (Xg hb)<|by simp;lia) (UH ha hhi) (by simp;lia),QD (QD (WR ho) ?_)<|WR ho,by simp;lia]
 show(okV x&&aj)=aj;rw[hx];rfl
theorem wS{lo hi:E}{j k:Int}(ha:pv C a U s=.ok (.tup xs) s)(hlo:pv C lo U s=.ok (.int j) s)(hhi:pv C hi U s=.ok (.int k) s)(hl:xs.length<=400)(ho:YN xs=aj):∃ys,pv C (.bin .add (.sl a ae<|aa lo)<|.sl a (aa hi) ae) U s=.ok (.tup ys) s/\YN ys=aj/\ys.length<=1000:=by
 have l1:=XS (xs:=xs) (lo:=ae) (hi:=aa j);have l2:=XS (xs:=xs) (lo:=aa k) (hi:=ae);exact#[_,Xy (wP ha hlo) (UH ha hhi) #[0],QD (WR ho)<|WR ho,by simp;lia]
end
section
variable{p n:Nat}[Base p]
theorem qd(d:Nat)(s:DS)(hn:n<=6):∃x s',CV (d+3) 12 [.drw,spV p n,Zc []] s=.ok x s'/\Th 1000 x:=by
 let U:Env:=[aa .drw,aa<|spV p n,aa<|Zc [],ae,ae,ae,ae,ae,ae,ae,ae]
 have e1:∀s,pv #[36] (.ix (.v 1)<|.n 1) U s=.ok (.int n) s:=λs=>ix1 rfl
 obtain⟨vs,e2,l2,q2⟩:=UA (C:=CV<|d+2) (U:=U) (s:=s) (es:=[(.lst []),(.c .non),(.tup [(.tup [])]),(.tup [(.bin .mul (.tup [(.n 0)])<|.ix (.v 1)<|.n 1)]),(.tup [(.bin .mul (.tup [(.n 1)])<|.bin .add (.ix (.v 1)<|.n 1)<|.n 1)]),.dnew,(.c<|.str<|bL "none")]) #[1] (λe he=>by
  simp only[ay,bG,or_false]at he;have nt:∀x:V,okV x=aj->(∀xs,x≠.tup xs)->Th 1000 x:=λx h1 h2=>#[h1,λxs e=>T7 e<|h2 xs]
  rcases he with rfl|rfl|rfl|rfl|rfl|rfl|rfl
  .exact#[.lst [],by simp[pvE],nt _ rfl λxs z=>by cases z]
  .exact#[.non,by rw[pE1];rfl,nt _ rfl λxs z=>by cases z]
  .exact#[.tup [.tup []],by simp[pvE],Y0 rfl #[1]]
  .obtain⟨ys,g,ho,_⟩:=Gc (e1 s) #[0]
   exact#[_,Xg g,Y0 (by show(YN ys&&aj)=aj;rw[ho];rfl) (by show 1<=1000;decide)]
  .obtain⟨ys,g,ho,_⟩:=Gc (k:=n+1) (by have:=Vw<|e1 s;rw[this];rfl) #[0]
   exact#[_,Xg g,Y0 (by show(YN ys&&aj)=aj;rw[ho];rfl) (by show 1<=1000;decide)]
  .exact#[.dct<|.inl [],by rw[pE5],nt _ rfl λxs z=>by cases z]
  .exact#[.str<|bL "none",by rw[pE1];rfl,nt _ rfl λxs z=>by cases z])
 obtain⟨v,s1,t1,t2,t3⟩:=Ya (d+1) s (m:=7) (i:=0) (U:=U) rfl Yc #[1] #[1]
 obtain⟨x,hx,e3⟩:=pick e2 t1 t2 (by rw[l2];exact t3)
 refine#[x,s1,Zp rfl #[1] rfl ?_,q2 x hx]
 show rvs #[36] [] Yh.body U [] s=_;have g:pv #[36] (.cmp .eq (.v 2)<|.tup []) U s=.ok (.bl aj) s:=by
  have:=GR (C:=CV<|d+2) (U:=U) (s:=s) (Q:=[]) (a:=.v 2) (b:=.tup []) #[11] (by rw[pE3,pvs];rfl)
  rw[T5 rfl]at this;exact this
 refine Zm ?_;rw[Ys<|Yf g rfl,T9 rfl];exact Zm<|ZI e3
theorem ut(d:Nat){P:List Row}(s:DS)(hn:n<=6)(h1:1<=n)(hP:pZ p n P)(h0:P≠[]):∃x s',CV (d+3) 12 [.drw,spV p n,Zc P] s=.ok x s'/\Th 1000 x:=by
 have hz:=dsum hP;have hpos:=List.length_pos_iff.mpr h0
 let U (a3 a4 a5 a6 a7 a8 a9 a10:Option V):Env:=[aa .drw,aa<|spV p n,aa<|Zc P,a3,a4,a5,a6,a7,a8,a9,a10]
 have ep:∀a3 a4 a5 a6 a7 a8 a9 a10 s,pv #[36] (.v 2) (U a3 a4 a5 a6 a7 a8 a9 a10) s=.ok (.tup<|P.map Zd) s:=λ_ _ _ _ _ _ _ _ s=>Ze rfl
 have e0:∀a3 a4 a5 a6 a7 a8 a9 a10 s,pv #[36] #[34] (U a3 a4 a5 a6 a7 a8 a9 a10) s=.ok (.int p) s:=λ_ _ _ _ _ _ _ _ s=>ix0 rfl
 have e1:∀a3 a4 a5 a6 a7 a8 a9 a10 s,pv #[36] (.ix (.v 1)<|.n 1) (U a3 a4 a5 a6 a7 a8 a9 a10) s=.ok (.int n) s:=λ_ _ _ _ _ _ _ _ s=>ix1 rfl
 have op:=Ge P;have lp:(P.map Zd).length<=400:=by rw[ax];lia
 obtain⟨v1,s1,t1,t2,t3⟩:=Ya (d+1) s (i:=0) (e:=.blt .len [(.v 2)]) (U:=U ae ae ae ae ae ae ae ae) rfl (W0<|Ze rfl) #[0] #[0]
 obtain⟨j,rfl⟩:∃j:Nat,v1=j:=#[v1.toNat,by lia]
 have hj:j<P.length:=by lia
 have hr:=hP.row _<|ba hj;have er:pv #[36] (.ix (.v 2)<|.v 3) (U (aa<|.int j) ae ae ae ae ae ae ae) s1=.ok (Zd P[j]) s1:=by
  rw[Vf,Ze rfl,Za,Ze rfl,Za];show po (at' (P.map Zd) (j:Int)) s1=_;rw[VO (by rw[aU,ai hj];rfl)];rfl
 obtain⟨v2,s2,u1,u2,u3⟩:=Ya (d+1) s1 (i:=0) rfl (e1 ..) #[0] #[0]
 let ρ5:Env:=U (aa<|.int j) (aa<|Zd P[j]) (aa<|.int v2) ae ae ae ae ae
 obtain⟨os,m1,m2,m3⟩:=UA (C:=CV<|d+2) (U:=ρ5) (s:=s2) (Q:=λv=>okV v=aj) (es:=[(.n 0),(.n 1),#[34],(.bin .sub #[34]<|.n 1),(.neg<|.n 1),(.c<|.bl aj),(.c .non),(.c<|.str<|bL "1"),(.tup [(.n 1)]),(.bin .pow (.n 10)<|.n 29)]) #[1] (λe he=>by
  simp only[ay,bG,or_false]at he;rcases he with rfl|rfl|rfl|rfl|rfl|rfl|rfl|rfl|rfl|rfl
  .exact#[_,Yc,rfl]
  .exact#[_,Yc,rfl]
  .exact#[_,e0 ..,rfl]
  .exact#[.int<|(p:Int)-1,by rw[pE7,e0,Za,Yc,Za];rfl,rfl]
  .exact#[.int<|-1,by rw[pE8,Yc];rfl,rfl]
  .exact#[.bl aj,by rw[pE1];rfl,rfl]
  .exact#[.non,by rw[pE1];rfl,rfl]
  .exact#[.str<|bL "1",by rw[pE1];rfl,rfl]
  .exact#[_,Xg Yc,rfl]
  .exact#[.int<|10^29,by simp[pvE,ofD,Xh,QW],rfl])
 obtain⟨v3,s3,w1,w2,w3⟩:=Ya (d+1) s2 (m:=10) (i:=0) (U:=ρ5) rfl Yc #[1] #[1]
 obtain⟨od,hod,e6⟩:=pick m1 w1 w2 (by rw[m2];exact w3)
 have ho:=m3 od hod
 let ρ6 (a7:Option V):Env:=U (aa<|.int j) (aa<|Zd P[j]) (aa<|.int v2) (aa od) a7 ae ae ae
 have e4:∀a s,pv #[36] (.v 4) (ρ6 a) s=.ok (.tup<|P[j].map .int) s:=λa s=>Ze rfl
 have e5:∀a s,pv #[36] (.v 5) (ρ6 a) s=.ok (.int v2) s:=λa s=>Ze rfl
 have or':=Gd P[j];have lr:(P[j].map V.int).length<=400:=by rw[ax,hr.1];lia
 have tok:∀ys,YN ys=aj->okV (.tup ys)=aj:=λys h=>h
 obtain⟨ra,a1,a2,a3⟩:=UA (Q:=λv=>okV v=aj) (es:=[(.bin .add (.bin .add (.sl (.v 4) ae<|aa<|.v 5)<|.tup [(.v 6)])<|.sl (.v 4) (aa<|.bin .add (.v 5)<|.n 1) ae),(.bin .add (.bin .add (.sl (.v 4) ae<|aa<|.v 5)<|.tup [(.v 6)])<|.sl (.v 4) (aa<|.v 5) ae),(.bin .add (.sl (.v 4) ae<|aa<|.v 5)<|.sl (.v 4) (aa<|.bin .add (.v 5)<|.n 1) ae),(.blt .list [(.v 4)]),(.c .non)]) #[1] (λe he=>by
  simp only[ay,bG,or_false]at he;rcases he with rfl|rfl|rfl|rfl|rfl
  .obtain⟨ys,g,h,_⟩:=GJ (e4 ae s3) (e5 ae s3) (Vw<|e5 ae s3) (Ze (i:=6) rfl) lr or' ho
   exact#[_,g,h]
  .obtain⟨ys,g,h,_⟩:=GJ (e4 ae s3) (e5 ae s3) (e5 ae s3) (Ze (i:=6) rfl) lr or' ho
   exact#[_,g,h]
  .obtain⟨ys,g,h,_⟩:=wS (e4 ae s3) (e5 ae s3) (Vw<|e5 ae s3) lr or'
   exact#[_,g,h]
  .exact#[.lst<|P[j].map .int,by rw[YM,Zb (e4 ae s3) Zg];rfl,or']
  .exact#[.non,by rw[pE1];rfl,rfl])
 have hp:=Uo (p:=p);have b1:=Zw (cap:=[1]) (nl:=1) (t:=[0]) (it:=.of<|.v 4) (elt:=.bin .mod (.bin .mul (.n 2)<|.v 0)<|.ix (.v 1)<|.n 0) (U:=ρ6<|aa<|.lst ra) (s:=s3)
  (by rw[wE7,e4];rfl) (by rw[hr.1];unfold lim;lia) (λa ha=>#[[aa<|.int a,aa<|spV p n],rfl,by
   have h2:=hr.2 a ha;have f1:=Z0 (a:=2) #[0] #[0]
   have f2:=Z0 (a:=a) #[0] #[0]
   have g2:=ix0 (C:=CV<|d+2) (i:=1) (U:=[aa<|.int a,aa<|spV p n]) (s:=s3) rfl;have g:pv #[36] (.bin .mul (.n 2)<|.v 0) [aa<|.int a,aa<|spV p n] s3=.ok (.int<|2*a) s3:=by simp[pvE,ofD,Xh,QW,f1,f2]
   have hp0:(0:Int)<p:=by lia
   rw[pE7,g,Za,g2,Za];show(if(0:Int)<p then _ else _)=_
   rw[T9 hp0]])
 have b2:pv #[36] (.blt .tuple [(.comp1 [1] 1 [0] (.of<|.v 4) []<|.bin .mod (.bin .mul (.n 2)<|.v 0)<|.ix (.v 1)<|.n 0)]) (ρ6<|aa<|.lst ra) s3=.ok (.tup<|P[j].map λa=>V.int<|2*a%p) s3:=by
  rw[YM,Zb b1 Zg];rfl
 obtain⟨zs,b3,b4,_⟩:=Gc (e1 ..) #[0]
 obtain⟨r2,s4,b5,b6⟩:=U8 (p:=p) d s3 hn;have b7:pv #[36] (.lst [(.blt .tuple [(.comp1 [1] 1 [0] (.of<|.v 4) []<|.bin .mod (.bin .mul (.n 2)<|.v 0)<|.ix (.v 1)<|.n 0)]),(.bin .mul (.tup [(.n 0)])<|.ix (.v 1)<|.n 1),(.call 6 #[26])]) (ρ6<|aa<|.lst ra) s3=.ok (.lst [.tup<|P[j].map λa=>V.int<|2*a%p,.tup zs,Zd r2]) s4:=by
  rw[pE4,Zb b2<|Zb b3<|Zb (Zr #[25] b5) Zg];rfl
 let rb:List V:=ra++[.tup<|P[j].map λa=>V.int<|2*a%p,.tup zs,Zd r2]
 have hrb:∀v∈rb,okV v=aj:=λv hv=>by
  rcases bK.mp hv with z|z
  .exact a3 v z
  .simp only[ay,bG,or_false]at z
   rcases z with rfl|rfl|rfl
   .exact tok _ (U5 λx hx=>by obtain⟨a,_,rfl⟩:=aO.mp hx;rfl)
   .exact tok _ b4
   .exact Zby r2
 have lrb:rb.length=8:=by rw[aN,a2];rfl
 have b8:pv #[36] (.bin .add (.v 7)<|.lst [(.blt .tuple [(.comp1 [1] 1 [0] (.of<|.v 4) []<|.bin .mod (.bin .mul (.n 2)<|.v 0)<|.ix (.v 1)<|.n 0)]),(.bin .mul (.tup [(.n 0)])<|.ix (.v 1)<|.n 1),(.call 6 #[26])]) (ρ6<|aa<|.lst ra) s3=.ok (.lst rb) s4:=by
  rw[pE7,Ze rfl,Za,b7,Za];show(if ra.length+3<=lim then _ else _)=_
  rw[T9 (by rw[a2];decide)]
 obtain⟨v5,s5,c1,c2,c3⟩:=Ya (d+1) s4 (m:=11) (i:=0) (U:=ρ6<|aa<|.lst rb) rfl Yc #[1] #[1]
 obtain⟨ix,hix,c4⟩:=pick (a:=.lst [(.n 0),(.n 0),(.n 0),(.n 0),(.n 1),(.n 2),(.n 3),(.n 4),(.n 5),(.n 6),(.n 7)]) (xs:=[.int 0,.int 0,.int 0,.int 0,.int 1,.int 2,.int 3,.int 4,.int 5,.int 6,.int 7]) (s:=s4) (by simp[pvE,ofD]) c1 c2 c3
 obtain⟨q,rfl,hq0,hq⟩:∃q:Int,ix=.int q/\0<=q/\q<8:=by
  simp at hix;rcases hix with rfl|rfl|rfl|rfl|rfl|rfl|rfl|rfl<;>exact#[_,rfl,by decide,by decide]
 obtain⟨one,hone,c5⟩:=pick (a:=.v 7) #[11] c4 hq0 (by rw[lrb];exact hq)
 have oone:=hrb one hone
 let ρ8 (a9 a10:Option V):Env:=U (aa<|.int j) (aa<|Zd P[j]) (aa<|.int v2) (aa od) (aa<|.lst rb) (aa one) a9 a10
 obtain⟨v6,s6,g1,g2,g3⟩:=Ya (d+1) s5 (m:=8) (i:=0) (U:=ρ8 ae ae) rfl Yc #[1] #[1]
 have e3:∀a b s,pv #[36] (.v 3) (ρ8 a b) s=.ok (.int j) s:=λ_ _ s=>Ze rfl
 have lt9:∀k:Int,pv #[36] (.cmp .lt (.v 9)<|.c<|.int k) (ρ8 (aa<|.int v6) ae) s6=.ok (.bl<|af<|v6<k) s6:=λk=>by
  rw[Y9,Ze rfl,Za,Yc,Za];rfl
 have start:∀x s',rvs #[36] [] (Yh.body.drop 9) (ρ8 (aa<|.int v6) ae) [] s6=.ok (.ret x) s'->CV (d+3) 12 [.drw,spV p n,Zc P] s=.ok x s':=λx s' h=>by
  refine Zp rfl #[1] rfl ?_
  show rvs #[36] [] Yh.body #[41] [] s=_;have g:pv #[36] (.cmp .eq (.v 2)<|.tup []) #[41] s=.ok (.bl ak) s:=by
   have:=GR (C:=CV<|d+2) (U:=U ae ae ae ae ae ae ae ae) (s:=s) (Q:=[]) (a:=.v 2) (b:=.tup []) #[11] (by rw[pE3,pvs];rfl)
   rw[T4 h0]at this;exact this
  dsimp only[Yh]
  rw[guard g,Zf<|ZE t1 rfl];show rvs _ _ _ (U (aa<|.int j) ae ae ae ae ae ae ae) _ _=_;rw[Zf<|ZE er rfl];show rvs _ _ _ (U (aa<|.int j) (aa<|Zd P[j]) ae ae ae ae ae ae) _ _=_;rw[Zf<|ZE u1 rfl];show rvs _ _ _ ρ5 _ _=_;rw[Zf<|ZE e6 rfl];show rvs _ _ _ (ρ6 ae) _ _=_;rw[Zf<|ZE a1 rfl];show rvs _ _ _ (ρ6<|aa<|.lst ra) _ _=_;rw[Zf<|ZE b8 rfl];show rvs _ _ _ (ρ6<|aa<|.lst rb) _ _=_;rw[Zf<|ZE c5 rfl];show rvs _ _ _ (ρ8 ae ae) _ _=_;rw[Zf<|ZE g1 rfl];exact h
 by_cases k4:v6<4
 .obtain⟨ys,h1,h2,h3⟩:=GJ (b:=.v 8) (ep ..) (e3 (aa<|.int v6) ae s6) (Vw<|e3 (aa<|.int v6) ae s6) #[11] lp op oone
  refine#[.tup ys,s6,start _ _ ?_,Y0 h2 h3];refine Zm ?_;rw[Ys<|Yf (lt9 4) rfl,T9<|T5 k4];exact Zm<|ZI h1
 by_cases k6:v6<6
 .obtain⟨ys,h1,h2,h3⟩:=GJ (b:=.v 8) (ep ..) (e3 (aa<|.int v6) ae s6) (e3 (aa<|.int v6) ae s6) #[11] lp op oone
  refine#[.tup ys,s6,start _ _ ?_,Y0 h2 h3]
  dsimp only[Yh,sR]
  have z:=lt9 4;rw[T4 k4]at z;rw[x6 z];refine Zm ?_;rw[Ys<|Yf (lt9 6) rfl,T9<|T5 k6];exact Zm<|ZI h1
 let ρ9 (a10:Option V):Env:=ρ8 (aa<|.int v6) a10
 obtain⟨ws,y1,y2,y3⟩:=UA (es:=[(.bin .add (.sl (.v 2) ae<|aa<|.v 3)<|.sl (.v 2) (aa<|.bin .add (.v 3)<|.n 1) ae),(.rev<|.v 2),(.blt .list [(.v 2)]),(.tup [(.v 2)]),(.bin .add (.v 2)<|.sl (.v 2) (aa<|.neg<|.n 1) ae),(.bin .add (.sl (.v 2) (aa<|.v 3) ae)<|.sl (.v 2) ae<|aa<|.v 3)]) #[1] (λe he=>by
  simp only[ay,bG,or_false]at he;have ep':pv #[36] (.v 2) (ρ9 ae) s6=.ok (.tup<|P.map Zd) s6:=ep ..;have e3':=e3 (aa<|.int v6) ae s6;rcases he with rfl|rfl|rfl|rfl|rfl|rfl
  .obtain⟨ys,h1,h2,h3⟩:=wS ep' e3' (Vw e3') lp op
   exact#[_,h1,Y0 h2 h3]
  .refine#[.tup (P.map Zd).reverse,by rw[Zha,ep'];rfl,Y0 (U5 λx hx=>Xj op x<|ei.mp hx) (by rw[kD];lia)]
  .exact#[.lst<|P.map Zd,by rw[YM,Zb ep' Zg];rfl,op,λxs z=>by cases z]
  .exact#[_,Xg ep',Y0 (by show(YN _&&aj)=aj;rw[op];rfl) (by show 1<=1000;decide)]
  .have l1:=XS (xs:=P.map Zd) (lo:=aa<|-1) (hi:=ae)
   exact#[_,Xy ep' (UH ep'<|by rw[pE8,Yc];rfl) #[0],Y0 (QD op<|WR op) (by rw[aN];lia)]
  .have l1:=XS (xs:=P.map Zd) (lo:=aa (j:Int)) (hi:=ae)
   have l2:=XS (xs:=P.map Zd) (lo:=ae) (hi:=aa (j:Int));exact#[_,Xy (UH ep' e3') (wP ep' e3') #[0],Y0 (QD (WR op)<|WR op) (by rw[aN];lia)])
 obtain⟨v7,s7,z1,z2,z3⟩:=Ya (d+1) s6 (m:=6) (i:=0) (U:=ρ9<|aa<|.lst ws) rfl Yc #[1] #[1]
 obtain⟨x,hx,z4⟩:=pick (a:=.v 10) #[11] z1 z2 (by rw[y2];exact z3)
 refine#[x,s7,start _ _ ?_,y3 x hx]
 dsimp only[Yh,sR]
 have z:=lt9 4;rw[T4 k4]at z;have zz:=lt9 6;rw[T4 k6]at zz;rw[x6 z,x6 zz,Zf<|ZE y1 rfl];exact Zm<|ZI z4
def zn(d:Nat){P:List Row}(s:DS)(hn:n<=6)(h1:1<=n)(hP:pZ p n P):∃x s',CV (d+3) 12 [.drw,spV p n,Zc P] s=.ok x s'/\Th 1000 x:=by
 cases P with|nil=>exact qd d s hn|cons r P=>exact ut d s hn h1 hP #[2]
theorem yp(d:Nat){P:List Row}{h:Nat}(s:DS)(hP:∀r∈P,Zk p n r)(hl:P.length<=1000)(hh:h<n):CV (d+1) 15 [Zc P,Zi h] s=.ok (.bl<|P.all λr=>af<|gt r h=0) s:=by
 refine Zp rfl #[1] rfl ?_
 have hc:=Zw (C:=CV d) (cap:=[1]) (nl:=1) (t:=[0]) (it:=.of<|.v 0) (elt:=.cmp .eq (.ix (.v 0)<|.v 1)<|.n 0) (U:=[aa<|Zc P,aa<|Zi h]) (s:=s) (l:=P) (e:=Zd) (g:=λr=>V.bl<|af<|gt r h=0)
  (by simp[pvE,Zc]) #[16] (λr hr=>#[_,rfl,by
   have:=WN (by rw[(hP r hr).1];exact hh)
   simp[pvE,Zd,Zi,this,Zt]])
 have ht:=ZW (g:=λr:Row=>af<|gt r h=0) P
 simp[XC,pvE,hc,ht,fQ,sL]
def xB(d:Nat){i lo hi:Int}(s:DS)(h1:lo<=i)(h2:i<=hi):CV (d+2) 27 [.int i,.int lo,.int hi] s=.ok .non s:=by
 have e:=zq d (x:=.int i) (lo:=lo) (hi:=hi) s rfl;refine Us (U:=[aa<|.int i,aa<|.int lo,aa<|.int hi]) (os:=[]) rfl #[1] rfl ?_
 simp[Vu,pvE,e,isW,h1,h2]
def Zeu(h:Nat):(aJ h [V.int 0]).flatten=(aJ h (0:Int)).map V.int:=by
 induction h with|zero=>rfl|succ k ih=>rw[cp,de,ih];rfl
theorem G5{C:Zq}{U:Env}{s:DS}{a b:E}{i j:Nat}(h1:pv C a U s=.ok (.int i) s)(h2:pv C b U s=.ok (.int j) s)(hi:i<1000000)(hj:j<1000000):pvw C (.rng2 a b) U s=.ok ((aM<|j-i).map λk=>Zi<|i+k) s:=by
 rw[wE2,h1,Za,h2,Za];show(if(Yt (i:Int)&&Yt (j:Int))=aj then PR.ok (ZV i ((j:Int)-i).toNat) s else .no)=_
 rw[Wf #[0] #[0],Wf #[0] #[0],T9<|show(aj&&aj)=aj from rfl,show((j:Int)-i).toNat=j-i by lia]
 rfl
theorem ye(d:Nat){h:Nat}(s:DS)(hn:n<=6)(hh:h<n):CV (d+1) 28 [spV p n,Zi h] s=.ok (.lst<|(ZZ p n h).map Zd) s:=by
 refine Zp rfl #[1] rfl ?_
 show rvs (CV d) [] (.asg [2,3] (.v 0) :: .asg [4] (.lst [(.bin .add (.bin .mul (.tup [(.n 0)])<|.v 1)<|.tup [(.n 1)])]) :: .forr [5] (.rng2 (.bin .add (.v 1)<|.n 1)<|.v 3) [.asg [4]<|.comp2 [2] 2 [0] (.of<|.v 4) [] [1] (.rng1<|.v 2) []<|.bin .add (.v 0)<|.tup [(.v 1)]] :: .ret (.v 4)::[]) [aa<|spV p n,aa<|Zi h,ae,ae,ae,ae] [] s=_;have hp:=Uo (p:=p);rw[Zf<|Xq (p:=p) (n:=n) _ _ (by simp[pvE]) #[2]]
 have er:=Zeu h;rw[Zf (ρ':=[aa<|spV p n,aa<|Zi h,aa<|.int p,aa<|.int n,aa<|.lst<|[aJ h (0:Int)++[1]].map Zd,ae]) (os':=[]) (s':=s) (by
  have h1:(h:Int)<1000:=by lia
  have h2:h+1<=lim:=by unfold lim;lia
  have h3:(aJ h<|V.int 0).length+1<=16777216:=by rw[cS];lia
  rw[oC]at er;have h4:h<=16777215:=by lia
  simp[pvE,Zi,h1,er,Zd,h4])]
 obtain⟨o',hI,e⟩:=Vg (t:=[5]) (it:=.rng2 (.bin .add (.v 1)<|.n 1)<|.v 3) (b:=[.asg [4]<|.comp2 [2] 2 [0] (.of<|.v 4) [] [1] (.rng1<|.v 2) []<|.bin .add (.v 0)<|.tup [(.v 1)]]) (L:=aM<|n-(h+1)) (U:=λst o=>[aa<|spV p n,aa<|Zi h,aa<|.int p,aa<|.int n,aa<|.lst<|st.map Zd,o]) (st:=[aJ h (0:Int)++[1]]) (os:=[]) (λl st=>st.length*5^l.length<=15625/\∀r∈st,r.length+l.length<=1000)
  (G5 (by simp[pvE,Zi]) (by simp[pvE]) #[0]<|by lia) #[by
   have:5^(n-(h+1))<=5^6:=cZ #[0] #[0]
   simp only[cT,bi];lia,λr hr=>by rw[aT.mp hr];simp;lia] rfl (λx l st o hst=>by
  obtain⟨h3,h4⟩:=hst;have hsl:(Wz p st).length=st.length*p:=G0 st;have hb:st.length*p*5^l.length<=15625:=by
   have:st.length*p<=st.length*5:=nL _ #[0]
   have h4:st.length*p*5^l.length<=st.length*5*5^l.length:=Nat.mul_le_mul_right _ this;rw[aG,gP]at h3;have h5:st.length*5*5^l.length=st.length*(5^l.length*5):=by rw[nZ,kL 5]
   lia
  have hlim:=bW (mw _<|Nat.pow_pos<|by lia) hb
  refine#[#[by rw[hsl];exact hb,λr hr=>?_],rfl,_,aa<|Zi<|h+1+x,rfl,?_]
  .unfold Wz at hr
   obtain⟨q,hq,hr⟩:=dD.mp hr;obtain⟨k,_,rfl⟩:=aO.mp hr;have:=h4 q hq;rw[aG]at this;rw[aN,cT];lia
  .show rvs (CV d) [] _ [aa<|spV p n,aa<|Zi h,aa<|.int p,aa<|.int n,aa<|.lst<|st.map Zd,aa<|Zi<|h+1+x] [] s=_
   have hc:=yf (C:=CV d) (cap:=[2]) (nl:=2) (t:=[0]) (u:=[1]) (it:=.of<|.v 4) (jt:=.rng1<|.v 2) (elt:=.bin .add (.v 0)<|.tup [(.v 1)]) (U:=[aa<|spV p n,aa<|Zi h,aa<|.int p,aa<|.int n,aa<|.lst<|st.map Zd,aa<|Zi<|h+1+x]) (s:=s) (l:=st) (e:=Zd) (m:=λ_=>aM p) (g:=λr k=>Zd<|r++[(k:Int)])
    (by simp[pvE]) (by rw[kI];simp only[ax,bi];rw[rE,iP];unfold lim;lia) (λr hr=>#[_,rfl,by
     exact Yx #[11] #[0],λk hk=>#[_,rfl,by
     have hr':=h4 r hr;have h6:r.length+1<=16777216:=by lia
     simp[pvE,Zd,Zi,h6]]])
   have ef:(st.flatMap λr=>(aM p).map λ(k:Nat)=>Zd<|r++[(k:Int)])=(Wz p st).map Zd:=by
    unfold Wz;rw[pT];exact congrArg (λf=>st.flatMap f)<|funext λr=>by rw[bY];rfl
   rw[ef]at hc;rw[Zf<|ZE hc rfl,rvs];rfl)
 rw[Zf e];exact Zm<|ZI<|Ze rfl
theorem Zbn{C:Zq}{U:Env}{s:DS}{a b:E}{i j:Nat}(h1:pv C a U s=.ok (.int i) s)(h2:pv C b U s=.ok (.int j) s)(hi:i<1000000)(hj:j<1000000):pvw C (.rrng a b) U s=.ok ((WG j i).map Zi) s:=by
 rw[wE3,h1,Za,h2,Za];show(if(Yt (i:Int)&&Yt (j:Int))=aj then PR.ok (ZV i ((j:Int)-i).toNat).reverse s else .no)=_
 rw[Wf #[0] #[0],Wf #[0] #[0],T9<|show(aj&&aj)=aj from rfl,show((j:Int)-i).toNat=j-i by lia]
 unfold WG ZV;rw[ml,bY];rfl
theorem Zcb{r:Row}{P:List Row}:at' ((P++[r]).map Zd) (-1)=aa (Zd r):=by
 have e:ixN ((P++[r]).map Zd).length (-1)=aa P.length:=by
  rw[ax,aN,cT];unfold ixN;rw[T8 #[0],T9 #[0],show(-1+((P.length+1:Nat):Int)).toNat=P.length by lia]
 unfold at';rw[e];show((P++[r]).map Zd)[P.length]?=_;rw[aU,bP<|aI _,Nat.sub_self];rfl
def qJ(d:Nat){P:List Row}{v:V}{a2 a3 a4:Option V}(s:DS)(hP:pZ p n P):pv #[13] (.ite (.v 1) (.bin .add (.call 13 [(.ix (.v 1)<|.neg<|.n 1)])<|.n 1)<|.n 0) [aa v,aa<|Zc P,a2,a3,a4] s=.ok (Zi<|Yi P) s:=by
 unfold Yi;cases e:P.getLast? with
 |none=>
  rw[lC]at e;subst e;simp[pvE,Zc,Zi]
 |some r=>
  obtain⟨P',rfl⟩:=gU.mp e;obtain⟨k,h1,h2,h3⟩:=hP.head fld.one0 (r:=r) #[2]
  have e1:=Uu d r s;rw[h1]at e1;have e2:pv #[13] (.ix (.v 1)<|.neg<|.n 1) [aa v,aa<|Zc<|P'++[r],a2,a3,a4] s=.ok (Zd r) s:=by
   have:=Zcb (r:=r) (P:=P');simp only[bw,aX,mG]at this;simp[pvE,Zc,this]
  have e3:pv #[13] (.call 13 [(.ix (.v 1)<|.neg<|.n 1)]) [aa v,aa<|Zc<|P'++[r],a2,a3,a4] s=.ok (.int k) s:=Zr (Zb e2 Zg) e1;have e4:pv #[13] (.v 1) [aa v,aa<|Zc<|P'++[r],a2,a3,a4] s=.ok (Zc<|P'++[r]) s:=Ze rfl;rw[Zho,e4,Za];show(po (aa<|!((P'++[r]).map Zd).isEmpty) s).bind _=_;have:((P'++[r]).map Zd).isEmpty=ak:=by cases P'<;>rfl
  rw[this,Z2,Za];show pv #[13] (.bin .add _ _) _ s=_;rw[pE7,e3,Za,pE1];simp[h1,pvE,Zi]
theorem Xa:∀L:List Row,ZP (L.map Zd)=aj
 |[]=>rfl
 |r::L=>by
  show(V.flat (Zd r)&&ZP (L.map Zd))=aj;rw[Xa L,sO];exact XR r
theorem G6(d:Nat){P:List Row}(s:DS)(hn:n<=6)(hP:pZ p n P):CV (d+2) 29 [.lst<|(aM n).map λh=>.lst<|(ZZ p n h).map Zd,Zc P] s=.ok (.lst<|(zD p n P).map Zd) s:=by
 refine Zp rfl #[1] rfl ?_
 have hd:=dsum hP;have hp:=Uo (p:=p)
 let v:V:=.lst<|(aM n).map λh=>.lst<|(ZZ p n h).map Zd
 show rvs #[13] [3] (.asg [2] (.ite (.v 1) (.bin .add (.call 13 [(.ix (.v 1)<|.neg<|.n 1)])<|.n 1)<|.n 0) :: .asg [3] (.lst []) :: .forr [4] (.rrng (.v 2)<|.blt .len [(.v 0)]) [.ite (.call 15 [(.v 1),(.v 4)]) [.ex<|.mt .extend (.v 3) [(.ix (.v 0)<|.v 4)]] []] :: .ret (.v 3)::[]) [aa v,aa<|Zc P,ae,ae,ae] [] s=_;rw[Zf<|ZE (qJ d s hP) rfl];rw[Zf (ρ':=[aa v,aa<|Zc P,aa<|Zi<|Yi P,aa<|.lst<|([]:List Row).map Zd,ae]) (by
  rw[rE1];simp[pvE];rfl)]
 have hf:Yi P<=n:=by
  unfold Yi;cases e:P.getLast? with
  |none=>exact eE _
  |some r=>
   obtain⟨P',rfl⟩:=gU.mp e;have:=hP.pn.lt _ (Yj (show r∈P'++[r] by simp))
   exact this
 obtain⟨o',hI,e⟩:=Vg (t:=[4]) (it:=.rrng (.v 2)<|.blt .len [(.v 0)]) (b:=[.ite (.call 15 [(.v 1),(.v 4)]) [.ex<|.mt .extend (.v 3) [(.ix (.v 0)<|.v 4)]] []]) (L:=WG n<|Yi P) (step:=wb p n P) (U:=λst o=>[aa v,aa<|Zc P,aa<|Zi<|Yi P,aa<|.lst<|st.map Zd,o]) (λl st=>(∀h∈l,h<n)/\st.length+15625*l.length<=100000)
  (by
   have e1:pv #[13] (.blt .len [(.v 0)]) (hide [3] [aa v,aa<|Zc P,aa<|Zi<|Yi P,aa<|.lst<|([]:List Row).map Zd,ae]) s=.ok (.int n) s:=by
    simp[pvE,v]
   exact Zbn (by simp[pvE,Zi]) e1 #[0]<|by lia) #[λh hh=>(US.mp hh).2,by
   unfold WG;simp;lia] rfl (λx l st o hst=>by
  obtain⟨h1,h2⟩:=hst;have hx:=h1 x<|al ..;have hl:(ZZ p n x).length<=15625:=by
   rw[(Jn hx).2];have a1:p^(n-(x+1))<=5^(n-(x+1)):=Nat.pow_le_pow_left #[0] _
   have a2:5^(n-(x+1))<=5^6:=cZ #[0] #[0]
   lia
  have e2:=yp d s hP.row #[0] hx
  rw[aG]at h2;refine#[#[λh hh=>h1 h<|ao _ hh,?_],rfl,_,aa<|Zi x,rfl,?_]
  .unfold wb
   split
   .rw[aN];lia
   .lia
  .show rvs #[13] [3] _ [aa v,aa<|Zc P,aa<|Zi<|Yi P,aa<|.lst<|st.map Zd,aa<|Zi x] [3] s=_
   have e3:Y2 #[13] (.call 15 [(.v 1),(.v 4)]) [aa v,aa<|Zc P,aa<|Zi<|Yi P,aa<|.lst<|st.map Zd,aa<|Zi x] s=.ok (P.all λr=>af<|gt r x=0) s:=Yf (Zr #[25] e2) rfl
   unfold wb;by_cases c:(P.all λr=>af<|gt r x=0)=aj
   .rw[T9 c]
    have e4:at' ((aM n).map λh=>V.lst<|(ZZ p n h).map Zd) (x:Int)=aa (.lst<|(ZZ p n x).map Zd):=VO (by rw[aU,db hx];rfl)
    have e5:rv #[13] [3] (.ex<|.mt .extend (.v 3) [(.ix (.v 0)<|.v 4)]) [aa v,aa<|Zc P,aa<|Zi<|Yi P,aa<|.lst<|st.map Zd,aa<|Zi x] [3] s=.ok (.nx [aa v,aa<|Zc P,aa<|Zi<|Yi P,aa<|.lst<|(st++ZZ p n x).map Zd,aa<|Zi x] [3]) s:=by
     have e6:pv #[13] (.ix (.v 0)<|.v 4) (hide [3] [aa v,aa<|Zc P,aa<|Zi<|Yi P,aa<|.lst<|st.map Zd,aa<|Zi x]) s=.ok (.lst<|(ZZ p n x).map Zd) s:=by
      simp[pvE,v,Zi,e4]
     rw[wm,T9 #[7]]
     show(PR.ok (st.map Zd) s).bind _=_;rw[Za,e6,Za];show(if ZP ((ZZ p n x).map Zd)=aj/\(st.map Zd).length+((ZZ p n x).map Zd).length<=lim then _ else _)=_
     rw[T9 #[Xa _,by rw[ax,ax];unfold lim;lia],bw]
     rfl
    rw[Zf ((Ys e3).trans (by rw[T9 c,Zf e5,rvs])),rvs]
   .rw[T8 c]
    rw[Zf ((Ys e3).trans (by rw[T8 c,rvs])),rvs])
 rw[Zf e];exact Zm<|ZI<|Ze rfl
theorem qA(d:Nat){k:Nat}(s:DS)(hn:n<=6)(hk:k<=n)(hl:∀j,j<=n->(Z6 p n j).length<=1395):CV (d+3) 30 [spV p n,Zi k] s=.ok (.lst<|(Z6 p n k).map Zc) s:=by
 refine Zp rfl #[1] rfl ?_
 show rvs #[36] [] (.asg [2,3] (.v 0) :: .ex (.call 27 [(.v 1),(.n 0),(.v 3)]) :: .asg [4] (.comp1 [0] 1 [0] (.rng1<|.v 3) []<|.call 28 [(.v 1),(.v 0)]) :: .asg [5] (.lst [(.tup [])]) :: .forr [6] (.rng1<|.v 1) [.asg [5]<|.comp2 [4] 2 [0] (.of<|.v 5) [] [1] (.of<|.call 29 [(.v 2),(.v 0)]) []<|.bin .add (.v 0)<|.tup [(.v 1)]] :: .ret (.v 5)::[]) [aa<|spV p n,aa<|Zi k,ae,ae,ae,ae,ae] [] s=_;rw[Zf<|Xq (p:=p) (n:=n) _ _ (by simp[pvE]) #[2]]
 show rvs #[36] [] _ [aa<|spV p n,aa<|Zi k,aa<|.int p,aa<|.int n,ae,ae,ae] [] s=_;rw[Zf<|Zbs<|Zr (Zb #[11]<|Zb (by rw[pE1];rfl)<|Zb #[11] Zg)<|xB d s #[0] #[0]]
 have hc:=Zw (cap:=[0]) (nl:=1) (t:=[0]) (it:=.rng1<|.v 3) (elt:=.call 28 [(.v 1),(.v 0)]) (U:=[aa<|spV p n,aa<|Zi k,aa<|.int p,aa<|.int n,ae,ae,ae])
  (Yx #[11]<|by lia) (by rw[bi];unfold lim;lia) (λh hh=>#[_,rfl,Zr #[25]<|ye (d+1) s hn<|bc.mp hh])
 rw[Zf<|ZE hc rfl]
 let v:V:=.lst<|(aM n).map λh=>.lst<|(ZZ p n h).map Zd
 show rvs #[36] [] _ [aa<|spV p n,aa<|Zi k,aa<|.int p,aa<|.int n,aa v,ae,ae] [] s=_;rw[Zf (ρ':=[aa<|spV p n,aa<|Zi k,aa<|.int p,aa<|.int n,aa v,aa<|.lst<|(Z6 p n 0).map Zc,ae]) (os':=[]) (s':=s) (by simp[pvE,Z6,Zc])]
 obtain⟨o',hI,e⟩:=Vg (t:=[6]) (it:=.rng1<|.v 1) (b:=[.asg [5]<|.comp2 [4] 2 [0] (.of<|.v 5) [] [1] (.of<|.call 29 [(.v 2),(.v 0)]) []<|.bin .add (.v 0)<|.tup [(.v 1)]]) (step:=λPs _=>yA p n Ps) (U:=λst o=>[aa<|spV p n,aa<|Zi k,aa<|.int p,aa<|.int n,aa v,aa<|.lst<|st.map Zc,o]) (os:=[]) (λl st=>∃j,j+l.length=k/\st=Z6 p n j)
  (Yx #[11]<|by lia) #[0,by simp,rfl] rfl (λx l st o hst=>by
  obtain⟨j,hj,rfl⟩:=hst;rw[aG]at hj;refine#[#[j+1,by lia,rfl],rfl,_,aa<|Zi x,rfl,?_]
  show rvs #[36] [] _ [aa<|spV p n,aa<|Zi k,aa<|.int p,aa<|.int n,aa v,aa<|.lst<|(Z6 p n j).map Zc,aa<|Zi x] [] s=_;have ef:((Z6 p n j).flatMap λP=>(zD p n P).map λr=>Zc<|P++[r])=(Z6 p n<|j+1).map Zc:=by
   show _=(yA p n<|Z6 p n j).map Zc;unfold yA;rw[pT];exact congrArg (λf=>(Z6 p n j).flatMap f)<|funext λP=>by rw[bY];rfl
  have hc:=yf (cap:=[4]) (nl:=2) (t:=[0]) (u:=[1]) (it:=.of<|.v 5) (jt:=.of<|.call 29 [(.v 2),(.v 0)]) (elt:=.bin .add (.v 0)<|.tup [(.v 1)]) (U:=[aa<|spV p n,aa<|Zi k,aa<|.int p,aa<|.int n,aa v,aa<|.lst<|(Z6 p n j).map Zc,aa<|Zi x]) (l:=Z6 p n j) (e:=Zc)
   (by simp[pvE]) (by rw[ef,ax];have:=hl (j+1) #[0];unfold lim;lia) (λP hP=>by
    obtain⟨h1,h2⟩:=YX j P hP;refine#[_,rfl,?_,λr hr=>#[_,rfl,?_]]
    .rw[wE7,Zr #[25]<|G6 d s hn h1]
     rfl
    .have h3:P.length+1<=16777216:=by lia
     simp[pvE,Zc,h3])
  rw[ef]at hc;rw[Zf<|ZE hc rfl,rvs];rfl)
 have ek:(aM k).foldl (λPs _=>yA p n Ps) (Z6 p n 0)=Z6 p n k:=by
  obtain⟨j,h1,h2⟩:=hI;rw[h2];rw[eM]at h1;rw[show j=k by lia]
 rw[ek]at e;rw[Zf e];exact Zm<|ZI<|Ze rfl
end
def Zce{C:Zq}{U:Env}{s s':DS}{e:E}{w:Bool}{c:Nat}(h:pv C e U s=.ex c s')(hc:1<=c/\c<=10):pv C (.refu w e) U s=.ok (qa w<|c-1) s':=by
 rw[Zfj,h];show(if 1<=c/\c<=10 then _ else _)=_
 rw[T9 hc]
def ne_str{C:Zq}{U:Env}{s:DS}{a b:E}{x:PySem.Str}(h1:pv C a U s=.ok (.str x) s)(h2:pv C b U s=.ok (.str x) s):pv C (.cmp .ne a b) U s=.ok (.bl ak) s:=by
 rw[Y9,h1,Za,h2,Za];show po (aa<|V.bl !(af<|x=x)) s=_;rw[T5 rfl];rfl
def ZbJ{C:Zq}{U:Env}{s s1 s':DS}{f:Nat}{as:List E}{vs:List V}{v:V}(h:pvs C as U s=.ok vs s1)(hc:C f vs s1=.ok v s'):pv C (.callF f as) U s=.ok v s':=by rw[Zin,h];exact hc
def Qn{C:Zq}{ms os:List Nat}{U:Env}{s:DS}{t:E}{x l:List Sm}(h:pv C t U s=.ok (.bl ak) s):rvs C ms (.ite t x []::l) U os s=rvs C ms l U os s:=by
 rw[Zf (by rw[Ys<|Yf h rfl,T8 #[2],rvs])]
def ZaI{p n:Nat}[Base p]{P Q:List Row}(h:pZ p n P)(s:Q.Sublist P):pZ p n Q:=by
 have m:(toP p Q).Sublist (toP p P):=s.map _;exact#[λr hr=>h.row r<|s.subset hr,#[#[h.pn.rf.inc.sublist m,λa ha=>h.pn.rf.low a<|m.subset ha,λa ha=>h.pn.rf.one a<|m.subset ha,λa ha b hb=>h.pn.rf.zer a (m.subset ha) b<|m.subset hb],λa ha=>h.pn.lt a<|m.subset ha,λa ha=>h.pn.sp a<|m.subset ha]]
section
variable{p n:Nat}[Base p]
def zK(d:Nat){x y:V}(s:DS)(hn:n<=6)(hx:Th 1000 x)(hy:Th 1000 y):CV (d+5) 21 [spV p n,x,y] s=if isP p n x=aj/\isP p n y=aj then .ok .non s else .ex 2 s:=by
 have e1:=WH (p:=p) d s hn hx.1 hx.2;have e2:=WH (p:=p) d s hn hy.1 hy.2;have g:∀{v:V}{i:Nat},([aa<|spV p n,aa x,aa y]:Env)[i]?=aa (aa v)->CV (d+4) 20 [spV p n,v] s=.ok .non s->rv (CV<|d+4) [] (.ex<|.call 20 [(.v 0),(.v i)]) [aa<|spV p n,aa x,aa y] [] s=.ok (.nx [aa<|spV p n,aa x,aa y] []) s:=λ{v i} h e=>by
  rw[ZdQ]
  .rw[Zr (Zb #[11]<|Zb (Ze h) Zg) e];rfl
  all_goals(intro i e z;cases z)
 cases h1:isP p n x with
 |false=>
  rw[h1,T8<|by simp]at e1
  rw[T8 #[2]]
  refine Vh rfl #[1] rfl ?_
  exact U0<|xn<|W2 #[25] e1
 |true=>
  rw[h1,T9 rfl]at e1;cases h2:isP p n y with
  |false=>
   rw[h2,T8<|by simp]at e2
   rw[T8 #[2]]
   refine Vh rfl #[1] rfl ?_
   show rvs (CV<|d+4) [] Yk.body [aa<|spV p n,aa x,aa y] [] s=_
   dsimp only[Yk]
   rw[Zf<|g rfl e1];exact U0<|xn<|W2 #[25] e2
  |true=>
   rw[h2,T9 rfl]at e2;rw[T9 #[rfl,rfl]];refine Us (U:=[aa<|spV p n,aa x,aa y]) (os:=[]) rfl #[1] rfl ?_
   show rvs (CV<|d+4) [] Yk.body [aa<|spV p n,aa x,aa y] [] s=_
   dsimp only[Yk]
   rw[Zf<|g rfl e1,Zf<|g rfl e2,rvs]
def qO(d:Nat)(a:Int)(s:DS):CV (d+1) 35 [.int a,.int a] s=.ok (.bl aj) s:=by
 refine Zp rfl #[1] rfl ?_
 simp[Xe,pvE,Z4,Yy,YH,xG,xQ,Zt]
def zW(d:Nat){B:Type}{f:B->V}{l:List B}(s:DS)(hl:l.length<=1000)(h:∀x∈l,CV d 35 [f x,f x] s=.ok (.bl aj) s):CV (d+1) 35 [.tup<|l.map f,.tup<|l.map f] s=.ok (.bl aj) s:=by
 refine Zp rfl #[1] rfl ?_
 dsimp only[Xe]
 refine Zm ?_;have hz:((l.map f).zip<|l.map f).map (λq=>V.tup [q.1,q.2])=l.map λx=>V.tup [f x,f x]:=by
  clear h hl
  induction l with|nil=>rfl|cons x l ih=>rw[aX,bV,aX,ih];rfl
 have hc:=Zw (cap:=[]) (nl:=2) (t:=[0,1]) (it:=.zip (.v 0)<|.v 1) (elt:=.call 35 #[26]) (U:=[aa<|.tup<|l.map f,aa<|.tup<|l.map f])
  (by
   rw[wE5,Ze rfl,Za,Ze rfl,Za];show PR.ok (((l.map f).zip<|l.map f).map λq=>V.tup [q.1,q.2]) s=_
   rw[hz]) (by unfold lim;omega) (λx hx=>#[_,rfl,Zr #[25]<|h x hx])
 have ht:=ZW (g:=λ_:B=>aj) l
 have ha:(l.map λ_=>aj).all id=aj:=by induction l<;>simp
 simp[pvE,Z4,Yy,YH,xG,xQ,Zt,hc,ht,ha]
def um(d:Nat){P:List Row}(s:DS)(hn:n<=6)(hP:pZ p n P):CV (d+3) 35 [Zc P,Zc P] s=.ok (.bl aj) s:=
 zW (d+2) s (by have:=dsum hP;omega) λr hr=>zW (d+1) s (by rw[(hP.row r hr).1];omega) λa _=>qO d a s
def Zab(d:Nat){B:Type}{f:B->V}{l:List B}(s:DS)(hl:l.length<=10000)(h:∀x∈l,CV d 35 [f x,f x] s=.ok (.bl aj) s):CV (d+1) 35 [.lst<|l.map f,.lst<|l.map f] s=.ok (.bl aj) s:=by
 refine Zp rfl #[1] rfl ?_
 dsimp only[Xe]
 refine Zm ?_;have hz:((l.map f).zip<|l.map f).map (λq=>V.tup [q.1,q.2])=l.map λx=>V.tup [f x,f x]:=by
  clear h hl
  induction l with|nil=>rfl|cons x l ih=>rw[aX,bV,aX,ih];rfl
 have hc:=Zw (cap:=[]) (nl:=2) (t:=[0,1]) (it:=.zip (.v 0)<|.v 1) (elt:=.call 35 #[26]) (U:=[aa<|.lst<|l.map f,aa<|.lst<|l.map f])
  (by
   rw[wE5,Ze rfl,Za,Ze rfl,Za];show PR.ok (((l.map f).zip<|l.map f).map λq=>V.tup [q.1,q.2]) s=_
   rw[hz]) (by unfold lim;omega) (λx hx=>#[_,rfl,Zr #[25]<|h x hx])
 have ht:=ZW (g:=λ_:B=>aj) l
 have ha:(l.map λ_=>aj).all id=aj:=by induction l<;>simp
 simp[pvE,Z4,Yy,YH,xG,xQ,Zt,hc,ht,ha]
def xN(d:Nat){L:List #[33]}(s:DS)(hn:n<=6)(hl:L.length<=10000)(hP:∀P∈L,pZ p n P):CV (d+4) 35 [.lst<|L.map Zc,.lst<|L.map Zc] s=.ok (.bl aj) s:=
 Zab (d+3) s hl λP h=>um d s hn<|hP P h
end
end K63
namespace Rw
open La
def XU(p:Nat)(L:List Row)(o:Row):List Row:=(aM p).flatMap λ(k:Nat)=>L.map λr=>ZQ p r o (k:Int)
def YA(p n:Nat)(P:List Row):List Row:=P.foldl (XU p) [aJ n 0]
def JC(L:List Row)(o:Row):(XU p L o).length=L.length*p:=by
 unfold XU;rw[kI,show((aM p).map λ(k:Nat)=>(L.map λr=>ZQ p r o (k:Int)).length)=aJ p L.length from i5 #[2] λi h1 h2=>by simp,iP,kL]
def Zax(P:List Row):(YA p n P).length=p^P.length:=by
 unfold YA
 suffices ∀(P L:List Row),(P.foldl (XU p) L).length=L.length*p^P.length by rw[this];simp
 intro P
 induction P with|nil=>intro L;simp|cons o P ih=>intro L;rw[dM,ih,JC,aG,gP,nZ,kL p]
section
variable{p n:Nat}[Base p]
def YT:Zk p n (aJ n 0):=#[cS,λa ha=>by
 have:=(inferInstance:Base p).b;rw[g7 ha];omega]
def GP(j:Nat):gt (aJ n 0) j=0:=by
 unfold gt;rw[aF,cB];split<;>rfl
def JJ(hL:∀r∈L,Zk p n r)(ho:Zk p n o):∀r∈XU p L o,Zk p n r:=λr hr=>by
 obtain⟨k,_,h⟩:=dD.mp hr;obtain⟨q,hq,rfl⟩:=aO.mp h;exact ZH (hL q hq) ho
def Zc9(hW:pZ p n W)(hr:Zk p n r)(ho:Zk p n o)(h1:ZM p W r=aj)(h2:ZM p W o=aj):ZM p W (ZQ p r o k)=aj:=by
 rw[ZT hW<|ZH hr ho];rw[Yu hr ho];exact Wq (ph p k) ((ZT hW hr).mp h1)<|(ZT hW ho).mp h2
theorem vK(hW:pZ p n W):∀{P L:List Row},(∀r∈P,r∈W)->(∀r∈L,Zk p n r/\ZM p W r=aj)->∀r∈P.foldl (XU p) L,Zk p n r/\ZM p W r=aj
 |[],_,_,h=>h
 |o::P,L,hP,h=>by
  have ho:=hP o<|al ..;refine vK hW (P:=P) (λr hr=>hP r<|ao _ hr) λr hr=>?_
  obtain⟨k,_,h3⟩:=dD.mp hr;obtain⟨q,hq,rfl⟩:=aO.mp h3;exact#[ZH (h q hq).1<|hW.row o ho,Zc9 hW (h q hq).1 (hW.row o ho) (h q hq).2<|Ga hW ho]
theorem vN:∀{P L:List Row}{a r:Row},(∀o∈P,Zk p n o)->a∈L->Zk p n a->Zk p n r->hdI (XT p P<|ZQ p r a<|-1)=ae->r∈P.foldl (XU p) L
 |[],L,a,r,_,ha,h1,h2,h=>by
  have e:r=a:=Vq h2 h1 (by
   funext j
   have z:=(Yq<|ZH h2 h1).mpr<|Xs h j;rw[Yu h2 h1,xT,J3]at z
   grind)
  rw[e];exact ha
 |o::P,L,a,r,hP,ha,h1,h2,h=>by
  have ho:=hP o<|al ..
  let x:=ZQ p r a<|-1
  have hx:Zk p n x:=ZH h2 h1;have hk:=WA ppos hx<|(hdI o).getD 0;have e:clr p x o ((hdI o).getD 0)=ZQ p r (ZQ p a o<|gt x<|(hdI o).getD 0) (-1):=Vq (ZH hx ho) (ZH h2<|ZH h1 ho) (by
   rw[Wp hx ho,Yu h2<|ZH h1 ho,Yu h1 ho]
   funext j
   show toV p (ZQ p r a<|-1) j-toV p x ((hdI o).getD 0)*toV p o j=toV p r j+ph p (-1)*(toV p a j+toV p x ((hdI o).getD 0)*toV p o j);rw[Yu h2 h1,xT,J3]
   grind)
  refine vN (P:=P) (λq hq=>hP q<|ao _ hq) (dD.mpr #[(gt x<|(hdI o).getD 0).toNat,bc.mpr #[3],aO.mpr #[a,ha,by rw[nK hk.1]]]) (ZH h1 ho) h2 ?_
  rw[<-e];exact h
theorem ZbO(hP:pZ p n P):r∈YA p n P↔Zk p n r/\ZM p P r=aj:=by
 constructor
 .exact vK hP (λ_ h=>h) (λq hq=>by rw[aT.mp hq];exact#[YT,vE hP YT GP]) r
 .intro#[h1,h2]
  refine vN hP.row (aT.mpr rfl) YT h1 ?_;have e:ZQ p r (aJ n 0) (-1)=r:=Vq (ZH h1 YT) h1 (by
   rw[Yu h1 YT]
   funext j
   rw[(Yq YT).mpr<|GP j]
   grind)
  rw[e];exact Option.isNone_iff_eq_none.mp h2
theorem G8:∀{P L:List Row},(∀o∈P,Zk p n o/\gt o ((hdI o).getD 0)=1)->(P.Pairwise λo q=>gt o ((hdI q).getD 0)=0)->(∀r∈L,Zk p n r/\∀o∈P,gt r ((hdI o).getD 0)=0)->L.Nodup->(P.foldl (XU p) L).Nodup
 |[],_,_,_,_,h=>h
 |o::P,L,hP,hz,hL,h=>by
  obtain⟨ho,h1⟩:=hP o<|al ..;obtain⟨z1,z2⟩:=aZ.mp hz;have hp:=(inferInstance:Base p).b;refine G8 (P:=P) (λq hq=>hP q<|ao _ hq) z2 (λr hr=>#[JJ (λr hr=>(hL r hr).1) ho r hr,λq hq=>?_]) ?_
  .obtain⟨k,_,h3⟩:=dD.mp hr
   obtain⟨s,hs,rfl⟩:=aO.mp h3;rw[W8 (hL s hs).1 ho,(hL s hs).2 q<|ao _ hq,z1 q hq];simp
  .have at_:∀(k:Nat) r,k<p->r∈L->gt (ZQ p r o (k:Int)) ((hdI o).getD 0)=k:=λk r hk hr=>by
    rw[W8 (hL r hr).1 ho,(hL r hr).2 o<|al ..,h1,o6,Int.mul_one,iO #[3] #[3]]
   refine List.pairwise_flatMap.mpr #[λk hk=>?_,?_]
   .refine dk.mpr (h.imp_of_mem λ{a b} ha hb ne e=>ne<|Vq (hL a ha).1 (hL b hb).1 ?_)
    have q:=congrArg (toV p) e;rw[Yu (hL a ha).1 ho,Yu (hL b hb).1 ho]at q
    funext j
    have:=congrFun q j
    grind
   .refine pK.imp_of_mem λ{a b} ha hb ne x hx y hy e=>ne ?_
    obtain⟨r,hr,rfl⟩:=aO.mp hx;obtain⟨q,hq,rfl⟩:=aO.mp hy;have:=at_ a r (bc.mp ha) hr;rw[e,at_ b q (bc.mp hb) hq]at this;omega
def Zcj(hP:pZ p n P):(YA p n P).Nodup:=by
 have rf:=hP.pn.rf;refine G8 (λo ho=>#[hP.row o ho,(GD<|hP.row o ho).mp<|rf.one _<|Yj ho]) ?_ (λr hr=>?_)<|dz.mpr #[by simp,sr]
 .exact(dk.mp rf.inc).imp_of_mem λ{a b} ha hb lt=>(Yq<|hP.row a ha).mp<|rf.zer _ (Yj hb) _ (Yj ha)<|gL lt
 .rw[aT.mp hr]
  exact#[YT,λo _=>GP _]
end
end Rw
namespace K63
open Ev Pv Rw La
def ZbF(r:Row):V.flat (Zd r)=aj:=XR r
theorem Jy:∀L:List Row,ZP (L.map Zd)=aj
 |[]=>rfl
 |r::L=>by
  show(V.flat (Zd r)&&ZP (L.map Zd))=aj;rw[ZbF,Jy L];rfl
theorem zj:∀L:List Row,WL (L.map λr=>V.tup [Zd r,.bl aj])=aa L
 |[]=>rfl
 |r::L=>by
  show((intsV<|r.map V.int).bind λa=>(WL<|L.map λr=>V.tup [Zd r,.bl aj]).map (a :: ·))=_
  rw[YR,zj L];rfl
section
variable{p n:Nat}[Base p]
def jP:List Sm:=[.asg [4]<|.lst [],
  .forr [5] (.rng1<|.ix (.v 0)<|.n 0) [.ex<|.mt .extend (.v 4) [(.comp1 [0,3,5] 1 [0] (.of<|.v 2) []<|.call 4 [(.v 1),(.v 0),(.v 2),(.v 3)])]],
  .mov 2 4]
def qk(d:Nat){L:List Row}{o:Row}{v:V}{a5:Option V}(s:DS)(hn:n<=6)(hL:∀r∈L,Zk p n r)(ho:Zk p n o)(hl:L.length<=15625):∃b5,rvs #[13] [4] jP [aa<|spV p n,aa v,aa<|.lst<|L.map Zd,aa<|Zd o,ae,a5] [] s=.ok (.nx [aa<|spV p n,aa v,aa<|.lst<|(XU p L o).map Zd,aa<|Zd o,ae,b5] []) s:=by
 have hp:=Uo (p:=p);unfold jP;obtain⟨o5,_,e5⟩:=Vg (C:=CV<|d+1) (t:=[5]) (it:=.rng1<|.ix (.v 0)<|.n 0) (b:=[.ex<|.mt .extend (.v 4) [(.comp1 [0,3,5] 1 [0] (.of<|.v 2) []<|.call 4 [(.v 1),(.v 0),(.v 2),(.v 3)])]]) (step:=λ(acc:List Row) (k:Nat)=>acc++L.map λr=>ZQ p r o (k:Int)) (U:=λacc x=>[aa<|spV p n,aa v,aa<|.lst<|L.map Zd,aa<|Zd o,aa<|.lst<|acc.map Zd,x]) (os:=[4]) (s:=s)
  (λl acc=>(∀k∈l,k<5)/\acc.length+l.length*L.length<=100000) (by
   exact Yx (ix0 rfl)<|by omega) #[λk hk=>by have:=bc.mp hk;omega,by
    rw[bi,eM];have:p*L.length<=5*15625:=iF #[3] hl
    omega] rfl (λk l acc x hI=>by
   obtain⟨h1,h2⟩:=hI;rw[aG,gM]at h2;have hk:=h1 k<|al ..;refine#[#[λq hq=>h1 q<|ao _ hq,by rw[aN,ax];omega],rfl,[aa<|spV p n,aa v,aa<|.lst<|L.map Zd,aa<|Zd o,aa<|.lst<|acc.map Zd,aa<|Zi k],aa<|Zi k,rfl,?_]
   have hc:=Zw (cap:=[0,3,5]) (nl:=1) (t:=[0]) (it:=.of<|.v 2) (elt:=.call 4 [(.v 1),(.v 0),(.v 2),(.v 3)]) (U:=[aa<|spV p n,aa v,aa<|.lst<|L.map Zd,aa<|Zd o,ae,aa<|Zi k])
    #[31] (by unfold lim;omega) (λr hr=>#[[aa<|Zd r,aa<|spV p n,aa<|Zd o,aa<|Zi k],rfl,Zr (Zb #[11]<|Zb #[11]<|Zb #[11]<|Zb #[11] Zg)<|G9 d s hn (hL r hr) ho #[by omega,by omega]])
   have hm:(L.map λr=>Zd<|ZQ p r o (k:Int))=(L.map λr=>ZQ p r o (k:Int)).map Zd:=by rw[bY];rfl
   rw[hm]at hc;rw[Zf (ρ':=[aa<|spV p n,aa v,aa<|.lst<|L.map Zd,aa<|Zd o,aa<|.lst<|(acc++L.map λr=>ZQ p r o (k:Int)).map Zd,aa<|Zi k]) (by
    rw[wm];show(if aj=aj then((PR.ok (acc.map Zd) s).bind λxs s=>(pv #[13] _ [aa<|spV p n,aa v,aa<|.lst<|L.map Zd,aa<|Zd o,ae,aa<|Zi k] s).bind _)else _)=_
    rw[T9 rfl,Za,hc,Za];show(if ZP ((L.map λr=>ZQ p r o (k:Int)).map Zd)=aj/\_<=lim then _ else _)=_
    rw[T9 #[Jy _,by rw[ax,ax,ax];unfold lim;omega],bw]
    rfl),rvs])
 have hfold:∀(l:List Nat)(acc:List Row),l.foldl (λ(acc:List Row) (k:Nat)=>acc++L.map λr=>ZQ p r o (k:Int)) acc=acc++l.flatMap λ(k:Nat)=>L.map λr=>ZQ p r o (k:Int):=λl=>by
  induction l with|nil=>intro acc;simp|cons r l ih=>intro acc;rw[dM,ih,gC,bu]
 rw[hfold,eN]at e5;refine#[o5,?_];rw[Zf (ρ':=[aa<|spV p n,aa v,aa<|.lst<|L.map Zd,aa<|Zd o,aa<|.lst<|([]:List Row).map Zd,a5]) (os':=[4]) (s':=s) (by simp[pvE,ZP]),Zf e5]
 rw[Zf (ρ':=[aa<|spV p n,aa v,aa<|.lst<|(XU p L o).map Zd,aa<|Zd o,ae,o5]) (os':=[]) (by rw[ZdK];rfl),rvs]
def ym(d:Nat){P:List Row}(s:DS)(hn:n<=6)(hP:pZ p n P)(hl:p^n<=1000):CV (d+2) 8 [spV p n,Zc P] s=.ok (.dct<|.inr<|YA p n P) s:=by
 have hp:=Uo (p:=p);refine Zp rfl #[1] rfl ?_
 show rvs #[13] [4] (.asg [2] (.lst [(.bin .mul (.tup [(.n 0)])<|.ix (.v 0)<|.n 1)]) :: .forr [3] (.of<|.v 1) jP :: .ret (.blt .dictP [(.comp1 [] 1 [0] (.of<|.v 2) []<|.tup [(.v 0),(.c<|.bl aj)])])::[]) [aa<|spV p n,aa<|Zc P,ae,ae,ae,ae] [] s=_;have z0:pv #[13] (.lst [(.bin .mul (.tup [(.n 0)])<|.ix (.v 0)<|.n 1)]) [aa<|spV p n,aa<|Zc P,ae,ae,ae,ae] s=.ok (.lst<|[aJ n 0].map Zd) s:=by
  have g:pv #[13] (.bin .mul (.tup [(.n 0)])<|.ix (.v 0)<|.n 1) [aa<|spV p n,aa<|Zc P,ae,ae,ae,ae] s=.ok (Zd<|aJ n 0) s:=by
   rw[pE7,Xg Yc,Za,ix1 rfl,Za];show(if(0:Int)<=n/\(n:Int)<1000/\1<=1000 then PR.ok (V.tup (aJ (n:Int).toNat [V.int 0]).flatten) s else .no)=_
   rw[T9 #[by omega,by omega,by omega],fC]
   rw[Zeu];rfl
  rw[pE4,Zb g Zg];rfl
 rw[Zf<|ZE z0 rfl];show rvs _ _ _ [aa<|spV p n,aa<|Zc P,aa<|.lst<|[aJ n 0].map Zd,ae,ae,ae] [] s=_;have hpow:∀(l:List Row)(k:Nat),k+l.length=P.length->p^k*p^l.length<=1000:=λl k h=>by
  rw[<-Nat.pow_add,h];exact bW (cZ #[3]<|dsum hP) hl
 obtain⟨ρ',⟨L,a3,a5,rfl,hL,_⟩,e⟩:=Xf (C:=CV<|d+1) (t:=[3]) (it:=.of<|.v 1) (os:=[]) (s:=s)
  (λl U=>∃(L:List Row)(a3 a5:Option V),U=[aa<|spV p n,aa<|Zc P,aa<|.lst<|L.map Zd,a3,ae,a5]/\l.foldl (XU p) L=YA p n P/\(∀r∈L,Zk p n r)/\(∀r∈l,Zk p n r)/\∃k,k+l.length=P.length/\L.length=p^k)
  (by rw[wE7];rw[Ze rfl];rfl)
  #[[aJ n 0],ae,ae,rfl,rfl,λr hr=>by
   rw[aT.mp hr];exact#[cS,λa ha=>by rw[g7 ha];omega],λr hr=>hP.row r hr,0,by omega,by simp] rfl (λr l U hI=>by
   obtain⟨L,a3,a5,rfl,h1,h2,h3,k,h4,h5⟩:=hI;have hr:=h3 r<|al ..;rw[aG]at h4;have hz:=hpow l (k+1) #[3]
   have hL1:L.length<=1000:=by
    rw[h5];have:=hpow (r::l) k (by rw[aG];omega)
    have h0:0<p^(r::l).length:=Nat.pow_pos #[3]
    exact bW (mw _ h0) this
   obtain⟨b5,e1⟩:=qk d s hn h2 hr #[3]
   refine#[by rfl,_,_,rfl,e1,XU p L r,_,b5,rfl,h1,JJ h2 hr,λq hq=>h3 q<|ao _ hq,k+1,by omega,?_]
   rw[JC,h5,gP])
 rw[Zf e];rw[iQ]at hL;subst hL;have hlen:(YA p n P).length<=1000:=by
  rw[Zax];exact bW (cZ #[3]<|dsum hP) hl
 have hc:=Zw (C:=CV<|d+1) (cap:=[]) (nl:=1) (t:=[0]) (it:=.of<|.v 2) (elt:=.tup [(.v 0),(.c<|.bl aj)]) (U:=[aa<|spV p n,aa<|Zc P,aa<|.lst<|(YA p n P).map Zd,a3,ae,a5]) (s:=s)
  #[31] (by unfold lim;omega) (λr hr=>#[[aa<|Zd r],rfl,by
   rw[pE3,Zb #[11]<|Zb (by rw[pE1];rfl) Zg];rfl])
 refine Zm<|ZI ?_;rw[YM,Zb hc Zg,Za];show po ((WL<|(YA p n P).map λr=>V.tup [Zd r,.bl aj]).bind λks=>if UN ks=aj then aa (V.dct<|.inr ks)else ae) s=_
 rw[zj];show po (if UN (YA p n P)=aj then aa (V.dct<|.inr<|YA p n P)else ae) s=_
 rw[T9 (by
  unfold UN;rw[aC,T0,T0];exact#[by unfold lim;omega,Zcj hP])];rfl
end
end K63
namespace Rw
open La
open Ev (ltP Yl WX)
noncomputable def Qd{B:Type}(lt:B->B->Bool):Nat->List B->List B->List B
 |0,a,b=>a++b
 |_+1,[],b=>b
 |_+1,a,[]=>a
 |f+1,x::a,y::b=>if lt x y then x::Qd lt f a (y::b)else y::Qd lt f (x::a) b
theorem XY{B:Type}(lt:B->B->Bool):∀(f:Nat)(a b:List B),(Qd lt f a b).Perm (a++b)
 |0,a,b=>cI _
 |_+1,[],b=>cI _
 |_+1,x::a,[]=>by show(x::a).Perm _;simp
 |f+1,x::a,y::b=>by
  unfold Qd;split
  .exact(XY lt f a (y::b)).cons x
  .exact((XY lt f (x::a) b).cons y).trans List.perm_middle.symm
def zL{B:Type}(lt:B->B->Bool):Nat->List B->List B
 |0,l=>l
 |f+1,l=>if l.length<=1 then l else Qd lt l.length (zL lt f<|l.take<|l.length / 2) (zL lt f<|l.drop<|l.length / 2)
theorem WD{B:Type}(lt:B->B->Bool):∀(f:Nat)(l:List B),(zL lt f l).Perm l
 |0,l=>cI _
 |f+1,l=>by
  unfold zL;split
  .exact cI _
  .refine(XY ..).trans<|((WD lt f _).append<|WD lt f _).trans<|mR<|cU ..
noncomputable def X0(n:Nat):List (List Nat):=(aM n).foldl (λl k=>l++l.map λr=>r++[k]) [[]]
noncomputable def YZ(p:Nat)(aa:List Nat)(h k:Nat):List Int:=if k=h then[1]else if k>h/\k∉aa then(aM p).map λ(j:Nat)=>(j:Int)else[0]
noncomputable def grow{B:Type}(L:List (List B))(M:List B):List (List B):=L.flatMap λx=>M.map λy=>x++[y]
def Z9(p n:Nat)(aa:List Nat)(h:Nat):List Row:=(aM n).foldl (λl k=>grow l<|YZ p aa h k) [[]]
def Y7(p n:Nat)(aa:List Nat):List #[33]:=aa.foldl (λl h=>grow l<|Z9 p n aa h) [[]]
def xK(p n k:Nat):List #[33]:=((X0 n).filter λr=>af<|r.length=k).flatMap<|Y7 p n
noncomputable def Ze5{B:Type}(lt:B->B->Bool):List B->Bool
 |[]=>aj
 |[_]=>aj
 |x::y::l=>lt x y&&Ze5 lt (y::l)
theorem wB{B:Type}{lt:B->B->Bool}(O:Sd.StrictB lt):∀{l:List B},Ze5 lt l=aj->l.Pairwise λa b=>lt a b=aj
 |[],_=>.nil
 |[x],_=>fM ..
 |x::y::l,h=>by
  obtain⟨h1,h2⟩:=(aC _ _).mp h;have ih:=wB O h2;refine aZ.mpr #[λz hz=>?_,ih]
  rcases ay.mp hz with rfl|hz
  .exact h1
  .exact O.tr h1<|(aZ.mp ih).1 z hz
def Zh7(q:Nat×Nat):Bool:=(aM<|q.2+1).all λk=>af (zL ltP 12 (xK q.1 q.2 k)=Z6 q.1 q.2 k)&&Ze5 ltP (Z6 q.1 q.2 k)
def vS:∀q∈QA++Qs,Zh7 q=aj:=by decide +kernel
def Zgv{B:Type}{lt:B->B->Bool}(O:Sd.StrictB lt){l:List B}(h:l.Pairwise λa b=>lt a b=aj):l.Nodup:=h.imp λ{a b} h e=>by
 subst e;have:=O.asy h;rw[h]at this;cases this
def Zd1{p n k:Nat}(h:(p,n)∈QA++Qs)(hk:k<=n):(Z6 p n k).Pairwise λa b=>ltP a b=aj:=
 wB Sd.YB ((aC _ _).mp<|aY.mp (vS _ h) k<|bc.mpr<|by lia).2
def Zah{p n k:Nat}(h:(p,n)∈QA++Qs)(hk:k<=n)(hl:(Z6 p n k).length<=1395)(he:∀P∈Z6 p n k,P.length=k):Yl ltP (xK p n k)=Z6 p n k/\Ev.Z3 (xK p n k)=aj:=by
 have c:=T6 ((aC _ _).mp<|aY.mp (vS _ h) k<|bc.mpr<|by lia).1
 have pm:(xK p n k).Perm (Z6 p n k):=c▸(WD ltP 12 _).symm;have inc:=Zd1 h hk;have nd:=pm.nodup_iff.mpr<|Zgv Sd.YB inc;refine#[Sd.XH Sd.YB ((Sd.Y3 _).trans pm) (Sd.XM Sd.YB nd) inc,?_];unfold Ev.Z3;rw[aC,aC,fY,T0,T0,T0,aY];refine#[#[by rw[pm.length_eq];lia,nd],?_]
 cases k with
 |zero=>refine .inl ?_;rw[pm.length_eq];exact aI _
 |succ k=>
  refine .inr ?_
  intro P hP;have:=he P<|pm.mem_iff.mp hP;cases P with|nil=>cases this|cons _ _=>rfl
end Rw
namespace K63
open Ev Pv Rw La
def VE(r:Row):V.flat (Zd r)=aj:=XR r
theorem Xu{B:Type}{f:B->V}:∀(l:List B),(∀x∈l,(f x).flat=aj)->ZP (l.map f)=aj
 |[],_=>rfl
 |x::l,h=>by
  show(V.flat (f x)&&ZP (l.map f))=aj;rw[h x<|al ..,Xu l λy hy=>h y<|ao _ hy];rfl
def WP(P:List Row):V.flat (Zc P)=aj:=Xu P λr _=>VE r
def Zx(r:List Nat):V:=.tup<|r.map Zi
def xp(r:List Nat):V.flat (Zx r)=aj:=Xu r λ_ _=>rfl
section
variable{C:Zq}{ms os:List Nat}{s:DS}
theorem zN{B β γ:Type}{i j k m:Nat}{e1:B->V}{e2:β->V}{e3:γ->V}{op:B->β->γ}{L:List B}{M:List β}{U:List γ->Option V->Env}{o:Option V}(hw:pvw C (.of<|.v j) (hide os<|U [] o) s=.ok (L.map e1) s)(ho:os.contains m=aj)(ht:os.contains i=ak)
  (hs:∀acc acc' x,(U acc x)[m]?=aa (aa<|.lst<|acc.map e3)/\(U acc x).set m (aa<|.lst<|acc'.map e3)=U acc' x/\∀v,(U acc x).set i (aa v)=U acc (aa v))(f1:∀x,(e1 x).flat=aj)(f3:∀z,(e3 z).flat=aj)
  (hc:∀acc x,x∈L->pv C (.comp1 [i] 1 [0] (.of<|.v k) []<|.bin .add (.v 1)<|.tup [(.v 0)]) (hide os<|U acc<|aa<|e1 x) s=.ok (.lst<|M.map λy=>e3<|op x y) s)(hl:L.length*M.length<=100000) :
  ∃o',rv C ms (.forr [i] (.of<|.v j) [.ex<|.mt .extend (.v m) [(.comp1 [i] 1 [0] (.of<|.v k) []<|.bin .add (.v 1)<|.tup [(.v 0)])]]) (U [] o) os s=.ok (.nx (U (L.flatMap λx=>M.map<|op x) o') os) s:=by
 obtain⟨o',_,e⟩:=Vg (t:=[i]) (b:=[.ex<|.mt .extend (.v m) [(.comp1 [i] 1 [0] (.of<|.v k) []<|.bin .add (.v 1)<|.tup [(.v 0)])]]) (step:=λ(acc:List γ) (x:B)=>acc++M.map (op x))
  (λl acc=>acc.length+l.length*M.length<=100000/\∀x∈l,x∈L) hw #[by rw[eM];lia,λ_ h=>h] (by simpa using ht) (λx l acc o1 hI=>by
   obtain⟨hI,hm⟩:=hI;rw[aG,gM]at hI;refine#[#[by rw[aN,ax];lia,λx hx=>hm x<|ao _ hx],by rw[f1];simp,U acc<|aa<|e1 x,aa<|e1 x,congrArg aa<|(hs acc acc o1).2.2<|e1 x,?_]
   rw[Zf ?_,rvs];rw[wm,T9 ho,(hs acc acc _).1];show(PR.ok (acc.map e3) s).bind _=_;rw[Za,hc acc x<|hm x<|al ..,Za];show(if ZP (M.map λy=>e3<|op x y)=aj/\_<=lim then _ else _)=_
   rw[T9 #[Xu M λy _=>f3 _,by rw[ax,ax];unfold lim;lia]]
   have:(acc.map e3++M.map λy=>e3<|op x y)=(acc++M.map (op x)).map e3:=by rw[bw,bY];rfl
   rw[this,(hs acc (acc++M.map (op x)) _).2.1])
 have hf:∀(l:List B)(acc:List γ),l.foldl (λacc x=>acc++M.map (op x)) acc=acc++l.flatMap λx=>M.map (op x):=λl=>by
  induction l with|nil=>intro acc;simp|cons r l ih=>intro acc;rw[dM,ih,gC,bu]
 rw[hf,eN]at e;exact#[o',e]
def XQ{U:Env}{s':DS}{i o:Nat}{e:E}{v:V}(h:pv C e (hide (o::os) U) s=.ok v s')(hm:(ms.contains i&&fresh e)=ak):rv C ms (.asg [i] e) U (o::os) s=.ok (.nx (U.set i<|aa v) ((o::os).filter (· != i))) s':=by
 have h1:pvA C e U (o::os) s=.ok v s':=by unfold pvA;dsimp only;rw[h]
 rw[rE1,h1,Za,T8 (by rw[hm];simp)]
def xb{U:Env}{s':DS}{i o:Nat}{e:E}{xs:List V}(h:pv C e (hide (o::os) U) s=.ok #[35] s')(hm:(ms.contains i&&fresh e)=aj)(hf:ZP xs=aj)(hi:i<U.length):rv C ms (.asg [i] e) U (o::os) s=.ok (.nx (U.set i<|aa<|.lst xs) (i::(o::os).filter (· != i))) s':=by
 have h1:pvA C e U (o::os) s=.ok #[35] s':=by unfold pvA;dsimp only;rw[h]
 rw[rE1,h1,Za,T9 hm];show(if ZP xs=aj/\i<U.length then _ else _)=_
 rw[T9 #[hf,hi]]
theorem xu{U:Env}{a b:E}{xs:List V}{y:V}(h1:pv C a U s=.ok (.tup xs) s)(h2:pv C b U s=.ok y s)(hl:xs.length<=1000):pv C (.bin .add a<|.tup [b]) U s=.ok (.tup<|xs++[y]) s:=by
 rw[pE7,h1,Za,Xg h2,Za];show(if xs.length+1<=lim then PR.ok (V.tup<|xs++[y]) s else .no)=_
 rw[T9 #[16]]
end
section
variable{p n:Nat}[Base p]{C:Zq}
def lpE(p n k:Nat)(a4 a5 a6 a7 a8 a9 a10 a11 a12 a13 a14:Option V):Env:=[aa<|spV p n,aa<|Zi k,aa<|.int p,aa<|.int n,a4,a5,a6,a7,a8,a9,a10,a11,a12,a13,a14]
def WY:List Sm:=[.asg [11]<|.lst [(.n 0)],
  .ite (.cmp .eq (.v 5)<|.v 9) [.asg [11]<|.lst [(.n 1)]] [.ite (.and (.cmp .gt (.v 5)<|.v 9)<|.cmp .nin (.v 5)<|.v 7) [.asg [11]<|.blt .rangeL [(.v 2)]] []],
  .asg [12] (.lst []),
  .forr [13] (.of<|.v 10) [.ex<|.mt .extend (.v 12) [(.comp1 [13] 1 [0] (.of<|.v 11) []<|.bin .add (.v 1)<|.tup [(.v 0)])]],
  .mov 10 12]
theorem yq(j:Nat):∀hs:List Nat,XG (Zi j) (hs.map Zi)=aa (af<|j∈hs)
 |[]=>rfl
 |h::l=>by
  show(match eqV Zt (Zi h) (Zi j),XG (Zi j) (l.map Zi)with
   |some a,aa b=>aa (a||b)
   |_,_=>ae)=_
  rw[yq j l];show aa (af ((h:Int)=(j:Int))||decide (j∈l))=_
  congr 1
  by_cases e:h=j
  .subst e;simp
  .have:¬(h:Int)=(j:Int):=by lia
   simp[this,Ne.symm e]
def VC{p n k:Nat}{a4 a5 a6 a7 a8 a9 a10 a11 a12 a13 a14:Option V}:hide [6] (lpE p n k a4 a5 a6 a7 a8 a9 a10 a11 a12 a13 a14)=lpE p n k a4 a5 ae a7 a8 a9 a10 a11 a12 a13 a14:=by simp[hide,lpE,i6]
def Gu{p n k:Nat}{a4 a5 a6 a7 a8 a9 a10 a11 a12 a13 a14:Option V}:hide [12,6] (lpE p n k a4 a5 a6 a7 a8 a9 a10 a11 a12 a13 a14)=lpE p n k a4 a5 ae a7 a8 a9 a10 a11 ae a13 a14:=by simp[hide,lpE,i6]
theorem uE{k j h:Nat}{some':List Nat}{L:List Row}{a4 a6 a8 a11 a12 a13 a14:Option V}(s:DS)(hL:L.length*5<=100000)(hr:∀r∈L,r.length<=900) :
  ∃b11 b13,rvs C [12,12,6] WY (lpE p n k a4 (aa<|Zi j) a6 #[24] a8 (aa<|Zi h) (aa<|.lst<|L.map Zd) a11 a12 a13 a14) [6] s=.ok (.nx (lpE p n k a4 (aa<|Zi j) a6 #[24] a8 (aa<|Zi h) (aa<|.lst<|(grow L<|YZ p some' h j).map Zd) b11 ae b13 a14) [6]) s:=by
 have hp:=Uo (p:=p)
 let U (b11 b12 b13:Option V):Env:=lpE p n k a4 (aa<|Zi j) a6 #[24] a8 (aa<|Zi h) (aa<|.lst<|L.map Zd) b11 b12 b13 a14
 let N:List Int:=YZ p some' h j
 have hN:N.length<=5:=by
  show(YZ p some' h j).length<=5;unfold YZ;split
  .decide
  .split
   .rw[ax,bi];lia
   .decide
 have e1:∀x,rvs C [12,12,6] WY (U x a12 a13) [6] s=rvs C [12,12,6] (WY.drop 2) (U (aa<|.lst<|N.map V.int) a12 a13) [6] s:=λx=>by
  show rvs C _ (_::_::_) _ _ s=_;have c0:pv C (.lst [(.n 0)]) (hide [6]<|U x a12 a13) s=.ok (.lst [.int 0]) s:=by rw[VC,pE4,Zb Yc Zg];rfl
  rw[Zf<|XQ c0 rfl];show rvs C _ (_::WY.drop 2) (U (aa<|.lst [.int 0]) a12 a13) [6] s=_;have t1:pv C (.cmp .eq (.v 5)<|.v 9) (U (aa<|.lst [.int 0]) a12 a13) s=.ok (.bl<|af<|(j:Int)=(h:Int)) s:=by
   rw[Y9,Ze rfl,Za,Ze rfl];rfl
  by_cases c1:j=h
  .have hN1:N=[1]:=by show YZ p some' h j=_;unfold YZ;rw[T9 c1]
   rw[Zf ?_];rw[Ys<|Yf t1 rfl,T9<|T5 #[0]]
   have c2:pv C (.lst [(.n 1)]) (hide [6]<|U (aa<|.lst [.int 0]) a12 a13) s=.ok (.lst [.int 1]) s:=by rw[VC,pE4,Zb Yc Zg];rfl
   rw[Zf<|XQ c2 rfl,rvs,hN1];rfl
  .rw[Zf ?_]
   rw[Ys<|Yf t1 rfl,T8 (by rw[T0];lia)]
   have t2:pv C (.and (.cmp .gt (.v 5)<|.v 9)<|.cmp .nin (.v 5)<|.v 7) (U (aa<|.lst [.int 0]) a12 a13) s=.ok (.bl<|af (j>h)&&af (j∉some')) s:=by
    have u1:pv C (.cmp .gt (.v 5)<|.v 9) (U (aa<|.lst [.int 0]) a12 a13) s=.ok (.bl<|af<|j>h) s:=by
     rw[Y9,Ze rfl,Za,Ze rfl,Za];show po (aa<|V.bl<|af<|(h:Int)<(j:Int)) s=_;rw[show af ((h:Int)<(j:Int))=af (j>h)from decide_eq_decide.mpr #[0]];rfl
    have u2:pv C (.cmp .nin (.v 5)<|.v 7) (U (aa<|.lst [.int 0]) a12 a13) s=.ok (.bl<|af<|j∉some') s:=by
     rw[Y9,Ze rfl,Za,Ze rfl,Za];show po ((XG (Zi j)<|some'.map Zi).map λb=>V.bl !b) s=_
     rw[yq];show PR.ok (V.bl !(af<|j∈some')) s=_;rw[decide_not]
    exact J6 u1 u2
   rw[Zf ?_,rvs];rw[Ys<|Yf t2 rfl];by_cases c2:j>h/\j∉some'
   .have hN1:N=(aM p).map λ(j:Nat)=>(j:Int):=by show YZ p some' h j=_;unfold YZ;rw[T8 c1,T9 c2]
    rw[T9 (by rw[T5 c2.1,T5 c2.2];rfl)]
    have c3:pv C (.blt .rangeL [(.v 2)]) (hide [6]<|U (aa<|.lst [.int 0]) a12 a13) s=.ok (.lst<|N.map V.int) s:=by
     rw[VC,YM,Zb #[11] Zg,Za,hN1];show po (if few (p:Int)=aj then aa (V.lst<|ZV 0 (p:Int).toNat)else ae) s=_
     rw[T9 (by unfold few;exact T5 #[0]),fC]
     unfold ZV;rw[bY];simp only[o6];rfl
    rw[Zf<|XQ c3 rfl,rvs];rfl
   .have hN1:N=[0]:=by show YZ p some' h j=_;unfold YZ;rw[T8 c1,T8 c2]
    rw[T8 (by rw[<-Bool.decide_and];rw[T0];exact c2),rvs,hN1];rfl
 refine#[aa<|.lst<|N.map V.int,?_];have e2:rvs C [12,12,6] (WY.drop 2) (U (aa<|.lst<|N.map V.int) a12 a13) [6] s=rvs C [12,12,6] (WY.drop 3) (U (aa<|.lst<|N.map V.int) (aa<|.lst<|([]:List Row).map Zd) a13) [12,6] s:=by
  have c0:pv C (.lst []) (hide [6]<|U (aa<|.lst<|N.map V.int) a12 a13) s=.ok (.lst []) s:=by rw[pE4,pvs];rfl
  show rvs C _ (_::WY.drop 3) _ _ s=_;rw[Zf<|xb c0 rfl rfl (by show 12<15;decide)];rfl
 obtain⟨b13,e3⟩:=zN (C:=C) (s:=s) (i:=13) (j:=10) (k:=11) (m:=12) (e2:=V.int) (U:=λacc x=>U (aa<|.lst<|N.map V.int) (aa<|.lst<|acc.map Zd) x) (o:=a13)
  (by
   rw[Gu,wE7,Ze rfl];rfl) rfl rfl (λacc acc' x=>#[rfl,rfl,λv=>rfl]) VE VE (λacc r hm=>by
   rw[Gu];refine Zw #[31] #[16] λy _=>#[[aa<|.int y,aa<|Zd r],rfl,?_]
   rw[xu #[11] #[11] (by rw[ax];have:=hr r hm;lia)]
   show PR.ok (V.tup<|r.map V.int++[V.int y]) s=PR.ok (V.tup<|(r++[y]).map V.int) s;rw[bw];rfl) (bW (nL _ hN) hL)
 have hg:(L.flatMap λr=>N.map λy=>r++[y])=grow L N:=rfl
 rw[hg]at e3;refine#[b13,?_];rw[e1 a11,e2];show rvs C _ (_::[.mov 10 12]) _ _ s=_;rw[Zf e3];rw[Zf (ρ':=lpE p n k a4 (aa<|Zi j) a6 #[24] a8 (aa<|Zi h) (aa<|.lst<|(grow L N).map Zd) (aa<|.lst<|N.map V.int) ae b13 a14) (os':=[6]) (by rw[ZdK];rfl),rvs]
def jN:List Sm:=[.asg [10]<|.lst [(.tup [])],.forr [5] (.rng1<|.v 3) WY,.asg [12]<|.lst [],
  .forr [14] (.of<|.v 8) [.ex<|.mt .extend (.v 12) [(.comp1 [14] 1 [0] (.of<|.v 10) []<|.bin .add (.v 1)<|.tup [(.v 0)])]],
  .mov 8 12]
def yi{B:Type}(L:List (List B))(M:List B):(grow L M).length=L.length*M.length:=by
 unfold grow
 induction L with|nil=>simp|cons x L ih=>rw[gC,aN,ih,ax,aG,gM,iD]
theorem qW(some':List Nat)(h j:Nat):(YZ p some' h j).length<=5:=by
 have hp:=Uo (p:=p);unfold YZ;split
 .decide
 .split
  .rw[ax,bi];lia
  .decide
theorem uB{k h:Nat}{some':List Nat}{a4 a5 a6 a8 a11 a12 a13 a14:Option V}(s:DS)(hn:n<=6) :
  ∃b5 b11 b12 b13,rv C [12,12,6] (.forr [5] (.rng1<|.v 3) WY) (lpE p n k a4 a5 a6 #[24] a8 (aa<|Zi h) (aa<|.lst<|[([]:Row)].map Zd) a11 a12 a13 a14) [6] s=.ok (.nx (lpE p n k a4 b5 a6 #[24] a8 (aa<|Zi h) (aa<|.lst<|(Z9 p n some' h).map Zd) b11 b12 b13 a14) [6]) s:=by
 obtain⟨ρ',⟨L,c5,c11,c12,c13,rfl,hf,_⟩,e⟩:=Xf (C:=C) (t:=[5]) (it:=.rng1<|.v 3) (s:=s)
  (λl U=>∃(L:List Row)(c5 c11 c12 c13:Option V),U=lpE p n k a4 c5 a6 #[24] a8 (aa<|Zi h) (aa<|.lst<|L.map Zd) c11 c12 c13 a14/\l.foldl (λl j=>grow l<|YZ p some' h j) L=Z9 p n some' h/\∃j,j+l.length=n/\L.length<=5^j/\∀r∈L,r.length<=j)
  (by rw[VC];exact Yx #[11]<|by lia) #[[[]],a5,a11,a12,a13,rfl,rfl,0,by rw[bi];lia,by decide,λr hr=>by rw[aT.mp hr];exact aI _] rfl (λx l U hI=>by
   obtain⟨L,c5,c11,c12,c13,rfl,hf,j,hj,hl,hr⟩:=hI;rw[aG]at hj;have h5:5^j<=5^5:=cZ #[1] #[0]
   have h6:(5:Nat)^5=3125:=by decide
   obtain⟨b11,b13,e1⟩:=uE (p:=p) (L:=L) s #[0] (λr h=>by have:=hr r h;lia)
   refine#[rfl,_,_,rfl,e1,grow L<|YZ p some' h x,_,b11,ae,b13,rfl,hf,j+1,by lia,?_,λr hm=>?_]
   .rw[yi,gP];exact iF hl<|qW ..
   .obtain⟨q,hq,hm⟩:=dD.mp hm
    obtain⟨y,_,rfl⟩:=aO.mp hm;rw[aN,cT];have:=hr q hq;lia)
 rw[iQ]at hf;subst hf;exact#[c5,c11,c12,c13,e]
theorem ue{k h:Nat}{some':List Nat}{Ps:List #[33]}{a4 a5 a6 a10 a11 a12 a13 a14:Option V}(s:DS)(hn:n<=6)(hP:Ps.length*(Z9 p n some' h).length<=100000)(hl:(Z9 p n some' h).length<=100000)(hr:∀P∈Ps,P.length<=900) :
  ∃b5 b10 b11 b13 b14,rvs C [12,12,6] jN (lpE p n k a4 a5 a6 #[24] (aa<|.lst<|Ps.map Zc) (aa<|Zi h) a10 a11 a12 a13 a14) [6] s=.ok (.nx (lpE p n k a4 b5 a6 #[24] (aa<|.lst<|(grow Ps<|Z9 p n some' h).map Zc) (aa<|Zi h) b10 b11 ae b13 b14) [6]) s:=by
 unfold jN;have c0:pv C (.lst [(.tup [])]) (hide [6]<|lpE p n k a4 a5 a6 #[24] (aa<|.lst<|Ps.map Zc) (aa<|Zi h) a10 a11 a12 a13 a14) s=.ok (.lst<|[([]:Row)].map Zd) s:=by
  rw[VC,pE4,Zb (by rw[pE3,pvs];rfl) Zg];rfl
 rw[Zf<|XQ c0 rfl];obtain⟨b5,b11,b12,b13,e1⟩:=uB (p:=p) s hn;show ∃b5 b10 b11 b13 b14,rvs C _ _ (lpE p n k a4 a5 a6 #[24] (aa<|.lst<|Ps.map Zc) (aa<|Zi h) (aa<|.lst<|[([]:Row)].map Zd) a11 a12 a13 a14) [6] s=_;rw[Zf e1]
 let Z:=Z9 p n some' h
 have c1:pv C (.lst []) (hide [6]<|lpE p n k a4 b5 a6 #[24] (aa<|.lst<|Ps.map Zc) (aa<|Zi h) (aa<|.lst<|Z.map Zd) b11 b12 b13 a14) s=.ok (.lst []) s:=by rw[pE4,pvs];rfl
 rw[Zf<|xb c1 rfl rfl (by show 12<15;decide)]
 let U (acc:List #[33]) (x:Option V):Env:=lpE p n k a4 b5 a6 #[24] (aa<|.lst<|Ps.map Zc) (aa<|Zi h) (aa<|.lst<|Z.map Zd) b11 (aa<|.lst<|acc.map Zc) b13 x
 obtain⟨b14,e3⟩:=zN (C:=C) (s:=s) (i:=14) (j:=8) (k:=10) (m:=12) (e2:=Zd) (U:=U) (o:=a14)
  (by rw[Gu,wE7,Ze rfl];rfl) rfl rfl (λacc acc' x=>#[rfl,rfl,λv=>rfl]) WP WP (λacc P hm=>by
   rw[Gu];refine Zw #[31] #[16] λy _=>#[[aa<|Zd y,aa<|Zc P],rfl,?_]
   rw[xu #[11] #[11] (by rw[ax];have:=hr P hm;lia)]
   show PR.ok (V.tup<|P.map Zd++[Zd y]) s=PR.ok (V.tup<|(P++[y]).map Zd) s;rw[bw];rfl) hP
 refine#[b5,aa<|.lst<|Z.map Zd,b11,b13,b14,?_];show rvs C _ (_::[.mov 8 12]) (U [] a14) [12,6] s=_;rw[Zf e3];rw[Zf (ρ':=lpE p n k a4 b5 a6 #[24] (aa<|.lst<|(grow Ps Z).map Zc) (aa<|Zi h) (aa<|.lst<|Z.map Zd) b11 ae b13 b14) (os':=[6]) (by rw[ZdK];rfl),rvs]
def chk(p n:Nat)(some':List Nat)(a:Nat×Bool)(h:Nat):Nat×Bool:=(a.1*(Z9 p n some' h).length,a.2&&af (a.1*(Z9 p n some' h).length<=20000/\(Z9 p n some' h).length<=20000))
theorem Zek{some':List Nat}:∀(l:List Nat)(m:Nat)(b:Bool),(l.foldl (chk p n some') (m,b)).2=aj->b=aj
 |[],_,_,h=>h
 |x::l,m,b,h=>((aC _ _).mp<|Zek l _ _ h).1
def Za6:List Sm:=[.asg [8]<|.lst [(.tup [])],.forr [9] (.of<|.v 7) jN,.ex<|.mt .extend (.v 6) [(.v 8)]]
theorem uk{k:Nat}{some':List Nat}{F:List #[33]}{a4 a5 a8 a9 a10 a11 a12 a13 a14:Option V}(s:DS)(hn:n<=6)(hc:(some'.foldl (chk p n some') (1,aj)).2=aj)(hs:some'.length<=6)(hF:F.length+(Y7 p n some').length<=100000) :
  ∃b5 b8 b9 b10 b11 b12 b13 b14,rvs C [12,12,6] Za6 (lpE p n k a4 a5 (aa<|.lst<|F.map Zc) #[24] a8 a9 a10 a11 a12 a13 a14) [6] s=.ok (.nx (lpE p n k a4 b5 (aa<|.lst<|(F++Y7 p n some').map Zc) #[24] b8 b9 b10 b11 b12 b13 b14) [6]) s:=by
 unfold Za6;have c0:pv C (.lst [(.tup [])]) (hide [6]<|lpE p n k a4 a5 (aa<|.lst<|F.map Zc) #[24] a8 a9 a10 a11 a12 a13 a14) s=.ok (.lst<|[([]:List Row)].map Zc) s:=by
  rw[VC,pE4,Zb (by rw[pE3,pvs];rfl) Zg];rfl
 rw[Zf<|XQ c0 rfl]
 let U (Ps:List #[33]) (a5 a9 a10 a11 a12 a13 a14:Option V):Env:=lpE p n k a4 a5 (aa<|.lst<|F.map Zc) #[24] (aa<|.lst<|Ps.map Zc) a9 a10 a11 a12 a13 a14
 show ∃b5 b8 b9 b10 b11 b12 b13 b14,rvs C _ _ (U [[]] a5 a9 a10 a11 a12 a13 a14) [6] s=_;obtain⟨ρ',⟨Ps,d5,d9,d10,d11,d12,d13,d14,rfl,hf,_⟩,e⟩:=Xf (C:=C) (t:=[9]) (it:=.of<|.v 7) (s:=s)
  (λl ρ'=>∃(Ps:List #[33])(d5 d9 d10 d11 d12 d13 d14:Option V),ρ'=U Ps d5 d9 d10 d11 d12 d13 d14/\l.foldl (λl h=>grow l<|Z9 p n some' h) Ps=Y7 p n some'/\(l.foldl (chk p n some') (Ps.length,aj)).2=aj/\∃j,j+l.length=some'.length/\∀P∈Ps,P.length<=j)
  (by rw[VC,wE7,Ze rfl];rfl) #[[[]],a5,a9,a10,a11,a12,a13,a14,rfl,rfl,hc,0,by lia,λP hP=>by rw[aT.mp hP];exact aI _] rfl (λx l ρ' hI=>by
   obtain⟨Ps,d5,d9,d10,d11,d12,d13,d14,rfl,hf,hk,j,hj,hr⟩:=hI;rw[aG]at hj;have hb:Ps.length*(Z9 p n some' x).length<=20000/\(Z9 p n some' x).length<=20000:=T6 ((aC _ _).mp<|Zek l _ _ hk).2;obtain⟨b5,b10,b11,b13,b14,e1⟩:=ue (p:=p) (h:=x) (some':=some') (Ps:=Ps) s hn #[0] #[0] (λP h=>by have:=hr P h;lia)
   have h1:(aj&&af (Ps.length*(Z9 p n some' x).length<=20000/\(Z9 p n some' x).length<=20000))=aj:=by rw[T5 hb];rfl
   refine#[rfl,_,_,rfl,e1,grow Ps<|Z9 p n some' x,b5,_,b10,b11,ae,b13,b14,rfl,hf,?_,j+1,by lia,λP hm=>?_]
   .have hk':(l.foldl (chk p n some') (Ps.length*(Z9 p n some' x).length,aj&&af (Ps.length*(Z9 p n some' x).length<=20000/\(Z9 p n some' x).length<=20000))).2=aj:=hk
    rw[h1]at hk';rw[yi];exact hk'
   .obtain⟨q,hq,hm⟩:=dD.mp hm
    obtain⟨y,_,rfl⟩:=aO.mp hm;rw[aN,cT];have:=hr q hq;lia)
 rw[iQ]at hf;subst hf;rw[Zf e];refine#[d5,aa<|.lst<|(Y7 p n some').map Zc,d9,d10,d11,d12,d13,d14,?_];rw[Zf ?_,rvs];rw[wm];show(if aj=aj then((PR.ok (F.map Zc) s).bind λxs s=>(pv C (.v 8) (hide [6]<|U (Y7 p n some') d5 d9 d10 d11 d12 d13 d14) s).bind _)else _)=_
 rw[T9 rfl,Za,VC,Ze rfl,Za];show(if ZP ((Y7 p n some').map Zc)=aj/\(F.map Zc).length+((Y7 p n some').map Zc).length<=lim then _ else _)=_
 rw[T9 #[Xu _ λP _=>WP P,by rw[ax,ax];unfold lim;lia],<-bw];rfl
end
def Zh3(q:Nat×Nat):Bool:=(X0 q.2).all λr=>(r.foldl (chk q.1 q.2 r) (1,aj)).2&&af (r.length<=6)
def ZdE:∀q∈QA++Qs,Zh3 q=aj:=by decide +kernel
def yh{C:Zq}{U:Env}{s:DS}{a:E}{Ps:List #[33]}(h1:pv C a U s=.ok (.lst<|Ps.map Zc) s)(h:Z3 Ps=aj):pv C (.blt .sorted [a]) U s=.ok (.lst<|(Yl ltP Ps).map Zc) s:=by
 have pm:∀Ps:List #[33],YI (Ps.map Zc)=aa Ps:=λPs=>by
  induction Ps with
  |nil=>rfl
  |cons P Ps ih=>
   show(match yX (Zc P),YI (Ps.map Zc)with
    |some a,aa b=>aa (a::b)
    |_,_=>ae)=_
   rw[ih,show yX (Zc P)=aa P from YD P]
 have se:∀Ps:List #[33],Zc3 (Ps.map Zc)=ak:=λPs=>by
  cases Ps with|nil=>rfl|cons P Ps=>cases P<;>rfl
 rw[YM,Zb h1 Zg,Za];show po (if Zc3 (Ps.map Zc)=aj then _ else(YI<|Ps.map Zc).bind λps=>if Z3 ps=aj then aa (V.lst<|(Yl ltP ps).map Zc)else ae) s=_
 rw[T8 (by rw[se];simp),pm]
 show po (if Z3 Ps=aj then _ else _) s=_
 rw[T9 h];rfl
section
variable{p n:Nat}[Base p]
theorem qP:∀m,((aM m).foldl (λ(l:List (List Nat)) k=>l++l.map λr=>r++[k]) [[]]).length=2^m:=λm=>by
 induction m with|zero=>rfl|succ m ih=>rw[List.range_succ,List.foldl_append,dM,iQ,aN,ax,ih,gP];lia
theorem u9(d:Nat){k:Nat}(s:DS)(hq:(p,n)∈QA++Qs)(hn:n<=6)(hk:k<=n)(hl:∀j,j<=n->(Z6 p n j).length<=1395):CV (d+1) 9 [spV p n,Zi k] s=.ok (.lst<|(Z6 p n k).map Zc) s:=by
 obtain⟨so,ok⟩:=Zah hq hk (hl k hk) λP hP=>(YX k P hP).2
 refine Zp rfl #[1] rfl ?_
 let U (a4 a5 a6 a7 a8 a9 a10 a11 a12 a13 a14:Option V):Env:=lpE p n k a4 a5 a6 a7 a8 a9 a10 a11 a12 a13 a14
 show rvs (CV d) [12,12,6] (.asg [2,3] (.v 0) :: .asg [4] (.lst [(.tup [])]) :: .forr [5] (.rng1<|.v 3) [.asg [4]<|.bin .add (.v 4)<|.comp1 [5] 1 [0] (.of<|.v 4) []<|.bin .add (.v 0)<|.tup [(.v 1)]] :: .asg [6] (.lst []) ::
  .forr [7] (.of<|.comp1 [1] 1 [0] (.of<|.v 4) [(.cmp .eq (.blt .len [(.v 0)])<|.v 1)]<|.v 0) Za6 :: .ret (.blt .sorted [(.v 6)])::[]) [aa<|spV p n,aa<|Zi k,ae,ae,ae,ae,ae,ae,ae,ae,ae,ae,ae,ae,ae] [] s=_
 rw[Zf<|Xq (CV d) _ (by show pv _ _ _ _=_;exact Ze rfl) #[rfl,rfl]]
 show rvs _ _ _ (U ae ae ae ae ae ae ae ae ae ae ae) [] s=_;have c0:pv (CV d) (.lst [(.tup [])]) (U ae ae ae ae ae ae ae ae ae ae ae) s=.ok (.lst<|[([]:List Nat)].map Zx) s:=by
  rw[pE4,Zb (by rw[pE3,pvs];rfl) Zg];rfl
 rw[Zf<|ZE c0 rfl];show rvs _ _ _ (U (aa<|.lst<|[([]:List Nat)].map Zx) ae ae ae ae ae ae ae ae ae ae) [] s=_;obtain⟨ρ',⟨L,b5,rfl,hf,_⟩,e1⟩:=Xf (ms:=[12,12,6]) (t:=[5]) (it:=.rng1<|.v 3) (b:=[.asg [4]<|.bin .add (.v 4)<|.comp1 [5] 1 [0] (.of<|.v 4) []<|.bin .add (.v 0)<|.tup [(.v 1)]]) (os:=[])
  (λl ρ'=>∃(L:List (List Nat))(b5:Option V),ρ'=U (aa<|.lst<|L.map Zx) b5 ae ae ae ae ae ae ae ae ae/\l.foldl (λ(l:List (List Nat)) k=>l++l.map λr=>r++[k]) L=X0 n/\∃j,j+l.length=n/\L.length=2^j/\∀r∈L,r.length<=j)
  (Yx #[11]<|by lia) #[[[]],ae,rfl,rfl,0,by rw[bi];lia,rfl,λr hr=>by rw[aT.mp hr];exact aI _] rfl (λx l ρ' hI=>by
   obtain⟨L,b5,rfl,hf,j,hj,hL,hr⟩:=hI;rw[aG]at hj;have h5:2^j<=2^6:=cZ #[1] #[0]
   have h6:(2:Nat)^6=64:=by decide
   refine#[rfl,U (aa<|.lst<|L.map Zx) (aa<|Zi x) ae ae ae ae ae ae ae ae ae,U (aa<|.lst<|(L++L.map λr=>r++[x]).map Zx) (aa<|Zi x) ae ae ae ae ae ae ae ae ae,rfl,?_,L++L.map λr=>r++[x],aa<|Zi x,rfl,hf,j+1,by lia,by rw[aN,ax,hL,gP];lia,λr hm=>?_]
   .have hc:=Zw (C:=CV d) (cap:=[5]) (nl:=1) (t:=[0]) (it:=.of<|.v 4) (elt:=.bin .add (.v 0)<|.tup [(.v 1)]) (U:=U (aa<|.lst<|L.map Zx) (aa<|Zi x) ae ae ae ae ae ae ae ae ae) (s:=s) (l:=L) (g:=λr=>Zx<|r++[x]) #[31] #[16] (λr hm=>#[[aa<|Zx r,aa<|Zi x],rfl,by
     rw[xu #[11] #[11] (by rw[ax];have:=hr r hm;lia)]
     show PR.ok (V.tup<|r.map Zi++[Zi x]) s=PR.ok (V.tup<|(r++[x]).map Zi) s;rw[bw];rfl])
    have ha:=Jf (a:=.v 4) #[11] hc (by rw[ax,ax];unfold lim;lia)
    have:(L.map Zx++L.map λr=>Zx<|r++[x])=(L++L.map λr=>r++[x]).map Zx:=by rw[bw,bY];rfl
    rw[this]at ha;rw[Zf<|ZE ha rfl,rvs];rfl
   .rcases bK.mp hm with z|z
    .have:=hr r z;lia
    .obtain⟨q,hq,rfl⟩:=aO.mp z
     rw[aN,cT];have:=hr q hq;lia)
 rw[iQ]at hf;subst hf;rw[Zf e1];have c1:rv (CV d) [12,12,6] (.asg [6]<|.lst []) (U (aa<|.lst<|(X0 n).map Zx) b5 ae ae ae ae ae ae ae ae ae) [] s=.ok (.nx (U (aa<|.lst<|(X0 n).map Zx) b5 (aa<|.lst<|([]:List #[33]).map Zc) ae ae ae ae ae ae ae ae) [6]) s:=by
  simp[pvE,ZP,U,lpE]
 rw[Zf c1];have ll:(X0 n).length<=64:=by
  have e:(X0 n).length=2^n:=qP n;rw[e];exact bW (cZ #[1] hn) #[1]
 have hch:=aY.mp<|ZdE _ hq;have w7:pvw (CV d) (.of<|.comp1 [1] 1 [0] (.of<|.v 4) [(.cmp .eq (.blt .len [(.v 0)])<|.v 1)]<|.v 0) (hide [6]<|U (aa<|.lst<|(X0 n).map Zx) b5 (aa<|.lst<|([]:List #[33]).map Zc) ae ae ae ae ae ae ae ae) s=.ok (((X0 n).filter λr=>af<|r.length=k).map Zx) s:=by
  rw[VC,wE7,Yr (s:=s) #[31] #[16] (λr _=>#[[aa<|Zx r,aa<|Zi k],.bl<|af<|r.length=k,rfl,by
   rw[Y9,YM,Zb #[11] Zg,Za];show(PR.ok (V.int ((r.map Zi).length:Int)) s).bind _=_;rw[Za,Ze rfl,Za,ax];show po (aa<|V.bl<|af<|(r.length:Int)=(k:Int)) s=_;rw[show af ((r.length:Int)=(k:Int))=af (r.length=k)from decide_eq_decide.mpr #[0]];rfl,rfl,λ_=>Ze rfl])]
  rfl
 have tot:(xK p n k).length<=1395:=by
  rw[<-(Sd.Y3<|xK p n k).length_eq,so];exact hl k hk
 obtain⟨ρ2,⟨F,d5,d7,d8,d9,d10,d11,d12,d13,d14,rfl,hf,_⟩,e2⟩:=Xf (t:=[7]) (s:=s)
  (λl ρ'=>∃(F:List #[33])(d5 d7 d8 d9 d10 d11 d12 d13 d14:Option V),ρ'=U (aa<|.lst<|(X0 n).map Zx) d5 (aa<|.lst<|F.map Zc) d7 d8 d9 d10 d11 d12 d13 d14/\F++l.flatMap (Y7 p n)=xK p n k/\∀r∈l,r∈X0 n)
  w7 #[[],b5,ae,ae,ae,ae,ae,ae,ae,ae,rfl,rfl,λr hr=>(dy.mp hr).1] rfl (λr l ρ' hI=>by
   obtain⟨F,d5,d7,d8,d9,d10,d11,d12,d13,d14,rfl,hf,hm⟩:=hI;obtain⟨k1,k2⟩:=(aC _ _).mp<|hch r<|hm r<|al ..;have hF:F.length+(Y7 p n r).length<=1395:=by
    rw[<-hf,gC]at tot;simp only[aN]at tot;lia
   obtain⟨b5',b8,b9,b10,b11,b12,b13,b14,e3⟩:=uk (p:=p) (n:=n) (k:=k) (F:=F) s hn k1 (T6 k2) #[0]
   exact#[by rw[xp];rfl,_,_,rfl,e3,F++Y7 p n r,b5',_,b8,b9,b10,b11,b12,b13,b14,rfl,by rw[bu];exact hf,λq hq=>hm q<|ao _ hq])
 refine(Zf e2).trans ?_;rw[my,bO]at hf;subst hf;refine Zm<|ZI ?_;rw[yh #[11] ok,so]
end
def qj(P:List Row):V.flat (Zc P)=aj:=Xa P
theorem X1:∀L:List #[33],ZP (L.map Zc)=aj
 |[]=>rfl
 |P::L=>by
  show(V.flat (Zc P)&&ZP (L.map Zc))=aj;rw[X1 L,sO];exact Xa P
section
variable{p n:Nat}[Base p]
def Wv(p n:Nat)(P Q:List Row)(k:Nat):List #[33]:=(Z6 p n k).filter λX=>X.all (ZM p Q)&&P.all (ZM p X)
def Uq(p n:Nat)(P Q:List Row):List #[33]:=(aM<|Q.length+1-P.length).flatMap λi=>Wv p n P Q<|P.length+i
def ZbD{P Q X:List Row}(h:X∈Uq p n P Q):pZ p n X:=by
 obtain⟨i,_,hX⟩:=dD.mp h;exact(YX _ X (dy.mp hX).1).1
def UE{P Q:List Row}{k:Nat}(hl:∀j,j<=n->(Z6 p n j).length<=1395)(hk:k<=n):(Wv p n P Q k).length<=1395:=bW (gq ..)<|hl k hk
def Zag{C:Zq}{U:Env}{s:DS}{j i:Nat}{P Q:List Row}(hP:pZ p n P)(hQ:pZ p n Q)(hn:n<=6)(h1:U[i]?=aa (aa<|Zc P))(h2:U[j]?=aa (aa<|.dct<|.inr<|YA p n Q)):pv C (.blt .all [(.comp1 [j] 1 [0] (.of<|.v i) []<|.cmp .inn (.v 0)<|.v 1)]) U s=.ok (.bl<|P.all<|ZM p Q) s:=by
 have hd:=dsum hP;have hm:∀r∈P,(YA p n Q).contains r=ZM p Q r:=λr hr=>by
  rw[cA,gn,ZbO hQ];exact#[λh=>h.2,λh=>#[hP.row r hr,h]]
 have hc:=Zw (C:=C) (cap:=[j]) (nl:=1) (t:=[0]) (it:=.of<|.v i) (elt:=.cmp .inn (.v 0)<|.v 1) (s:=s)
  (by rw[wE7,Ze h1];rfl) (by unfold lim;omega) (λr hr=>#[[aa<|Zd r,aa<|.dct<|.inr<|YA p n Q],by
   show aa [aa<|Zd r,(U[j]?).join]=_;rw[h2];rfl,by
   rw[Y9,Ze rfl,Za,Ze rfl,Za];show po (((intsV<|r.map V.int).map λk=>(YA p n Q).contains k).map V.bl) s=_
   rw[YR];show PR.ok (V.bl<|(YA p n Q).contains r) s=_;rw[hm r hr]])
 rw[YM,Zb hc Zg,Za];show po ((ZY<|P.map λr=>V.bl<|ZM p Q r).map λbs=>V.bl<|bs.all id) s=_
 rw[ZW P];show PR.ok (V.bl<|(P.map λr=>ZM p Q r).all id) s=_
 rw[fQ];rfl
def yc(d:Nat){P Q:List Row}(s:DS)(hn:n<=6)(hP:pZ p n P)(hQ:pZ p n Q)(hp:p^n<=1000):CV (d+3) 10 [spV p n,Zc P,Zc Q] s=.ok (.bl<|P.all<|ZM p Q) s:=by
 refine Zp rfl #[1] rfl ?_
 dsimp only[Ud]
 rw[Zf<|ZE (Ua #[11] #[11]<|ym d s hn hQ hp) rfl];exact Zm<|ZI<|Zag hP hQ hn rfl rfl
def zV{C:Zq}{U:Env}{s:DS}{P Q:List Row}(h1:U[1]?=aa (aa<|Zc P))(h2:U[2]?=aa (aa<|Zc Q))(hp:P.length<=6)(hq:Q.length<=6):pvw C (.rng2 (.blt .len [(.v 1)])<|.bin .add (.blt .len [(.v 2)])<|.n 1) U s=.ok ((aM<|Q.length+1-P.length).map λk=>Zi<|P.length+k) s:=
 G5 (W0<|Ze h1) (by rw[mQ];exact UV (W0<|Ze h2) Yc) #[3] #[3]
def Zcf(d:Nat){P Q:List Row}(s:DS)(hn:n<=6)(hP:pZ p n P)(hQ:pZ p n Q)(hl:∀j,j<=n->(Z6 p n j).length<=1395)(hi:P.all (ZM p Q)=aj):CV (d+6) 31 [spV p n,Zc P,Zc Q] s=.ok (.lst<|(Uq p n P Q).map Zc) s:=by
 have dP:=dsum hP;have dQ:=dsum hQ;refine Zp rfl #[1] rfl ?_
 let U (f:List #[33]) (a4 a5:Option V):Env:=[aa<|spV p n,aa<|Zc P,aa<|Zc Q,aa<|.lst<|f.map Zc,a4,a5]
 show rvs (CV<|d+5) [3,3] Wj.body [aa<|spV p n,aa<|Zc P,aa<|Zc Q,ae,ae,ae] [] s=_
 dsimp only[Wj]
 rw[Zf<|Zbs<|V6 #[11] #[11] #[11]<|Qv d s hn hP hQ];have e1:=X2<|V6 (U:=[aa<|spV p n,aa<|Zc P,aa<|Zc Q,ae,ae,ae]) (x:=.v 0) (y:=.v 1) (z:=.v 2) #[11] #[11] #[11]<|Wl d s hn hP hQ;rw[hi]at e1;rw[guard e1];rw[Zf (ρ':=U [] ae ae) (os':=[3]) (s':=s) (by simp[pvE,ZP,U])]
 obtain⟨ρ',⟨f,a4,a5,rfl,hf,_⟩,e⟩:=Xf (ms:=[3,3]) (t:=[4]) (b:=[.asg [5]<|.comp1 [0,1] 1 [0] (.of<|.call 30 [(.v 0),(.v 4)]) [(.call 26 [(.v 1),(.v 2),(.v 0)])]<|.v 0,.ex<|.mt .extend (.v 3) [(.comp1 [0,2] 1 [0] (.of<|.v 5) [(.call 26 [(.v 1),(.v 0),(.v 2)])]<|.v 0)]]) (os:=[3])
  (λl ρ'=>∃f a4 a5,ρ'=U f a4 a5/\f++l.flatMap (λi=>Wv p n P Q<|P.length+i)=Uq p n P Q/\(∀i∈l,P.length+i<=n)/\f.length+l.length*1395<=10000)
  (zV rfl rfl #[3]<|by omega) #[[],ae,ae,rfl,rfl,λi hi=>by have:=bc.mp hi;omega,by rw[bi,eM];omega] rfl (λi l ρ' hI=>by
   obtain⟨f,a4,a5,rfl,hf,hm,hlen⟩:=hI;have hk:=hm i<|al ..;have hlk:=hl _ hk;rw[aG,gM]at hlen;refine#[rfl,U f #[32] a5,U (f++Wv p n P Q (P.length+i)) #[32]<|aa<|.lst<|((Z6 p n<|P.length+i).filter λX=>P.all<|ZM p X).map Zc,rfl,?_,f++Wv p n P Q (P.length+i),_,_,rfl,by rw[bu];exact hf,λj hj=>hm j<|ao _ hj,by
    have:(Wv p n P Q<|P.length+i).length<=1395:=UE hl hk;rw[aN];omega]
   let ρh (a5:Option V):Env:=[aa<|spV p n,aa<|Zc P,aa<|Zc Q,ae,aa<|Zi<|P.length+i,a5]
   have hh:∀a5,hide [3] (U f #[32] a5)=ρh a5:=λa5=>by simp[hide,i6,U,ρh]
   have hc:pv (CV<|d+5) (.comp1 [0,1] 1 [0] (.of<|.call 30 [(.v 0),(.v 4)]) [(.call 26 [(.v 1),(.v 2),(.v 0)])]<|.v 0) (hide [3]<|U f #[32] a5) s=.ok (.lst<|((Z6 p n<|P.length+i).filter λX=>P.all<|ZM p X).map Zc) s:=by
    rw[hh];exact Yr
     (by rw[wE7,Ua #[11] #[11]<|qA (d+2) s hn hk hl];rfl) (by unfold lim;omega) (λX hX=>#[[aa<|Zc X,aa<|spV p n,aa<|Zc P],.bl<|P.all<|ZM p X,rfl,V6 #[11] #[11] #[11]<|Wl d s hn hP (YX _ X hX).1,rfl,λ_=>Ze rfl])
   rw[Zf<|XQ hc rfl];have hc2:=Yr (cap:=[0,2]) (nl:=1) (t:=[0]) (it:=.of<|.v 5) (tst:=.call 26 [(.v 1),(.v 0),(.v 2)]) (elt:=.v 0) (U:=ρh<|aa<|.lst<|((Z6 p n<|P.length+i).filter λX=>P.all<|ZM p X).map Zc)
    #[31] (by have:((Z6 p n<|P.length+i).filter λX=>P.all<|ZM p X).length<=(Z6 p n<|P.length+i).length:=gq ..;unfold lim;omega) (λX hX=>#[[aa<|Zc X,aa<|spV p n,aa<|Zc Q],.bl<|X.all<|ZM p Q,rfl,V6 #[11] #[11] #[11]<|Wl d s hn (YX _ X (dy.mp hX).1).1 hQ,rfl,λ_=>Ze rfl])
   rw[List.filter_filter]at hc2;have hlm:(Wv p n P Q<|P.length+i).length<=1395:=UE hl hk;rw[Zf (ρ':=U (f++Wv p n P Q (P.length+i)) #[32]<|aa<|.lst<|((Z6 p n<|P.length+i).filter λX=>P.all<|ZM p X).map Zc) (os':=[3]) (by
    rw[wm];show(if aj=aj then((PR.ok (f.map Zc) s).bind λxs s=>(pv (CV<|d+5) _ (hide [3]<|U f #[32] _) s).bind _)else _)=_
    rw[T9 rfl,Za,hh,hc2,Za];show(if ZP ((Wv p n P Q<|P.length+i).map Zc)=aj/\(f.map Zc).length+((Wv p n P Q<|P.length+i).map Zc).length<=lim then _ else _)=_
    rw[T9 #[X1 _,by rw[ax,ax];unfold lim;omega],<-bw]
    rfl),rvs])
 rw[Zf e];rw[my,bO]at hf;subst hf;refine Zm ?_;rw[ZgU];rfl
def ji(d:Nat){P Q:List Row}(s:DS)(hn:n<=6)(hP:pZ p n P)(hQ:pZ p n Q)(hi:P.all (ZM p Q)=ak):CV (d+6) 31 [spV p n,Zc P,Zc Q] s=.ex 6 s:=by
 refine Vh rfl #[1] rfl ?_
 dsimp only[Wj]
 rw[Zf<|Zbs<|V6 #[11] #[11] #[11]<|Qv d s hn hP hQ];have e1:=X2<|V6 (U:=[aa<|spV p n,aa<|Zc P,aa<|Zc Q,ae,ae,ae]) (x:=.v 0) (y:=.v 1) (z:=.v 2) #[11] #[11] #[11]<|Wl d s hn hP hQ;rw[hi]at e1;refine U0<|(Ys<|Yf e1 rfl).trans ?_;rw[T9 #[7]]
 refine U0 ?_;rw[ZhH,Zg];rfl
def ZaX(d:Nat){x y:V}(s:DS)(hn:n<=6)(hx:Th 1000 x)(hy:Th 1000 y)(h:¬(isP p n x=aj/\isP p n y=aj)):CV (d+6) 31 [spV p n,x,y] s=.ex 2 s:=by
 have e:=zK (p:=p) d s hn hx hy;rw[T8 h]at e;refine Vh rfl #[1] rfl ?_
 exact U0<|xn<|W2 (Zb #[11]<|Zb #[11]<|Zb #[11] Zg) e
end
end K63
namespace Lv
open Ev Pv
noncomputable def V0:Fn:=#[2,2,[.ite (.cmp .lt (.v 1)<|.blt .len [(.v 0)]) [.ret<|.ix (.v 0)<|.v 1] [],.ret<|.n 0]]
noncomputable def Vr(c:Nat):Fn:=#[2,3,[.asg [2]<|.call c #[26],.ite (.cmp .ge (.v 2)<|.bin .pow (.n 10)<|.n 18) [.ret<|.lst [(.bin .sub (.v 2)<|.bin .pow (.n 10)<|.n 18),(.c<|.bl aj)]] [],.ret<|.lst [(.bin .mod (.v 2)<|.n 2147483647),(.c<|.bl ak)]]]
noncomputable def JO(nn:Nat)(M:Int)(st:Nat)(B:List Sm)(r:E):Fn:=#[1,nn,[.forr [1] (.rng1<|.blt .max2 [(.n 1),(.blt .min2 [(.blt .len [(.v 0)]),(.c<|.int M)])]) [.cel 2 st #[26] B],.ret r]]
abbrev ZgC(nn:Nat)(M:Int)(st:Nat)(B:List Sm):Fn:=JO nn M st B<|.c<|.bl aj
def Zcv(ht:ca≠tk)(hC:F[ca]?=aa V0){s:DS}{ns:List Int}{k:Int}(d:Nat)(k0:0<=k):∃c,Zl F tk (d+1) ca [.scr ns,.int k] s=.ok (.int c) s:=by
 by_cases c:k<ns.length
 .have hk:k.toNat<ns.length:=by lia
  refine#[ns[k.toNat],?_];simp[Zl,ht,hC,V0,rvs,rE9,Gg,pvs,pE1,pE2,Y9,Vf,YM,Y2,PR.bind,po,ZL,YH,int2,XW,QI,YG,Zs,ixV,at',ixN,k0,c,hk,ofD]
 .refine#[0,?_]
  simp[Zl,ht,hC,V0,rvs,rE9,Gg,pvs,pE1,pE2,Y9,Vf,YM,Y2,PR.bind,po,ZL,YH,int2,XW,QI,YG,Zs,ixV,at',ixN,k0,c,ofD]
def Za7(ht:ca≠tk)(hts:st≠tk)(hC:F[ca]?=aa V0)(hS:F[st]?=aa (Vr ca)){s:DS}{ns:List Int}{k:Int}(d:Nat)(k0:0<=k):∃v d0,Zl F tk (d+2) st [.scr ns,.int k] s=.ok v s/\Qj v=aa d0/\okS d0.1 d0.2=aj:=by
 obtain⟨c,e⟩:=Zcv ht hC (s:=s) (ns:=ns) d k0;rw[show d+2=(d+1)+1 from rfl,Zl,T8 hts,hS]
 generalize Zl F tk (d+1)=C at e ⊢;by_cases h:10^18<=c
 .have h':(1000000000000000000:Int)<=c:=by simpa using h
  have o:okS (c-1000000000000000000) aj=aj:=by simp[okS];lia
  refine#[.lst [.int<|c-1000000000000000000,.bl aj],(c-1000000000000000000,aj),?_,by simp[Qj,o],o]
  simp[Vr,rvs,rE1,rE9,Gg,pvA,pvs,pE1,pE2,pE4,pE7,Y9,Zaw,Y2,PR.bind,po,ZL,YH,int2,Zs,ofD,Xh,Pv.QW,e,h',yO,JL,Zav,jB,Zaj,lim]
 .have h':¬(1000000000000000000:Int)<=c:=by simpa using h
  have o:okS (c%2147483647) ak=aj:=by simp[okS];lia
  refine#[.lst [.int<|c%2147483647,.bl ak],(c%2147483647,ak),?_,by simp[Qj,o],o]
  simp[Vr,rvs,rE1,rE9,Gg,pvA,pvs,pE1,pE2,pE4,pE7,Y9,Zaw,Y2,PR.bind,po,ZL,YH,int2,Zs,ofD,Xh,Pv.QW,e,h',yO,JL,Zav,jB,Zaj,lim]
theorem zg(P:Env->Prop):∀(xs:List V),(∀x∈xs,∀U s,P U->∃ρ' s',P ρ'/\body x U [] s=.ok (.nx ρ' []) s')->∀U s,P U->∃ρ' s',P ρ'/\Y5 body xs U [] s=.ok (.nx ρ' []) s'
 |[],_,U,s,h=>#[U,s,h,rfl]
 |x::xs,hb,U,s,h=>by
  obtain⟨ρ1,s1,h1,e1⟩:=hb x (al ..) U s h;obtain⟨ρ2,s2,h2,e2⟩:=zg P xs (λy hy=>hb y<|ao _ hy) ρ1 s1 h1
  refine#[ρ2,s2,h2,?_];rw[Y5,e1];exact e2
def hide_nil :hide [] U=U:=by
 unfold hide;apply dg
 intro i;rw[gG];cases U[i]?<;>rfl
def Zal(h0:U[0]?=aa (aa<|.scr ns))(h1:U[1]?=aa (aa<|.int k))(hl:U.length=nn+3):(Vo 2 U).set 2 (aa .drw)=aa (.scr ns)::aa (.int k)::aa .drw::aJ nn ae:=by
 match U,h0,h1,hl with
 |a::b::l,h0,h1,hl=>
  cases h0;cases h1;have:l.length=nn+1:=by simpa using hl
  unfold Vo;simp[QK,V.flat,this,cp]
def ZdZ{r:E}(d:Nat)(ht:ca≠tk)(hts:st≠tk)(htl:L≠tk)(hC:F[ca]?=aa V0)(hS:F[st]?=aa (Vr ca))(hL:F[L]?=aa (JO (nn+3) M st B r))(hM:M<2^62)(hr:∀U s,pv (Zl F tk<|d+2) r U s=.ok (.bl aj) s)
  (hv:∀(o:Option V)(k:Nat)(s:DS),∃U os s',rvs (Zl F tk<|d+2) (muts B) B (o::aa (.int k)::aa .drw::aJ nn ae) [] s=.ok (.nx U os) s'/\U[0]?=aa o/\U.length=nn+3)(ns:List Int)(s:DS) :
  ∃S,Zl F tk (d+3) L [.scr ns] s=.ok (.bl aj) S:=by
 rw[show d+3=(d+2)+1 from rfl,Zl,T8 htl,hL]
 have hst:=λk (k0:0<=k) s=>Za7 ht hts hC hS (s:=s) (ns:=ns) (k:=k) d k0
 generalize Zl F tk (d+2)=C at hv hst hr ⊢;have hR:=hr;clear hr;have hr:∃m,pvw C (.rng1<|.blt .max2 [(.n 1),(.blt .min2 [(.blt .len [(.v 0)]),(.c<|.int M)])]) (ZL (nn+3) [.scr ns]) s=.ok (ZV 0 m) s:=by
  have e:pv C (.blt .max2 [(.n 1),(.blt .min2 [(.blt .len [(.v 0)]),(.c<|.int M)])]) (ZL (nn+3) [.scr ns]) s=.ok (.int<|if(if M<(ns.length:Int)then M else(ns.length:Int))>1 then(if M<(ns.length:Int)then M else(ns.length:Int))else 1) s:=by
   simp[pE1,pE2,YM,pvs,PR.bind,po,ZL,ofD,XW,QI,blt2,ur,YG]
  rw[wE1,e];refine#[_,(T9 ?_ :)];unfold Yt;refine T5 ?_;split<;>split<;>lia
 obtain⟨m,hr⟩:=hr;have hm:muts (JO (nn+3) M st B r).body=muts B:=(bO _).trans<|bO _;simp only[hm];show ∃S,(if 1=1 then _ else _)=_
 rw[T9 rfl];unfold JO;simp only;rw[rvs,QX,hide_nil,hr]
 let body:V->Env->List Nat->DS->PR FlV:=λx U os s=>if([1].any os.contains)=aj then .no else(po (Zo [1] x U) s).bind λU s=>rvs C (muts B) [.cel 2 st #[26] B] U os s
 have hb:∀x∈ZV 0 m,∀U s,(U[0]?=aa (aa<|.scr ns)/\U.length=nn+3)->∃ρ' s',(ρ'[0]?=aa (aa<|.scr ns)/\ρ'.length=nn+3)/\body x U [] s=.ok (.nx ρ' []) s':=by
  intro x hx U s #[h0,hl];unfold ZV at hx;obtain⟨k,_,rfl⟩:=aO.mp hx;rw[o6];obtain⟨v,d0,e1,e2,e3⟩:=hst (k:Int) #[0] s
  obtain⟨ρ2,os2,s2,e4,h2,l2⟩:=hv (aa<|.scr ns) k d0;have q0:(U.set 1<|aa<|.int (k:Int))[0]?=aa (aa<|.scr ns):=by rw[bg #[1]];exact h0
  have q1:(U.set 1<|aa<|.int (k:Int))[1]?=aa (aa<|.int (k:Int)):=bn #[0]
  have ql:(U.set 1<|aa<|V.int (k:Int)).length=nn+3:=by rw[bC];exact hl
  have a:pvs C #[26] (U.set 1<|aa<|.int (k:Int)) s=.ok [.scr ns,.int (k:Int)] s:=by
   simp only[pvs,pE2,q0,q1,PR.bind,po,Option.join];rfl
  refine#[ρ2.map QK,s,#[by rw[aU,h2];rfl,by rw[ax];exact l2],?_]
  show(rvs C (muts B) [.cel 2 st #[26] B] (U.set 1<|aa<|.int (k:Int)) [] s)=_;rw[rvs,Zhq,T9 #[7],a]
  show PR.bind (PR.bind (C st [.scr ns,.int (k:Int)] s) _) _=_;rw[e1];show PR.bind (PR.bind (po (Qj v) s) _) _=_;rw[e2];simp only[po,PR.bind,Zal q0 q1 ql,e4,rvs]
 obtain⟨U,s',h,e⟩:=zg (body:=body) (λU=>U[0]?=aa (aa<|.scr ns)/\U.length=nn+3) (ZV 0 m) hb (ZL (nn+3) [.scr ns]) s #[rfl,by simp[ZL]]
 refine#[s',?_];show PR.bind (PR.bind (Y5 body (ZV 0 m) _ _ s) _) _=_;rw[e];show PR.bind (rvs C (muts B) [.ret r] U [] s') _=_;rw[rvs,rE9,hR];rfl
def law_of(d:Nat)(ht:ca≠tk)(hts:st≠tk)(htl:L≠tk)(hC:F[ca]?=aa V0)(hS:F[st]?=aa (Vr ca))(hL:F[L]?=aa (ZgC (nn+3) M st B))(hM:M<2^62)
  (hv:∀(o:Option V)(k:Nat)(s:DS),∃U os s',rvs (Zl F tk<|d+2) (muts B) B (o::aa (.int k)::aa .drw::aJ nn ae) [] s=.ok (.nx U os) s'/\U[0]?=aa o/\U.length=nn+3)(ns:List Int)(s:DS) :
  ∃S,Zl F tk (d+3) L [.scr ns] s=.ok (.bl aj) S:=ZdZ d ht hts htl hC hS hL hM (λ_ _=>by rw[pE1];rfl) hv ns s
end Lv
namespace K63
open Ev Pv Rw La
def GF{C:Zq}{ms:List Nat}{B:Type}{t:List Nat}{it:W}{b:List Sm}{L:List B}{e:B->V}{U:Env}{os:List Nat}{s:DS}(I:Env->List Nat->Prop)(hw:pvw C it (hide os U) s=.ok (L.map e) s)(hI:I U os)
  (h:∀x∈L,∀U os,I U os->(t.any os.contains)=ak/\∃ρ1 ρ' os',Zo t (e x) U=aa ρ1/\(rvs C ms b ρ1 os s=.ok (.nx ρ' os') s\/rvs C ms b ρ1 os s=.ok (.cnt ρ' os') s)/\I ρ' os') :
  ∃ρ' os',I ρ' os'/\rv C ms (.forr t it b) U os s=.ok (.nx ρ' os') s:=by
 rw[QX,hw,Za];clear hw
 induction L generalizing U os with
 |nil=>exact#[U,os,hI,rfl]
 |cons x L ih=>
  obtain⟨ht,ρ1,ρ',os',b1,b2,b3⟩:=h x (al ..) U os hI;obtain⟨ρ2,os2,c1,c2⟩:=ih b3 λy hy=>h y<|ao _ hy
  refine#[ρ2,os2,c1,?_];rw[aX,Y5,T8 (by rw[ht];simp),b1,Z2,Za]
  rcases b2 with b2|b2
  .rw[b2,Za];exact c2
  .rw[b2,Za];exact c2
def zf{C:Zq}{ms:List Nat}{U:Env}{s s':DS}{i:Nat}{e:E}{L:List #[33]}{P:List Row}{os:List Nat}(ho:os.contains i=aj)(h:U[i]?=aa (aa<|.lst<|L.map Zc))(hl:L.length<=10000)(he:pv C e U s=.ok (Zc P) s'):rv C ms (.ex<|.mt .append (.v i) [e]) U os s=.ok (.nx (U.set i<|aa<|.lst<|(L++[P]).map Zc) os) s':=by
 rw[Zf9,T9 ho,h];show(PR.ok (L.map Zc) s).bind _=_;rw[Za,he,Za];rw[T9 #[qj P,by rw[ax];unfold lim;omega],bw]
 rfl
section
variable{p n:Nat}[Base p]
def Zb3(d:Nat){P Q:List Row}(s:DS)(hq:(p,n)∈QA++Qs)(hn:n<=6)(hP:pZ p n P)(hQ:pZ p n Q)(hp:p^n<=1000)(hl:∀j,j<=n->(Z6 p n j).length<=1395):CV (d+4) 11 [spV p n,Zc P,Zc Q] s=.ok (.lst<|(Uq p n P Q).map Zc) s:=by
 have dP:=dsum hP;have dQ:=dsum hQ;refine Zp rfl #[1] rfl ?_
 let U (f:List #[33]) (a5 a6:Option V):Env:=[aa<|spV p n,aa<|Zc P,aa<|Zc Q,aa<|.dct<|.inr<|YA p n Q,aa<|.lst<|f.map Zc,a5,a6]
 show rvs (CV<|d+3) [4] WK.body [aa<|spV p n,aa<|Zc P,aa<|Zc Q,ae,ae,ae,ae] [] s=_
 dsimp only[WK]
 rw[Zf<|ZE (Ua #[11] #[11]<|ym (d+1) s hn hQ hp) rfl];rw[Zf (ρ':=U [] ae ae) (os':=[4]) (s':=s) (by simp[pvE,ZP,U])]
 let T:E:=.and (.blt .all [(.comp1 [3] 1 [0] (.of<|.v 6) []<|.cmp .inn (.v 0)<|.v 1)])<|.call 10 [(.v 0),(.v 1),(.v 6)]
 let q:List Row->Bool:=λX=>X.all (ZM p Q)&&P.all (ZM p X)
 have inner:∀(l:List #[33])(f:List #[33])(a5 a6:Option V),(∀X∈l,pZ p n X)->f.length+l.length<=10000->∃b6,Y5 (λx U os s=>if(([6]:List Nat).any os.contains)=aj then .no else(po (Zo [6] x U) s).bind λU s=>rvs (CV<|d+3) [4] [.ite T [.ex<|.mt .append (.v 4) [(.v 6)]] []] U os s) (l.map Zc) (U f a5 a6) [4] s=.ok (.nx (U (f++l.filter q) a5 b6) [4]) s:=λl=>by
  induction l with
  |nil=>intro f a5 a6 _ _;exact#[a6,by rw[List.filter_nil,bO];rfl]
  |cons X l ih=>
   intro f a5 a6 h hl2;have hX:=h X<|al ..;rw[aG]at hl2;have t:Y2 (CV<|d+3) T (U f a5<|aa<|Zc X) s=.ok (q X) s:=Yf (J6 (Zag hX hQ hn rfl rfl)<|V6 #[11] #[11] #[11]<|yc d s hn hP hX hp) rfl;cases c:q X with
   |true=>
    obtain⟨b6,e⟩:=ih (f++[X]) a5 (aa<|Zc X) (λY hY=>h Y<|ao _ hY) (by rw[aN,cT];omega)
    refine#[b6,?_];rw[aX,Y5,T8 #[2]]
    show((PR.ok (U f a5<|aa<|Zc X) s).bind λU s=>rvs (CV<|d+3) [4] [.ite T [.ex<|.mt .append (.v 4) [(.v 6)]] []] U [4] s).bind _=_
    rw[Za,Zf ((Ys t).trans (by rw[T9 c,Zf (zf rfl rfl #[3]<|Ze rfl),rvs])),rvs,Za,List.filter_cons_of_pos c]
    rw[bu,List.singleton_append]at e;exact e
   |false=>
    obtain⟨b6,e⟩:=ih f a5 (aa<|Zc X) (λY hY=>h Y<|ao _ hY) #[3]
    refine#[b6,?_];rw[aX,Y5,T8 #[2]]
    show((PR.ok (U f a5<|aa<|Zc X) s).bind λU s=>rvs (CV<|d+3) [4] [.ite T [.ex<|.mt .append (.v 4) [(.v 6)]] []] U [4] s).bind _=_
    rw[Za,Zf ((Ys t).trans (by rw[T8 (by rw[c];simp),rvs])),rvs,Za,List.filter_cons_of_neg (by rw[c];simp)]
    exact e
 obtain⟨ρ',⟨f,a5,a6,rfl,hf,_⟩,e⟩:=Xf (t:=[5]) (b:=[.forr [6] (.of<|.call 9 [(.v 0),(.v 5)]) [.ite T [.ex<|.mt .append (.v 4) [(.v 6)]] []]]) (os:=[4])
  (λl ρ'=>∃f a5 a6,ρ'=U f a5 a6/\f++l.flatMap (λi=>Wv p n P Q<|P.length+i)=Uq p n P Q/\(∀i∈l,P.length+i<=n)/\f.length+l.length*1395<=10000)
  (zV rfl rfl #[3]<|by omega) #[[],ae,ae,rfl,rfl,λi hi=>by have:=bc.mp hi;omega,by rw[bi,eM];omega] rfl (λi l ρ' hI=>by
   obtain⟨f,a5,a6,rfl,hf,hm,hlen⟩:=hI;have hk:=hm i<|al ..;have hlk:=hl _ hk;rw[aG,gM]at hlen;obtain⟨b6,e6⟩:=inner (Z6 p n<|P.length+i) f #[32] a6 (λX hX=>(YX _ X hX).1) #[3]
   refine#[rfl,U f #[32] a6,U (f++Wv p n P Q (P.length+i)) #[32] b6,rfl,?_,f++Wv p n P Q (P.length+i),_,_,rfl,by rw[bu];exact hf,λj hj=>hm j<|ao _ hj,by
    have:(Wv p n P Q<|P.length+i).length<=1395:=UE hl hk;rw[aN];omega]
   have hh:hide [4] (U f #[32] a6)=[aa<|spV p n,aa<|Zc P,aa<|Zc Q,aa<|.dct<|.inr<|YA p n Q,ae,aa<|Zi<|P.length+i,a6]:=by simp[hide,i6,U]
   rw[Zf (ρ':=U (f++Wv p n P Q (P.length+i)) #[32] b6) (by
    rw[QX,hh,wE7,Ua #[11] #[11]<|u9 (d+2) s hq hn hk hl];exact e6),rvs])
 refine(Zf e).trans ?_;rw[my,bO]at hf;subst hf;exact Zm<|ZI<|Ze rfl
end
section
variable{C:Zq}{ms os:List Nat}{U:Env}{s s':DS}{e a b:E}{i j:Nat}
def ZU{v:V}(h:U[i]?=aa (aa v))(ho:os.contains i=ak):(hide os U)[i]?=aa (aa v):=by
 unfold hide;rw[gG,h];show aa (if os.contains i=aj then ae else aa v)=_
 rw[T8 (by rw[ho];simp)]
def vc{v:V}(h:pv C e (hide os U) s=.ok v s')(hm:(ms.contains i&&fresh e)=ak):rv C ms (.asg [i] e) U os s=.ok (.nx (U.set i<|aa v) (os.filter (· != i))) s':=by
 cases os with|nil=>rw[Lv.hide_nil]at h;exact ZE h hm|cons o os=>exact XQ h hm
def Zb8{xs:List V}(h:pv C e (hide os U) s=.ok #[35] s')(hm:(ms.contains i&&fresh e)=aj)(hf:ZP xs=aj)(hi:i<U.length):rv C ms (.asg [i] e) U os s=.ok (.nx (U.set i<|aa<|.lst xs) (i::os.filter (· != i))) s':=by
 cases os with
 |nil=>
  rw[Lv.hide_nil]at h;have h1:pvA C e U [] s=.ok #[35] s':=h;rw[rE1,h1,Za,T9 hm];show(if ZP xs=aj/\i<U.length then _ else _)=_
  rw[T9 #[hf,hi]]
 |cons o os=>exact xb h hm hf hi
def vn{x y:V}(h:pvs C [a,b] (hide os U) s=.ok [x,y] s')(ho:([i,j].any os.contains)=ak):rv C ms (.par [i,j] [a,b]) U os s=.ok (.nx ((U.set i<|aa x).set j<|aa y) os) s':=by
 have h1:Zgj C [a,b] U os s=.ok [x,y] s':=by
  cases os with|nil=>rw[Lv.hide_nil]at h;exact h|cons o os=>unfold Zgj;dsimp only;rw[h]
 rw[rE3,h1,Za,T8 (by rw[ho];simp)];rfl
end
section
variable{p n:Nat}[Base p]
def kE(o0:Option V)(c p n:Nat)(P R:List Row)(m:Nat)(W:List Row)(a8 a9 a10 a11 a12 a13 a14 a15:Option V):Env:=[o0,aa<|.int c,aa .drw,aa<|spV p n,aa<|Zc P,aa<|Zc R,aa<|Zi m,aa<|Zc W,a8,a9,a10,a11,a12,a13,a14,a15]
def jI:List Sm:=[.asg [12]<|.callF 31 #[21],
  .ite (.not<|.call 35 [(.v 12),(.v 10)]) #[19] [],
  .ex (.mt .append (.v 12) [(.tup [])])]
def G4:List Sm:=[.ite (.not<|.call 10 #[21]) [.ite (.cmp .ne (.refu aj<|.call 31 #[21])<|.c<|.str<|bL "not in") #[19] [],
  .cnt] [],
  .asg [10] (.call 11 #[21]),
  .forr [11] (.rng1<|.n 2) jI]
noncomputable def thB:List Sm:=[.asg [15]<|.and (.call 34 [(.v 3),(.v 8)])<|.call 34 [(.v 3),(.v 9)],
  .ite (.and (.not<|.v 15)<|.cmp .ne (.refu aj<|.call 31 #[21])<|.c<|.str<|bL "part") #[19] []]
def jo:List Sm:=[.asg [3]<|.call 3 [(.v 2),(.ix (.lst [(.n 27),(.n 32)])<|.blt .toInt [(.cmp .eq (.v 1)<|.n 0)])],
  .par [4,5] [(.call 7 [(.v 2),(.v 3)]),(.call 7 [(.v 2),(.v 3)])],
  .asg [6] (.call 2 [(.v 2),(.bin .add (.blt .len [(.v 4)])<|.n 1)]),
  .asg [7] (.call 5 [(.v 3),(.bin .add (.v 4)<|.v 5)]),
  .forr [8,9] (.of<|.lst [(.tup [(.v 4),(.v 7)]),(.tup [(.sl (.v 4) ae<|aa<|.v 6),(.v 4)]),(.tup [(.v 4),(.v 5)]),(.tup [(.v 5),(.v 4)]),(.tup [(.tup []),(.v 7)])]) G4,
  .par [13,14] [(.call 12 [(.v 2),(.v 3),(.v 4)]),(.ix (.lst [(.call 12 [(.v 2),(.v 3),(.v 7)]),(.call 36 [(.v 2)])])<|.call 2 [(.v 2),(.n 2)])],
  .forr [8,9] (.of<|.lst [(.tup [(.v 13),(.v 7)]),(.tup [(.v 4),(.v 14)]),(.tup [(.v 13),(.v 14)]),(.tup [(.v 14),(.v 13)])]) thB]
variable{o0:Option V}{c m:Nat}{P R W:List Row}
def vm{C:Zq}{U:Env}{s:DS}{f:Nat}{as:List E}{vs:List V}{x:PySem.Str}{c:Nat}(h:pvs C as U s=.ok vs s)(hc:C f vs s=.ex c s)(h1:1<=c/\c<=10)(hx:qa aj (c-1)=.str x):pv C (.cmp .ne (.refu aj<|.call f as)<|.c<|.str x) U s=.ok (.bl ak) s:=
 ne_str (by rw[Zce (W2 h hc) h1,hx]) (by rw[pE1];rfl)
def Zb6{F S:List Row}(hF:pZ p n F)(hS:pZ p n S)(hn:n<=6)(hl:∀j,j<=n->(Z6 p n j).length<=1395):(Uq p n F S).length<=9765:=by
 have:=dsum hS;have hz:∀(l:List Nat),(∀i∈l,F.length+i<=n)->(l.flatMap λi=>Wv p n F S<|F.length+i).length<=l.length*1395:=λl=>by
  induction l with
  |nil=>intro _;simp
  |cons i l ih=>
   intro h;rw[gC,aN,aG,gM];have:=ih λj hj=>h j<|ao _ hj
   have:=UE (P:=F) (Q:=S) hl<|h i<|al ..;omega
 have:=hz (aM<|S.length+1-F.length) λi hi=>by have:=bc.mp hi;omega
 rw[bi]at this;unfold Uq;omega
def ui(d:Nat){F S:List Row}{a11 a12:Option V}{os:List Nat}(s:DS)(hn:n<=6)(hF:pZ p n F)(hS:pZ p n S)(hl:∀j,j<=n->(Z6 p n j).length<=1395)(hi:F.all (ZM p S)=aj)(ho:os=[]\/os=[12]):rvs #[40] [12] jI (kE o0 c p n P R m W (aa<|Zc F) (aa<|Zc S) (aa<|.lst<|(Uq p n F S).map Zc) a11 a12 ae ae ae) os s=.ok (.nx (kE o0 c p n P R m W (aa<|Zc F) (aa<|Zc S) (aa<|.lst<|(Uq p n F S).map Zc) a11 (aa<|.lst<|(Uq p n F S++[[]]).map Zc) ae ae ae) [12]) s:=by
 let B:=Uq p n F S
 let U (a12:Option V):Env:=kE o0 c p n P R m W (aa<|Zc F) (aa<|Zc S) (aa<|.lst<|B.map Zc) a11 a12 ae ae ae
 have hc:∀i,i≠12->os.contains i=ak:=λi h=>by rcases ho with rfl|rfl<;>simp[h]
 have hb:B.length<=9765:=Zb6 hF hS hn hl;unfold jI;rw[Zf<|Zb8 (ZbJ (Zb (Ze<|ZU rfl<|hc 3<|by decide)<|Zb (Ze<|ZU rfl<|hc 8<|by decide)<|Zb (Ze<|ZU rfl<|hc 9<|by decide) Zg)<|Zcf (d+3) s hn hF hS hl hi) rfl (X1 B) (show 12<16 by decide)]
 have eo:12::os.filter (· != 12)=[12]:=by rcases ho with rfl|rfl<;>rfl
 rw[eo];rw[Qn<|X2<|Ua #[11] (Ze (v:=.lst<|B.map Zc) rfl)<|xN (d+5) s hn #[3] λX hX=>ZbD hX]
 rw[Zf (zf (L:=B) (P:=[]) rfl rfl #[3] (by rw[pE3,Zg];rfl)),rvs]
 rfl
def uH(d:Nat){F S:List Row}{a10 a11 a12:Option V}{os:List Nat}(s:DS)(hq:(p,n)∈QA++Qs)(hn:n<=6)(hp:p^n<=1000)(hF:pZ p n F)(hS:pZ p n S)(hl:∀j,j<=n->(Z6 p n j).length<=1395)(ho:os=[]\/os=[12]):∃b10 b11 b12 os',(os'=[]\/os'=[12])/\(rvs #[40] [12] G4 (kE o0 c p n P R m W (aa<|Zc F) (aa<|Zc S) a10 a11 a12 ae ae ae) os s=.ok (.nx (kE o0 c p n P R m W (aa<|Zc F) (aa<|Zc S) b10 b11 b12 ae ae ae) os') s\/rvs #[40] [12] G4 (kE o0 c p n P R m W (aa<|Zc F) (aa<|Zc S) a10 a11 a12 ae ae ae) os s=.ok (.cnt (kE o0 c p n P R m W (aa<|Zc F) (aa<|Zc S) b10 b11 b12 ae ae ae) os') s):=by
 let B:=Uq p n F S
 let U (a10 a11 a12:Option V):Env:=kE o0 c p n P R m W (aa<|Zc F) (aa<|Zc S) a10 a11 a12 ae ae ae
 have hc:∀i,i≠12->os.contains i=ak:=λi h=>by rcases ho with rfl|rfl<;>simp[h]
 have lie:pv #[40] (.not<|.call 10 #[21]) (U a10 a11 a12) s=.ok (.bl<|!(F.all<|ZM p S)) s:=X2<|V6 #[11] #[11] #[11]<|yc (d+6) s hn hF hS hp;cases hi:F.all (ZM p S)with
 |false=>
  rw[hi]at lie;refine#[a10,a11,a12,os,ho,.inr ?_];unfold G4;have j:=vm (x:=bL "not in") (U:=U a10 a11 a12) (as:=#[21]) (Zb #[11]<|Zb #[11]<|Zb #[11] Zg) (ji (d+3) s hn hF hS hi) #[by decide,by decide] rfl
  rw[rvs,Ys<|Yf lie rfl,T9 #[7],Qn j,rvs,Zih];rfl
 |true=>
  rw[hi]at lie;unfold G4;rw[Qn lie];have e1:=vc (ms:=[12]) (i:=10) (U:=U a10 a11 a12) (Zr (Zb (Ze<|ZU rfl<|hc 3<|by decide)<|Zb (Ze<|ZU rfl<|hc 8<|by decide)<|Zb (Ze<|ZU rfl<|hc 9<|by decide) Zg)<|Zb3 (d+5) s hq hn hF hS hp hl) rfl
  have eo:os.filter (· != 10)=os:=by rcases ho with rfl|rfl<;>rfl
  rw[eo]at e1;rw[Zf e1];obtain⟨ρ',os',⟨b11,b12,rfl,o1⟩,e2⟩:=GF (t:=[11]) (λρ' os'=>∃b11 b12,ρ'=U (aa<|.lst<|B.map Zc) b11 b12/\(os'=[]\/os'=[12])) (Yx (n:=2) Yc<|by decide) #[a11,a12,rfl,ho] (by
   rintro x _ ρ' os' ⟨b11,b12,hr,o1⟩;subst hr;exact#[by rcases o1 with rfl|rfl<;>rfl,U (aa<|.lst<|B.map Zc) (aa<|Zi x) b12,U (aa<|.lst<|B.map Zc) (aa<|Zi x)<|aa<|.lst<|(B++[[]]).map Zc,[12],rfl,.inl<|ui d s hn hF hS hl hi o1,_,_,rfl,.inr rfl])
  refine#[aa<|.lst<|B.map Zc,b11,b12,os',o1,.inl ?_];exact(Zf e2).trans (by rw[rvs])
def Zdl(d:Nat){x y:V}{a10 a11 a12 a13 a14 a15:Option V}{os:List Nat}(s:DS)(hn:n<=6)(hx:Th 1000 x)(hy:Th 1000 y)(ho:os=[]\/os=[12]):∃b15,rvs #[40] [12] thB (kE o0 c p n P R m W (aa x) (aa y) a10 a11 a12 a13 a14 a15) os s=.ok (.nx (kE o0 c p n P R m W (aa x) (aa y) a10 a11 a12 a13 a14 b15) os) s:=by
 let U (a15:Option V):Env:=kE o0 c p n P R m W (aa x) (aa y) a10 a11 a12 a13 a14 a15
 have hc:∀i,i≠12->os.contains i=ak:=λi h=>by rcases ho with rfl|rfl<;>simp[h]
 have e1:=vc (ms:=[12]) (i:=15) (U:=U a15) (J6 (Ua (Ze<|ZU rfl<|hc 3<|by decide) (Ze<|ZU rfl<|hc 8<|by decide)<|Ui (d+6) s hn hx.1 hx.2)<|Ua (Ze<|ZU rfl<|hc 3<|by decide) (Ze<|ZU rfl<|hc 9<|by decide)<|Ui (d+6) s hn hy.1 hy.2) rfl
 have eo:os.filter (· != 15)=os:=by rcases ho with rfl|rfl<;>rfl
 rw[eo]at e1;refine#[aa<|.bl<|isP p n x&&isP p n y,?_];unfold thB;rw[Zf e1];show rvs _ _ _ (U<|aa<|.bl<|isP p n x&&isP p n y) os s=_;have nb:=X2 (C:=CV<|d+9) (s:=s)<|Ze (U:=U<|aa<|.bl<|isP p n x&&isP p n y) (i:=15) rfl;cases g:isP p n x&&isP p n y with
 |true=>
  rw[g]at nb;rw[Qn (by rw[jG,nb];rfl),rvs]
 |false=>
  rw[g]at nb;have j:=vm (x:=bL "part") (U:=U<|aa<|.bl ak) (as:=#[21]) (Zb #[11]<|Zb #[11]<|Zb #[11] Zg) (ZaX (d+3) s hn hx hy λh=>by rw[h.1,h.2]at g;cases g) #[by decide,by decide] rfl
  rw[Qn<|J6 nb j,rvs]
end
noncomputable def ZhO(q:Nat×Nat):Bool:=af<|q.1^q.2<=125
def ZdV:∀q∈QA++Qs,ZhO q=aj:=by decide +kernel
def wK{p n:Nat}[Base p]{P:List Row}(hP:pZ p n P)(hn:n<=6):Th 1000 (Zc P):=
 Y0 (U5 λx hx=>by
  obtain⟨r,_,rfl⟩:=aO.mp hx;exact U5 λy hy=>by obtain⟨a,_,rfl⟩:=aO.mp hy;rfl) (by rw[ax];have:=dsum hP;omega)
def Zbl(d:Nat)(o0:Option V)(c:Nat)(s:DS):∃ρ' os' s',rvs #[40] (muts jo) jo (o0::aa (.int c)::aa .drw::aJ 13 ae) [] s=.ok (.nx ρ' os') s'/\ρ'[0]?=aa o0/\ρ'.length=13+3:=by
 unfold jo
 let ρ0:Env:=[o0,aa<|.int c,aa .drw,ae,ae,ae,ae,ae,ae,ae,ae,ae,ae,ae,ae,ae]
 show ∃ρ' os' s',rvs #[40] [12] _ ρ0 [] s=.ok (.nx ρ' os') s'/\ρ'[0]?=aa o0/\ρ'.length=13+3;obtain⟨m,e0,hm⟩:∃m:Int,pv (CV<|d+9) (.ix (.lst [(.n 27),(.n 32)])<|.blt .toInt [(.cmp .eq (.v 1)<|.n 0)]) ρ0 s=.ok (.int m) s/\2<=m:=by
  have g1:pv #[40] (.lst [(.n 27),(.n 32)]) ρ0 s=.ok (.lst [.int 27,.int 32]) s:=by simp[pvE,ofD]
  have g2:pv #[40] (.blt .toInt [(.cmp .eq (.v 1)<|.n 0)]) ρ0 s=.ok (.int<|b2i<|af<|(c:Int)=0) s:=by
   rw[YM,Zb (by rw[Y9,Ze rfl,Za,Yc];rfl) Zg];rfl
  by_cases z:(c:Int)=0
  .refine#[32,?_,by omega]
   rw[Vf,g1,Za,g2,Za,T5 z];rfl
  .refine#[27,?_,by omega]
   rw[Vf,g1,Za,g2,Za,T4 z];rfl
 obtain⟨p,n,s1,f1,f2,f3,f4,f5⟩:=uT (d+7) s hm;have hB:Base p:=⟨f2⟩;have hl:∀j,j<=n->(Z6 p n j).length<=1395:=λj hj=>T6<|aY.mp (aY.mp ZbA (p,n) f5) j<|bc.mpr #[3]
 have hp:p^n<=125:=T6<|ZdV (p,n) f5;rw[Zf<|ZE (Zr (Zb #[11]<|Zb e0 Zg) f1) rfl]
 let ρa (a4 a5 a6 a7:Option V):Env:=[o0,aa<|.int c,aa .drw,aa<|spV p n,a4,a5,a6,a7,ae,ae,ae,ae,ae,ae,ae,ae]
 obtain⟨P,s2,p1,hP⟩:=zi (p:=p) (d+6) s1 f4;obtain⟨R,s3,p2,hR⟩:=zi (p:=p) (d+6) s2 f4;rw[Zf (vn (by
  rw[Lv.hide_nil];exact Zb (Zr #[25] p1)<|Zb (Zr #[25] p2) Zg) rfl)]
 show ∃ρ' os' s',rvs _ _ _ (ρa (aa<|Zc P) (aa<|Zc R) ae ae) [] s3=.ok (.nx ρ' os') s'/\ρ'[0]?=aa o0/\ρ'.length=13+3;have dP:=dsum hP;have dR:=dsum hR;obtain⟨zz,s4,w6,z0,z1⟩:=Ya (d+8) s3 (U:=ρa (aa<|Zc P) (aa<|Zc R) ae ae) (i:=2) (e:=.bin .add (.blt .len [(.v 4)])<|.n 1) rfl (UV (W0<|Ze rfl) Yc) #[3] #[3]
 obtain⟨z,rfl⟩:∃z:Nat,zz=z:=#[zz.toNat,by omega]
 rw[Zf<|ZE w6 rfl];show ∃ρ' os' s',rvs #[40] _ _ (ρa (aa<|Zc P) (aa<|Zc R) (aa<|Zi z) ae) [] s4=.ok (.nx ρ' os') s'/\ρ'[0]?=aa o0/\ρ'.length=13+3;obtain⟨W,w7,hW⟩:=Wa (d+7) (v:=Zc<|P++R) s4 f4 (λr hr=>(bK.mp hr).elim (hP.row r)<|hR.row r) (by rw[aN];omega) rfl
 have hW:=hW.part;have a7:pv #[40] (.bin .add (.v 4)<|.v 5) (ρa (aa<|Zc P) (aa<|Zc R) (aa<|Zi z) ae) s4=.ok (Zc<|P++R) s4:=by
  rw[Xy #[11] #[11] (by rw[ax,ax];omega),<-bw];rfl
 rw[Zf<|ZE (Ua #[11] a7 w7) rfl]
 let U (a8 a9 a10 a11 a12 a13 a14 a15:Option V):Env:=kE o0 c p n P R z W a8 a9 a10 a11 a12 a13 a14 a15
 show ∃ρ' os' s',rvs _ _ _ #[41] [] s4=.ok (.nx ρ' os') s'/\ρ'[0]?=aa o0/\ρ'.length=13+3;have two:∀{a b:E}{x y:V}{U:Env},pv #[40] a U s4=.ok x s4->pv #[40] b U s4=.ok y s4->pv #[40] (.tup [a,b]) U s4=.ok (.tup [x,y]) s4:=λ{a b x y U} h1 h2=>by
  rw[pE3,Zb h1<|Zb h2 Zg,Za,T9 (by show 2<=lim;decide)]
 have wl:pvw #[40] (.of<|.lst [(.tup [(.v 4),(.v 7)]),(.tup [(.sl (.v 4) ae<|aa<|.v 6),(.v 4)]),(.tup [(.v 4),(.v 5)]),(.tup [(.v 5),(.v 4)]),(.tup [(.tup []),(.v 7)])]) (hide []<|U ae ae ae ae ae ae ae ae) s4=.ok ([(P,W),(P.take z,P),(P,R),(R,P),([],W)].map λx=>V.tup [Zc x.1,Zc x.2]) s4:=by
  have v1:pv #[40] (.sl (.v 4) ae<|aa<|.v 6) #[41] s4=.ok (Zc<|P.take z) s4:=by
   rw[wP #[11]<|Ze rfl,Zaz (by rw[ax];omega),<-sK];rfl
  have v0:pv #[40] (.tup []) #[41] s4=.ok (Zc []) s4:=by rw[pE3,pvs];rfl
  have u4:pv #[40] (.v 4) #[41] s4=.ok (Zc P) s4:=Ze rfl;have u5:pv #[40] (.v 5) #[41] s4=.ok (Zc R) s4:=Ze rfl;have u7:pv #[40] (.v 7) #[41] s4=.ok (Zc W) s4:=Ze rfl;rw[Lv.hide_nil,wE7,pE4,Zb (two u4 u7)<|Zb (two v1 u4)<|Zb (two u4 u5)<|Zb (two u5 u4)<|Zb (two v0 u7) Zg];rfl
 have each:∀x∈[(P,W),(P.take z,P),(P,R),(R,P),([],W)],pZ p n x.1/\pZ p n x.2:=by
  intro x hx;simp only[ay,mz,or_false]at hx;rcases hx with rfl|rfl|rfl|rfl|rfl
  .exact#[hP,hW]
  .exact#[ZaI hP<|lF ..,hP]
  .exact#[hP,hR]
  .exact#[hR,hP]
  .exact#[pZ.nil,hW]
 obtain⟨ρ',os1,⟨b8,b9,b10,b11,b12,hr,o1⟩,e1⟩:=GF (t:=[8,9]) (λρ' os'=>∃a8 a9 a10 a11 a12,ρ'=U a8 a9 a10 a11 a12 ae ae ae/\(os'=[]\/os'=[12])) wl #[ae,ae,ae,ae,ae,rfl,.inl rfl] (by
  rintro x hx ρ' os' ⟨a8,a9,a10,a11,a12,hr,o1⟩;subst hr;obtain⟨x1,x2⟩:=each x hx;obtain⟨b10,b11,b12,os2,o2,e⟩:=uH d s4 f5 f4 #[3] x1 x2 hl o1
  exact#[by rcases o1 with rfl|rfl<;>rfl,U (aa<|Zc x.1) (aa<|Zc x.2) a10 a11 a12 ae ae ae,_,os2,rfl,e,_,_,_,_,_,rfl,o2])
 subst hr;rw[Zf e1];have hc:∀i,i≠12->os1.contains i=ak:=λi h=>by rcases o1 with rfl|rfl<;>simp[h]
 obtain⟨x1,s5,y1,u1⟩:=zn (d+6) s4 f4 f3 hP;obtain⟨x2,s6,y2,u2⟩:=zn (d+6) s5 f4 f3 hW;obtain⟨x3,s7,y3,u3⟩:=ZdA (d+7) s6
 let ρh:=hide os1<|U b8 b9 b10 b11 b12 ae ae ae
 have g2:pv #[40] (.v 2) ρh=λs=>.ok .drw s:=funext λs=>Ze<|ZU rfl<|hc 2 #[1]
 have at3:∀{s:DS},pv #[40] (.v 3) ρh s=.ok (spV p n) s:=Ze<|ZU rfl<|hc 3 #[1]
 have at2:∀{s:DS},pv #[40] (.v 2) ρh s=.ok .drw s:=Ze<|ZU rfl<|hc 2 #[1]
 have at4:∀{s:DS},pv #[40] (.v 4) ρh s=.ok (Zc P) s:=Ze<|ZU rfl<|hc 4 #[1]
 have at7:∀{s:DS},pv #[40] (.v 7) ρh s=.ok (Zc W) s:=Ze<|ZU rfl<|hc 7 #[1]
 have l2:pv #[40] (.lst [(.call 12 [(.v 2),(.v 3),(.v 7)]),(.call 36 [(.v 2)])]) ρh s5=.ok (.lst [x2,x3]) s7:=by
  rw[pE4,Zb (Zr (Zb at2<|Zb at3<|Zb at7 Zg) y2)<|Zb (Zr (Zb at2 Zg) y3) Zg];rfl
 obtain⟨v,s8,q2,v0,v1⟩:=Ya (d+8) s7 (m:=2) (U:=ρh) (ZU rfl<|hc 2<|by decide) Yc #[1] #[1]
 obtain⟨y,hy,q4⟩:=pick l2 q2 v0 #[3]
 have uy:Th 1000 y:=by
  simp only[ay,mz,or_false]at hy;rcases hy with rfl|rfl
  .exact u2
  .exact u3
 rw[Zf (vn (Zb (Zr (Zb at2<|Zb at3<|Zb at4 Zg) y1)<|Zb q4 Zg) (by rcases o1 with rfl|rfl<;>rfl))]
 let ρt (a8 a9 a15:Option V):Env:=U a8 a9 b10 b11 b12 (aa x1) (aa y) a15
 show ∃ρ' os' s',rvs _ _ _ (ρt b8 b9 ae) os1 s8=.ok (.nx ρ' os') s'/\ρ'[0]?=aa o0/\ρ'.length=13+3;have wt:pvw #[40] (.of<|.lst [(.tup [(.v 13),(.v 7)]),(.tup [(.v 4),(.v 14)]),(.tup [(.v 13),(.v 14)]),(.tup [(.v 14),(.v 13)])]) (hide os1<|ρt b8 b9 ae) s8=.ok ([(x1,Zc W),(Zc P,y),(x1,y),(y,x1)].map λx=>V.tup [x.1,x.2]) s8:=by
  have two:∀{i j:Nat}{x y:V},(ρt b8 b9 ae)[i]?=aa (aa x)->(ρt b8 b9 ae)[j]?=aa (aa y)->i≠12->j≠12->pv #[40] (.tup [(.v i),(.v j)]) (hide os1<|ρt b8 b9 ae) s8=.ok (.tup [x,y]) s8:=λ{i j x y} h1 h2 n1 n2=>by
   rw[pE3,Zb (Ze<|ZU h1<|hc i n1)<|Zb (Ze<|ZU h2<|hc j n2) Zg,Za,T9 (by show 2<=lim;decide)]
  rw[wE7,pE4,Zb (two rfl rfl #[1]<|by decide)<|Zb (two rfl rfl #[1]<|by decide)<|Zb (two (y:=y) rfl rfl #[1]<|by decide)<|Zb (two rfl rfl #[1]<|by decide) Zg];rfl
 have eacht:∀x∈[(x1,Zc W),(Zc P,y),(x1,y),(y,x1)],Th 1000 x.1/\Th 1000 x.2:=by
  intro x hx;simp only[ay,mz,or_false]at hx;rcases hx with rfl|rfl|rfl|rfl
  .exact#[u1,wK hW f4]
  .exact#[wK hP f4,uy]
  .exact#[u1,uy]
  .exact#[uy,u1]
 obtain⟨ρ2,os2,⟨c8,c9,c15,hr,o2⟩,e2⟩:=GF (t:=[8,9]) (λρ' os'=>∃a8 a9 a15,ρ'=ρt a8 a9 a15/\os'=os1) wt #[b8,b9,ae,rfl,rfl] (by
  rintro x hx ρ' os' ⟨a8,a9,a15,hr,o2⟩;subst hr;subst o2;obtain⟨t1,t2⟩:=eacht x hx;obtain⟨b15,e⟩:=Zdl (p:=p) d s8 f4 t1 t2 o1;exact#[by rcases o1 with rfl|rfl<;>rfl,ρt (aa x.1) (aa x.2) a15,_,_,rfl,.inl e,_,_,_,rfl,rfl])
 subst hr;rw[Zf e2,rvs];exact#[_,_,s8,rfl,rfl,rfl]
def law_ok(ns:List Int)(s:DS):∃S,Zl fns 2 63 38 [.scr ns] s=.ok (.bl aj) S:=
 Lv.law_of (d:=60) #[1] #[1] #[1] rfl rfl rfl #[1] (Zbl 53) ns s
end K63
namespace K63
open PySem PySem.Spec PyProof.Rows L2 Sd Gn
open Sd (zZ wQ qR ZaZ vi Zbb Zd9 Zbk ZaR wu vW Zbe qF vF Jb jf ZaS j8 Zad xx vw wI vo vx JH zT vq vd wv U6 Q4)
def Zg8(s:fg):bq:=match s with|.FunctionDef x _ _ _ _ _ _ _ _ _=>x|_=>""
def top(i:Nat):fg:=PySem.Challenge.pw_fewspaces_k63_parts_between.main.body.getD i<|.Pass #[0,0,0,0]
abbrev R(i m k:Nat):FR:=#[Zg8<|top i,top i,((Zh<|top i).names.map (·.1)).take m,k]
abbrev r0:=R 37 2 2
abbrev r1:=R 38 3 2
abbrev r2:=R 39 4 2
abbrev r3:=R 40 3 2
abbrev r4:=R 42 4 4
abbrev r5:=R 43 8 2
abbrev r6:=R 41 2 2
abbrev r7:=R 45 3 2
abbrev r8:=R 44 6 2
abbrev r9:=R 46 15 2
abbrev r10:=R 47 4 3
abbrev r11:=R 55 7 3
abbrev r12:=R 52 11 3
abbrev r13:=R 15 3 1
abbrev r14:=R 14 1 1
abbrev r15:=R 18 2 2
abbrev r16:=R 22 3 3
abbrev r17:=R 13 3 3
abbrev r18:=R 20 4 2
abbrev r19:=R 21 3 2
abbrev r20:=R 23 2 2
abbrev r21:=R 24 3 3
abbrev r22:=R 16 4 4
abbrev r23:=R 17 4 4
abbrev r24:=R 25 7 3
abbrev r25:=R 26 3 3
abbrev r26:=R 33 3 3
abbrev r27:=R 28 3 3
abbrev r28:=R 30 6 2
abbrev r29:=R 31 5 2
abbrev r30:=R 29 7 2
abbrev r31:=R 35 6 3
abbrev r32:=R 48 1 1
abbrev r33:=R 49 2 2
abbrev r34:=R 50 3 2
abbrev r35:=R 53 2 2
abbrev r36:=R 51 2 1
abbrev r37:=R 54 5 1
abbrev r38:FR:=#["law",top 56,["_law_script","_law_k","_law_state_here","_law_space_here","_law_one","_law_third","_law_at","_law_wide","_law_first","_law_second","_law_due_here","_law_turn","_law_found","_law_bent_here","_law_bad","_law_good"],1]
noncomputable abbrev rL:FR:=r38
abbrev fs:List FR:=[r0,r1,r2,r3,r4,r5,r6,r7,r8,r9,r10,r11,r12,r13,r14,r15,r16,r17,r18,r19,r20,r21,r22,r23,r24,r25,r26,r27,r28,r29,r30,r31,r32,r33,r34,r35,r36,r37]
abbrev zs:List bq:=["all","any","bool","dict","enumerate","int","isinstance","len","list","max","min","range","reversed","sorted","sum","tuple","zip","ValueError"]
abbrev gs:List (bq×Gv):=[]
noncomputable def pp(k:Nat):gj:=([#[231,7,231,17],#[231,21,231,25],#[231,7,231,25],#[232,15,232,19],#[232,8,232,19],#[231,4,232,19],#[233,4,233,14],#[233,17,233,114],#[233,4,233,114],#[234,4,234,14],#[234,17,234,27],#[234,30,234,129],#[234,17,234,129],#[234,4,234,129],#[235,4,235,14],#[235,17,235,27],#[235,30,235,126],#[235,17,235,126],#[235,4,235,126],#[236,4,236,14],#[236,4,236,54],#[237,7,237,45],#[237,7,237,101],#[0,0,0,0],#[238,15,238,30],#[238,8,238,30],#[237,4,238,30],#[240,22,240,32],#[240,39,240,43],#[240,4,240,45],#[236,4,236,21],#[236,4,236,54],#[240,22,240,38],#[240,22,240,44],#[239,4,239,14],#[239,17,239,106],#[239,4,239,106],#[240,11,240,21],#[240,11,240,45],#[0,0,0,0],#[233,18,233,28],#[233,29,233,39],#[233,41,233,46],#[233,18,233,47],#[233,49,233,59],#[233,60,233,70],#[233,72,233,78],#[233,49,233,79],#[233,81,233,91],#[233,92,233,102],#[233,104,233,112],#[233,81,233,113],#[234,31,234,41],#[234,42,234,52],#[234,54,234,61],#[234,31,234,62],#[234,64,234,74],#[234,75,234,85],#[234,87,234,96],#[234,64,234,97],#[234,99,234,109],#[234,110,234,120],#[234,122,234,127],#[234,99,234,128],#[235,31,235,41],#[235,42,235,52],#[235,54,235,60],#[235,31,235,61],#[235,63,235,73],#[235,74,235,84],#[235,86,235,91],#[235,63,235,92],#[235,94,235,104],#[235,105,235,115],#[235,117,235,124],#[235,94,235,125],#[236,22,236,32],#[236,33,236,43],#[236,45,236,52],#[236,22,236,53],#[237,11,237,21],#[237,22,237,32],#[237,34,237,44],#[237,11,237,45],#[0,0,0,0],#[0,0,0,0],#[0,0,0,0],#[0,0,0,0],#[0,0,0,0],#[0,0,0,0],#[226,4,226,14],#[226,17,226,21],#[226,4,226,21],#[228,8,228,17],#[228,8,228,19],#[228,8,228,19],#[229,11,229,21],#[230,8,230,18],#[230,21,230,22],#[230,8,230,22],#[229,4,230,22],#[227,4,230,22],#[239,18,239,23],#[239,25,239,31],#[239,33,239,41],#[239,43,239,50],#[239,52,239,64],#[239,66,239,74],#[239,76,239,82],#[239,84,239,89],#[239,91,239,97],#[239,99,239,105]]:List gj).getD k #[0,0,0,0]
noncomputable abbrev jE{X xw C e}(i:Ev.E):=Sd.CE X xw C e i
noncomputable abbrev jF{X xw C e}(i:Ev.E):=Sd.CF X xw C e i
noncomputable abbrev jT{X xw C e}(i:Ev.E):=Sd.CT X xw C e i
noncomputable abbrev jS{X xw a C b e}(i:Ev.Sm):=Sd.CS X xw a C b e i
def okl:OkX fs zs gs fns tk sn 0 fs (fns.take 38)/\ZgS aj fs zs gs fns tk 37 r37.st/\BdR aj fs zs gs fns tk sn 37 r37.st rL Zed:=by
 refine#[?a,?b,?c]
 case' a=>repeat'(first|exact dU|refine#[#[rfl,rfl,by decide +kernel,?_],?_]|exact qL|intro P w K mg base cl f fd d T L h hn cdv A outer s H E hr hu)
 case' b=>intro P w K mg base f fd d T hn cdv A outer s H hu;unfold Sd.ksum
 case' c=>intro P w K mg base cl f fd fL c Pt d T L h RA hn hC hB hP A outer s H E hp hr hr0 hu
 all_goals
 (repeat'(first
 |(with_reducible refine (?_:aB _ _=_));(first|exact wQ|exact zZ|exact wu|exact ZaR|exact qR|exact Zbb|exact vW|exact ZaZ|exact Zd9|exact Zbk|exact vi)
 |(with_reducible refine (?_:Cx.mg _ _=_));(exact Top.no #[4] #[5])
 |(with_reducible refine (?_:_=_));first|exact Ze3 _|kernel_rfl!
 |(with_reducible refine (?_:Gl _ _));show _=_;kernel_rfl!
 |refine (?_:Sd.CSs _ _ _ _ _ _ [.cel _ _ _ _]);refine Zf7 Sd.xD #[4] #[4] #[4] ?_ ?_ #[4] #[5] #[5] (show _=_ from by kernel_rfl!) #[5] #[29] rfl #[5] (by first|exact Or.inl #[5]|exact pD #[5]|exact pD (Or.inl #[5])|exact pD (pD #[5])) (by first|exact .inl rfl|exact .inr<|by kernel_rfl!) #[5] #[5] #[5]
 |refine (?_:Sd.CSs _ _ _ _ _ _ _);first|apply ZfY|apply ZcM
 |refine (?_:Sd.CA _ _ _ _ _);first|apply Zgq|apply ZcK
 |refine (?_:jF (.blt .list _));apply Zb5 zT
 |refine (?_:jF (.blt .sorted _));apply Zcx (U6 #[4])
 |refine (?_:jF (.callF _ _));refine ZeF Sd.xD #[4] #[4] #[4] ?_ #[5] #[5] (show _=_ from by kernel_rfl!) #[5] #[29] rfl
 |refine (?_:jF (.blt .rangeL _));apply vY
 |refine (?_:jF (.lst _));apply Zfv
 |refine (?_:jF (.comp1 _ _ _ _ _ _));refine jZ rfl (by first|assumption|exact T6<|by kernel_rfl!) (xJ<|by kernel_rfl!) ?_ (λ_ _ _ _=>#[?_,?_,?_]) (hs:=by intro _;kernel_rfl!)
 |refine (?_:Sd.CE _ _ _ (.BoolOp _ [_] _) _);apply ZeP
 |refine (?_:jE (.dix _ ak));apply ZcS
 |refine (?_:jE (.dix _ aj));apply ZdD
 |refine (?_:jE (.v _));apply ZhU
 |refine (?_:jE (.c _));first|apply Zgt|apply ZgX|apply ZeE|apply ZfC
 |refine (?_:jE (.call _ _));first|refine jX Sd.xD #[4] #[4] #[4] ?_ #[5] (show _=_ from by kernel_rfl!) #[5] #[29] rfl|refine ZfK #[4] #[4] #[4] ?_ #[5] (show _=_ from by kernel_rfl!) #[5] #[29] rfl|refine jX Sd.ZhN #[4] #[4] #[4] ?_ #[5] (show _=_ from by kernel_rfl!) #[5] #[29] rfl
 |refine (?_:jE (.refu _ _));refine ZgR (Pp:=pp) Sd.xD #[4] #[4] #[4] #[4] rfl #[5] #[5] #[5] #[4] #[4] #[4] #[4] rfl rfl rfl rfl #[5] #[5] (show _=_ from by kernel_rfl!) λ_ _ _ _ _ _ _ _ _ _ _=>?_
 |refine (?_:jE .dnew);apply Zdn
 |refine (?_:jE (.dput1 _ _));apply ZhI
 |refine (?_:Sd.CJ _ _ _ _ _ _);first|apply Zez|apply Zid|apply ZhY
 |refine (?_:jE (.ix _ _));apply Zht
 |refine (?_:jE (.blt .len _));apply Wg vw
 |refine (?_:jE (.blt .tuple _));apply Gx JH
 |refine (?_:jE (.blt .all _));apply Wg (vq rfl)
 |refine (?_:jE (.blt .any _));apply Wg (vd rfl)
 |refine (?_:jE (.blt .toInt _));apply Gx vx
 |refine (?_:jE (.blt .max2 _));apply Wg (wI rfl)
 |refine (?_:jE (.blt .min2 _));apply Wg (vo rfl)
 |refine (?_:jE (.blt .sum _));apply Wg (wv rfl)
 |refine (?_:jE (.blt .dictP _));apply Gx (Q4 rfl #[4])
 |refine (?_:jE (.bin _ _ _));first|apply ZeN|apply ZfR|apply ZfE|apply Zgx|apply Zdu|apply ZfX
 |refine (?_:jE (.tup _));apply ZfZ
 |refine (?_:jE (.neg _));apply ZeD
 |refine (?_:jE (.not _));apply Zfh
 |refine (?_:jE (.cmp .eq _ _));apply XJ (Zbe #[4])
 |refine (?_:jE (.cmp .ne _ _));apply XJ (qF #[4])
 |refine (?_:jE (.cmp .lt _ _));apply XJ (vF #[4])
 |refine (?_:jE (.cmp .le _ _));apply XJ (Jb #[4])
 |refine (?_:jE (.cmp .gt _ _));apply XJ (jf #[4])
 |refine (?_:jE (.cmp .ge _ _));apply XJ (ZaS #[4])
 |refine (?_:jE (.cmp .is _ _));apply XJ (j8 #[4])
 |refine (?_:jE (.cmp .inn _ _));apply XJ (Zad #[4])
 |refine (?_:jE (.cmp .nin _ _));apply XJ (xx #[4])
 |refine (?_:jE (.chain _ _ _ _ _));first|apply zb (Jb<|by assumption) (Jb #[4])|apply zb (Jb<|by assumption) (vF #[4])
 |refine (?_:jE (.ite _ _ _));apply Zgf
 |refine (?_:jE (.sl _ _ _));apply ZgP
 |refine (?_:jE (.rev _));apply ZfL
 |refine (?_:jE (.isi _ _));first|apply Qw (T:="int") (t:=.int)|apply Qw (T:="bool") (t:=.bool)|apply Qw (T:="tuple") (t:=.tuple)|apply Qw (T:="list") (t:=.list)|apply Qw (T:="dict") (t:=.dict)|apply ZdG (T:="tuple") (Y:="list") (t:=.tuple) (u:=.list)
 |(first|show jE (.callF _ _)|show jE (.blt .rangeL _)|show jE (.lst _)|show jE (.comp1 _ _ _ _ _ _)|show jE (.comp2 _ _ _ _ _ _ _ _ _)|show jE (.blt .list _)|show jE (.blt .sorted _)|show jE (.blt .listD _)|show jE (.blt .sortedD _)|show jE (.blt .sortedS _)|show jE (.blt .sortedT _)|show jE (.blt .sortedU _));refine CF.ce ?_
 |refine (?_:jE _);apply ZeM
 |refine (?_:Sd.CO _ _ _ _ _);first|apply ZdU|apply Zdk
 |refine (?_:jS (.raise _ []));apply Zg1 Sd.xD
 |refine (?_:jS (.raise _ _));apply Zfu Sd.xD
 |refine (?_:jS (.ret _));first|apply ZfM|apply ZcH
 |refine (?_:jS (.mov _ _));apply ZfF
 |refine (?_:jS (.retO _));apply ZcV
 |refine (?_:jS (.dset _ _));apply Zcp
 |refine (?_:jS (.par _ _));apply Zfe
 |refine (?_:jS (.asg _<|.comp1 _ _ _ _ _ _));refine jc rfl #[4] (xJ<|by kernel_rfl!) ?_ (λ_ _ _ _=>#[?_,?_,?_]) (hsw:=by kernel_rfl!) (hy:=by kernel_rfl!) (hx:=by first|exact Or.inl #[5]|exact pD #[5]|exact pD (Or.inl #[5])|exact pD (pD #[5])) (hf:=by first|exact .inl rfl|exact .inr<|by kernel_rfl!) (hs:=by intro _;kernel_rfl!)
 |refine (?_:jS (.asg _<|.comp2 _ _ _ _ _ _ _ _ _));refine uN rfl #[4] (xJ<|by kernel_rfl!) ?_ (λ_ _ _ _=>#[?_,?_,?_,?_,?_,?_]) (hsw:=by kernel_rfl!) (hy:=by kernel_rfl!) (hx:=by first|exact Or.inl #[5]|exact pD #[5]|exact pD (Or.inl #[5])|exact pD (pD #[5])) (hf:=by first|exact .inl rfl|exact .inr<|by kernel_rfl!) (hs:=by intro _;kernel_rfl!) (hs2:=by intro _ _;kernel_rfl!)
 |refine (?_:jS (.asg [_] _));first|refine ZdC ?_ ?_ (hf:=by kernel_rfl!) (hs:=by kernel_rfl!) (hw:=by kernel_rfl!) (h1:=by kernel_rfl!)|apply Zdr
 |refine (?_:jS (.asg _ _));apply ZeU
 |refine (?_:jS (.ex<|.mt .append _ _));apply qD
 |refine (?_:jS (.ex<|.mt .extend _ _));apply uO
 |refine (?_:jS (.ex _));apply Zc1
 |refine (?_:jS (.ite _ _ _));apply ZgH
 |refine (?_:jS (.forr _ _ _));apply ZeT PassesOwn.leaving
 |refine (?_:jS _);apply Ze1
 |refine (?_:jT (.not _));apply Zgl
 |refine (?_:jT (.cmp .eq _ _));apply XA (Zbe #[4])
 |refine (?_:jT (.cmp .ne _ _));apply XA (qF #[4])
 |refine (?_:jT (.cmp .lt _ _));apply XA (vF #[4])
 |refine (?_:jT (.cmp .le _ _));apply XA (Jb #[4])
 |refine (?_:jT (.cmp .gt _ _));apply XA (jf #[4])
 |refine (?_:jT (.cmp .ge _ _));apply XA (ZaS #[4])
 |refine (?_:jT (.cmp .is _ _));apply XA (j8 #[4])
 |refine (?_:jT (.cmp .inn _ _));apply XA (Zad #[4])
 |refine (?_:jT (.cmp .nin _ _));apply XA (xx #[4])
 |refine (?_:jT (.and _ _));refine CWh.ct<|ZaC ?_ ?_
 |refine (?_:jT (.or _ _));refine CWh.ct<|Zer ?_ ?_
 |refine (?_:jT _);apply ZeS
 |refine (?_:Sd.CWh _ _ _ _ _);first|apply ZaC|apply Zcm|apply Zer|apply Zgd
 |refine (?_:Sd.CTs _ _ _ _ _);first|apply Zb0|apply ZbW
 |refine (?_:Sd.CW _ _ _ _ _ _);first|apply Zb9|apply Zde|apply Zdz|apply Ze9|apply Zdp|apply ZgJ
 |refine (?_:Sd.CG _ _ _);first|apply Zdi|apply Zgp
 |refine (?_:Sd.CGs _ _ _);first|apply ZcY|apply ZaQ
 |(first|exact Or.inl #[5]|exact pD #[5]|exact pD (Or.inl #[5])|exact pD (pD #[5]))
 |assumption
 |exact T6 #[5]
 |decide
 |(intro _;kernel_rfl!)
 |(intro _ _;kernel_rfl!)
 |(intro m h;cases h)))
end K63
namespace PySem.W.Fast
def tw13775679780871995548:=0
def tw434871313710829092:=0
def tw1062592942543059215:=0
def tw18257969055953689609:=0
def tw3853702092245834313:=0
def tw4641280058499184776:=0
def tw15376238538278964659:=0
def tw5937003720386802382:=0
def tw5168323318228932948:=0
def tw14673299800463709257:=0
def tw15961343804695894151:=0
def tw2254216209174573822:=0
def tw5461754707181125207:=0
def tw14835837470567083470:=0
def tw13524132174134635222:=0
def tw4602791513253537093:=0
def tw9919902025506973152:=0
def tw15171400793022427354:=0
def tw17906026160573229408:=0
def tw10332070633951022521:=0
def tw10408759032497954102:=0
def tw16200005268580371890:=0
def tw6505610082331452554:=0
def tw130989186947109263:=0
def tw10524684411171271977:=0
def tw7773023463158145397:=0
def tw8721712229063286571:=0
def tw2843223638307143154:=0
def tw10571078476386138696:=0
def tw11803894060650759489:=0
def tw12547476093130923912:=0
def tw11748676777650082955:=0
def tw533799782635131132:=0
def tw6973176910198361876:=0
def tw378528702982814683:=0
def tw3249297578872670268:=0
def tw11076742845411517753:=0
def tw5638399732354443225:=0
def tw16920032390022161836:=0
def tw6555821239993102027:=0
def tw6070396185794584737:=0
def tw9392689579778837590:=0
def tw14674105894830451486:=0
def tw9775636635104478972:=0
def tw7603067680222938885:=0
def tw3598122861488197081:=0
def tw8980962834520794975:=0
def tw4609972065759603209:=0
def tw1961476461373134495:=0
def tw15451462847191236455:=0
def tw17625370874819021029:=0
def tw1759037266565257968:=0
def tw12196526722357446508:=0
def tw7226477896572757338:=0
def tw10409133194092118735:=0
def tw15374805771453864403:=0
def tw4107189504103901627:=0
def tw6557407004758939276:=0
def tw14283348125952015514:=0
def tw5341835616040115733:=0
def tw11962983572895469110:=0
def tw4822707791464322267:=0
def tw12172943761818730639:=0
def tw6564537702620693539:=0
def tw10375331673391138262:=0
def tw11594351626212959761:=0
def tw16908761474843090419:=0
def tw11216621648362368350:=0
def tw16173420960775417361:=0
def tw2073384715585789828:=0
def tw14055613813608686003:=0
def tw11023989461104973477:=0
def tw8148484123576797744:=0
def tw8848580544294471995:=0
def tw14563736960631703091:=0
def tw10312898598053405861:=0
def tw10847642907679786652:=0
def tw9651248961023668025:=0
def tw4558761849434662403:=0
def tw7672279018444301025:=0
def tw11391159338687853157:=0
def tw2934334109629829525:=0
def tw6204234434366569843:=0
def tw9014394043622677503:=0
def tw150188142920942207:=0
def tw9953995100813417838:=0
def tw8512187828594034336:=0
def tw10741750054039745432:=0
def tw2065953482022282363:=0
def tw9044432980427608831:=0
def tw7568456427933707774:=0
def tw2679050736158754142:=0
def tw12487472356714702718:=0
def tw9366535977021568256:=0
def tw8771872649224775616:=0
def tw1431548927165064393:=0
def tw14634457371494839559:=0
def tw12182007810698024944:=0
def tw4752763829743593330:=0
def tw14979432747004688902:=0
def tw618894767836118424:=0
def tw15158084337139608034:=0
def tw12567466586512592228:=0
def tw6129220750852295424:=0
def tw11134139392339626047:=0
def tw2093471423373554939:=0
def tw3063187666681691941:=0
def tw1861740933663624601:=0
def tw14366834212941885348:=0
def tw16673745720308523480:=0
def tw6306785267790222580:=0
def tw9378859062069257635:=0
def tw12516534919632803085:=0
def tw2272802698997241080:=0
def tw9612888927739821149:=0
def tw7756750820662972961:=0
def tw7575362930702434384:=0
def tw4238003769569669295:=0
def tw34404707966135738:=0
def tw4915354380430397323:=0
def tw15024092336305680160:=0
def tw17709342480805261681:=0
def tw17691391817974098356:=0
def tw6516935795231756940:=0
def tw10156541909033874771:=0
def tw7705685034566375451:=0
def tw17597270812102386834:=0
def tw918257121524248337:=0
def tw1623774556533043470:=0
def tw1387353765489168051:=0
def tw12537227360967102529:=0
def tw4200236242435416447:=0
def tw6395939413472877368:=0
def tw2049197129810356382:=0
def tw9729337827466873972:=0
def tw15292262386758443000:=0
def tw8941001019295073215:=0
def tw15603535597413830662:=0
def tw8352287134165251481:=0
def tw11873893435589176847:=0
def tw7793264346635298225:=0
def tw5057017469738142867:=0
def tw13109727172250793087:=0
def tw12334841722745537818:=0
def tw14613117397982067999:=0
def tw13202842301506226061:=0
def tw1150756138147948797:=0
def tw10440093782988711577:=0
def tw10366071819370122857:=0
def tw6501716932030335828:=0
def tw12324228557398842564:=0
def tw12040068650011251801:=0
def tw7712488370136888527:=0
def tw5001433293982983471:=0
def tw1396264455960830921:=0
def tw17328955466758054200:=0
def tw13425516653586063369:=0
def tw6153254153532807650:=0
def tw8278351827371455253:=0
def tw3110977826348808805:=0
def tw18052718577576501568:=0
def tw11123177687540503063:=0
def tw16648300506501048008:=0
def tw9008843940206237479:=0
def tw14779020541035050523:=0
def tw6852264724843017012:=0
def tw9654036474569086783:=0
def tw10126361635669061088:=0
def tw1250573836274609110:=0
def tw17395200224646085627:=0
def tw3401943711051450330:=0
def tw1376415010275587668:=0
def tw2624681794629327460:=0
def tw17432896728104485840:=0
def tw4708201150265381752:=0
def tw2986337859868385218:=0
def tw7655741609789235471:=0
def tw17097685163538677644:=0
def tw1974813435129742920:=0
def tw6904803640035822947:=0
def tw6277527083806601401:=0
def tw11136699305670783121:=0
def tw156591064558531879:=0
def tw828568113085396784:=0
def tw15111181644494698651:=0
def tw1466588337457463819:=0
def tw9220676351459873464:=0
def tw12786676533348236253:=0
def tw11485557795494253220:=0
def tw12210851527944467545:=0
end PySem.W.Fast
open PySem PySem.W PyProof.Rows Gn
set_option maxRecDepth 100000 in
set_option maxHeartbeats 0 in
theorem PySem.Challenge.cw_fewspaces_k63_parts_between_holds : PySem.Challenge.rw_fewspaces_k63_parts_between.Holds := by
  w_on; o_law; k_head; (case hw => w_witness2)
  k_fill
  refine Gn.Zat (l := PySem.Challenge.rw_fewspaces_k63_parts_between) (F := K63.fns) (tk := K63.tk) (L := 38) (c := 375) (Pt := 371) (cl := fun _ => [24, 37, 49, 61, 73, 85, 97, 109, 121, 133, 145]) (fun ns s => K63.law_ok ns s) rfl rfl (fun w h Y => PySem.W.km_in_of Y) rfl (fun w => by kernel_rfl!) (fun w => by kernel_rfl!) ?F
  case F =>
    intro w mg fa h KX G hmg;refine' Gn.Zdh (fs := K63.fs) (zs := K63.zs) (gs := K63.gs) (sn := K63.sn) KX G hmg K63.okl.1 (fun i fn e => by rw [cM] at e; split at e; exact e; cases e) rfl #[1] ?A ?Z ?Y ?E ?L rfl rfl rfl (by decide +kernel) (Gn.Zgi (Pp := K63.pp) K63.okl.2.1 K63.okl.2.2 #[5] #[5] #[5] #[5] #[5]) ?R
    case A => repeat' (first|exact FnsAt.nil|refine' FnsAt.cons ?h1 ?h2 ?h3 ?h4 ?h5 ?_; (case h1 => k_is); (case h2 => k_is); (case h3 => k_is); (case h4 => k_is); (case h5 => first|exact bd1 fun _ _ _ _ _ _ _ => rfl|exact bd2 fun _ _ _ _ _ _ _ _ => rfl|exact bd3 fun _ _ _ _ _ _ _ _ _ => rfl|exact bd4 fun _ _ _ _ _ _ _ _ _ _ => rfl|exact bd5 fun _ _ _ _ _ _ _ _ _ _ _ => rfl|exact bd6 fun _ _ _ _ _ _ _ _ _ _ _ _ => rfl))
    case L => repeat' (first|exact FnsAt.nil|refine' FnsAt.cons ?h1 ?h2 ?h3 ?h4 ?h5 ?_; (case h1 => k_is); (case h2 => k_is); (case h3 => k_is); (case h4 => k_is); (case h5 => first|exact bd1 fun _ _ _ _ _ _ _ => rfl|exact bd2 fun _ _ _ _ _ _ _ _ => rfl|exact bd3 fun _ _ _ _ _ _ _ _ _ => rfl|exact bd4 fun _ _ _ _ _ _ _ _ _ _ => rfl|exact bd5 fun _ _ _ _ _ _ _ _ _ _ _ => rfl|exact bd6 fun _ _ _ _ _ _ _ _ _ _ _ _ => rfl))
    case Z => repeat' (first|exact ZsAt.nil|refine' ZsAt.cons ?h1 ?_; (case h1 => k_is))
    case Y => repeat' (first|exact GsAt.nil|refine' GsAt.cons ?h1 ?_; (case h1 => k_is))
    case E => kernel_rfl!
    case R => rfl
